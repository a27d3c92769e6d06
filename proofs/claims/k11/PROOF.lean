import PyProof.Rows.All
import Wide.All
import OpenK.AllK
import Wide.FinOn
import HandS.ForMost
import HandS.EndTab
import HandS.IsInst
import HandS.Lambda
import HandS.TryMany
import HandS.ExcInit
import HandS.ExcField
import HandS.NoneIn
import HandS.WideBits
import HandS.Walk
import HandS.Flow
import HandS.Conv
import HandS.Evl
import HandS.ForExc
import PySem.Challenge.RW_takeandsplit_k11_whole_ways_and_back
import KE.KeyNested
import HandS.Dict
import HandS.Small
import HandS.FStr
import KE.GoesMore
import KE.GoesEnum
import HandS.Iter
import KE.SortKeyHeap
import HandS.SortKw
import HandS.ExcValue
import HandS.More
import PyProof.InstEq
import KE.KExcIs
import HandS.DictComp
import HandS.Zip
import HandS.ListItems
import HandS.SortInts
import HandS.Style
import KE.SortData
import HandS.Deep
import KE.KTupSum
import HandS.Text
import HandS.RaiseMore
import HandS.Defaults
set_option Elab.async false
set_option linter.all false
set_option maxRecDepth 100000
set_option maxHeartbeats 2000000
namespace Ts
open PySem PySem.Spec PyProof.Rows L2
section
variable {X : Cx}
/-- repr of data at an address -/
def rShow (K : PySem.W.Frag) : List V → Hp → VK → Prop := fun xs H Q =>
  ∃ (a : Addr) (d : PyData), xs = [.ref a] ∧ Dp K H (.ref a) d ∧ d.showable = true ∧ d.hasDict = false ∧ d.depth ≤ 60 ∧ d.shown.length ≤ sizeLine ∧ Q (.str d.shown) H
theorem call_show (hg : X.A.guards = some []) (hu : X.A.units + 64 < cLine) : CallR X (.builtin "repr") (rShow X.K) := by
  intro pins s σ H xs us Q I r h
  obtain ⟨a, d, rfl, hd, hs, hn, hdp, hz, q⟩ := h
  obtain ⟨u, rfl, e⟩ := vals1 r
  cases e
  obtain ⟨as, rd⟩ := Dp.reads I d _ _ hd rfl
  exact repr_of_reads' rd hs (fun z => by rw [hn] at z; cases z) hg (by omega) (fun b o e => e) (fun h' u tk hk => ⟨.str _, H, I.kept hk, ⟨_, rfl⟩, q⟩) hz

/-! a def's promise where no repr is under way -/
structure GOk (P : Program) (w : World) (K : PySem.W.Frag) (mg : Str → Option Value) (base : Heap) (CX : CXT) (k : Nat) (f : Addr) (fd : FuncData) (ps : List Str) (sp : Sp) : Prop where
  ln : ∀ vs H Q E, sp vs H Q E → vs.length = ps.length
  go : ∀ (A : Around) (outer : List Env) (s : Shared) (H : Hp) (args : Args) (us : List Value) (vs : List V) (Q : VK) (E : XK),
    A.guards = some [] → Room k A → Env0 P w K mg base A outer s H → BindsTo s fd args (ps.zip us) → Vals vs us → sp vs H Q E →
      codeAny (model P w) A (.call (.ref f) args) (CR CX outer P w H s Q E) s
end
end Ts


set_option Elab.async false
set_option linter.all false
set_option maxRecDepth 100000
set_option maxHeartbeats 2000000
namespace Ts
open PySem PySem.Spec PyProof.Rows L2
open Evl (Ex)

/-! ## data, with dicts -/
def keyD : Key → PyData
  | .inl n => .int n
  | .inr x => .str x
mutual
inductive D (H : Hp) : V → PyData → Prop
  | non : D H .non .none
  | bl (b : Bool) : D H (.bl b) (.bool b)
  | int (i : Int) : D H (.int i) (.int i)
  | str (x : Str) : D H (.str x) (.str x)
  | lst {a : Addr} {xs : List V} {ds : List PyData} : H a = some (.lst xs) → DAll H xs ds → D H (.ref a) (.list ds)
  | tup {a : Addr} {xs : List V} {ds : List PyData} : H a = some (.tup xs) → DAll H xs ds → D H (.ref a) (.tuple ds)
  | dic {a : Addr} {kvs : List (Key × V)} {ds : List (PyData × PyData)} : H a = some (.dK kvs) → DKv H kvs ds → D H (.ref a) (.dict ds)
inductive DAll (H : Hp) : List V → List PyData → Prop
  | nil : DAll H [] []
  | cons {v : V} {vs : List V} {d : PyData} {ds : List PyData} : D H v d → DAll H vs ds → DAll H (v :: vs) (d :: ds)
inductive DKv (H : Hp) : List (Key × V) → List (PyData × PyData) → Prop
  | nil : DKv H [] []
  | cons {k : Key} {v : V} {vs : List (Key × V)} {d : PyData} {ds : List (PyData × PyData)} : D H v d → DKv H vs ds → DKv H ((k, v) :: vs) ((keyD k, d) :: ds)
end
mutual
theorem D.ex {H H' : Hp} (e : Ex H H') : ∀ {v : V} {d : PyData}, D H v d → D H' v d
  | _, _, .non => .non
  | _, _, .bl b => .bl b
  | _, _, .int i => .int i
  | _, _, .str x => .str x
  | _, _, .lst h r => .lst (e _ _ h) (DAll.ex e r)
  | _, _, .tup h r => .tup (e _ _ h) (DAll.ex e r)
  | _, _, .dic h r => .dic (e _ _ h) (DKv.ex e r)
theorem DAll.ex {H H' : Hp} (e : Ex H H') : ∀ {v : List V} {d : List PyData}, DAll H v d → DAll H' v d
  | _, _, .nil => .nil
  | _, _, .cons h r => .cons (D.ex e h) (DAll.ex e r)
theorem DKv.ex {H H' : Hp} (e : Ex H H') : ∀ {v : List (Key × V)} {d : List (PyData × PyData)}, DKv H v d → DKv H' v d
  | _, _, .nil => .nil
  | _, _, .cons h r => .cons (D.ex e h) (DKv.ex e r)
end
theorem DAll.len {H : Hp} : ∀ {v : List V} {d : List PyData}, DAll H v d → v.length = d.length
  | _, _, .nil => rfl
  | _, _, .cons _ r => by rw [List.length_cons, List.length_cons, DAll.len r]
def tyD : PyData → String
  | .none => "NoneType" | .bool _ => "bool" | .int _ => "int" | .str _ => "str" | .list _ => "list" | .tuple _ => "tuple" | .dict _ => "dict"
theorem D.ty {K : PySem.W.Frag} {H : Hp} {v : V} {d : PyData} (h : D H v d) : TyX K H v (.type (tyD d)) := by
  cases h with
  | non => exact .base .non
  | bl b => exact .base (.bl b)
  | int i => exact .base (.int i)
  | str x => exact .base (.str x)
  | lst h _ => exact .base (.lst h)
  | tup h _ => exact .base (.tup h)
  | dic h _ => exact .base (.dK h)

/-! ## the text -/
def top (i : Nat) : Stmt := PySem.Challenge.pw_takeandsplit_k11_whole_ways_and_back.main.body.getD i (.Pass ⟨0, 0, 0, 0⟩)
/-- a def of the text that stands behind the top -/
structure FD (K : PySem.W.Frag) (mg : Str → Option Value) (x : Str) (q : Str) (st : Stmt) (f : Addr) (fd : FuncData) : Prop where
  F : Fun K x q st f fd
  g : mg x = some (.ref f)
structure Bl (mg : Str → Option Value) : Prop where
  list : mg "list" = none
  tuple : mg "tuple" = none
  int : mg "int" = none
  bool : mg "bool" = none
  dict : mg "dict" = none
  isinstance : mg "isinstance" = none
  len : mg "len" = none
  all : mg "all" = none
  range : mg "range" = none
  divmod : mg "divmod" = none
  zip : mg "zip" = none
  repr : mg "repr" = none

/-- a question about any data -/
def spAsk (p : PyData → Bool) : Sp := fun vs H Q _ => ∃ v d, vs = [v] ∧ D H v d ∧ ∀ H', Ex H H' → Q (.bl (p d)) H'
def isRow : PyData → Bool
  | .list _ => true | .tuple _ => true | _ => false
def isInt : PyData → Bool
  | .int _ => true | _ => false
def isNum : PyData → Bool
  | .int i => decide (0 ≤ i) | _ => false
def isHp : PyData → Bool
  | .int i => decide (1 ≤ i) && decide (i ≤ 1000000000000000000) | _ => false
def items : PyData → List PyData
  | .list l => l | .tuple l => l | _ => []
def isNums (d : PyData) : Bool := isRow d && (items d).all isNum

section
variable {P : Program} {w : World} {K : PySem.W.Frag} {mg : Str → Option Value} {base : Heap}
abbrev s_is_row := top 10
abbrev s_is_integer := top 11
abbrev s_is_number := top 12
theorem kit_row (d : PyData) : PySem.W.kitAny K (.type (tyD d)) [.type "list", .type "tuple"] = some (isRow d) := by
  cases d <;> first | rfl | decide +kernel
theorem kit_int (d : PyData) : PySem.W.kitOne K (.type (tyD d)) (.type "int") = some (match d with | .int _ => true | .bool _ => true | _ => false) := by
  cases d <;> first | rfl | decide +kernel
theorem kit_bool (d : PyData) : PySem.W.kitOne K (.type (tyD d)) (.type "bool") = some (match d with | .bool _ => true | _ => false) := by
  cases d <;> first | rfl | decide +kernel

theorem sc_is_row : FnScope ["thing"] ["thing"] (defScope s_is_row) := ⟨rfl, rfl, rfl, by decide +kernel, rfl, by decide +kernel, by decide +kernel⟩
theorem ok_is_row {f : Addr} {fd : FuncData} (F : FD K mg "is_row" "is_row" s_is_row f fd) (T : Bl mg) : FnOk P w K mg base CX0 1 f fd ["thing"] (spAsk isRow) := by
  refine F.F.ok sc_is_row (fun vs H Q E h => ?_) (fun cdv A outer s H vs Q E hr h => ?_)
  · obtain ⟨v, d, rfl, _⟩ := h
    rfl
  · obtain ⟨v, d, rfl, hd, k⟩ := h
    refine ⟨_, pss_one (ps_ret (pe_callB call_isiT (by rfl) T.isinstance (by decide +kernel) (pa_cons (pv 0) (pa_cons (pe_tup (pa_cons (pe_bltn (v := .ty "list") (by rfl) T.list PyProof.Rows.boot_list rfl) (pa_cons (pe_bltn (v := .ty "tuple") (by rfl) T.tuple PyProof.Rows.boot_tuple rfl) pa_nil))) pa_nil)))), ?_⟩
    refine ⟨_, rfl, by decide, fun p np => ?_⟩
    exact ⟨_, p, _, _, _, _, rfl, upd_same, .cons (.ty "list") (.cons (.ty "tuple") .nil), (hd.ex (Ex.new np)).ty, kit_row d, k _ (Ex.new np)⟩

theorem sc_is_integer : FnScope ["thing"] ["thing"] (defScope s_is_integer) := ⟨rfl, rfl, rfl, by decide +kernel, rfl, by decide +kernel, by decide +kernel⟩
theorem ok_is_integer {f : Addr} {fd : FuncData} (F : FD K mg "is_integer" "is_integer" s_is_integer f fd) (T : Bl mg) : FnOk P w K mg base CX0 1 f fd ["thing"] (spAsk isInt) := by
  refine F.F.ok sc_is_integer (fun vs H Q E h => ?_) (fun cdv A outer s H vs Q E hr h => ?_)
  · obtain ⟨v, d, rfl, _⟩ := h
    rfl
  · obtain ⟨v, d, rfl, hd, k⟩ := h
    refine ⟨_, pss_one (ps_ret (pe_and (pe_callB call_isi (by rfl) T.isinstance (by decide +kernel) (pa_cons (pv 0) (pa_cons (pe_bltn (v := .ty "int") (by rfl) T.int PyProof.Rows.boot_int rfl) pa_nil))) (pe_one (pe_not (pe_callB call_isi (by rfl) T.isinstance (by decide +kernel) (pa_cons (pv 0) (pa_cons (pe_bltn (v := .ty "bool") (by rfl) T.bool (by decide +kernel) rfl) pa_nil))))))), ?_⟩
    refine ⟨_, rfl, _, _, _, _, _, rfl, .ty "int", hd.ty, kit_int d, _, rfl, ?_⟩
    have k0 := k H (Ex.refl H)
    cases d <;> first
      | exact k0
      | exact ⟨_, rfl, _, _, _, _, _, rfl, .ty "bool", hd.ty, kit_bool _, _, rfl, k0⟩
end
end Ts


set_option Elab.async false
set_option linter.all false
set_option maxRecDepth 100000
set_option maxHeartbeats 2000000
namespace Ts
open PySem PySem.Spec PyProof.Rows L2
open Evl (Ex)
/-! ## errors with one field -/
/-- self.f = e, where a name says what f is -/
def iniSt (f : Str) (q : List Pos) (sc : Scope) : Stmt :=
  let p := fun i => q.getD i ⟨0, 0, 0, 0⟩
  .FunctionDef "__init__" { posonlyargs := [], args := [{ arg := "self", annotation := none, pos := p 0 }, { arg := f, annotation := none, pos := p 1 }], vararg := none, kwonlyargs := [], kw_defaults := [], kwarg := none, defaults := [] }
    [.Assign [.Attribute (.Name "self" (p 2)) f (p 3)] (.Name f (p 4)) (p 5)] [] none [] sc none "__init__" (p 6)
/-- the class x at C with one field f that its __init__ at g stores -/
structure XC (K : PySem.W.Frag) (mg : Str → Option Value) (x f : Str) (C g : Addr) : Prop where
  o : OexC K C
  gC : mg x = some (.ref C)
  iC : PySem.W.findIn K (.ref C) "__init__" = some (some (.ref g))
  tI : PySem.W.typeIn K (.ref g) = some (.type "function")
  nF : PySem.W.findIn K (.ref C) f = some none
  xf : XfC K C
def spIni (C : Addr) (f : Str) : Sp := fun vs H Q _ => ∃ (a : Addr) (y : V), vs = [.ref a, y] ∧ H a = some (exo a C none) ∧
  ∀ dx, H dx = none → dx ≠ a → Q .non (upd (upd H dx (exd dx [(f, y)])) a (exo a C (some dx)))
/-- what a raised error of one field leaves -/
def Raised (H : Hp) (f : Str) (y : V) (C : Addr) (E : XK) : Prop := ∀ d H', Ex H H' → H d = none → H' d = some (.xd [(f, y)]) → E (.ref C) (some d) H'
section
variable {P : Program} {w : World} {K : PySem.W.Frag} {mg : Str → Option Value} {base : Heap}
abbrev i_thing (i : Nat) : Stmt := inClass (top i) 0
def IniOf (i : Nat) (f : Str) : Prop := (i = 3 ∧ f = "thing") ∨ (i = 4 ∧ f = "thing") ∨ (i = 5 ∧ f = "thing") ∨ (i = 6 ∧ f = "thing") ∨ (i = 7 ∧ f = "index")
theorem sc_ini (i : Nat) (f : Str) (h : IniOf i f) : FnScope ["self", f] ["self", f] (defScope (i_thing i)) := by
  rcases h with ⟨rfl, rfl⟩ | ⟨rfl, rfl⟩ | ⟨rfl, rfl⟩ | ⟨rfl, rfl⟩ | ⟨rfl, rfl⟩ <;> exact ⟨rfl, rfl, rfl, by decide +kernel, rfl, by decide +kernel, by decide +kernel⟩
theorem ok_ini (i : Nat) (f : Str) (h : IniOf i f) {q : Str} {x : Str} {C g : Addr} {fd : FuncData} (F : Fun K "__init__" q (i_thing i) g fd) (T : XC K mg x f C g) : FnOk P w K mg base CX0 1 g fd ["self", f] (spIni C f) := by
  refine F.ok (sc_ini i f h) (fun vs H Q E h => ?_) (fun cdv A outer s H vs Q E hr hh => ?_)
  · obtain ⟨a, y, rfl, _⟩ := h
    rfl
  · obtain ⟨a, y, rfl, ha, k⟩ := hh
    rcases h with ⟨rfl, rfl⟩ | ⟨rfl, rfl⟩ | ⟨rfl, rfl⟩ | ⟨rfl, rfl⟩ | ⟨rfl, rfl⟩ <;>
      exact ⟨_, pss_one (ps_ost (pv 0) (pv 1)), _, rfl, _, rfl, a, C, rfl, T.o, T.nF, .inl ⟨ha, fun dx n1 n2 => k dx n1 n2⟩⟩
/-- raise x(e): the reading behind e -/
theorem raise1 {f : Str} {y : V} {C : Addr} {H1 : Hp} {Q : XK} (h : Raised H1 f y C Q) : [y].length ≤ 1000 ∧ ∀ a, H1 a = none → spIni C f (.ref a :: ([y] ++ [])) (upd H1 a (exo a C none))
    (fun v H2 => v = .non ∧ ∃ (d : Addr) (fs : List (Str × V)), H2 a = some (exo a C (some d)) ∧ H2 d = some (exd d fs) ∧ H1 d = none ∧ Q (.ref C) (some d) (upd (del H2 a) d (.xd fs))) (fun _ _ _ => False) := by
  refine ⟨by show 1 ≤ 1000; decide, fun a na => ⟨a, y, rfl, upd_same, fun dx nd ne => ⟨rfl, dx, _, upd_same, (upd_ne ne).trans upd_same, ?_, ?_⟩⟩⟩
  · rw [upd_ne ne] at nd
    exact nd
  · rw [upd_ne ne] at nd
    refine h dx _ (fun b o e => ?_) nd upd_same
    have n1 : b ≠ dx := ne_of_none e nd
    have n2 : b ≠ a := ne_of_none e na
    rw [upd_ne n1, del_ne n2, upd_ne n2, upd_ne n1, upd_ne n2]
    exact e
theorem ps_raise1 {X : Cx} {W : WX} {x f : Str} {C g : Addr} {fd : FuncData} {k : Nat} {e : Expr} {te : TE} {p pos pos2 : Pos} (hc : X.calm = true) (tk : Takes X W) (T : XC X.K X.mg x f C g) (F1 : FnOk X.prog X.w X.K X.mg X.base CX0 k g fd ["self", f] (spIni C f))
    (hb : Binds X.K fd ["self", f] []) (hr : Room (k + 1) X.A) (hg : Gl X x) (he : PE X e te)
    (hdb : (x == ("__debug__" : Str)) = false := by decide) (hs : starEach [e] X.env = (false, eval e X.env) :: starEach [] X.env := by rfl) :
    PS X (.Raise (some (.Call (.Name x p) [e] [] pos)) none pos2) (fun _ σ H => tMkO C (spIni C f) [] (tCons te tNil) σ H fun cls d H' => W cls d σ H') :=
  ps_raise (pos := pos2) hc tk (pmk_oex (p := p) (pos := pos) T.o T.iC T.tI F1 hr hb .nil pass0 hg T.gC (pa_cons he pa_nil hs) hdb hs (by rfl))
end
end Ts


set_option Elab.async false
set_option linter.all false
set_option maxRecDepth 100000
set_option maxHeartbeats 2000000
namespace Ts
open PySem PySem.Spec L2
open Evl (Ex)
/-! ## rows: a list or a tuple -/
def Row (H : Hp) (a : Addr) (xs : List V) : Prop := H a = some (.lst xs) ∨ H a = some (.tup xs)
theorem Row.ex {H H' : Hp} (e : Ex H H') {a : Addr} {xs : List V} (h : Row H a xs) : Row H' a xs := h.imp (e _ _) (e _ _)
theorem Row.ty {K : PySem.W.Frag} {H : Hp} {a : Addr} {xs : List V} (h : Row H a xs) : ∃ s, TyX K H (.ref a) (.type s) ∧ (s = "list" ∨ s = "tuple") := by
  rcases h with h | h
  · exact ⟨_, .base (.lst h), .inl rfl⟩
  · exact ⟨_, .base (.tup h), .inr rfl⟩
theorem Row.sq {K : PySem.W.Frag} {H : Hp} {a : Addr} {xs : List V} (h : Row H a xs) : SqL K H a xs ∨ SqT K H a xs := h.imp SqL.of SqT.of
section
variable {X : Cx}
def gOr (t u : TG) : TG := fun v σ H Q => t v σ H Q ∨ u v σ H Q
theorem pg_or {tg : Expr} {t u : TG} (h1 : PG X tg t) (h2 : PG X tg u) : PG X tg (gOr t u) :=
  ⟨fun pins s σ H v w Q I r h => h.elim (fun h => h1.run pins s σ H v w Q I r h) fun h => h2.run pins s σ H v w Q I r h⟩
def iOr (t u : TI) : TI := fun σ H R => t σ H R ∨ u σ H R
theorem pi_or {tg it : Expr} {t u : TI} (h1 : PI X tg it t) (h2 : PI X tg it u) : PI X tg it (iOr t u) :=
  ⟨fun pins s σ H R I h => h.elim (fun h => h1.run pins s σ H R I h) fun h => h2.run pins s σ H R I h⟩
theorem passF {P : Program} {w : World} (hp : X.prog = P) (hw : X.w = w) : Passes (L2.CX P w) X (fun _ _ _ => False) := fun pins σ H s e s' I h => by
  obtain ⟨_, _, _, _, _, _, _, _, _, _, _, _, z⟩ := h
  exact z.elim
end
/-! ## a comprehension that only makes things -/
theorem lc_pure {J : It} {n : Nat} {G : Hp → Prop} {Y : Nat → Hp → V → Hp → Prop} (w : Walk J n G Y) {g : TG} {te : TE} {vs : List Nat} {σ : St} {H1 : Hp} {out : Nat → V} {Q : VK} (hz : n ≤ sizeLine)
    (hG : ∀ H, Ex H1 H → G H)
    (hs : ∀ i x H H', i < n → Ex H1 H → Y i H x H' → Ex H H' ∧ g x (wipe σ vs) H' fun σ2 H2 => wipe σ2 vs = wipe σ vs ∧ Ex H' H2 ∧ ∀ q : VK, (∀ H4, Ex H2 H4 → q (out i) H4) → te σ2 H2 q)
    (hgm : ∀ (x : V) (H : Hp) (q q' : St → Hp → Prop), (∀ σ2 H2, q σ2 H2 → q' σ2 H2) → g x (wipe σ vs) H q → g x (wipe σ vs) H q')
    (hq : ∀ D Hf, H1 D = none → Ex H1 Hf → Hf D = some (.lst ((List.range n).map out)) → Q (.ref D) Hf) :
    ∀ D, H1 D = none → ∃ W : Nat → Nat → Hp → Prop, (∃ m, W 0 m (upd H1 D (.lst []))) ∧ ∀ i m H, W i m H →
      (J.stop i H ∧ Q (.ref D) H) ∨ (J.go i H ∧ ∃ Nx : Hp → Prop, (∀ H', Nx H' → ∃ m', m' < m ∧ W (i + 1) m' H') ∧ ∀ x H', J.yld i H x H' → g x (wipe σ vs) H' fun σ2 H2 => wipe σ2 vs = wipe σ vs ∧ tYes σ2 H2 fun b H3 =>
        if b = true then te σ2 H3 fun y H4 => ∃ acc, H4 D = some (.lst acc) ∧ acc.length < sizeLine ∧ Nx (upd H4 D (.lst (acc ++ [y]))) else Nx H3) := by
  intro D hD
  refine lc_it w (Pv := fun i H => Ex H1 H ∧ H D = some (.lst ((List.range i).map out))) ⟨Ex.new hD, upd_same⟩ (fun i H _ p => hG H p.1) ?_ (fun H p => hq D H hD p.1 p.2)
  intro i x H H' hi ⟨e, hd⟩ y
  obtain ⟨e2, h⟩ := hs i x H H' hi e y
  refine hgm x H' _ _ (fun σ2 H2 ⟨h1, e3, h3⟩ => ⟨h1, ?_⟩) h
  unfold tYes
  dsimp only
  rw [if_pos rfl]
  refine h3 _ fun H4 e4 => ?_
  have hd4 : H4 D = some (.lst ((List.range i).map out)) := e4 _ _ (e3 _ _ (e2 _ _ hd))
  refine ⟨_, hd4, ?_, ?_, ?_⟩
  · rw [List.length_map, List.length_range]
    omega
  · exact ((e.trans e2).trans (e3.trans e4)).mut hD
  · rw [upd_same, List.range_succ, List.map_append]
    rfl
theorem g_name_mono {j : Nat} {x : V} {σ : St} {H : Hp} {q q' : St → Hp → Prop} (h : ∀ σ2 H2, q σ2 H2 → q' σ2 H2) (z : gName j x σ H q) : gName j x σ H q' := h _ _ z

section
variable {P : Program} {w : World} {K : PySem.W.Frag} {mg : Str → Option Value} {base : Heap}
abbrev F1 {f : Addr} {fd : FuncData} {x q : Str} {st : Stmt} {p : Str} (F : Fun K x q st f fd) (h : ∀ (kV doc pm : Value) (an : Option Addr) (cdv ct : Value) (us : List Value), us.length = [p].length → bindArgs (PySem.W.fnOf x q (defArgs st) (defBody st) (defScope st) .none kV doc pm an cdv ct) ⟨us, []⟩ = pure ([p].zip us)) : Binds K fd [p] [] := F.binds h
theorem b_is_row {f : Addr} {fd : FuncData} (F : FD K mg "is_row" "is_row" s_is_row f fd) : Binds K fd ["thing"] [] := F.F.binds fun _ _ _ _ _ _ us hl => match us, hl with | [_], _ => rfl
theorem b_is_integer {f : Addr} {fd : FuncData} (F : FD K mg "is_integer" "is_integer" s_is_integer f fd) : Binds K fd ["thing"] [] := F.F.binds fun _ _ _ _ _ _ us hl => match us, hl with | [_], _ => rfl
theorem b_is_number {f : Addr} {fd : FuncData} (F : FD K mg "is_number" "is_number" s_is_number f fd) : Binds K fd ["thing"] [] := F.F.binds fun _ _ _ _ _ _ us hl => match us, hl with | [_], _ => rfl

theorem sc_is_number : FnScope ["thing"] ["thing"] (defScope s_is_number) := ⟨rfl, rfl, rfl, by decide +kernel, rfl, by decide +kernel, by decide +kernel⟩
theorem ok_is_number {f f1 : Addr} {fd fd1 : FuncData} (F : FD K mg "is_number" "is_number" s_is_number f fd) (F1 : FD K mg "is_integer" "is_integer" s_is_integer f1 fd1) (T : Bl mg) : FnOk P w K mg base CX0 2 f fd ["thing"] (spAsk isNum) := by
  have G1 : FnOk P w K mg base CX0 1 f1 fd1 ["thing"] (spAsk isInt) := ok_is_integer F1 T
  refine F.F.ok sc_is_number (fun vs H Q E h => ?_) (fun cdv A outer s H vs Q E hr h => ?_)
  · obtain ⟨v, d, rfl, _⟩ := h
    rfl
  · obtain ⟨v, d, rfl, hd, k⟩ := h
    refine ⟨_, pss_one (ps_ret (pe_and (pe_call G1 hr (by rfl) F1.g F1.F.kp (b_is_integer F1) .nil pass0 (pa_cons (pv 0) pa_nil)) (pe_one (pe_cmpR op_ge (pv 0) pe_int (nomark _))))), ?_⟩
    refine ⟨_, rfl, v, d, rfl, hd, fun H' e => ⟨_, rfl, ?_⟩⟩
    have k0 := k H' e
    cases hd <;> first
      | exact k0
      | skip
    rename_i i
    refine iteT ⟨_, rfl, _, _, rfl, rfl, ?_⟩
    exact k0
end
end Ts


set_option Elab.async false
set_option linter.all false
set_option maxRecDepth 100000
set_option maxHeartbeats 2000000
namespace Ts
open PySem PySem.Spec L2
open Evl (Ex)
theorem DAll.get {H : Hp} : ∀ {vs : List V} {ds : List PyData} {i : Nat} {x : V}, DAll H vs ds → vs[i]? = some x → ∃ d, ds[i]? = some d ∧ D H x d
  | _, _, _, _, .nil, e => by simp at e
  | _, _, 0, _, .cons h _, e => by
    have e' : _ = _ := Option.some.inj e
    subst e'
    exact ⟨_, rfl, h⟩
  | _, _, i + 1, _, .cons _ r, e => DAll.get (i := i) r e
/-- a list, or a tuple -/
def mk (k : Bool) (l : List PyData) : PyData := if k = true then .list l else .tuple l
theorem mk_row (k : Bool) (l : List PyData) : isRow (mk k l) = true := by cases k <;> rfl
theorem mk_items (k : Bool) (l : List PyData) : items (mk k l) = l := by cases k <;> rfl
theorem D.row {H : Hp} {v : V} {d : PyData} (h : D H v d) (hr : isRow d = true) : ∃ a xs, v = .ref a ∧ Row H a xs ∧ DAll H xs (items d) := by
  cases h with
  | lst h r => exact ⟨_, _, rfl, .inl h, r⟩
  | tup h r => exact ⟨_, _, rfl, .inr h, r⟩
  | non => cases hr
  | bl b => cases hr
  | int i => cases hr
  | str x => cases hr
  | dic h r => cases hr
theorem g_row {K : PySem.W.Frag} {H : Hp} {a : Addr} {xs : List V} {n : Nat} {t : TGs} {σ : L2.St} {Q : L2.St → Hp → Prop} (h : Row H a xs) (hn : xs.length = n) (q : t xs σ H Q) : gOr (gTup K n t) (gUnl K n t) (.ref a) σ H Q := by
  rcases h with h | h
  · exact .inr ⟨a, xs, rfl, SqL.of h, hn, q⟩
  · exact .inl ⟨a, xs, rfl, SqT.of h, hn, q⟩
theorem ix_row {K : PySem.W.Frag} {H : Hp} {a : Addr} {xs : List V} {i : Int} {v : V} {Q : VK} (h : Row H a xs) (hi : atI xs i = some v) (q : Q v H) : rIx K (.ref a) (.int i) H Q := by
  rcases h with h | h
  · exact .inl ⟨a, xs, i, v, rfl, rfl, SqL.of h, hi, q⟩
  · exact .inr (.inl ⟨a, xs, i, v, rfl, rfl, SqT.of h, hi, q⟩)
/-- a comprehension over the row in slot i, pure -/
theorem lc_row {K : PySem.W.Frag} {i : Nat} {g : TG} {te : TE} {vs : List Nat} {σ : L2.St} {H : Hp} {a : Addr} {xs : List V} {out : Nat → V} {Q : VK} (hσ : σ[i]? = some (some (.ref a))) (hr : Row H a xs) (hz : xs.length ≤ sizeLine)
    (hs : ∀ j x H1, xs[j]? = some x → Ex H H1 → g x (wipe σ vs) H1 fun σ2 H2 => wipe σ2 vs = wipe σ vs ∧ Ex H1 H2 ∧ ∀ q : VK, (∀ H4, Ex H2 H4 → q (out j) H4) → te σ2 H2 q)
    (hgm : ∀ (x : V) (H : Hp) (q q' : L2.St → Hp → Prop), (∀ σ2 H2, q σ2 H2 → q' σ2 H2) → g x (wipe σ vs) H q → g x (wipe σ vs) H q')
    (hq : ∀ D Hf, H D = none → Ex H Hf → Hf D = some (.lst ((List.range xs.length).map out)) → Q (.ref D) Hf) :
    tLc (iOr (iList K (tVar i)) (iTup K (tVar i))) g tYes te vs σ H Q := by
  rcases hr with h | h
  · refine .inl ⟨_, hσ, a, rfl, ⟨xs, SqL.of h⟩, lc_pure (walk_list (xs := xs)) hz (fun H' e => SqL.of (e _ _ h)) (fun j x H1 H2 hj e y => ?_) hgm hq⟩
    obtain ⟨rfl, hx⟩ := y
    exact ⟨Ex.refl _, hs j x H2 hx e⟩
  · refine .inr ⟨_, hσ, a, rfl, ⟨xs, SqT.of h⟩, lc_pure (walk_tup (xs := xs)) hz (fun H' e => SqT.of (e _ _ h)) (fun j x H1 H2 hj e y => ?_) hgm hq⟩
    obtain ⟨rfl, hx⟩ := y
    exact ⟨Ex.refl _, hs j x H2 hx e⟩
theorem map_getD {α β : Type} (f : α → β) (d : α) : ∀ l : List α, (List.range l.length).map (fun i => f (l.getD i d)) = l.map f := by
  intro l
  apply List.ext_getElem?
  intro i
  rw [List.getElem?_map, List.getElem?_map]
  by_cases h : i < l.length
  · rw [List.getElem?_range h]
    simp [List.getD, h]
  · rw [List.getElem?_eq_none (by simpa using h), List.getElem?_eq_none (by omega)]
    rfl
theorem getD_of {α : Type} {l : List α} {i : Nat} {x d : α} (h : l[i]? = some x) : l.getD i d = x := by
  rw [List.getD, h]
  rfl
theorem all_id {α : Type} (f : α → Bool) (l : List α) : (l.map f).all id = l.all f := by
  rw [List.all_map]
  rfl

section
variable {P : Program} {w : World} {K : PySem.W.Frag} {mg : Str → Option Value} {base : Heap}
/-- what is asked of a thing: it is so, or it is refused -/
def spNeed (p : PyData → Bool) (C : Addr) : Sp := fun vs H Q E => ∃ v d, vs = [v] ∧ D H v d ∧ (p d = true → ∀ H', Ex H H' → Q .non H') ∧ (p d = false → ∀ H', Ex H H' → Raised H' "thing" v C E)
end
end Ts


set_option Elab.async false
set_option linter.all false
set_option maxRecDepth 100000
set_option maxHeartbeats 2000000
namespace Ts
open PySem PySem.Spec L2
open Evl (Ex)
/-! ## heaps, and what are at most two of them -/
def isHps (d : PyData) : Bool := isRow d && (decide ((items d).length ≤ 2) && (items d).all isHp)
section
variable {P : Program} {w : World} {K : PySem.W.Frag} {mg : Str → Option Value} {base : Heap}
abbrev s_is_heap := top 13
abbrev s_is_heaps := top 14
abbrev s_need_heap := top 28
theorem sc_is_heap : FnScope ["thing"] ["thing"] (defScope s_is_heap) := ⟨rfl, rfl, rfl, by decide +kernel, rfl, by decide +kernel, by decide +kernel⟩
theorem ok_is_heap {f f1 : Addr} {fd fd1 : FuncData} (F : FD K mg "is_heap" "is_heap" s_is_heap f fd) (F1 : FD K mg "is_integer" "is_integer" s_is_integer f1 fd1) (T : Bl mg) {t : Tok} (hm : mg "MOST_HEAP" = some (.int 1000000000000000000 t)) : FnOk P w K mg base CX0 2 f fd ["thing"] (spAsk isHp) := by
  have G1 : FnOk P w K mg base CX0 1 f1 fd1 ["thing"] (spAsk isInt) := ok_is_integer F1 T
  refine F.F.ok sc_is_heap (fun vs H Q E h => ?_) (fun cdv A outer s H vs Q E hr h => ?_)
  · obtain ⟨v, d, rfl, _⟩ := h
    rfl
  · obtain ⟨v, d, rfl, hd, k⟩ := h
    refine ⟨_, pss_one (ps_ret (pe_and (pe_call G1 hr (by rfl) F1.g F1.F.kp (b_is_integer F1) .nil pass0 (pa_cons (pv 0) pa_nil)) (pe_one (pe_chain op_le op_le pe_int (pv 0) (pe_glob (v := .int 1000000000000000000) rfl hm ⟨_, rfl⟩))))), ?_⟩
    refine ⟨_, rfl, v, d, rfl, hd, fun H' e => ⟨_, rfl, ?_⟩⟩
    have k0 := k H' e
    cases hd <;> first
      | exact k0
      | skip
    rename_i i
    refine iteT ⟨_, rfl, _, _, rfl, rfl, _, rfl, ?_⟩
    have k1 : Q (V.bl (decide (1 ≤ i) && decide (i ≤ 1000000000000000000))) H' := k0
    by_cases hi : 1 ≤ i
    · rw [decide_eq_true hi] at k1 ⊢
      exact iteT ⟨_, _, rfl, rfl, k1⟩
    · rw [decide_eq_false hi] at k1 ⊢
      exact iteF k1
theorem b_is_heap {f : Addr} {fd : FuncData} (F : FD K mg "is_heap" "is_heap" s_is_heap f fd) : Binds K fd ["thing"] [] := F.F.binds fun _ _ _ _ _ _ us hl => match us, hl with | [_], _ => rfl
theorem sc_is_heaps : FnScope ["thing", "part"] ["thing"] (defScope s_is_heaps) := ⟨rfl, rfl, rfl, by decide +kernel, rfl, by decide +kernel, by decide +kernel⟩
abbrev rLenH (K : PySem.W.Frag) : List V → Hp → VK → Prop := fun xs H Q => ∃ p ys, xs = [V.ref p] ∧ (SqL K H p ys ∨ SqT K H p ys) ∧ Q (.int (ys.length : Nat)) H
theorem ok_is_heaps {f f1 f2 : Addr} {fd fd1 fd2 : FuncData} (F : FD K mg "is_heaps" "is_heaps" s_is_heaps f fd) (F1 : FD K mg "is_row" "is_row" s_is_row f1 fd1) (F2 : FD K mg "is_heap" "is_heap" s_is_heap f2 fd2)
    (G2 : FnOk P w K mg base CX0 2 f2 fd2 ["thing"] (spAsk isHp)) (T : Bl mg) : FnOk P w K mg base CX0 3 f fd ["thing"] (spAsk isHps) := by
  have G1 : FnOk P w K mg base CX0 1 f1 fd1 ["thing"] (spAsk isRow) := ok_is_row F1 T
  refine F.F.ok sc_is_heaps (fun vs H Q E h => ?_) (fun cdv A outer s H vs Q E hr h => ?_)
  · obtain ⟨v, d, rfl, _⟩ := h
    rfl
  · obtain ⟨v, d, rfl, hd, k⟩ := h
    refine ⟨_, pss_one (ps_ret (pe_and (pe_call G1 (hr.mono (by decide)) (by rfl) F1.g F1.F.kp (b_is_row F1) .nil pass0 (pa_cons (pv 0) pa_nil)) (pe_and (pe_cmpR op_le (pe_callB (r := rLenH K) call_len_seq (by rfl) T.len PySem.boot_len (pa_cons (pv 0) pa_nil)) pe_int (nomark _)) (pe_one (pe_callB (cr_all rfl) (by rfl) T.all (by decide +kernel)
      (pa_cons (pe_lc (own := [("part", 1)]) (g := gName 1) (tt := tYes) rfl sc_is_heaps.nd (pi_or (pi_list (pv 0)) (pi_tup (pv 0))) (blkOk_by (N := ["thing", "part"]) (sc := defScope s_is_heaps) (by decide +kernel))
        (fun _ _ _ _ _ => pg_name (i := 1) sc_is_heaps.nd rfl (Or.inl rfl)) (fun _ _ _ _ _ => pts_nil)
        (fun _ _ _ _ _ => pe_call G2 hr (by rfl) F2.g F2.F.kp (b_is_heap F2) .nil pass0 (pa_cons (pv 1) pa_nil))) pa_nil)))))), ?_⟩
    refine ⟨_, rfl, v, d, rfl, hd, fun H1 e1 => ⟨_, rfl, ?_⟩⟩
    by_cases hrw : isRow d = true
    · rw [hrw]
      obtain ⟨a, xs, rfl, hrow, hall⟩ := hd.row hrw
      refine iteT ⟨_, rfl, a, xs, rfl, (hrow.ex e1).imp (fun h => SqL.of h) (fun h => SqT.of h), _, _, rfl, rfl, _, rfl, ?_⟩
      by_cases hl : (items d).length ≤ 2
      · rw [show decide ((xs.length : Int) ≤ 2) = true from decide_eq_true (by rw [hall.len]; omega)]
        refine iteT ?_
        unfold tCB tCons tNil
        refine lc_row (out := fun j => V.bl (isHp ((items d).getD j .none))) (by rfl) (hrow.ex e1) (by rw [hall.len]; exact Evl.sz_of (by omega)) (fun j x H2 hx e2 => ?_) (fun x H q q' z => g_name_mono z) (fun Dd Hf _ e3 hD => ?_)
        · refine ⟨rfl, Ex.refl _, fun q hq => ?_⟩
          obtain ⟨dx, hdx, hx'⟩ := hall.get hx
          refine ⟨_, rfl, x, dx, rfl, hx'.ex (e1.trans e2), fun H4 e4 => ?_⟩
          have z := hq H4 e4
          rw [getD_of hdx] at z
          exact z
        · refine ⟨Dd, (items d).map isHp, rfl, SqL.of ?_, ?_⟩
          · rw [hD, hall.len, List.map_map, ← map_getD (V.bl ∘ isHp) PyData.none (items d)]
            rfl
          · have z := k Hf (e1.trans e3)
            unfold isHps at z
            rw [hrw, decide_eq_true hl, Bool.true_and, Bool.true_and] at z
            rw [all_id]
            exact z
      · rw [show decide ((xs.length : Int) ≤ 2) = false from decide_eq_false (by rw [hall.len]; omega)]
        have z := k H1 e1
        unfold isHps at z
        rw [hrw, decide_eq_false hl, Bool.true_and, Bool.false_and] at z
        exact iteF z
    · have hf : isRow d = false := by simpa using hrw
      rw [hf]
      have z := k H1 e1
      unfold isHps at z
      rw [hf, Bool.false_and] at z
      exact iteF z
theorem sc_need_heap : FnScope ["thing"] ["thing"] (defScope s_need_heap) := ⟨rfl, rfl, rfl, by decide +kernel, rfl, by decide +kernel, by decide +kernel⟩
theorem ok_need_heap {f f1 C g : Addr} {fd fd1 fi : FuncData} (F : FD K mg "need_heap" "need_heap" s_need_heap f fd) (F1 : FD K mg "is_heap" "is_heap" s_is_heap f1 fd1) (G1 : FnOk P w K mg base CX0 2 f1 fd1 ["thing"] (spAsk isHp))
    (X : XC K mg "BadHeap" "thing" C g) (GI : FnOk P w K mg base CX0 1 g fi ["self", "thing"] (spIni C "thing")) (bI : Binds K fi ["self", "thing"] []) : FnOk P w K mg base (L2.CX P w) 3 f fd ["thing"] (spNeed isHp C) := by
  refine F.F.okX sc_need_heap (fun vs H Q E h => ?_) (fun cdv A outer s H vs Q E hr h => ?_)
  · obtain ⟨v, d, rfl, _⟩ := h
    rfl
  · obtain ⟨v, d, rfl, hd, k1, k2⟩ := h
    refine ⟨_, pss_one (ps_if (pt_not (pt_val (pe_call G1 hr (by rfl) F1.g F1.F.kp (b_is_heap F1) .nil pass0 (pa_cons (pv 0) pa_nil)))) (pss_one (ps_raise1 rfl (takes_of rfl rfl rfl rfl) X GI bI hr (by rfl) (pv 0))) pss_nil), ?_⟩
    refine ⟨_, rfl, v, d, rfl, hd, fun H1 e1 => ⟨_, rfl, ?_⟩⟩
    by_cases hp : isHp d = true
    · rw [hp]
      exact iteF (k1 hp H1 e1)
    · have hf : isHp d = false := by simpa using hp
      rw [hf]
      exact iteT ⟨_, rfl, raise1 (k2 hf H1 e1)⟩
end
end Ts


set_option Elab.async false
set_option linter.all false
set_option maxRecDepth 100000
set_option maxHeartbeats 4000000
namespace Ts
open PySem PySem.Spec PyProof.Rows L2
open Evl (Ex)
/-! ## rules -/
/-- a rule -/
structure Rl where
  low : Int
  high : Option Int
  left : Str
  rest : Int
  mod : Int
deriving DecidableEq
def hiV : Option Int → V
  | none => .non
  | some i => .int i
def hiD : Option Int → PyData
  | none => .none
  | some i => .int i
def hiK : Option Int → NestedKey
  | none => .none
  | some i => .num i
def Rl.vs (r : Rl) : List V := [.int r.low, hiV r.high, .str r.left, .int r.rest, .int r.mod]
def Rl.d (r : Rl) : PyData := .tuple [.int r.low, hiD r.high, .str r.left, .int r.rest, .int r.mod]
def Rl.key (r : Rl) : NestedKey := .tup [.num r.low, hiK r.high, .text r.left, .num r.rest, .num r.mod]
theorem Rl.key_inj {r r' : Rl} (h : r.key = r'.key) : r = r' := by
  obtain ⟨a, b, c, d, e⟩ := r
  obtain ⟨a', b', c', d', e'⟩ := r'
  unfold Rl.key at h
  simp only [NestedKey.tup.injEq, List.cons.injEq, NestedKey.num.injEq, NestedKey.text.injEq, and_true] at h
  obtain ⟨rfl, hb, rfl, rfl, rfl⟩ := h
  have : b = b' := by
    cases b <;> cases b' <;> first
      | rfl
      | (simp only [hiK, NestedKey.num.injEq] at hb; rw [hb])
      | (simp only [hiK] at hb; cases hb)
  rw [this]
theorem Rl.depth (r : Rl) : r.key.depth ≤ 8 := by
  obtain ⟨a, b, c, d, e⟩ := r
  cases b <;> simp [Rl.key, hiK, NestedKey.depth, NestedKey.depthAll]
/-! ## the rules that were seen: a dict of their tuples -/
/-- a dict whose keys are rules, at these addresses, all of True -/
def seenP (P : Program) (w : World) (a : Addr) (ks : List (Rl × Addr)) (h : Heap) : Prop :=
  (a == sysModules) = false ∧ ks.length ≤ sizeLine ∧ (ks.map (·.1)).Nodup ∧ ∃ o es ep, h.get? a = some o ∧ o.ExactDict ∧ o.data = .dict es ep ∧ es.toList = ks.map fun p => (⟨p.1.key.hash w, .ref p.2, .bool true⟩ : DictEntry)
def SeenO (P : Program) (w : World) (a : Addr) (ks : List (Rl × Addr)) : HO := .ext (seenP P w a ks)
/-- what its keys stand on -/
def SeenK (H : Hp) (ks : List (Rl × Addr)) : Prop := ∀ p ∈ ks, H p.2 = some (.tup p.1.vs)
section
variable {P : Program} {w : World} {H : Hp} {h : Heap} {a b : Addr} {ks : List (Rl × Addr)}
theorem rule_key {r : Rl} (ok : HOk P w H h) (e : H a = some (.tup r.vs)) : (nestedKind P w).is h r.key a := by
  obtain ⟨_, its, rv, o, h1, h2, n, h3⟩ := (show ObjOk P w H h a (.tup r.vs) from ok a _ e)
  refine ⟨.tup h1 h2 h3 ?_, r.depth⟩
  obtain ⟨lo, hi, le, re, mo⟩ := r
  have rv' : Vals [.int lo, hiV hi, .str le, .int re, .int mo] its := rv
  cases rv' with
  | cons r1 t =>
    cases t with
    | cons r2 t =>
      cases t with
      | cons r3 t =>
        cases t with
        | cons r4 t =>
          cases t with
          | cons r5 t =>
            cases t
            obtain ⟨t1, rfl⟩ := r1
            obtain ⟨t3, rfl⟩ := r3
            obtain ⟨t4, rfl⟩ := r4
            obtain ⟨t5, rfl⟩ := r5
            refine .cons (.int _ _) (.cons ?_ (.cons (.text _ _) (.cons (.int _ _) (.cons (.int _ _) .nil))))
            cases hi with
            | none =>
              cases r2
              exact .none
            | some i =>
              obtain ⟨t2, rfl⟩ := r2
              exact .int _ _
def seenX (ks : List (Rl × Addr)) : List (NestedKey × Addr × Value) := ks.map fun p => (p.1.key, p.2, Value.bool true)
theorem seen_dict (ok : HOk P w H h) (e : H a = some (SeenO P w a ks)) (hk : SeenK H ks) : (a == sysModules) = false ∧ ks.length ≤ sizeLine ∧ (ks.map (·.1)).Nodup ∧ h.DictOfH (nestedKind P w) a (seenX ks) := by
  obtain ⟨⟨h1, h2, h3, o, es, ep, h4, h5, h6, h7⟩, _, _⟩ := (show ObjOk P w H h a (.ext (seenP P w a ks)) from ok a _ e)
  refine ⟨h1, h2, h3, o, es, ep, h4, h5, h6, ?_, fun x hx => ?_, ?_⟩
  · rw [h7]
    unfold seenX
    rw [List.map_map]
    rfl
  · obtain ⟨p, hp, rfl⟩ := List.mem_map.mp hx
    exact rule_key ok (hk p hp)
  · unfold seenX
    rw [List.map_map]
    have : ((fun x : NestedKey × Addr × Value => x.1) ∘ fun p : Rl × Addr => (p.1.key, p.2, Value.bool true)) = Rl.key ∘ fun p : Rl × Addr => p.1 := rfl
    rw [this, ← List.map_map]
    exact List.Pairwise.map _ (fun x y hxy z => hxy (Rl.key_inj z)) h3
theorem seen_at {r : Rl} : ∀ ks : List (Rl × Addr), (atKey (seenX ks) r.key).isSome = decide (r ∈ ks.map (·.1))
  | [] => rfl
  | p :: t => by
    have ih := seen_at t (r := r)
    unfold atKey seenX at ih ⊢
    rw [List.map_cons, List.find?_cons]
    by_cases c : p.1.key = r.key
    · have e : p.1 = r := Rl.key_inj c
      rw [decide_eq_true c]
      symm
      exact decide_eq_true (by rw [List.map_cons, e]; exact List.mem_cons_self)
    · rw [decide_eq_false c]
      have c' : p.1 ≠ r := fun z => c (by rw [z])
      rw [ih]
      rw [List.map_cons]
      by_cases m : r ∈ t.map (·.1)
      · rw [decide_eq_true m, decide_eq_true (List.mem_cons_of_mem _ m)]
      · rw [decide_eq_false m, decide_eq_false fun z => (List.mem_cons.mp z).elim (fun q => c' q.symm) m]
theorem seen_ok {h' : Heap} (h1 : (a == sysModules) = false) (h2 : ks.length ≤ sizeLine) (h3 : (ks.map (·.1)).Nodup) (dd : h'.DictOfH (nestedKind P w) a (seenX ks)) : ObjOk P w H h' a (SeenO P w a ks) := by
  obtain ⟨o, es, ep, k1, k2, k3, k4, _, _⟩ := dd
  have k4' : es.toList = ks.map fun p => (⟨p.1.key.hash w, .ref p.2, .bool true⟩ : DictEntry) := by
    rw [k4]
    unfold seenX
    rw [List.map_map]
    rfl
  refine ⟨⟨h1, h2, h3, o, es, ep, k1, k2, k3, k4'⟩, ⟨o, k1⟩, fun g1 g2 ⟨q1, q2, q3, o', es', ep', q4, q5⟩ hk => ⟨q1, q2, q3, o', es', ep', hk _ q4, q5⟩⟩
end
section
variable {X : Cx} {pos : Pos}
/-- {}, to be a dict of rules -/
def tDNewR (P : Program) (w : World) : TE := fun _ H Q => ∀ p, H p = none → Q (.ref p) (upd H p (SeenO P w p []))
theorem pe_dnewR : PE X (.Dict [] [] pos) (tDNewR X.prog X.w) := ⟨fun pins s σ H Q I h =>
  wpAny_Dict_empty ⟨.ref s.heap.objs.size, _, I.laid (a := s.heap.objs.size) (o := SeenO X.prog X.w s.heap.objs.size []) (t' := s.toks) (fun _ _ q => Heap.get?_push_of_some _ q) (Nat.le_refl _)
    (seen_ok (beq_eq_false_iff_ne.mpr (Ne.symm (Nat.ne_of_lt I.big))) (Nat.zero_le _) List.nodup_nil ⟨_, #[], 0, Heap.get?_push_size _ rfl, ⟨rfl, rfl, rfl⟩, rfl, rfl, (fun x hx => nomatch hx), List.nodup_nil⟩), rfl, h _ (I.hok.fresh (Nat.le_refl _))⟩⟩
/-- a rule's tuple in the dict -/
def rInR (P : Program) (w : World) : R2 := fun x y H Q => ∃ (b a : Addr) (r : Rl) (ks : List (Rl × Addr)), x = .ref b ∧ y = .ref a ∧ H b = some (.tup r.vs) ∧ H a = some (SeenO P w a ks) ∧ SeenK H ks ∧ Q (.bl (decide (r ∈ ks.map (·.1)))) H
theorem op_inR (hu : X.A.units + 16 < cLine) : OpR X (compareOp .In) (rInR X.prog X.w) := by
  intro pins s σ H x y v u Q I rx ry h
  obtain ⟨b, a, r, ks, rfl, rfl, hb, ha, hk, q⟩ := h
  cases (show v = Value.ref b from rx)
  cases (show u = Value.ref a from ry)
  obtain ⟨h1, h2, h3, dd⟩ := seen_dict I.hok ha hk
  refine wpAny_in_heap (knd := nestedKind X.prog X.w) (show X.A.units + 1 + 8 < cLine by omega) (rule_key I.hok hb) h1 dd ?_
  rw [seen_at]
  exact ⟨.bl _, H, I.tok _, rfl, q⟩
/-- seen[rule's tuple] = True, a rule not yet seen -/
def rSetR (P : Program) (w : World) : TSet := fun o i v H Q => ∃ (b a : Addr) (r : Rl) (ks : List (Rl × Addr)), o = .ref a ∧ i = .ref b ∧ v = .bl true ∧ H b = some (.tup r.vs) ∧ H a = some (SeenO P w a ks) ∧ SeenK H ks ∧ r ∉ ks.map (·.1) ∧ ks.length < sizeLine ∧ Q (upd H a (SeenO P w a (ks ++ [(r, b)])))
theorem set_R (hu : X.A.units + 16 < cLine) : PSet X (rSetR X.prog X.w) := by
  intro pins s σ H o i v ov iv u Q I ro ri rv h
  obtain ⟨b, a, r, ks, rfl, rfl, rfl, hb, ha, hk, hn, hl, q⟩ := h
  cases (show ov = Value.ref a from ro)
  cases (show iv = Value.ref b from ri)
  cases (show u = Value.bool true from rv)
  obtain ⟨h1, h2, h3, dd⟩ := seen_dict I.hok ha hk
  have hat : atKey (seenX ks) r.key = none := by
    have z := seen_at ks (r := r)
    rw [decide_eq_false hn] at z
    cases e : atKey (seenX ks) r.key with
    | none => rfl
    | some p =>
      rw [e] at z
      cases z
  refine wpAny_setItem_heap (knd := nestedKind X.prog X.w) (hsz := by unfold seenX; rw [List.length_map]; exact h2) (show X.A.units + 1 + 8 < cLine by omega) (rule_key I.hok hb) dd fun h' dd' hs => ?_
  rw [storedH_new hat] at dd'
  have dd2 : h'.DictOfH (nestedKind X.prog X.w) a (seenX (ks ++ [(r, b)])) := by
    unfold seenX
    rw [List.map_append]
    exact dd'
  obtain ⟨ob, es, ep, k1, _⟩ := id dd2
  refine ⟨_, d_write I (by rw [ha]; exact True.intro) hs ⟨ob, k1⟩ (seen_ok h1 ?_ ?_ dd2), q⟩
  · rw [List.length_append]
    show ks.length + 1 ≤ sizeLine
    omega
  · rw [List.map_append]
    refine List.nodup_append.mpr ⟨h3, by simp, fun x hx y hy => ?_⟩
    simp at hy
    rw [hy]
    exact fun z => hn (by rw [← z]; exact hx)
end
end Ts


set_option Elab.async false
set_option linter.all false
set_option maxRecDepth 100000
set_option maxHeartbeats 4000000
namespace Ts
open PySem PySem.Spec L2
open Evl (Ex)
theorem kit_str {K : PySem.W.Frag} (d : PyData) : PySem.W.kitOne K (.type (tyD d)) (.type "str") = some (match d with | .str _ => true | _ => false) := by cases d <;> first | rfl | decide +kernel
def intOf : PyData → Int
  | .int i => i
  | _ => 0
theorem isNum_int {d : PyData} (h : isNum d = true) : ∃ i, d = .int i ∧ 0 ≤ i := by
  cases d <;> first
    | (exact ⟨_, rfl, of_decide_eq_true h⟩)
    | cases h
theorem ite_ff {c : Bool} {A B : Prop} (h : c = false) (b : B) : if c = true then A else B := by
  rw [h]
  exact iteF b
theorem ite_tt {c : Bool} {A B : Prop} (h : c = true) (a : A) : if c = true then A else B := by
  rw [h]
  exact iteT a
theorem dec_z {i j : Int} : decide (V.int i = V.int j) = decide (i = j) := by
  by_cases c : i = j
  · rw [c]
    rw [decide_eq_true rfl, decide_eq_true rfl]
  · rw [decide_eq_false c, decide_eq_false fun q => c (V.int.inj q)]
def lefts : List V := [.str "none", .str "one", .str "two"]
def isStr : PyData → Bool
  | .str _ => true
  | _ => false
def isLeft : PyData → Bool
  | .str s => inV (.str s) lefts
  | _ => false
def isTwo : PyData → Bool
  | .str s => decide (V.str s = V.str "two")
  | _ => false
def isNon : PyData → Bool
  | .none => true
  | _ => false
/-- the five parts of a rule -/
def rule5 (lo hi le re mo : PyData) : Bool :=
  isLeft le && (isNum lo && (!(decide (intOf lo = 0) && !isTwo le)) && (isNum re && (isNum mo && decide (intOf re < intOf mo)) && (if isNon hi = true then decide (intOf mo = 1) && !isTwo le else isNum hi && decide (intOf lo ≤ intOf hi))))
def isRule (d : PyData) : Bool := isRow d && (match items d with
  | [lo, hi, le, re, mo] => rule5 lo hi le re mo
  | _ => false)
section
variable {P : Program} {w : World} {K : PySem.W.Frag} {mg : Str → Option Value} {base : Heap}
abbrev s_is_rule := top 18
theorem sc_is_rule : FnScope ["thing", "low", "high", "left", "rest", "modulus"] ["thing"] (defScope s_is_rule) := ⟨rfl, rfl, rfl, by decide +kernel, rfl, by decide +kernel, by decide +kernel⟩
theorem DAll.five {H : Hp} {xs : List V} {a b c d e : PyData} (h : DAll H xs [a, b, c, d, e]) : ∃ v1 v2 v3 v4 v5, xs = [v1, v2, v3, v4, v5] ∧ D H v1 a ∧ D H v2 b ∧ D H v3 c ∧ D H v4 d ∧ D H v5 e := by
  cases h with
  | cons h1 h =>
    cases h with
    | cons h2 h =>
      cases h with
      | cons h3 h =>
        cases h with
        | cons h4 h =>
          cases h with
          | cons h5 h =>
            cases h
            exact ⟨_, _, _, _, _, rfl, h1, h2, h3, h4, h5⟩
theorem tand_of {A B : TT} {σ : L2.St} {H : Hp} {Q : Bool → Hp → Prop} {b1 b2 : Bool} (ha : ∀ q : Bool → Hp → Prop, q b1 H → A σ H q) (hb : ∀ q : Bool → Hp → Prop, q b2 H → B σ H q) (h : Q (b1 && b2) H) : tAnd A B σ H Q :=
  ha _ (by
    cases b1 with
    | false => exact iteF h
    | true => exact iteT (hb _ h))
theorem D.int_of {H : Hp} {v : V} {i : Int} (h : D H v (.int i)) : v = .int i := by
  cases h
  rfl
theorem D.non_of {H : Hp} {v : V} {d : PyData} (h : D H v d) : decide (v = .non) = isNon d := by
  cases h <;> first
    | rfl
    | exact decide_eq_false (fun z => by cases z)
theorem ok_is_rule {f f1 f2 f3 tl : Addr} {fd fd1 fd2 fd3 : FuncData} (F : FD K mg "is_rule" "is_rule" s_is_rule f fd) (F_row : FD K mg "is_row" "is_row" s_is_row f1 fd1) (F_num : FD K mg "is_number" "is_number" s_is_number f2 fd2) (F_int : FD K mg "is_integer" "is_integer" s_is_integer f3 fd3) (T : Bl mg)
    (hstr : mg "str" = none) (hL : mg "LEFTS" = some (.ref tl)) (hT : ∀ H : Hp, SqT K H tl lefts) : FnOk P w K mg base CX0 3 f fd ["thing"] (spAsk isRule) := by
  have G_row : FnOk P w K mg base CX0 1 f1 fd1 ["thing"] (spAsk isRow) := ok_is_row F_row T
  have G_num : FnOk P w K mg base CX0 2 f2 fd2 ["thing"] (spAsk isNum) := ok_is_number F_num F_int T
  have b_row := b_is_row F_row
  have b_num := b_is_number F_num
  refine F.F.ok sc_is_rule (fun vs H Q E h => ?_) (fun cdv A outer s H vs Q E hr h => ?_)
  · obtain ⟨v, d, rfl, _⟩ := h
    rfl
  · obtain ⟨v, d, rfl, hd, k⟩ := h
    have nd := sc_is_rule.nd
    refine ⟨_, (pss_cons (ps_if (PW.pt (pw_or (pt_not (pt_val (pe_call G_row (hr.mono (by decide)) (by rfl) F_row.g F_row.F.kp b_row .nil pass0 (pa_cons (pv 0) pa_nil)))) (pw_or1 (pt_cmpR op_ne (pe_callB call_len_seq (by rfl) T.len PySem.boot_len (pa_cons (pv 0) pa_nil)) pe_int (nomark _))))) (pss_one (ps_ret pe_bl)) pss_nil)
      (pss_cons (ps_asg (pv 0) (pg_or (pg_tup rfl (pgs_cons (pg_name (i := 1) nd rfl (Or.inl rfl)) (pgs_cons (pg_name (i := 2) nd rfl (Or.inl rfl)) (pgs_cons (pg_name (i := 3) nd rfl (Or.inl rfl)) (pgs_cons (pg_name (i := 4) nd rfl (Or.inl rfl)) (pgs_cons (pg_name (i := 5) nd rfl (Or.inl rfl)) pgs_nil)))))) (pg_unl rfl (pgs_cons (pg_name (i := 1) nd rfl (Or.inl rfl)) (pgs_cons (pg_name (i := 2) nd rfl (Or.inl rfl)) (pgs_cons (pg_name (i := 3) nd rfl (Or.inl rfl)) (pgs_cons (pg_name (i := 4) nd rfl (Or.inl rfl)) (pgs_cons (pg_name (i := 5) nd rfl (Or.inl rfl)) pgs_nil))))))))
      (pss_cons (ps_if (PW.pt (pw_or (pt_not (pt_val (pe_callB call_isi (by rfl) T.isinstance (by decide +kernel) (pa_cons (pv 3) (pa_cons (pe_bltn (v := .ty "str") (by rfl) hstr PyProof.Rows.boot_str rfl) pa_nil))))) (pw_or1 (pt_cmpR op_notIn_seq (pv 3) (pe_glob (v := .ref tl) rfl hL rfl) (by rfl))))) (pss_one (ps_ret pe_bl)) pss_nil)
      (pss_cons (ps_if (PW.pt (pw_or (pt_not (pt_val (pe_call G_num (hr.mono (by decide)) (by rfl) F_num.g F_num.F.kp b_num .nil pass0 (pa_cons (pv 1) pa_nil)))) (pw_or1 (PW.pt (pw_and (pt_cmpR op_eq (pv 1) pe_int (nomark _)) (pw_and1 (pt_cmpR op_ne (pv 3) pe_str (nomark _)))))))) (pss_one (ps_ret pe_bl)) pss_nil)
      (pss_cons (ps_if (PW.pt (pw_or (pt_not (pt_val (pe_call G_num (hr.mono (by decide)) (by rfl) F_num.g F_num.F.kp b_num .nil pass0 (pa_cons (pv 4) pa_nil)))) (pw_or (pt_not (pt_val (pe_call G_num (hr.mono (by decide)) (by rfl) F_num.g F_num.F.kp b_num .nil pass0 (pa_cons (pv 5) pa_nil)))) (pw_or1 (pt_cmpR op_ge (pv 4) (pv 5) (nomark _)))))) (pss_one (ps_ret pe_bl)) pss_nil)
      (pss_cons (ps_if (pt_cmpR op_isN (pv 2) pe_non (nomark _)) (pss_one (ps_ret (pe_and (pe_cmpR op_eq (pv 5) pe_int (nomark _)) (pe_one (pe_cmpR op_ne (pv 3) pe_str (nomark _)))))) pss_nil)
      (pss_one (ps_ret (pe_and (pe_call G_num (hr.mono (by decide)) (by rfl) F_num.g F_num.F.kp b_num .nil pass0 (pa_cons (pv 2) pa_nil)) (pe_one (pe_cmpR op_ge (pv 2) (pv 1) (nomark _)))))))))))), ?_⟩
    refine ⟨_, rfl, v, d, rfl, hd, fun H1 e1 => ⟨_, rfl, ?_⟩⟩
    by_cases hrw : isRow d = true
    · obtain ⟨a, xs, rfl, hrow, hall⟩ := hd.row hrw
      rw [hrw]
      refine iteF ?_
      refine ⟨_, rfl, a, xs, rfl, (hrow.ex e1).sq, rfl, _, rfl, ?_⟩
      by_cases h5 : (items d).length = 5
      · obtain ⟨lo, hi, le, re, mo, hit⟩ : ∃ lo hi le re mo, items d = [lo, hi, le, re, mo] := by
          match q : items d, h5 with
          | [lo, hi, le, re, mo], _ => exact ⟨lo, hi, le, re, mo, rfl⟩
        have hk : isRule d = rule5 lo hi le re mo := by
          unfold isRule
          rw [hrw, hit]
          rfl
        have hlen := hall.len
        rw [hit] at hall hlen
        obtain ⟨vlo, vhi, vle, vre, vmo, rfl, hlo, hhi, hle, hre, hmo⟩ := hall.five
        have e5 : (!decide (V.int (([vlo, vhi, vle, vre, vmo].length : Nat) : Int) = V.int 5)) = false := rfl
        refine ite_ff e5 ?_
        refine ⟨_, rfl, g_row (hrow.ex e1) rfl ⟨_, _, rfl, _, _, rfl, _, _, rfl, _, _, rfl, _, _, rfl, rfl, ?_⟩⟩
        rw [hk] at k
        clear hk hit h5 hrw hlen
        have no : isLeft le = false → Q (.bl false) H1 := fun z => by
          have q := k H1 e1
          unfold rule5 at q
          rw [z, Bool.false_and] at q
          exact q
        refine ⟨_, rfl, _, _, _, _, _, rfl, .ty "str", (hle.ex e1).ty, kit_str le, _, rfl, ?_⟩
        cases hle with
        | str s =>
          refine iteF ⟨_, rfl, tl, lefts, rfl, .inr (hT _), rfl, rfl, _, rfl, ?_⟩
          by_cases hin : inV (.str s) lefts = true
          · refine ite_ff (by rw [hin]; rfl) ?_
            have hl : isLeft (.str s) = true := hin
            unfold rule5 at k
            rw [hl, Bool.true_and] at k
            refine ⟨_, rfl, vlo, lo, rfl, hlo.ex e1, fun H2 e2 => ⟨_, rfl, ?_⟩⟩
            have e12 := e1.trans e2
            cases nlo : isNum lo with
            | false =>
              refine iteT ?_
              have q := k H2 e12
              rw [nlo, Bool.false_and, Bool.false_and] at q
              exact q
            | true =>
              obtain ⟨ilo, rfl, lo0⟩ := isNum_int nlo
              obtain rfl := hlo.int_of
              rw [nlo, Bool.true_and] at k
              have k : ∀ H', Ex H H' → Q (.bl (!(decide (ilo = 0) && !decide (V.str s = V.str "two")) && (isNum re && (isNum mo && decide (intOf re < intOf mo)) && (if isNon hi = true then decide (intOf mo = 1) && !decide (V.str s = V.str "two") else isNum hi && decide (ilo ≤ intOf hi))))) H' := k
              refine iteF (tand_of (b1 := decide (ilo = 0)) (b2 := !decide (V.str s = V.str "two")) (fun q h => ⟨_, rfl, rfl, _, rfl, by rw [dec_z]; exact h⟩) (fun q h => ⟨_, rfl, rfl, _, rfl, h⟩) ?_)
              generalize htw : decide (V.str s = V.str "two") = tw at k
              cases c1 : (decide (ilo = 0) && !tw) with
              | true =>
                have q := k H2 e12
                rw [c1] at q
                exact iteT q
              | false =>
                rw [c1] at k
                have k : ∀ H', Ex H H' → Q (.bl (isNum re && (isNum mo && decide (intOf re < intOf mo)) && (if isNon hi = true then decide (intOf mo = 1) && !tw else isNum hi && decide (ilo ≤ intOf hi)))) H' := fun H' e => k H' e
                refine iteF ⟨_, rfl, vre, re, rfl, hre.ex e12, fun H3 e3 => ⟨_, rfl, ?_⟩⟩
                have e13 := e12.trans e3
                cases nre : isNum re with
                | false =>
                  refine iteT (iteT ?_)
                  have q := k H3 e13
                  rw [nre] at q
                  exact q
                | true =>
                  obtain ⟨ire, rfl, re0⟩ := isNum_int nre
                  obtain rfl := hre.int_of
                  rw [nre, Bool.true_and] at k
                  refine iteF ⟨_, rfl, vmo, mo, rfl, hmo.ex e13, fun H4 e4 => ⟨_, rfl, ?_⟩⟩
                  have e14 := e13.trans e4
                  cases nmo : isNum mo with
                  | false =>
                    refine iteT (iteT ?_)
                    have q := k H4 e14
                    rw [nmo] at q
                    exact q
                  | true =>
                    obtain ⟨imo, rfl, mo0⟩ := isNum_int nmo
                    obtain rfl := hmo.int_of
                    rw [nmo, Bool.true_and] at k
                    have k : ∀ H', Ex H H' → Q (.bl (decide (ire < imo) && (if isNon hi = true then decide (imo = 1) && !tw else isNum hi && decide (ilo ≤ intOf hi)))) H' := k
                    refine iteF ⟨_, rfl, _, rfl, _, _, rfl, rfl, _, rfl, ?_⟩
                    by_cases c2 : ire < imo
                    · refine ite_ff (decide_eq_false (show ¬ imo ≤ ire by omega)) ?_
                      rw [decide_eq_true c2] at k
                      have k : ∀ H', Ex H H' → Q (.bl (if isNon hi = true then decide (imo = 1) && !tw else isNum hi && decide (ilo ≤ intOf hi))) H' := k
                      refine ⟨_, rfl, rfl, _, rfl, ?_⟩
                      rw [hhi.non_of]
                      cases c3 : isNon hi with
                      | true =>
                        rw [c3, if_pos rfl] at k
                        refine iteT ⟨_, rfl, rfl, _, rfl, ?_⟩
                        rw [dec_z]
                        have q := k H4 e14
                        by_cases c4 : imo = 1
                        · rw [decide_eq_true c4, Bool.true_and] at q
                          refine ite_tt (decide_eq_true c4) ⟨_, rfl, rfl, ?_⟩
                          rw [htw]
                          exact q
                        · rw [decide_eq_false c4, Bool.false_and] at q
                          exact ite_ff (decide_eq_false c4) q
                      | false =>
                        rw [c3, if_neg Bool.false_ne_true] at k
                        refine iteF ⟨_, rfl, vhi, hi, rfl, hhi.ex e14, fun H5 e5 => ⟨_, rfl, ?_⟩⟩
                        have e15 := e14.trans e5
                        cases nhi : isNum hi with
                        | false =>
                          refine iteF ?_
                          have q := k H5 e15
                          rw [nhi] at q
                          exact q
                        | true =>
                          obtain ⟨ihi, rfl, hi0⟩ := isNum_int nhi
                          obtain rfl := hhi.int_of
                          rw [nhi, Bool.true_and] at k
                          exact iteT ⟨_, rfl, _, rfl, _, _, rfl, rfl, k H5 e15⟩
                    · refine ite_tt (decide_eq_true (show imo ≤ ire by omega)) ?_
                      have q := k H4 e14
                      rw [decide_eq_false c2] at q
                      exact q
          · refine ite_tt (by rw [Bool.eq_false_iff.mpr hin]; rfl) (no (Bool.eq_false_iff.mpr hin))
        | _ => exact iteT (no rfl)
      · refine ite_tt ?_ ?_
        · rw [hall.len]
          show (!decide (V.int (((items d).length : Nat) : Int) = V.int 5)) = true
          rw [decide_eq_false fun z => h5 (by have := V.int.inj z; omega)]
          rfl
        · have q := k H1 e1
          have : isRule d = false := by
            unfold isRule
            rw [hrw, Bool.true_and]
            split
            · rename_i e
              rw [e] at h5
              exact absurd rfl h5
            · rfl
          rw [this] at q
          exact q
    · have hf : isRow d = false := by simpa using hrw
      rw [hf]
      have q := k H1 e1
      unfold isRule at q
      rw [hf, Bool.false_and] at q
      exact iteT q
end
end Ts


set_option Elab.async false
set_option linter.all false
set_option maxRecDepth 100000
set_option maxHeartbeats 4000000
namespace Ts
open PySem PySem.Spec L2
open Evl (Ex)
/-- numbers that can be written -/
def Wr (i : Int) : Prop := i.natAbs.log2 < 1920
def hiWr : Option Int → Prop
  | none => True
  | some i => Wr i
structure Rl.Sml (r : Rl) : Prop where
  low : Wr r.low
  high : hiWr r.high
  left : r.left.length ≤ 100
  rest : Wr r.rest
  mod : Wr r.mod
def num (i : Int) : Str := Str.ofString (toString i)
theorem num_len {i : Int} (h : Wr i) : (num i).length ≤ 1921 := PyProof.Rows.int_text_len_1921 h
/-- the line of a rule -/
def Rl.l1 (r : Rl) : Str := Str.empty ++ "take " ++ num r.low
def Rl.l2 (r : Rl) : Str := match r.high with
  | none => r.l1 ++ " or more"
  | some h => if h = r.low then r.l1 else r.l1 ++ (Str.empty ++ " to " ++ num h)
def Rl.l3 (r : Rl) : Str := r.l2 ++ (Str.empty ++ " leave " ++ r.left)
def Rl.line (r : Rl) : Str := if r.mod = 1 then r.l3 else r.l3 ++ (Str.empty ++ " when " ++ num r.rest ++ " of " ++ num r.mod)
theorem Rl.len1 {r : Rl} (h : r.Sml) : r.l1.length ≤ 3000 := by
  have := num_len h.low
  unfold Rl.l1
  rw [Str.length_append, Str.length_append]
  have e1 : Str.empty.length = 0 := rfl
  have e2 : ("take " : Str).length = 5 := rfl
  omega
theorem Rl.len2 {r : Rl} (h : r.Sml) : r.l2.length ≤ 6000 := by
  have h1 := Rl.len1 h
  have hh := h.high
  unfold Rl.l2
  cases e : r.high with
  | none =>
    show (r.l1 ++ " or more").length ≤ 6000
    rw [Str.length_append]
    have e2 : (" or more" : Str).length = 8 := rfl
    omega
  | some i =>
    rw [e] at hh
    show (if i = r.low then r.l1 else r.l1 ++ (Str.empty ++ " to " ++ num i)).length ≤ 6000
    by_cases c : i = r.low
    · rw [if_pos c]
      omega
    · rw [if_neg c, Str.length_append, Str.length_append, Str.length_append]
      have := num_len hh
      have e1 : Str.empty.length = 0 := rfl
      have e2 : (" to " : Str).length = 4 := rfl
      omega
theorem Rl.len3 {r : Rl} (h : r.Sml) : r.l3.length ≤ 7000 := by
  have h2 := Rl.len2 h
  have hl := h.left
  unfold Rl.l3
  rw [Str.length_append, Str.length_append, Str.length_append]
  have e1 : Str.empty.length = 0 := rfl
  have e2 : (" leave " : Str).length = 7 := rfl
  omega
theorem le_sz {n : Nat} (h : n ≤ 16000) : n ≤ sizeLine := Nat.le_trans h (by decide)
section
variable {P : Program} {w : World} {K : PySem.W.Frag} {mg : Str → Option Value} {base : Heap}
abbrev s_growing := top 19
abbrev s_splitting := top 20
abbrev s_line := top 22
theorem sc_growing : FnScope ["rule"] ["rule"] (defScope s_growing) := ⟨rfl, rfl, rfl, by decide +kernel, rfl, by decide +kernel, by decide +kernel⟩
theorem sc_splitting : FnScope ["rule"] ["rule"] (defScope s_splitting) := ⟨rfl, rfl, rfl, by decide +kernel, rfl, by decide +kernel, by decide +kernel⟩
theorem sc_line : FnScope ["rule", "low", "high", "left", "rest", "modulus", "line"] ["rule"] (defScope s_line) := ⟨rfl, rfl, rfl, by decide +kernel, rfl, by decide +kernel, by decide +kernel⟩
def spRl (q : Rl → Bool) : Sp := fun vs H Q _ => ∃ (a : Addr) (r : Rl), vs = [.ref a] ∧ Row H a r.vs ∧ ∀ H', Ex H H' → Q (.bl (q r)) H'
theorem ok_growing {f : Addr} {fd : FuncData} (F : FD K mg "is_growing" "is_growing" s_growing f fd) : FnOk P w K mg base CX0 1 f fd ["rule"] (spRl fun r => r.high.isNone) := by
  refine F.F.ok sc_growing (fun vs H Q E h => ?_) (fun cdv A outer s H vs Q E hr h => ?_)
  · obtain ⟨a, r, rfl, _⟩ := h
    rfl
  · obtain ⟨a, r, rfl, hrow, k⟩ := h
    refine ⟨_, pss_one (ps_ret (pe_cmpR op_isN (pe_ix ix_seq (pv 0) pe_int (fun _ _ => rfl)) pe_non (nomark _))), ?_⟩
    refine ⟨_, rfl, ix_row hrow (atI_nat (j := 1) rfl) ⟨rfl, ?_⟩⟩
    have z := k H (Ex.refl H)
    have e : decide (hiV r.high = .non) = r.high.isNone := by
      cases r.high with
      | none => rfl
      | some i => exact decide_eq_false fun z => by cases z
    rw [e]
    exact z
theorem ok_splitting {f : Addr} {fd : FuncData} (F : FD K mg "is_splitting" "is_splitting" s_splitting f fd) : FnOk P w K mg base CX0 1 f fd ["rule"] (spRl fun r => decide (V.str r.left = V.str "two")) := by
  refine F.F.ok sc_splitting (fun vs H Q E h => ?_) (fun cdv A outer s H vs Q E hr h => ?_)
  · obtain ⟨a, r, rfl, _⟩ := h
    rfl
  · obtain ⟨a, r, rfl, hrow, k⟩ := h
    refine ⟨_, pss_one (ps_ret (pe_cmpR op_eq (pe_ix ix_seq (pv 0) pe_int (fun _ _ => rfl)) pe_str (nomark _))), ?_⟩
    exact ⟨_, rfl, ix_row hrow (atI_nat (j := 2) rfl) ⟨rfl, k H (Ex.refl H)⟩⟩
def spLine : Sp := fun vs H Q _ => ∃ (a : Addr) (r : Rl), vs = [.ref a] ∧ Row H a r.vs ∧ r.Sml ∧ ∀ H', Ex H H' → Q (.str r.line) H'
theorem ok_line {f : Addr} {fd : FuncData} (F : FD K mg "rule_line" "rule_line" s_line f fd) : FnOk P w K mg base CX0 1 f fd ["rule"] spLine := by
  refine F.F.ok sc_line (fun vs H Q E h => ?_) (fun cdv A outer s H vs Q E hr h => ?_)
  · obtain ⟨a, r, rfl, _⟩ := h
    rfl
  · obtain ⟨a, r, rfl, hrow, sm, k⟩ := h
    have nd := sc_line.nd
    have e0 : Str.empty.length = 0 := rfl
    have rest : ∃ t3, PSs (cxOf CX0 P w K mg base ["rule", "low", "high", "left", "rest", "modulus", "line"] "rule_line" (defScope s_line) f cdv A outer s H E).nox ((defBody s_line).drop 3) t3 ∧
        ∀ H', Ex H H' → t3 { nx := fun _ H' => Q .non H', rt := Q } [some (.ref a), some (.int r.low), some (hiV r.high), some (.str r.left), some (.int r.rest), some (.int r.mod), some (.str r.l2)] H' := by
      refine ⟨_, (pss_cons (ps_set (i := 6) nd rfl (Or.inl rfl) (pe_op op_add_str (pv 6) (pe_joined (.cons pe_str (.cons (pe_fmt (pv 3)) .nil)))))
      (pss_cons (ps_if (pt_cmpR op_ne (pv 5) pe_int (nomark _)) (pss_one (ps_set (i := 6) nd rfl (Or.inl rfl) (pe_op op_add_str (pv 6) (pe_joined (.cons pe_str (.cons (pe_fmt (pv 4)) (.cons pe_str (.cons (pe_fmt (pv 5)) .nil)))))))) pss_nil)
      (pss_one (ps_ret (pv 6))))), fun H' e => ?_⟩
      have l2 := Rl.len2 sm
      have l3 := Rl.len3 sm
      have ll := sm.left
      have q1 : (" leave " : Str).length = 7 := rfl
      refine ⟨_, rfl, _, rfl, le_sz (by rw [Str.length_append]; omega), _, rfl, .inl ⟨r.left, rfl, le_sz (by omega), _, rfl, le_sz (by rw [Str.length_append, Str.length_append]; omega), ?_⟩⟩
      refine ⟨_, _, rfl, rfl, le_sz (by rw [Str.length_append, Str.length_append]; omega), ?_⟩
      refine ⟨_, rfl, rfl, _, rfl, ?_⟩
      have z := k H' e
      unfold Rl.line at z
      by_cases c : r.mod = 1
      · rw [if_pos c] at z
        refine ite_ff (by rw [dec_z, decide_eq_true c]; rfl) ?_
        exact ⟨_, rfl, z⟩
      · rw [if_neg c] at z
        refine ite_tt (by rw [dec_z, decide_eq_false c]; rfl) ?_
        have n4 := num_len sm.rest
        have n5 := num_len sm.mod
        have q2 : (" when " : Str).length = 6 := rfl
        have q3 : (" of " : Str).length = 4 := rfl
        have n4' : (Str.ofString (toString r.rest)).length ≤ 1921 := n4
        have n5' : (Str.ofString (toString r.mod)).length ≤ 1921 := n5
        refine ⟨_, rfl, _, rfl, le_sz (by rw [Str.length_append]; omega), _, rfl, .inr ⟨r.rest, rfl, sm.rest, _, rfl, le_sz (by rw [Str.length_append, Str.length_append]; omega), _, rfl, le_sz (by rw [Str.length_append, Str.length_append, Str.length_append]; omega), _, rfl, .inr ⟨r.mod, rfl, sm.mod, _, rfl, le_sz (by rw [Str.length_append, Str.length_append, Str.length_append, Str.length_append]; omega), ?_⟩⟩⟩
        refine ⟨_, _, rfl, rfl, le_sz (by rw [Str.length_append, Str.length_append, Str.length_append, Str.length_append, Str.length_append, Str.length_append, Str.length_append]; omega), ?_⟩
        exact ⟨_, rfl, z⟩
    obtain ⟨t3, h3, fin⟩ := rest
    refine ⟨_, (pss_cons (ps_asg (pv 0) (pg_or (pg_tup rfl (pgs_cons (pg_name (i := 1) nd rfl (Or.inl rfl)) (pgs_cons (pg_name (i := 2) nd rfl (Or.inl rfl)) (pgs_cons (pg_name (i := 3) nd rfl (Or.inl rfl)) (pgs_cons (pg_name (i := 4) nd rfl (Or.inl rfl)) (pgs_cons (pg_name (i := 5) nd rfl (Or.inl rfl)) pgs_nil)))))) (pg_unl rfl (pgs_cons (pg_name (i := 1) nd rfl (Or.inl rfl)) (pgs_cons (pg_name (i := 2) nd rfl (Or.inl rfl)) (pgs_cons (pg_name (i := 3) nd rfl (Or.inl rfl)) (pgs_cons (pg_name (i := 4) nd rfl (Or.inl rfl)) (pgs_cons (pg_name (i := 5) nd rfl (Or.inl rfl)) pgs_nil))))))))
      (pss_cons (ps_set (i := 6) nd rfl (Or.inl rfl) (pe_joined (.cons pe_str (.cons (pe_fmt (pv 1)) .nil))))
      (pss_cons (ps_if (pt_cmpR op_isN (pv 2) pe_non (nomark _)) (pss_one (ps_set (i := 6) nd rfl (Or.inl rfl) (pe_op op_add_str (pv 6) pe_str))) (pss_one (ps_if (pt_cmpR op_ne (pv 2) (pv 1) (nomark _)) (pss_one (ps_set (i := 6) nd rfl (Or.inl rfl) (pe_op op_add_str (pv 6) (pe_joined (.cons pe_str (.cons (pe_fmt (pv 2)) .nil)))))) pss_nil)))
      h3))), ?_⟩
    refine ⟨_, rfl, g_row hrow rfl ⟨_, _, rfl, _, _, rfl, _, _, rfl, _, _, rfl, _, _, rfl, rfl, ?_⟩⟩
    have n1 := num_len sm.low
    have q1 : ("take " : Str).length = 5 := rfl
    refine ⟨_, rfl, le_sz (by rw [Str.length_append]; omega), _, rfl, .inr ⟨r.low, rfl, sm.low, _, rfl, le_sz (Nat.le_trans (Rl.len1 sm) (by decide)), ?_⟩⟩
    have l1 := Rl.len1 sm
    have hh := sm.high
    have fin := fin H (Ex.refl H)
    unfold Rl.l2 at fin
    refine ⟨_, rfl, rfl, _, rfl, ?_⟩
    cases e : r.high with
    | none =>
      rw [e] at fin
      refine ite_tt rfl ?_
      have q2 : (" or more" : Str).length = 8 := rfl
      exact ⟨_, rfl, _, _, rfl, rfl, le_sz (by show r.l1.length + _ ≤ _; omega), fin⟩
    | some i =>
      rw [e] at fin hh
      refine ite_ff rfl ?_
      have fin : t3 { nx := fun _ H' => Q .non H', rt := Q } [some (.ref a), some (.int r.low), some (.int i), some (.str r.left), some (.int r.rest), some (.int r.mod), some (.str (if i = r.low then r.l1 else r.l1 ++ (Str.empty ++ " to " ++ num i)))] H := fin
      refine ⟨_, rfl, _, rfl, rfl, _, rfl, ?_⟩
      by_cases c : i = r.low
      · rw [if_pos c] at fin
        refine ite_ff (by show (!decide (V.int i = V.int r.low)) = false; rw [dec_z, decide_eq_true c]; rfl) ?_
        exact fin
      · rw [if_neg c] at fin
        refine ite_tt (by show (!decide (V.int i = V.int r.low)) = true; rw [dec_z, decide_eq_false c]; rfl) ?_
        have n2 := num_len hh
        have n2' : (Str.ofString (toString i)).length ≤ 1921 := n2
        have q2 : (" to " : Str).length = 4 := rfl
        refine ⟨_, rfl, _, rfl, le_sz (by rw [Str.length_append]; omega), _, rfl, .inr ⟨i, rfl, hh, _, rfl, le_sz (by rw [Str.length_append, Str.length_append]; omega), ?_⟩⟩
        exact ⟨_, _, rfl, rfl, le_sz (by show r.l1.length + _ ≤ _; rw [Str.length_append, Str.length_append]; omega), fin⟩
end
end Ts


set_option Elab.async false
set_option linter.all false
set_option maxRecDepth 100000
set_option maxHeartbeats 4000000
/-! ## enumerate of a tuple -/
namespace PySem
open Sem (wp)
open AutoSeq1 (wpAny_loadPart')
theorem made_enum_tuple (q : Addr) (its : Array Value) (m : Nat) (dct : Option Addr) (sl : Array (Option Value)) :
    Meets (Builtin.«enumerate.__new__» ⟨[.type "enumerate", .ref q], []⟩) (fun _ R s => s.heap.get? q = some { cls := .type "tuple", dict := dct, data := .seq its m, slots := sl } ∧
      R (.ok (.ret (.ref (s.heap.push { cls := .type "tuple_iterator", data := .fields #[.ref q, .int 0 0] }).objs.size)))
        { s with heap := (s.heap.push { cls := .type "tuple_iterator", data := .fields #[.ref q, .int 0 0] }).push { cls := .type "enumerate", data := .fields #[.none, .bool false, .ref s.heap.objs.size, rawInt 0, .none, .none] } }) :=
  .of_wp fun prog w A R s z => by
    obtain ⟨hp, g, d, tk, os⟩ := s
    obtain ⟨hq, z⟩ := z
    have subE := sub_enumerate
    have isT : Heap.IsTuple (Shared.heap ⟨hp, g, d, tk, os⟩) q its := ⟨_, hq, rfl, m, rfl⟩
    wp_walk using wpAny_loadPart' hq
    refine wpAny_stack_any fun st => wpAny_pure ?_
    split
    · rename_i c _ _ _ _ _
      cases (c == Value.type "enumerate")
      · wp_walk using wpAny_loadPart' hq, wpAny_pyIter_tuple isT
        exact ⟨_, rfl, z⟩
      · wp_walk using wpAny_loadPart' hq, wpAny_pyIter_tuple isT
        exact ⟨_, rfl, z⟩
    · wp_walk using wpAny_loadPart' hq, wpAny_pyIter_tuple isT
      exact ⟨_, rfl, z⟩
section
variable {prog : Program} {w : World} {A : Around} {E : Value → Shared → Prop} {s : Shared}
theorem call_enum_tuple {q : Addr} {its : Array Value} {Q : Value → Shared → Prop} (hT : s.heap.IsTuple q its)
    (k : ∀ h', IsEnum h' (s.heap.objs.size + 1) s.heap.objs.size 0 .none → h'.IsTupleIter s.heap.objs.size q 0 → (∀ b o, s.heap.get? b = some o → h'.get? b = some o) → Q (.ref (s.heap.objs.size + 1)) { s with heap := h' }) :
    wpAny (model prog w) A (call (.type "enumerate") [.ref q]) Q E s := by
  obtain ⟨⟨c, dct, dt, sl⟩, hq, hc, m, hd⟩ := hT
  have hc : c = .type "tuple" := hc
  have hd : dt = .seq its m := hd
  subst hc hd
  refine callType_new F.called_enumerate (by decide) (F.typeCall_enumerate_1 _) (F.newCall_enumerate_1 _) (fun ob => F.args_object_init_2 ob _) F.entry_enumerate_new (made_enum_tuple q its m dct sl) ⟨hq, ?_⟩
  have sz : (s.heap.push { cls := .type "tuple_iterator", data := .fields #[.ref q, .int 0 0] }).objs.size = s.heap.objs.size + 1 := Heap.size_push ..
  show _ ∧ _
  rw [sz]
  have ie : IsEnum ((s.heap.push { cls := .type "tuple_iterator", data := .fields #[.ref q, .int 0 0] }).push
      { cls := .type "enumerate", data := .fields #[.none, .bool false, .ref s.heap.objs.size, rawInt 0, .none, .none] }) (s.heap.objs.size + 1) s.heap.objs.size 0 .none := by
    have z := Heap.get?_push_size (s.heap.push { cls := .type "tuple_iterator", data := .fields #[.ref q, .int 0 0] })
      (o := { cls := .type "enumerate", data := .fields #[.none, .bool false, .ref s.heap.objs.size, rawInt 0, .none, .none] }) rfl
    rw [sz] at z
    exact z
  exact ⟨⟨_, ie, rfl⟩, k _ ie ⟨_, Heap.get?_push_of_some _ (Heap.get?_push_size _ rfl), rfl, rfl⟩ fun b o x => Heap.get?_push_of_some _ (Heap.get?_push_of_some _ x)⟩
end
end PySem
namespace Ts
open PySem PySem.Spec PyProof.Rows L2
open Evl (Ex)
/-- the tuple at a: pairs of index and item, in new tuples -/
def ItE (K : PySem.W.Frag) (a : Addr) : It :=
  ⟨fun i H => ∃ (xs : List V) (x : V), SqT K H a xs ∧ xs[i]? = some x, fun i H v H' => ∃ T x, v = .ref T ∧ H T = none ∧ H' = upd H T (.tup [.int (i : Nat), x]) ∧ ∀ xs, SqT K H a xs → xs[i]? = some x,
    fun i H => ∃ xs : List V, SqT K H a xs ∧ xs.length = i⟩
theorem turn_enumE {P : Program} {w : World} {K : PySem.W.Frag} {elts : List Expr} {kk : Nat} {tpos : Pos} (a e it : Addr) :
    Turn P w K (.Tuple elts kk tpos) (ItE K a) [e, it] e (fun i h => (∃ old, IsEnum h e it ((i : Nat) : Int) old) ∧ h.IsTupleIter it a i ∧ e ≠ it) where
  mem := by simp
  obj := fun i h st b hb => by
    obtain ⟨⟨old, ie⟩, ⟨o, ho, hc, hd⟩, _⟩ := st
    have eb : b = e ∨ b = it := by simpa using hb
    rcases eb with rfl | rfl
    · exact ⟨_, ie, fun v q => nomatch q⟩
    · exact ⟨o, ho, fun v q => by rw [hd] at q; cases q⟩
  keep := fun i h h' ⟨⟨old, ie⟩, hi, ne⟩ k => ⟨⟨old, k e (by simp) _ ie⟩, hi.at fun o q => k it (by simp) o q, ne⟩
  item := by
    intro X hP hw hK hc i pins s σ H E I hf st hg
    subst hP hw hK
    obtain ⟨⟨old, ie⟩, hit, ne⟩ := st
    obtain ⟨xs, x, hq, hx⟩ := hg
    obtain ⟨its, rv, pt, hz⟩ := I.tuple hq
    obtain ⟨u, hu, ru⟩ := rv.get hx
    have tup : s.heap.IsTuple a its.toArray := pt
    have lte : e < s.heap.objs.size := Heap.lt_size ie
    have lti : it < s.heap.objs.size := by
      obtain ⟨_, q, _⟩ := hit
      exact Heap.lt_size q
    have nea : e ≠ a := fun z => by
      obtain ⟨o, q1, q2, _⟩ := tup
      rw [← z, ie] at q1
      cases q1
      exact absurd (Value.type.inj q2) (by decide)
    have nia : a ≠ it := fun z => by
      obtain ⟨o, q1, q2, _⟩ := tup
      obtain ⟨o', p1, p2, _⟩ := hit
      rw [z, p1] at q1
      cases q1
      rw [p2] at q2
      exact absurd (Value.type.inj q2) (by decide)
    have hi : i < its.toArray.size := by
      have := (List.getElem?_eq_some_iff.mp hu).1
      simpa using this
    refine wpAny_pyNext_enum_itemD (Draws.tuple (A := X.A.in1) (I.ok.hd hc) it a nia its.toArray) ie ⟨hit, tup⟩ hi ne (by simp [ne, nea]) fun v h' tk hv ho hst hT hsz hk => ?_
    obtain rfl : v = u := by
      have z : its.toArray[i]? = some v := hv
      rw [List.getElem?_toArray, hu] at z
      exact (Option.some.inj z).symm
    refine ⟨_, rfl, wpAny_letOwnedTupleGo_enum (s := { s with heap := h', toks := tk + 1 }) ho fun g he' sb => ?_⟩
    have hT2 : g.get? s.heap.objs.size = some { cls := .type "tuple", data := .seq #[.int i tk, v] } := (sb.2 _ (Nat.ne_of_gt lte)).trans hT
    have new : ObjOk X.prog X.w (upd H s.heap.objs.size (.tup [.int (i : Nat), x])) g s.heap.objs.size (.tup [.int (i : Nat), x]) := ⟨by show 2 ≤ sizeLine; decide, [.int i tk, v], .cons ⟨_, rfl⟩ (.cons ru .nil), ⟨_, hT2, rfl, _, rfl⟩⟩
    have J : Inv X pins σ (upd H s.heap.objs.size (.tup [.int (i : Nat), x])) { s with heap := g, toks := tk + 1 } :=
      I.turnedNew (ch := [e, it]) (fun b ob hb q => by
        have n1 : b ≠ e := fun z => hb (by simp [z])
        have n2 : b ≠ it := fun z => hb (by simp [z])
        exact (sb.2 b n1).trans (hk b ob n1 n2 q)) hf (Nat.le_refl _) new
    refine ⟨.ref s.heap.objs.size, _, J, rfl, ⟨_, x, rfl, I.hok.fresh (Nat.le_refl _), rfl, fun ys hy => by rw [I.tuple_inj hy hq]; exact hx⟩, ⟨⟨v, ?_⟩, hst.1.at fun o q => (sb.2 it (Ne.symm ne)).trans q, ne⟩, fun b hb => ?_⟩
    · have e1 : ((i + 1 : Nat) : Int) = (i : Int) + 1 := by omega
      rw [e1]
      exact he'
    · have hb' : b < s.heap.objs.size := by
        have eb : b = e ∨ b = it := by simpa using hb
        rcases eb with rfl | rfl
        · exact lte
        · exact lti
      rw [upd_ne (Nat.ne_of_lt hb')]
      exact (hf b hb).1
  done := by
    intro X hP hw hK hc i pins s σ H E I hf st hg
    subst hP hw hK
    obtain ⟨⟨old, ie⟩, hit, ne⟩ := st
    obtain ⟨xs, hq, hx⟩ := hg
    obtain ⟨its, rv, pt, hz⟩ := I.tuple hq
    have tup : s.heap.IsTuple a its.toArray := pt
    have nia : a ≠ it := fun z => by
      obtain ⟨o, q1, q2, _⟩ := tup
      obtain ⟨o', p1, p2, _⟩ := hit
      rw [z, p1] at q1
      cases q1
      rw [p2] at q2
      exact absurd (Value.type.inj q2) (by decide)
    obtain ⟨f0, f1, f2, f3, f4, f5⟩ := hf it (by simp)
    have hl := rv.length
    have en : i = its.toArray.size := by
      rw [List.size_toArray]
      omega
    subst en
    exact wpAny_pyNext_enum_endD (Draws.tuple (A := X.A.in1) (I.ok.hd hc) it a nia its.toArray) ie ⟨hit, tup⟩ fun h' eb => ⟨rfl, I.turned (t' := s.toks) (fun b o hb q => eb b o hb q) f0 f1 f3 f4 f5⟩
  self := fun A i s Q E ⟨⟨_, ie⟩, _⟩ k => wpAny_pyIter_enum ie k
def iEnT (K : PySem.W.Frag) (ta : TA) : TI := fun σ H R => ta σ H fun vs H1 => ∃ a xs, vs = [.ref a] ∧ SqT K H1 a xs ∧ R (ItE K a) H1
theorem pi_enumT {X : Cx} {e : Expr} {ta : TA} {p pos tpos : Pos} {elts : List Expr} {kk : Nat} (hg : Gl X "enumerate") (hm : X.mg "enumerate" = none) (ha : PA X [e] ta) (hs : starEach [e] X.env = [(false, eval e X.env)] := by rfl) :
    PI X (.Tuple elts kk tpos) (.Call (.Name "enumerate" p) [e] [] pos) (iEnT X.K ta) := by
  refine ⟨fun pins s σ H R I h => ?_⟩
  refine Call_ (ld_blt I hg hm boot_enumerate (PyProof.Rows.callWith_type1 (thn (ha.run pos pins s σ H _ I h) fun us s1 z => ?_) hs rfl))
  obtain ⟨vs, H1, I1, r1, a, xs, rfl, hq, q⟩ := z
  obtain rfl := Vals.ref1 r1
  obtain ⟨its, rv, pt, hz⟩ := I1.tuple hq
  refine call_enum_tuple (show s1.heap.IsTuple a its.toArray from pt) fun h' ie hit hk => wpAny_pyIter_enum ie ?_
  have I2 : Inv X pins σ H1 { s1 with heap := h' } := I1.kept (t' := s1.toks) hk
  refine ⟨s1.heap.objs.size + 1, [s1.heap.objs.size + 1, s1.heap.objs.size], _, _, H1, rfl, I2, turn_enumE a (s1.heap.objs.size + 1) s1.heap.objs.size, ⟨⟨.none, ie⟩, hit, Nat.succ_ne_self _⟩, fun b hb => ?_, q⟩
  have hle : s1.heap.objs.size ≤ b := by
    have eb : b = s1.heap.objs.size + 1 ∨ b = s1.heap.objs.size := by simpa using hb
    rcases eb with z | z
    · rw [z]
      exact Nat.le_succ _
    · rw [z]
      exact Nat.le_refl _
  exact I1.fpOk hle (I1.hok.fresh hle)
end Ts


set_option Elab.async false
set_option linter.all false
set_option maxRecDepth 100000
set_option maxHeartbeats 4000000
namespace Ts
open PySem PySem.Spec L2
open Evl (Ex)
theorem walk_enumT {K : PySem.W.Frag} {a : Addr} {xs : List V} : Walk (ItE K a) xs.length (fun H => SqT K H a xs) (YPair (fun i => some (.int (i : Nat))) (fun i => xs[i]?)) := by
  refine ⟨fun i _ hi q => ⟨xs, xs[i], q, by simp [hi]⟩, fun _ q => ⟨xs, q, rfl⟩, fun i H v H' _ q y => ?_⟩
  obtain ⟨T, x, h1, h2, h3, h4⟩ := y
  exact ⟨T, .int (i : Nat), x, h1, h2, h3, rfl, h4 xs q⟩
/-- for (.., ..) in enumerate(row) -/
theorem for_enum_row {K : PySem.W.Frag} {i : Nat} {g : TG} {tb : TS} {D : Ends} {σ : L2.St} {H : Hp} {a : Addr} {xs : List V} (hσ : σ[i]? = some (some (.ref a))) (hr : Row H a xs) (Pv : Nat → L2.St → Hp → Prop) (h0 : Pv 0 σ H) (hG : ∀ j σ' H', Pv j σ' H' → ∀ o, H a = some o → H' a = some o)
    (hs : ∀ j x σ' H' T, xs[j]? = some x → Pv j σ' H' → H' T = none → g (.ref T) σ' (upd H' T (.tup [.int (j : Nat), x])) fun σ2 H2 => tb { D with nx := Pv (j + 1), ct := Pv (j + 1), bk := D.nx } σ2 H2) (hd : ∀ σ' H', Pv xs.length σ' H' → D.nx σ' H') :
    tFor (iOr (iEnum K (tCons (tVar i) tNil)) (iEnT K (tCons (tVar i) tNil))) g tb D σ H := by
  have step : ∀ j x σ' H' H'', j < xs.length → Pv j σ' H' → YPair (fun i => some (.int (i : Nat))) (fun i => xs[i]?) j H' x H'' → g x σ' H'' fun σ2 H2 => tb { D with nx := Pv (j + 1), ct := Pv (j + 1), bk := D.nx } σ2 H2 := fun j x σ' H' H'' hj p y => by
    obtain ⟨T, u, v, rfl, hT, rfl, h1, h2⟩ := y
    cases h1
    exact hs j v σ' H' T h2 p hT
  rcases hr with h | h
  · exact .inl ⟨_, hσ, a, xs, rfl, SqL.of h, for_it (walk_enum (xs := xs)) Pv h0 (fun j σ' H' _ p => SqL.of (hG j σ' H' p _ h)) step hd⟩
  · exact .inr ⟨_, hσ, a, xs, rfl, SqT.of h, for_it (walk_enumT (xs := xs)) Pv h0 (fun j σ' H' _ p => SqT.of (hG j σ' H' p _ h)) step hd⟩
/-- the rule that data tell -/
def hiOf : PyData → Option Int
  | .int h => some h
  | _ => none
def rlOf (d : PyData) : Rl := match items d with
  | [.int lo, hi, .str le, .int re, .int mo] => ⟨lo, hiOf hi, le, re, mo⟩
  | _ => ⟨0, none, Str.empty, 0, 0⟩
/-- what holds of a rule -/
structure Rl.Ok (r : Rl) : Prop where
  left : inV (.str r.left) lefts = true
  low0 : 0 ≤ r.low
  low1 : r.low = 0 → V.str r.left = V.str "two"
  rest0 : 0 ≤ r.rest
  rest1 : r.rest < r.mod
  grow : r.high = none → r.mod = 1 ∧ V.str r.left ≠ V.str "two"
  high : ∀ h, r.high = some h → r.low ≤ h
theorem rule_of {d : PyData} (h : isRule d = true) : isRow d = true ∧ items d = [.int (rlOf d).low, hiD (rlOf d).high, .str (rlOf d).left, .int (rlOf d).rest, .int (rlOf d).mod] ∧ (rlOf d).Ok := by
  unfold isRule at h
  obtain ⟨hr, h⟩ := Bool.and_eq_true_iff.mp h
  refine ⟨hr, ?_⟩
  unfold rlOf
  split at h
  · rename_i lo hi le re mo e
    rw [e]
    unfold rule5 at h
    obtain ⟨h1, h⟩ := Bool.and_eq_true_iff.mp h
    obtain ⟨h2, h⟩ := Bool.and_eq_true_iff.mp h
    obtain ⟨h3, h4⟩ := Bool.and_eq_true_iff.mp h
    obtain ⟨h2a, h2b⟩ := Bool.and_eq_true_iff.mp h2
    obtain ⟨h3a, h3⟩ := Bool.and_eq_true_iff.mp h3
    obtain ⟨h3b, h3c⟩ := Bool.and_eq_true_iff.mp h3
    obtain ⟨ilo, rfl, lo0⟩ := isNum_int h2a
    obtain ⟨ire, rfl, re0⟩ := isNum_int h3a
    obtain ⟨imo, rfl, mo0⟩ := isNum_int h3b
    cases le with
    | str le =>
      have h3c : ire < imo := of_decide_eq_true h3c
      have low1 : ilo = 0 → V.str le = V.str "two" := fun z => by
        have h2b : (!(decide (ilo = 0) && !decide (V.str le = V.str "two"))) = true := h2b
        rw [decide_eq_true z] at h2b
        exact of_decide_eq_true (by simpa using h2b)
      cases hi with
      | none =>
        have h4 : (decide (imo = 1) && !decide (V.str le = V.str "two")) = true := h4
        obtain ⟨q1, q2⟩ := Bool.and_eq_true_iff.mp h4
        exact ⟨rfl, h1, lo0, low1, re0, h3c, fun _ => ⟨of_decide_eq_true q1, of_decide_eq_false (by simpa using q2)⟩, fun _ z => by cases z⟩
      | int i =>
        have h4 : (isNum (.int i) && decide (ilo ≤ i)) = true := h4
        obtain ⟨q1, q2⟩ := Bool.and_eq_true_iff.mp h4
        exact ⟨rfl, h1, lo0, low1, re0, h3c, (fun z => by cases z), (fun h z => by cases z; exact of_decide_eq_true q2)⟩
      | _ => exact absurd h4 (by intro z; cases z)
    | _ => cases h1
  · cases h
/-- the first that can't stand -/
def faultAt : List PyData → Nat → List Rl → Bool → Bool → Option Nat
  | [], _, _, _, _ => none
  | d :: ds, i, seen, g, s =>
    if isRule d = true then
      if decide (rlOf d ∈ seen) = true then some i
      else if ((g || (rlOf d).high.isNone) && (s || decide (V.str (rlOf d).left = V.str "two"))) = true then some i
      else faultAt ds (i + 1) (seen ++ [rlOf d]) (g || (rlOf d).high.isNone) (s || decide (V.str (rlOf d).left = V.str "two"))
    else some i
theorem faultAt_cons (d : PyData) (ds : List PyData) (i : Nat) (seen : List Rl) (g s : Bool) : faultAt (d :: ds) i seen g s = if isRule d = true then
      if decide (rlOf d ∈ seen) = true then some i
      else if ((g || (rlOf d).high.isNone) && (s || decide (V.str (rlOf d).left = V.str "two"))) = true then some i
      else faultAt ds (i + 1) (seen ++ [rlOf d]) (g || (rlOf d).high.isNone) (s || decide (V.str (rlOf d).left = V.str "two"))
    else some i := rfl
def faultV (d : PyData) : V := if isRow d = true then (match faultAt (items d) 0 [] false false with
  | some i => .int (i : Nat)
  | none => .non) else .int 0
/-- tuple(..) of a row -/
theorem tup_row {K : PySem.W.Frag} {i : Nat} {σ : L2.St} {H : Hp} {Q : VK} {b : Addr} {ys : List V} (hσ : σ[i]? = some (some (.ref b))) (hr : Row H b ys) (k : ∀ t H', Ex H H' → H' t = some (.tup ys) → Q (.ref t) H') :
    tCB (fun xs H Q => ∃ p ys, xs = [.ref p] ∧ ((SqL K H p ys ∧ ∀ l, H l = none → Q (.ref l) (upd H l (.tup ys))) ∨ (SqT K H p ys ∧ Q (.ref p) H))) (tCons (tVar i) tNil) σ H Q :=
  ⟨_, hσ, by
    rcases hr with h | h
    · exact ⟨b, _, rfl, .inl ⟨SqL.of h, fun l nl => k l _ (Ex.new nl) upd_same⟩⟩
    · exact ⟨b, _, rfl, .inr ⟨SqT.of h, k b H (Ex.refl _) h⟩⟩⟩
/-- x or y, of bools -/
theorem or_of {i : Nat} {tb : TE} {σ : L2.St} {H : Hp} {Q : VK} {g g2 : Bool} (hσ : σ[i]? = some (some (.bl g))) (hb : ∀ q : VK, (∀ H', Ex H H' → q (.bl g2) H') → tb σ H q) (k : ∀ H', Ex H H' → Q (.bl (g || g2)) H') : tOrV (tVar i) tb σ H Q :=
  ⟨_, hσ, g, rfl, by
    cases g with
    | true => exact iteT (k H (Ex.refl H))
    | false => exact iteF (hb _ k)⟩
section
variable {P : Program} {w : World} {K : PySem.W.Frag} {mg : Str → Option Value} {base : Heap}
abbrev s_fault := top 23
theorem sc_fault : FnScope ["thing", "seen", "grows", "splits", "index", "part"] ["thing"] (defScope s_fault) := ⟨rfl, rfl, rfl, by decide +kernel, rfl, by decide +kernel, by decide +kernel⟩
def spFault : Sp := fun vs H Q _ => ∃ v d, vs = [v] ∧ D H v d ∧ (items d).length ≤ 1000 ∧ ∀ H', Ex H H' → Q (faultV d) H'
theorem ok_fault {f f1 f2 f3 f4 : Addr} {fd fd1 fd2 fd3 fd4 : FuncData} (F : FD K mg "rules_fault" "rules_fault" s_fault f fd) (F_row : FD K mg "is_row" "is_row" s_is_row f1 fd1) (F_rule : FD K mg "is_rule" "is_rule" s_is_rule f2 fd2) (G_rule : FnOk P w K mg base CX0 3 f2 fd2 ["thing"] (spAsk isRule))
    (F_gr : FD K mg "is_growing" "is_growing" s_growing f3 fd3) (F_sp : FD K mg "is_splitting" "is_splitting" s_splitting f4 fd4) (T : Bl mg) (henum : mg "enumerate" = none) : FnOk P w K mg base CX0 4 f fd ["thing"] spFault := by
  have G_row : FnOk P w K mg base CX0 1 f1 fd1 ["thing"] (spAsk isRow) := ok_is_row F_row T
  have G_gr : FnOk P w K mg base CX0 1 f3 fd3 ["rule"] _ := ok_growing F_gr
  have G_sp : FnOk P w K mg base CX0 1 f4 fd4 ["rule"] _ := ok_splitting F_sp
  have b_row := b_is_row F_row
  have b_rule : Binds K fd2 ["thing"] [] := F_rule.F.binds fun _ _ _ _ _ _ us hl => match us, hl with | [_], _ => rfl
  have b_gr : Binds K fd3 ["rule"] [] := F_gr.F.binds fun _ _ _ _ _ _ us hl => match us, hl with | [_], _ => rfl
  have b_sp : Binds K fd4 ["rule"] [] := F_sp.F.binds fun _ _ _ _ _ _ us hl => match us, hl with | [_], _ => rfl
  refine F.F.ok sc_fault (fun vs H Q E h => ?_) (fun cdv A outer s H vs Q E hr h => ?_)
  · obtain ⟨v, d, rfl, _⟩ := h
    rfl
  · obtain ⟨v, d, rfl, hd, hz, k⟩ := h
    have nd := sc_fault.nd
    have hu := Nat.lt_of_le_of_lt (Nat.add_le_add_left (by decide : 16 ≤ 64) _) hr.units
    refine ⟨_, (pss_cons (ps_if (pt_not (pt_val (pe_call G_row (hr.mono (by decide)) (by rfl) F_row.g F_row.F.kp b_row .nil pass0 (pa_cons (pv 0) pa_nil)))) (pss_one (ps_ret pe_int)) pss_nil)
      (pss_cons (ps_set (i := 1) nd rfl (Or.inl rfl) pe_dnewR)
      (pss_cons (ps_asg2 pe_bl (pg_name (i := 2) nd rfl (Or.inl rfl)) (pg_name (i := 3) nd rfl (Or.inl rfl)))
      (pss_cons (ps_for PassesOwn.never rfl (pi_or (pi_enum (by rfl) henum (pa_cons (pv 0) pa_nil)) (pi_enumT (by rfl) henum (pa_cons (pv 0) pa_nil))) (pg_tup rfl (pgs_cons (pg_name (i := 4) nd rfl (Or.inl rfl)) (pgs_cons (pg_name (i := 5) nd rfl (Or.inl rfl)) pgs_nil))) (pss_cons (ps_if (PW.pt (pw_or (pt_not (pt_val (pe_call G_rule (hr.mono (by decide)) (by rfl) F_rule.g F_rule.F.kp b_rule .nil pass0 (pa_cons (pv 5) pa_nil)))) (pw_or1 (pt_cmpR (op_inR hu) (pe_callTy call_tuple_of (by rfl) T.tuple PyProof.Rows.boot_tuple (pa_cons (pv 5) pa_nil)) (pv 1) (by rfl))))) (pss_one (ps_ret (pv 4))) pss_nil)
      (pss_cons (ps_set (i := 2) nd rfl (Or.inl rfl) (pe_or (pv 2) (pe_one (pe_call G_gr (hr.mono (by decide)) (by rfl) F_gr.g F_gr.F.kp b_gr .nil pass0 (pa_cons (pv 5) pa_nil)))))
      (pss_cons (ps_set (i := 3) nd rfl (Or.inl rfl) (pe_or (pv 3) (pe_one (pe_call G_sp (hr.mono (by decide)) (by rfl) F_sp.g F_sp.F.kp b_sp .nil pass0 (pa_cons (pv 5) pa_nil)))))
      (pss_cons (ps_if (PW.pt (pw_and (pt_val (pv 2)) (pw_and1 (pt_val (pv 3))))) (pss_one (ps_ret (pv 4))) pss_nil)
      (pss_one (ps_asg pe_bl (pg_sub (pv 1) (pe_callTy call_tuple_of (by rfl) T.tuple PyProof.Rows.boot_tuple (pa_cons (pv 5) pa_nil)) (set_R hu)))))))))
      (pss_one (ps_ret pe_non)))))), ?_⟩
    refine ⟨_, rfl, v, d, rfl, hd, fun H1 e1 => ⟨_, rfl, ?_⟩⟩
    by_cases hrw : isRow d = true
    · obtain ⟨a, xs, rfl, hrow, hall⟩ := hd.row hrw
      rw [hrw]
      refine iteF (fun q nq => ?_)
      have hlen := hall.len
      have e2 := Ex.new (o := SeenO P w q []) nq
      have hq : upd H1 q (SeenO P w q []) q = some (SeenO P w q []) := upd_same
      have E2 : Ex H (upd H1 q (SeenO P w q [])) := e1.trans e2
      have Hq : H q = none := Evl.fresh_back e1 nq
      have hv : ∀ H', Ex H H' → Q (match faultAt (items d) 0 [] false false with
          | some i => .int (i : Nat)
          | none => .non) H' := fun H' e => by
        have z := k H' e
        unfold faultV at z
        rw [if_pos hrw] at z
        exact z
      have ha2 : ∀ o, upd H1 q (SeenO P w q []) a = some o → ∀ H', Ex H H' → H' a = some o := fun o ho H' e => by
        rcases hrow with h | h
        · rw [E2 _ _ h] at ho
          rw [← ho]
          exact e _ _ h
        · rw [E2 _ _ h] at ho
          rw [← ho]
          exact e _ _ h
      refine for_enum_row (K := K) (i := 0) (a := a) (xs := xs) rfl (hrow.ex E2) (fun j σ H' => ∃ (ks : List (Rl × Addr)) (g s : Bool) (v4 v5 : Option V), σ = [some (.ref a), some (.ref q), some (.bl g), some (.bl s), v4, v5] ∧ Ex H H' ∧ H' q = some (SeenO P w q ks) ∧ SeenK H' ks ∧ ks.length ≤ j ∧ faultAt (items d) 0 [] false false = faultAt ((items d).drop j) j (ks.map (·.1)) g s)
        ⟨[], false, false, none, none, rfl, E2, hq, (fun p hp => by cases hp), Nat.le_refl _, rfl⟩ (fun j σ' H' q' o ho => ?_) (fun j x σ' H' Tq hx q' nT => ?_) (fun σ' H' q' => ?_)
      · obtain ⟨ks, g, s', v4, v5, _, e, _⟩ := q'
        exact ha2 o ho H' e
      · obtain ⟨ks, g, s', v4, v5, rfl, e, hq', hk, hl, hf⟩ := q'
        obtain ⟨dx, hdx, Dx⟩ := hall.get hx
        have eT := Ex.new (o := .tup [.int (j : Nat), x]) nT
        have hT : upd H' Tq (.tup [.int (j : Nat), x]) Tq = some (.tup [.int (j : Nat), x]) := upd_same
        generalize upd H' Tq (.tup [.int (j : Nat), x]) = H3 at eT hT
        have hj : (items d).drop j = dx :: (items d).drop (j + 1) := by
          have q := (List.getElem?_eq_some_iff.mp hdx)
          obtain ⟨q1, q2⟩ := q
          rw [List.drop_eq_getElem_cons q1, q2]
        rw [hj] at hf
        have e3 := e.trans eT
        refine ⟨Tq, _, rfl, SqT.of hT, rfl, _, _, rfl, _, _, rfl, rfl, ?_⟩
        have no : faultAt (items d) 0 [] false false = some j → ∀ H', Ex H H' → Q (.int (j : Nat)) H' := fun z H' e => by
          have q := hv H' e
          rw [z] at q
          exact q
        refine ⟨_, rfl, x, dx, rfl, Dx.ex e3, fun H4 e4 => ⟨_, rfl, ?_⟩⟩
        have e34 := e3.trans e4
        cases cr : isRule dx with
        | false =>
          refine iteT ?_
          rw [faultAt_cons, cr, if_neg Bool.false_ne_true] at hf
          exact ⟨_, rfl, no hf H4 e34⟩
        | true =>
          refine iteF ?_
          rw [faultAt_cons, cr, if_pos rfl] at hf
          obtain ⟨rr, rit, rok⟩ := rule_of cr
          obtain ⟨b, ys, rfl, brow, ball⟩ := (Dx.ex e34).row rr
          rw [rit] at ball
          have eys : ys = (rlOf dx).vs := by
            obtain ⟨v1, v2, v3, v4, v5, rfl, h1, h2, h3, h4, h5⟩ := ball.five
            obtain rfl := h1.int_of
            obtain rfl := h4.int_of
            obtain rfl := h5.int_of
            unfold Rl.vs
            cases h3
            cases hh : (rlOf dx).high with
            | none =>
              rw [hh] at h2
              cases h2
              rfl
            | some i =>
              rw [hh] at h2
              obtain rfl := h2.int_of
              rfl
          subst eys
          generalize rlOf dx = r at hf brow rok ball
          have hq4 := e4 _ _ (eT _ _ hq')
          have hk4 : SeenK H4 ks := fun p hp => e4 _ _ (eT _ _ (hk p hp))
          -- tuple(part)
          unfold tTest tOp
          dsimp only
          refine tup_row (i := 5) (b := b) (ys := r.vs) rfl brow (fun t H5 e5 ht => ?_)
          have e35 := e34.trans e5
          have hk5 : SeenK H5 ks := fun p hp => e5 _ _ (hk4 p hp)
          refine ⟨_, rfl, t, q, r, ks, rfl, rfl, ht, e5 _ _ hq4, hk5, _, rfl, ?_⟩
          cases cm : decide (r ∈ ks.map (·.1)) with
          | true =>
            refine iteT ?_
            rw [cm, if_pos rfl] at hf
            exact ⟨_, rfl, no hf H5 e35⟩
          | false =>
            refine iteF ?_
            rw [cm, if_neg Bool.false_ne_true] at hf
            refine or_of (g := g) (g2 := r.high.isNone) rfl (fun qq kk => ⟨_, rfl, b, r, rfl, brow.ex e5, fun H6 e6 => kk H6 e6⟩) (fun H6 e6 => ?_)
            refine or_of (g := s') (g2 := decide (V.str r.left = V.str "two")) rfl (fun qq kk => ⟨_, rfl, b, r, rfl, brow.ex (e5.trans e6), fun H7 e7 => kk H7 e7⟩) (fun H7 e7 => ?_)
            have e57 := (e5.trans e6).trans e7
            have e37 := e34.trans e57
            generalize (g || r.high.isNone) = g' at hf
            generalize (s' || decide (V.str r.left = V.str "two")) = s'' at hf
            unfold gName tSeq tIfS
            dsimp only
            refine tand_of (b1 := g') (b2 := s'') (fun qq kk => ⟨_, rfl, _, rfl, kk⟩) (fun qq kk => ⟨_, rfl, _, rfl, kk⟩) ?_
            cases cg : (g' && s'') with
            | true =>
              refine iteT ?_
              rw [cg, if_pos rfl] at hf
              exact ⟨_, rfl, no hf H7 e37⟩
            | false =>
              refine iteF ?_
              rw [cg, if_neg Bool.false_ne_true] at hf
              refine ⟨_, rfl, tup_row (i := 5) (b := b) (ys := r.vs) (by rfl) (brow.ex e57) (fun t8 H8 e8 ht8 => ?_)⟩
              have e58 := e57.trans e8
              have hq8 := e58 _ _ hq4
              have hk8 : SeenK H8 ks := fun p hp => e58 _ _ (hk4 p hp)
              have hjl : j < (items d).length := (List.getElem?_eq_some_iff.mp hdx).1
              refine ⟨t8, q, r, ks, rfl, rfl, rfl, ht8, hq8, hk8, of_decide_eq_false cm, Nat.lt_of_le_of_lt (by omega : ks.length ≤ 1000) (by decide), ?_⟩
              have nq8 : ∀ p xs, H8 p = some (.tup xs) → p ≠ q := fun p xs hp z => by
                rw [z, hq8] at hp
                cases hp
              refine ⟨ks ++ [(r, t8)], _, _, _, _, rfl, (e34.trans e58).mut Hq, upd_same, fun p hp => ?_, by rw [List.length_append]; show ks.length + 1 ≤ j + 1; omega, ?_⟩
              · rcases List.mem_append.mp hp with hp | hp
                · rw [upd_ne (nq8 _ _ (hk8 p hp))]
                  exact hk8 p hp
                · rw [List.mem_singleton] at hp
                  rw [hp, upd_ne (nq8 _ _ ht8)]
                  exact ht8
              · rw [hf, List.map_append]
                rfl
      · obtain ⟨ks, g, s', v4, v5, rfl, e, hq', hk, hl, hf⟩ := q'
        have z := hv H' e
        rw [hf, List.drop_eq_nil_of_le (by rw [hlen]; exact Nat.le_refl _)] at z
        exact z
    · have hf : isRow d = false := by simpa using hrw
      rw [hf]
      have q := k H1 e1
      unfold faultV at q
      rw [hf] at q
      exact iteT q
end
end Ts


set_option Elab.async false
set_option linter.all false
set_option maxRecDepth 100000
set_option maxHeartbeats 4000000
/-! ## sorted by a def that tells texts -/
namespace Ts
open PySem PySem.Spec PyProof.Rows L2
open PySem.W (KeepsBut keyH_end copyHeap copyHeap_at copyHeap_old dataLe)
open Evl (Ex)
theorem each_vals : ∀ {bs : List (V × Str)} {vs : List Value}, Vals (bs.map (·.1)) vs → PySem.W.EachIs (fun (v : Value) (p : V × Str) => RelV p.1 v) vs bs
  | [], _, h => by
    cases h
    exact .nil
  | p :: t, _, h => by
    rw [List.map_cons] at h
    cases h with
    | cons r rr => exact .cons r (each_vals rr)
theorem vals_each : ∀ {vs : List Value} {bs : List (V × Str)}, PySem.W.EachIs (fun (v : Value) (p : V × Str) => RelV p.1 v) vs bs → Vals (bs.map (·.1)) vs
  | _, _, .nil => .nil
  | _, _, .cons r rr => .cons r (vals_each rr)
theorem each_reads {h : Heap} : ∀ {zs : List Str} {ks : List Value}, Vals (zs.map V.str) ks → PySem.W.EachIs (fun v k => ∃ as, Reads h v k as) ks (zs.map PyData.str)
  | [], _, r => by
    cases r
    exact .nil
  | z :: t, _, r => by
    rw [List.map_cons] at r
    cases r with
    | cons r rr =>
      obtain ⟨u, rfl⟩ := r
      exact .cons ⟨[], .str _ _⟩ (each_reads rr)
def rSortBy (K : PySem.W.Frag) (fA : Addr) (sp : Sp) : List V → List V → Hp → VK → Prop := fun vs zs H Q => ∃ (l : Addr) (bs : List (V × Str)), vs = [.ref l] ∧ zs = [.ref fA] ∧ SqL K H l (bs.map (·.1)) ∧
  (∀ p ∈ bs, ∀ H', Ex H H' → ∀ Q' : VK, (∀ H'', Ex H' H'' → Q' (.str p.2) H'') → sp [p.1] H' Q' fun _ _ _ => False) ∧
  ∀ (L : Addr) H', H L = none → Ex H H' → H' L = some (.lst ((bs.mergeSort (dataLe false fun p => PyData.str p.2)).map (·.1))) → Q (.ref L) H'
theorem cr_sortedBy {X : Cx} {fA : Addr} {fd : FuncData} {k : Nat} {x : Str} {sp : Sp} (F : FnOk X.prog X.w X.K X.mg X.base CX0 k fA fd [x] sp) (hr : Room (k + 2) X.A) (hb : Binds X.K fd [x] []) :
    CallRK X (.builtin "sorted") [Str.ofString "key"] (rSortBy X.K fA sp) := by
  intro pins s σ H xs zs us ws Q I r rz h
  obtain ⟨l, bs, rfl, rfl, hs, hsp, q⟩ := h
  obtain rfl := Vals.ref1 r
  obtain ⟨w1, rfl, e1⟩ := vals1 rz
  obtain rfl : w1 = Value.ref fA := e1
  obtain ⟨its, rv, hl, hz⟩ := I.list hs
  have hlen := rv.length
  rw [List.length_map] at hlen hz
  have hZ : its.length ≤ sizeLine := by omega
  refine PySem.W.sorted_of_sort hl.isList hZ (ksk_s1 _ _) (fun _ => ksk_l1 _ _) fun E' => ?_
  show wpAny _ _ (Builtin.«list.sort» ⟨[.ref (s.heap.objs.size + 1)], [(Str.ofString "key", .ref fA)]⟩) _ _ _
  rw [ksk_t1]
  generalize ha : s.heap.objs.size + 1 = a
  have ho : (copyHeap s.heap its).get? a = some (seqObj "list" its.toArray 0) := by
    rw [← ha]
    exact copyHeap_at _ _
  obtain ⟨ep, ho1⟩ : ∃ ep, ((copyHeap s.heap its).update a (Obj.mapSeq fun _ => (#[] : Array Value))).get? a = some (seqObj "list" #[] ep) := ⟨_, get?_update_seq ho fun _ => #[]⟩
  unfold ksk_tree
  refine wpAny_bind (listItems_at ho rfl ?_)
  refine wpAny_bind (listUpdate_at ho rfl ?_ (by rw [List.size_toArray]; exact hZ) (Nat.zero_le _))
  refine wpAny_bind (seqEpoch_at ho1 rfl ?_)
  refine wpAny_bind (wpAny_newTuple ?_ (by show its.length ≤ _; exact hZ))
  refine wpAny_bind (wpAny_newList ?_ (Nat.zero_le _))
  refine wpAny_holding ?_
  -- the heap in which the keys are asked
  have szc : (copyHeap s.heap its).objs.size = s.heap.objs.size + 2 := by
    unfold copyHeap
    rw [Heap.size_push, Heap.size_update, Heap.size_push]
  generalize hg1 : ((copyHeap s.heap its).update a (Obj.mapSeq fun _ => (#[] : Array Value))).push (seqObj "tuple" its.toArray 0) = g1
  have sz1 : g1.objs.size = s.heap.objs.size + 3 := by
    rw [← hg1, Heap.size_push, Heap.size_update, szc]
  have old1 : ∀ b o, s.heap.get? b = some o → g1.get? b = some o := fun b o e => by
    rw [← hg1]
    refine Heap.get?_push_of_some _ ?_
    have nb : b ≠ a := Nat.ne_of_lt (Nat.lt_of_lt_of_le (Heap.lt_size e) (by rw [← ha]; exact Nat.le_succ _))
    exact ((Heap.SameBut.update _ a _).2 b nb).trans (copyHeap_old e)
  have at1 : g1.get? a = some (seqObj "list" #[] ep) := by
    rw [← hg1]
    exact Heap.get?_push_of_some _ ho1
  have ls0 : (0 : Nat) ≤ sizeLine := Nat.zero_le _
  have lea : s.heap.objs.size ≤ a := by rw [← ha]; exact Nat.le_succ _
  have Ha : H a = none := I.hok.fresh lea
  have okA : ObjOk X.prog X.w (upd H a (.frz (seqObj "list" #[] ep) (.lst []))) g1 a (.frz (seqObj "list" #[] ep) (.lst [])) := ⟨at1, ls0, [], ep, .nil, at1⟩
  have I1 := I.laid (h' := g1) (t' := s.toks) (o := .frz (seqObj "list" #[] ep) (.lst [])) old1 lea okA
  generalize hkS : g1.objs.size = kS
  have hka : kS ≠ a := by
    rw [← hkS, ← ha, sz1]
    exact Nat.ne_of_gt (by omega)
  have at2 : (g1.push (seqObj "list" #[] 0)).get? kS = some (seqObj "list" #[] 0) := by
    rw [← hkS]
    exact Heap.get?_push_size _ rfl
  have HkS : upd H a (.frz (seqObj "list" #[] ep) (.lst [])) kS = none := I1.hok.fresh (by show g1.objs.size ≤ kS; rw [hkS]; exact Nat.le_refl _)
  have I2 := I1.laid (h' := g1.push (seqObj "list" #[] 0)) (t' := s.toks) (a := kS) (o := .lst []) (fun b o e => Heap.get?_push_of_some _ e) (by show g1.objs.size ≤ kS; rw [hkS]; exact Nat.le_refl _) ⟨ls0, [], 0, .nil, at2⟩
  generalize hH1 : upd (upd H a (.frz (seqObj "list" #[] ep) (.lst []))) kS (.lst []) = H1 at I2
  generalize hg2 : g1.push (seqObj "list" #[] 0) = g2 at I2 at2
  have old2 : ∀ b o, s.heap.get? b = some o → g2.get? b = some o := fun b o e => by
    rw [← hg2]
    exact Heap.get?_push_of_some _ (old1 b o e)
  have H1o : ∀ b, b ≠ a → b ≠ kS → H1 b = H b := fun b n1 n2 => by rw [← hH1, upd_ne n2, upd_ne n1]
  have H1a : H1 a = some (.frz (seqObj "list" #[] ep) (.lst [])) := by rw [← hH1, upd_ne (Ne.symm hka)]; exact upd_same
  have H1k : H1 kS = some (.lst []) := by rw [← hH1]; exact upd_same
  have eH1 : Ex H H1 := by
    rw [← hH1]
    exact (Ex.new Ha).trans (Ex.new HkS)
  unfold ksk_rest
  refine wpAny_bind (wpAny_rule ?_)
  rw [List.forIn_toArray]
  refine wpAny_bind (ksk_fold (fun j s' => ∃ H', Inv X pins σ H' s' ∧ Un (frs X.stack) [] H1 H' g2 s'.heap ∧ Ex H H' ∧ H' kS = some (.lst (((bs.map (·.2)).take j).map V.str)) ∧ H' a = some (.frz (seqObj "list" #[] ep) (.lst []))) its 0 _ ⟨H1, I2, Un.refl, eH1, by rw [List.take_zero]; exact H1k, H1a⟩ ?step ?done)
  case step =>
    rintro j v s' hv ⟨H', I', U', e', hk', ha'⟩
    simp only [Nat.zero_add] at hk' ⊢
    have hj : j < its.length := (List.getElem?_eq_some_iff.mp hv).1
    have hjb : j < bs.length := by omega
    have hp : bs[j]? = some bs[j] := List.getElem?_eq_getElem hjb
    generalize bs[j] = p at hp
    have rp : RelV p.1 v := by
      obtain ⟨u, hu, ru⟩ := rv.get (i := j) (x := p.1) (by rw [List.getElem?_map, hp]; rfl)
      rw [hv] at hu
      cases hu
      exact ru
    have room2 : Room k X.A.in1.in1 := Room.in1 (Room.in1 hr)
    have e0 := I'.env0
    have e2 : Env0 X.prog X.w X.K X.mg X.base X.A.in1.in1 X.stack s' H' := ⟨e0.frames, e0.mod, e0.bs, e0.bsz, e0.funs, e0.frf, e0.hok, e0.bare⟩
    have KX : X.K.In s'.heap := I'.kIn
    have run := F.run X.A.in1.in1 X.stack s' H' ⟨[v], []⟩ [v] [p.1] (fun u H'' => u = .str p.2 ∧ Ex H' H'') (fun _ _ _ => False) room2 e2 (by
      have z := hb s' [v] KX rfl
      rw [List.append_nil] at z
      exact z) (.cons rp .nil) (hsp p (List.mem_of_getElem? hp) H' e' _ fun H'' e'' => ⟨rfl, e''⟩)
    have called : wpAny (model X.prog X.w) X.A.in1.in1 (call (.ref fA) [v]) (fun u s'' => CE X.stack X.prog X.w H' s' (fun u H'' => u = .str p.2 ∧ Ex H' H'') u s'') (fun _ _ => False) s' := wpAny_call (codeAny_mono run fun res s'' hq => by
      rcases res with e | (_ | _ | _ | u) <;> first
        | exact (show False from hq).elim
        | exact hq)
    refine wpAny_bind (wpAny_attempt (wpAny_mono called (fun u s'' hu => ?_) fun _ _ z => z.elim))
    obtain ⟨w, H'', os, bare, un, hok, ru, rfl, e''⟩ := hu
    obtain ⟨hh, gg, dd, tt, oo⟩ := s''
    obtain rfl : oo = s'.os := os
    have I3 := I'.call (h' := hh) (g' := gg) (d' := dd) (t' := tt) (ch := []) un hok bare (fun b z => absurd z (by simp))
    try dsimp only
    have hk3 := e'' _ _ hk'
    have ha3 := e'' _ _ ha'
    obtain ⟨lk, its3, n3, rv3, at3⟩ := hok kS _ hk3
    have len3 := rv3.length
    have len3' : its3.length ≤ its.length := by
      rw [List.length_map, List.length_take] at len3
      omega
    refine wpAny_bind (listUpdate_at at3 rfl ?_ (by rw [List.size_toArray]; omega) (by rw [Array.size_push, List.size_toArray]; omega))
    have sb := Heap.SameBut.update hh kS (Obj.mapSeq (·.push u))
    obtain ⟨c3, at4⟩ : ∃ c3, (hh.update kS (Obj.mapSeq (·.push u))).get? kS = some (seqObj "list" (its3.toArray.push u) c3) := ⟨_, get?_update_seq at3 (·.push u)⟩
    have tk : ((bs.map (·.2)).take (j + 1)).map V.str = ((bs.map (·.2)).take j).map V.str ++ [.str p.2] := by
      rw [List.take_add_one, List.getElem?_map, hp]
      simp
    have new : ObjOk X.prog X.w (upd H'' kS (.lst (((bs.map (·.2)).take (j + 1)).map V.str))) (hh.update kS (Obj.mapSeq (·.push u))) kS (.lst (((bs.map (·.2)).take (j + 1)).map V.str)) := by
      refine ⟨?_, its3 ++ [u], c3, ?_, by rw [at4]; simp [seqObj]⟩
      · rw [List.length_map, List.length_take]
        omega
      · rw [tk]
        exact rv3.snoc ru
    have muK : Mut (H'' kS) := by
      rw [hk3]
      exact True.intro
    have I4 := I3.write (h' := hh.update kS (Obj.mapSeq (·.push u))) (t' := tt) (x := kS) (e := kS) muK (.inl rfl) (fun b o hb e => (sb.2 b hb).trans e) ⟨_, at4⟩ new
    refine wpAny_pure ⟨rfl, _, I4, (U'.trans un).trans (Un.write muK (.inl rfl) (fun b o hb e => (sb.2 b hb).trans e) ⟨_, at4⟩), ?_, upd_same, ?_⟩
    · refine (e'.trans e'').mut ?_
      exact Evl.fresh_back ((Ex.new (o := .frz (seqObj "list" #[] ep) (.lst [])) Ha)) HkS
    · rw [upd_ne (Ne.symm hka)]
      exact ha3
  case done =>
    rintro s' ⟨H', I', U', e', hk', ha'⟩
    have hall : (bs.map (·.2)).take (0 + its.length) = bs.map (·.2) := List.take_of_length_le (by rw [List.length_map]; omega)
    rw [hall] at hk'
    obtain ⟨lk, kA, n3, rvk, atk⟩ := I'.hok kS _ hk'
    obtain ⟨ata, _⟩ := I'.hok a _ ha'
    have ek := each_reads (h := s'.heap) rvk
    have kd : (bs.map fun p : V × Str => PyData.str p.2) = (bs.map (·.2)).map PyData.str := by
      rw [List.map_map]
      rfl
    have hal : PySem.W.AllAlike ((bs.map (·.2)).map PyData.str) := fun d hd d' hd' => by
      obtain ⟨z, _, rfl⟩ := List.mem_map.mp hd
      obtain ⟨z', _, rfl⟩ := List.mem_map.mp hd'
      rfl
    have hsk : PySem.W.Sortable ((bs.map (·.2)).map PyData.str) := .inr fun d hd => by
      obtain ⟨z, _, rfl⟩ := List.mem_map.mp hd
      exact ⟨(fun q => by cases q), (fun xs q => by cases q)⟩
    have hu : ∀ d, d ∈ (bs.map (·.2)).map PyData.str → X.A.in1.in1.units + d.depth < cLine := fun d hd => by
      obtain ⟨z, _, rfl⟩ := List.mem_map.mp hd
      have := (Room.in1 (Room.in1 hr)).un
      show _ + 0 < _
      omega
    have lenk := rvk.length
    rw [List.length_map, List.length_map] at lenk
    refine wpAny_bind (listItems_at atk rfl ?_)
    have kp : KeepsBut a (PySem.W.hideAll s'.heap [kS]) s'.heap := fun b o _ e => PySem.W.of_hideAll [kS] e
    refine keyH_end (κ := PySem.W.dataKind s'.heap ((bs.map (·.2)).map PyData.str)) (h₁ := PySem.W.hideAll s'.heap [kS]) kp (PySem.W.hideAll_none [kS] (by simp)) atk ata hka
      (PySem.W.SortsAt.data (by simpa using ek) hal hsk hu) (by rw [List.size_toArray]; omega) hZ fun h3 tk3 c k3 n4 => ⟨rfl, ?_⟩
    generalize hout : PySem.W.sortVals (PySem.W.dataKind s'.heap ((bs.map (·.2)).map PyData.str)) false kA.toArray.toList its = out at n4
    have ko : PySem.W.KeyedOut false (bs.map fun p : V × Str => PyData.str p.2) its out := by
      rw [kd]
      exact ⟨s'.heap, kA.toArray.toList, hal, hout.symm, by simpa using ek⟩
    have eo := PySem.W.keyedOut_each (fun p : V × Str => PyData.str p.2) ko (each_vals rv)
    have vo := vals_each eo
    generalize hys : (bs.mergeSort (dataLe false fun p => PyData.str p.2)).map (·.1) = ys at vo q
    have lys : ys.length ≤ sizeLine := by
      rw [← hys, List.length_map, List.length_mergeSort]
      exact hz
    have keep3 : ∀ b o, b ≠ a → b ≠ kS → s'.heap.get? b = some o → h3.get? b = some o := fun b o n1 n2 e => k3 b o n1 (PySem.W.hideAll_get [kS] e (by simpa using n2))
    have oldb : ∀ b o, s.heap.get? b = some o → b ≠ a ∧ b ≠ kS := fun b o e => by
      have lt := Heap.lt_size e
      refine ⟨Nat.ne_of_lt (Nat.lt_of_lt_of_le lt lea), Nat.ne_of_lt (Nat.lt_of_lt_of_le lt ?_)⟩
      rw [← hkS, sz1]
      omega
    let Hf : Hp := fun b => if b = a then some (.lst ys) else if b = kS then none else H' b
    have Hfa : Hf a = some (.lst ys) := if_pos rfl
    have Hfo : ∀ b, b ≠ a → b ≠ kS → Hf b = H' b := fun b n1 n2 => (if_neg n1).trans (if_neg n2)
    have Hfk : Hf kS = none := (if_neg hka).trans (if_pos rfl)
    have told : ∀ b u, H b = some u → b ≠ a ∧ b ≠ kS := fun b u e => by
      constructor
      · intro z
        rw [z, Ha] at e
        cases e
      · intro z
        rw [z] at e
        have w := Ex.new (o := .frz (seqObj "list" #[] ep) (.lst [])) Ha kS u e
        rw [HkS] at w
        cases w
    have okf : HOk X.prog X.w Hf h3 := fun b u e => by
      by_cases n1 : b = a
      · rw [n1, Hfa] at e
        cases e
        rw [n1]
        exact ⟨lys, out, c, vo, n4⟩
      · by_cases n2 : b = kS
        · rw [n2, Hfk] at e
          cases e
        · rw [Hfo b n1 n2] at e
          refine (I'.hok b u e).stay (fun c' v hc z => ?_) (fun c' z => ?_) (fun c' zs z => ?_)
          · have nca : c' ≠ a := fun w => by
              rcases hc with y | y
              · exact n1 (y.symm.trans w)
              · rw [w, ha'] at y
                cases y
            have nck : c' ≠ kS := fun w => by
              rcases hc with y | y
              · exact n2 (y.symm.trans w)
              · rw [w, hk'] at y
                cases y
            exact keep3 c' v nca nck z
          · have nca : c' ≠ a := fun w => by
              rw [w, ha'] at z
              cases z
            have nck : c' ≠ kS := fun w => by
              rw [w, hk'] at z
              cases z
            rw [Hfo c' nca nck]
            exact z
          · have nca : c' ≠ a := fun w => by
              rw [w, ha'] at z
              cases z
            have nck : c' ≠ kS := fun w => by
              rw [w, hk'] at z
              cases z
            rw [Hfo c' nca nck]
            exact z
    have un : Un (frs X.stack) [] H Hf s.heap h3 := {
      keep := fun b o e n hf hx => by
        obtain ⟨n1, n2⟩ := oldb b o e
        exact keep3 b o n1 n2 (U'.keep b o (old2 b o e) ((H1o b n1 n2).trans n) hf hx)
      slot := fun b o e n hf hx => by
        obtain ⟨n1, n2⟩ := oldb b o e
        obtain ⟨sl, z⟩ := U'.slot b o (old2 b o e) ((H1o b n1 n2).trans n) hf hx
        exact ⟨sl, keep3 b _ n1 n2 z⟩
      free := fun b o e n hx => by
        obtain ⟨n1, n2⟩ := oldb b o e
        rw [Hfo b n1 n2]
        exact U'.free b o (old2 b o e) ((H1o b n1 n2).trans n) hx
      there := fun b o e hx => by
        obtain ⟨n1, n2⟩ := oldb b o e
        obtain ⟨o', z⟩ := U'.there b o (old2 b o e) hx
        exact ⟨o', keep3 b o' n1 n2 z⟩
      tups := fun b zs e => by
        obtain ⟨n1, n2⟩ := told b _ e
        rw [Hfo b n1 n2]
        exact U'.tups b zs ((H1o b n1 n2).trans e)
      frzs := fun b o u e => by
        obtain ⟨n1, n2⟩ := told b _ e
        rw [Hfo b n1 n2]
        exact U'.frzs b o u ((H1o b n1 n2).trans e)
      tbls := fun b ps e => by
        obtain ⟨n1, n2⟩ := told b _ e
        rw [Hfo b n1 n2]
        exact U'.tbls b ps ((H1o b n1 n2).trans e) }
    have eF : Ex H Hf := fun b u e => by
      obtain ⟨n1, n2⟩ := told b u e
      rw [Hfo b n1 n2]
      exact e' b u e
    have os : s'.os = s.os := I'.os.trans I.os.symm
    obtain ⟨hh, gg, dd, tt, oo⟩ := s'
    obtain rfl : oo = s.os := os
    have If := I.call (h' := h3) (g' := gg) (d' := dd) (t' := tk3) (ch := []) un okf I'.bare (fun b z => absurd z (by simp))
    exact ⟨.ref a, Hf, If, rfl, q a Hf Ha eF Hfa⟩
end Ts


set_option Elab.async false
set_option linter.all false
set_option maxRecDepth 100000
set_option maxHeartbeats 4000000
namespace Ts
open PySem PySem.Spec L2
open PySem.W (dataLe)
open Evl (Ex)
/-- rules as their lines ascend -/
def sortR (rs : List Rl) : List Rl := rs.mergeSort (dataLe false fun r => PyData.str r.line)
/-- the tuples at ts are these rules -/
def RulesAt (H : Hp) (qs : List (Addr × Rl)) : Prop := ∀ q ∈ qs, H q.1 = some (.tup q.2.vs)
/-- a book stands at p -/
def BookAt (C : Addr) (H : Hp) (p : Addr) (rs : List Rl) : Prop := ∃ (dx L : Addr) (qs : List (Addr × Rl)), H p = some (.ins C dx [("_rules", .ref L)]) ∧ H L = some (.lst (qs.map fun q => V.ref q.1)) ∧ RulesAt H qs ∧ qs.map (·.2) = rs
def rTup (K : PySem.W.Frag) : List V → Hp → VK → Prop := fun xs H Q => ∃ p ys, xs = [V.ref p] ∧ ((SqL K H p ys ∧ ∀ l, H l = none → Q (.ref l) (upd H l (.tup ys))) ∨ (SqT K H p ys ∧ Q (.ref p) H))
theorem ms_map {α β : Type} (f : α → β) (k : β → PyData) (l : List α) : (l.mergeSort (dataLe false fun a => k (f a))).map f = (l.map f).mergeSort (dataLe false k) := List.map_mergeSort fun a _ b _ => rfl
theorem row_rule {H : Hp} {v : V} {d : PyData} (h : D H v d) (hr : isRule d = true) : ∃ b, v = .ref b ∧ Row H b (rlOf d).vs := by
  obtain ⟨rr, rit, rok⟩ := rule_of hr
  obtain ⟨b, ys, rfl, brow, ball⟩ := h.row rr
  rw [rit] at ball
  have eys : ys = (rlOf d).vs := by
    obtain ⟨v1, v2, v3, v4, v5, rfl, h1, h2, h3, h4, h5⟩ := ball.five
    obtain rfl := h1.int_of
    obtain rfl := h4.int_of
    obtain rfl := h5.int_of
    unfold Rl.vs
    cases h3
    cases hh : (rlOf d).high with
    | none =>
      rw [hh] at h2
      cases h2
      rfl
    | some i =>
      rw [hh] at h2
      obtain rfl := h2.int_of
      rfl
  rw [eys] at brow
  exact ⟨b, rfl, brow⟩
theorem fault_rules : ∀ {ds : List PyData} {i : Nat} {seen : List Rl} {g s : Bool}, faultAt ds i seen g s = none → ∀ e ∈ ds, isRule e = true
  | [], _, _, _, _, _, e, he => by cases he
  | d :: ds, i, seen, g, s, h, e, he => by
    rw [faultAt_cons] at h
    by_cases c : isRule d = true
    · rw [if_pos c] at h
      rcases List.mem_cons.mp he with rfl | he
      · exact c
      · split at h
        · cases h
        · split at h
          · cases h
          · exact fault_rules h e he
    · rw [if_neg c] at h
      cases h
/-- [tuple(rule) for rule in rules] -/
theorem lc_tuples {K : PySem.W.Frag} {i j : Nat} {σ : L2.St} {H : Hp} {a : Addr} {xs : List V} {ds : List PyData} {Q : VK} (hσ : σ[i]? = some (some (.ref a))) (hr : Row H a xs) (hall : DAll H xs ds) (hru : ∀ e ∈ ds, isRule e = true) (hz : xs.length ≤ 1000)
    (hw : ∀ x, ((wipe σ [j]).set j (some x))[j]? = some (some x)) (hw2 : ∀ x, wipe ((wipe σ [j]).set j (some x)) [j] = wipe σ [j])
    (hq : ∀ Dd H' (qs : List (Addr × Rl)), H Dd = none → Ex H H' → H' Dd = some (.lst (qs.map fun q => V.ref q.1)) → RulesAt H' qs → qs.map (·.2) = ds.map rlOf → Q (.ref Dd) H') :
    tLc (iOr (iList K (tVar i)) (iTup K (tVar i))) (gName j) tYes (tCB (rTup K) (tCons (tVar j) tNil)) [j] σ H Q := by
  have core : ∀ {J : It} {G : Hp → Prop} {Y : Nat → Hp → V → Hp → Prop} (w : Walk J xs.length G Y), (∀ H', Ex H H' → G H') → (∀ k H1 x H2, Y k H1 x H2 → H2 = H1 ∧ xs[k]? = some x) → ∀ Dd, H Dd = none → ∃ W : Nat → Nat → Hp → Prop, (∃ m, W 0 m (upd H Dd (.lst []))) ∧ ∀ k m H1, W k m H1 →
      (J.stop k H1 ∧ Q (.ref Dd) H1) ∨ (J.go k H1 ∧ ∃ Nx : Hp → Prop, (∀ H', Nx H' → ∃ m', m' < m ∧ W (k + 1) m' H') ∧ ∀ x H', J.yld k H1 x H' → gName j x (wipe σ [j]) H' fun σ2 H2 => wipe σ2 [j] = wipe σ [j] ∧ tYes σ2 H2 fun b H3 =>
        if b = true then tCB (rTup K) (tCons (tVar j) tNil) σ2 H3 fun y H4 => ∃ acc, H4 Dd = some (.lst acc) ∧ acc.length < sizeLine ∧ Nx (upd H4 Dd (.lst (acc ++ [y]))) else Nx H3) := fun {J G Y} w hG hY Dd hD => by
    refine lc_it w (Pv := fun k H' => Ex H H' ∧ ∃ qs : List (Addr × Rl), qs.length = k ∧ H' Dd = some (.lst (qs.map fun q => V.ref q.1)) ∧ RulesAt H' qs ∧ qs.map (·.2) = (ds.map rlOf).take k)
      ⟨Ex.new hD, [], rfl, upd_same, (fun q hq => by cases hq), by rw [List.take_zero]; rfl⟩ (fun _ _ _ p => hG _ p.1) ?_ ?_
    · rintro k x H1 H2 hk ⟨e, qs, hl, hD1, hR, hm⟩ y
      obtain ⟨rfl, hx⟩ := hY k H1 x H2 y
      refine ⟨hw2 x, ?_⟩
      unfold tYes
      dsimp only
      rw [if_pos rfl]
      obtain ⟨dx, hdx, Dx⟩ := hall.get hx
      obtain ⟨b, rfl, brow⟩ := row_rule (Dx.ex e) (hru dx (List.mem_of_getElem? hdx))
      have fin : ∀ t H4, Ex H2 H4 → H4 t = some (.tup (rlOf dx).vs) → ∃ acc, H4 Dd = some (.lst acc) ∧ acc.length < sizeLine ∧ (fun H' => Ex H H' ∧ ∃ qs : List (Addr × Rl), qs.length = k + 1 ∧ H' Dd = some (.lst (qs.map fun q => V.ref q.1)) ∧ RulesAt H' qs ∧ qs.map (·.2) = (ds.map rlOf).take (k + 1)) (upd H4 Dd (.lst (acc ++ [V.ref t]))) := fun t H4 e4 ht => by
        have hD4 := e4 _ _ hD1
        have nD : ∀ c zs, H4 c = some (.tup zs) → c ≠ Dd := fun c zs hc z => by
          rw [z, hD4] at hc
          cases hc
        refine ⟨_, hD4, by rw [List.length_map, hl]; exact Nat.lt_of_lt_of_le hk (Nat.le_trans hz (by decide)), (e.trans e4).mut hD, qs ++ [(t, rlOf dx)], by rw [List.length_append, hl]; rfl, by rw [upd_same, List.map_append]; rfl, fun q hq => ?_, ?_⟩
        · rcases List.mem_append.mp hq with hq | hq
          · have z := e4 _ _ (hR q hq)
            rw [upd_ne (nD _ _ z)]
            exact z
          · rw [List.mem_singleton] at hq
            rw [hq, upd_ne (nD _ _ ht)]
            exact ht
        · rw [List.map_append, hm, List.take_add_one, List.getElem?_map, hdx]
          rfl
      refine ⟨_, hw _, ?_⟩
      rcases brow with h | h
      · exact ⟨b, _, rfl, .inl ⟨SqL.of h, fun l nl => fin l _ (Ex.new nl) upd_same⟩⟩
      · exact ⟨b, _, rfl, .inr ⟨SqT.of h, fin b _ (Ex.refl _) h⟩⟩
    · rintro H1 ⟨e, qs, hl, hD1, hR, hm⟩
      have hlen := hall.len
      rw [List.take_of_length_le (by rw [List.length_map]; omega)] at hm
      exact hq Dd H1 qs hD e hD1 hR hm
  rcases hr with h | h
  · exact .inl ⟨_, hσ, a, rfl, ⟨xs, SqL.of h⟩, core (walk_list (xs := xs)) (fun H' e => SqL.of (e _ _ h)) fun k H1 x H2 y => y⟩
  · exact .inr ⟨_, hσ, a, rfl, ⟨xs, SqT.of h⟩, core (walk_tup (xs := xs)) (fun H' e => SqT.of (e _ _ h)) fun k H1 x H2 y => y⟩
section
variable {P : Program} {w : World} {K : PySem.W.Frag} {mg : Str → Option Value} {base : Heap}
abbrev s_binit : Stmt := inClass (top 25) 0
theorem sc_binit : FnScope ["self", "rules", "index", "rule"] ["self", "rules"] (defScope s_binit) := ⟨rfl, rfl, rfl, by decide +kernel, rfl, by decide +kernel, by decide +kernel⟩
def spBook (C CR : Addr) : Sp := fun vs H Q E => ∃ (p dx : Addr) (v : V) (d : PyData), vs = [.ref p, v] ∧ H p = some (.ins C dx []) ∧ D (del H p) v d ∧ (items d).length ≤ 60 ∧ (∀ e ∈ items d, isRule e = true → (rlOf e).Sml) ∧
  (faultV d ≠ .non → ∀ H', Ex H H' → Raised H' "index" (faultV d) CR E) ∧
  (faultV d = .non → ∀ H', Ex (del H p) H' → BookAt C H' p (sortR ((items d).map rlOf)) → (∀ dx' L, H' p = some (.ins C dx' [("_rules", .ref L)]) → H L = none) → Q .non H')
theorem ok_binit {f f1 fl C CR gR : Addr} {fd fd1 fdl fR : FuncData} (F : Fun K "__init__" "Book.__init__" s_binit f fd) (cl : Cls K C) (nA : NoAttr K C "_rules") (F_fault : FD K mg "rules_fault" "rules_fault" s_fault f1 fd1) (G_fault : FnOk P w K mg base CX0 4 f1 fd1 ["thing"] spFault)
    (F_line : FD K mg "rule_line" "rule_line" s_line fl fdl) (XR : XC K mg "BadRules" "index" CR gR) (GR : FnOk P w K mg base CX0 1 gR fR ["self", "index"] (spIni CR "index")) (bR : Binds K fR ["self", "index"] []) (T : Bl mg) (hsorted : mg "sorted" = none) :
    FnOk P w K mg base (L2.CX P w) 5 f fd ["self", "rules"] (spBook C CR) := by
  have G_line : FnOk P w K mg base CX0 1 fl fdl ["rule"] spLine := ok_line F_line
  have b_line : Binds K fdl ["rule"] [] := F_line.F.binds fun _ _ _ _ _ _ us hl => match us, hl with | [_], _ => rfl
  have b_fault : Binds K fd1 ["thing"] [] := F_fault.F.binds fun _ _ _ _ _ _ us hl => match us, hl with | [_], _ => rfl
  refine F.okX sc_binit (fun vs H Q E h => ?_) (fun cdv A outer s H vs Q E hr h => ?_)
  · obtain ⟨p, dx, v, d, rfl, _⟩ := h
    rfl
  · obtain ⟨p, dx, v, d, rfl, hp, hd, hz, hsm, k1, k2⟩ := h
    have nd := sc_binit.nd
    have hr4 : Room 4 _ := hr
    have hr3 : Room (1 + 2) _ := hr.mono (by decide)
    have hr2 : Room 2 _ := hr.mono (by decide)
    have eD : Ex (del H p) H := fun b o e => by
      unfold del at e
      split at e
      · cases e
      · exact e
    refine ⟨_, (pss_cons (ps_set (i := 2) nd rfl (Or.inl rfl) (pe_call G_fault hr4 (by rfl) F_fault.g F_fault.F.kp b_fault .nil pass0 (pa_cons (pv 1) pa_nil)))
      (pss_cons (ps_if (pt_cmpR op_notN (pv 2) pe_non (nomark _)) (pss_one (ps_raise1 rfl (takes_of rfl rfl rfl rfl) XR GR bR hr2 (by rfl) (pv 2))) pss_nil)
      (pss_one (ps_fld (pv 0) (pe_callBK (cr_sortedBy G_line hr3 b_line) (by rfl) hsorted (by decide +kernel) (pa_cons (pe_lc (own := [("rule", 3)]) (g := gName 3) (tt := tYes) rfl nd (pi_or (pi_list (pv 1)) (pi_tup (pv 1))) (blkOk_by (N := ["self", "rules", "index", "rule"]) (sc := defScope s_binit) (by decide +kernel)) (fun _ _ _ _ _ => pg_name (i := 3) nd rfl (Or.inl rfl)) (fun _ _ _ _ _ => pts_nil) (fun _ _ _ _ _ => pe_callTy (r := rTup K) call_tuple_of (by rfl) T.tuple PyProof.Rows.boot_tuple (pa_cons (pv 3) pa_nil))) pa_nil) (pk_cons (pe_glob (v := .ref fl) rfl F_line.g rfl) pk_nil)) rfl)))), ?_⟩
    refine ⟨_, rfl, v, d, rfl, hd.ex eD, by omega, fun H1 e1 => ?_⟩
    refine ⟨_, rfl, rfl, _, rfl, ?_⟩
    by_cases hf : faultV d = .non
    · refine ite_ff (by rw [decide_eq_true hf]; rfl) ?_
      have hrw : isRow d = true := by
        unfold faultV at hf
        by_cases c : isRow d = true
        · exact c
        · rw [if_neg c] at hf
          cases hf
      have hfa : faultAt (items d) 0 [] false false = none := by
        unfold faultV at hf
        rw [if_pos hrw] at hf
        cases c : faultAt (items d) 0 [] false false with
        | none => rfl
        | some i =>
          rw [c] at hf
          cases hf
      have hru := fault_rules hfa
      obtain ⟨a, xs, rfl, hrow, hall⟩ := hd.row hrw
      have e1D : Ex (del H p) H1 := eD.trans e1
      have hlen := hall.len
      unfold tNext sFld tCKw tCons tNil
      dsimp only
      refine lc_tuples (i := 1) (j := 3) (σ := [some (.ref p), some (.ref a), some (faultV d), none]) rfl (hrow.ex e1D) (hall.ex e1D) hru (by omega) (fun _ => rfl) (fun _ => rfl) (fun Dd H2 qs nD e2 hD hR hm => ?_)
      have smq : ∀ q ∈ qs, q.2.Sml := fun q hq => by
        have m : q.2 ∈ (items d).map rlOf := by
          rw [← hm]
          exact List.mem_map.mpr ⟨q, hq, rfl⟩
        obtain ⟨e, he, z⟩ := List.mem_map.mp m
        rw [← z]
        exact hsm e he (hru e he)
      refine ⟨Dd, qs.map fun q => (V.ref q.1, q.2.line), rfl, rfl, SqL.of (by rw [hD, List.map_map]; rfl), fun p' hp' H' e' Q' kk => ?_, fun L H3 nL e3 hL => ?_⟩
      · obtain ⟨q, hq, rfl⟩ := List.mem_map.mp hp'
        exact ⟨q.1, q.2, rfl, .inr (e' _ _ (hR q hq)), smq q hq, fun H'' e'' => kk H'' e''⟩
      have hp3 : H3 p = some (.ins C dx []) := e3 _ _ (e2 _ _ (e1 _ _ hp))
      have nLp : L ≠ p := fun z => by
        rw [z, e2 _ _ (e1 _ _ hp)] at nL
        cases nL
      refine ⟨_, rfl, p, C, dx, [], rfl, hp3, cl, nA, (by show 0 < 1000; decide), ?_⟩
      refine k2 hf (upd H3 p (.ins C dx (putF "_rules" (.ref L) []))) (fun b o e => ?_) ⟨dx, L, qs.mergeSort (dataLe false fun q => PyData.str q.2.line), by rw [upd_same]; rfl, ?_, fun q hq => ?_, ?_⟩ ?_
      · have nb : b ≠ p := fun z => by
          rw [z, del_same] at e
          cases e
        rw [upd_ne nb]
        rw [del_ne nb] at e
        exact e3 _ _ (e2 _ _ (e1 _ _ e))
      · rw [upd_ne nLp, hL]
        have z := ms_map (fun q : Addr × Rl => (V.ref q.1, q.2.line)) (fun p : V × Str => PyData.str p.2) qs
        rw [← z, List.map_map]
        rfl
      · have z := e3 _ _ (hR q ((List.mergeSort_perm _ _).mem_iff.mp hq))
        have nq : q.1 ≠ p := fun w => by
          rw [w, hp3] at z
          cases z
        rw [upd_ne nq]
        exact z
      · have z := ms_map (fun q : Addr × Rl => q.2) (fun r : Rl => PyData.str r.line) qs
        rw [z, hm]
        rfl
      · intro dx' L' z
        rw [upd_same] at z
        have z := congrArg (fun o => match o with
          | some (HO.ins _ _ [(_, V.ref b)]) => b
          | _ => L) z
        have z : L = L' := z
        rw [← z]
        exact Evl.fresh_back (e1.trans e2) nL
    · refine ite_tt (by rw [decide_eq_false hf]; rfl) ?_
      exact ⟨_, rfl, raise1 (k1 hf H1 e1)⟩
end
end Ts


set_option Elab.async false
set_option linter.all false
set_option maxRecDepth 100000
set_option maxHeartbeats 4000000
namespace Ts
open PySem PySem.Spec PyProof.Rows L2
open Evl (Ex)
/-! ## an error as a value: made, kept, asked for its kind, compared with itself -/
/-- at a stands an error of the class at C whose dict is at dd -/
def exv (C a dd : Addr) : HO := .ext fun h => ∃ (oe : Obj) (vs : Array Value), h.get? a = some oe ∧ Zc (.ref C) (some dd) oe ∧ oe.data = .fields vs
theorem exv_ok {P : Program} {w : World} {H : Hp} {h : Heap} {C a dd : Addr} {oe : Obj} {vs : Array Value} (e : h.get? a = some oe) (z : Zc (.ref C) (some dd) oe) (d : oe.data = .fields vs) : ObjOk P w H h a (exv C a dd) :=
  ⟨⟨oe, vs, e, z, d⟩, ⟨oe, e⟩, fun _ _ q k => by
    obtain ⟨o, v, h1, h2⟩ := q
    exact ⟨o, v, k o h1, h2⟩⟩
/-- v is such an error -/
def ExAt (C : Addr) (H : Hp) (v : V) : Prop := ∃ (a dd : Addr) (fs : List (Str × V)), v = .ref a ∧ H a = some (exv C a dd) ∧ H dd = some (.xd fs)
theorem ExAt.ex {C : Addr} {H H' : Hp} {v : V} (h : ExAt C H v) (e : Ex H H') : ExAt C H' v := by
  obtain ⟨a, dd, fs, r, h1, h2⟩ := h
  exact ⟨a, dd, fs, r, e _ _ h1, e _ _ h2⟩
/-- what is written of the class -/
structure ExK (K : PySem.W.Frag) (C : Addr) : Prop where
  xf : XfC K C
  ha : PySem.W.findIn K (.ref C) "__class__" = some (some (.builtin "object.__class__"))
  hn : PySem.W.specialIn K (.builtin "object.__class__") "__get__" = some (some (.builtin "getset_descriptor.__get__"))
  ht : PySem.W.takesIn K (.builtin "object.__class__") = some true
  hm : PySem.W.mroIn K C (.type "object") = some true
  eq : PySem.W.findIn K (.ref C) "__eq__" = some (some (.builtin "object.__eq__"))
theorem ExK.cl {K : PySem.W.Frag} {C : Addr} (h : ExK K C) : (PySem.W.clsIn K C).isSome = true := by
  obtain ⟨cd, hc, _⟩ := PySem.W.any_some h.xf.hdC
  rw [hc]
  rfl
/-- a value's kind, such errors told too -/
inductive TyE (K : PySem.W.Frag) (C : Addr) (H : Hp) : V → Value → Prop where
  | old {v : V} {t : Value} (h : TyX K H v t) : TyE K C H v t
  | exc {v : V} (h : ExAt C H v) : TyE K C H v (.ref C)
section
variable {X : Cx} {pins : List (Addr × Obj)} {σ : L2.St} {H : Hp} {s : Shared} {C : Addr}
theorem exv_inst {a dd : Addr} {fs : List (Str × V)} (I : Inv X pins σ H s) (ha : H a = some (exv C a dd)) (hd : H dd = some (.xd fs)) : ∃ oe od, PySem.W.InstAt s.heap a oe C (some od) := by
  have q : ObjOk X.prog X.w H s.heap a (.ext fun h => ∃ (oe : Obj) (vs : Array Value), h.get? a = some oe ∧ Zc (.ref C) (some dd) oe ∧ oe.data = .fields vs) := I.hok a _ ha
  obtain ⟨⟨oe, vs, h1, h2, h3⟩, _, _⟩ := q
  have q2 : ObjOk X.prog X.w H s.heap dd (.xd fs) := I.hok dd _ hd
  obtain ⟨mA, hns, _⟩ := q2
  obtain ⟨od, ho, _⟩ := lookIn_ns hns
  refine ⟨oe, od, h1, h2.1, ?_, ?_⟩
  · unfold PySem.W.notCls
    rw [h3]
  · rw [h2.2]
    exact ho
theorem kit_ofE (T : ExK X.K C) {x : V} {u t : Value} (I : Inv X pins σ H s) (rx : RelV x u) (ty : TyE X.K C H x t) : ∃ P : Heap → Prop, PySem.W.KitX X.K u t P ∧ P s.heap ∧ u ≠ .builtin "__main__.__loader__#opaque" := by
  cases ty with
  | old h => exact kit_of I rx h
  | exc h =>
    obtain ⟨a, dd, fs, rfl, h1, h2⟩ := h
    obtain rfl : u = Value.ref a := rx
    obtain ⟨oe, od, J⟩ := exv_inst I h1 h2
    exact ⟨_, PySem.W.kitx_exc T.cl T.xf.ga T.xf.gg T.xf.exC T.ha T.hn T.ht T.hm, J, fun z => nomatch z⟩
end
/-- isinstance of one class, of several -/
def rIsE1 (K : PySem.W.Frag) (C : Addr) : List V → Hp → VK → Prop := fun xs H Q => ∃ (x c : V) (t u : Value) (b : Bool), xs = [x, c] ∧ ClsV c u ∧ TyE K C H x t ∧ PySem.W.kitOne K t u = some b ∧ Q (.bl b) H
def rIsEs (K : PySem.W.Frag) (C : Addr) : List V → Hp → VK → Prop := fun xs H Q => ∃ (x : V) (tp : Addr) (cs : List V) (t : Value) (us : List Value) (b : Bool), xs = [x, .ref tp] ∧ H tp = some (.tup cs) ∧ Paired ClsV cs us ∧ TyE K C H x t ∧ PySem.W.kitAny K t us = some b ∧ Q (.bl b) H
/-- a == b of scalars, or of one such error -/
def rEqE (C : Addr) : R2 := fun x y H Q => rEq x y H Q ∨ (x = y ∧ ExAt C H x ∧ Q (.bl true) H)
section
variable {X : Cx} {C : Addr}
theorem call_isE1 (T : ExK X.K C) : CallR X (.builtin "isinstance") (rIsE1 X.K C) := by
  intro pins s σ H xs us Q I r h
  obtain ⟨x, c, t, u, b, rfl, k, ty, e, q⟩ := h
  obtain ⟨v1, v2, rfl, ra, rb⟩ := vals2 r
  obtain rfl := k.eq rb
  obtain ⟨P, Z, p, hx⟩ := kit_ofE T I ra ty
  refine PySem.W.kia_one Z I.kIn p e hx fun tk => ?_
  exact ⟨.bl b, H, I.tok tk, rfl, q⟩
theorem call_isEs (T : ExK X.K C) : CallR X (.builtin "isinstance") (rIsEs X.K C) := by
  intro pins s σ H xs us Q I r h
  obtain ⟨x, tp, cs, t, ws, b, rfl, hT, k, ty, e, q⟩ := h
  obtain ⟨v1, v2, rfl, ra, rb⟩ := vals2 r
  obtain rfl : v2 = Value.ref tp := rb
  obtain ⟨P, Z, p, hx⟩ := kit_ofE T I ra ty
  have ok : ObjOk X.prog X.w H s.heap tp (.tup cs) := I.hok tp _ hT
  obtain ⟨_, its, rv, ⟨oc, od, dt, sl⟩, h1, h2, n, h3⟩ := ok
  obtain rfl := ClsV.all k rv
  dsimp only at h2 h3
  subst h2 h3
  refine PySem.W.kia_tup Z I.kIn p h1 e hx fun tk => ?_
  exact ⟨.bl b, H, I.tok tk, rfl, q⟩
end
section
variable {prog : Program} {w : World} {A : Around} {E : Value → Shared → Prop} {s : Shared} {K : PySem.W.Frag} {x C : Addr} {ox : Obj} {od : Option Obj}
/-- an instance without an __eq__ of its own is itself -/
theorem self_eq {Q : Value → Shared → Prop} (hu : A.units < cLine) (X : K.In s.heap) (I : PySem.W.InstAt s.heap x ox C od) (hm : PySem.W.mroIn K C (.type "object") = some true) (he : PySem.W.findIn K (.ref C) "__eq__" = some (some (.builtin "object.__eq__")))
    (h : Q (.bool true) s) : wpAny (model prog w) A (richCompare .Eq (.ref x) (.ref x)) Q E s := by
  have ask : ∀ {R : Value → Shared → Prop}, R (.bool true) s → wpAny (model prog w) A (call (.builtin "object.__eq__") [.ref x, .ref x]) R E s := fun {R} r => by
    refine wpAny_call (codeAny_call_builtin F.cmp_object.eq.plain F.cmpEntry_eq ?_)
    refine PySem.W.check_slot F.cmpKind_eq F.cmpSplit_eq ?_ (F.cmpArgs_eq _ _) (objEq_entry_same r)
    exact I.type.andThen (PySem.W.looks_mroIn X hm)
  have tried : wpAny (model prog w) A (tryCompare (.ref x) "__eq__" (.ref x)) (fun r s' => r = some (.bool true) ∧ s' = s) E s := by
    unfold tryCompare
    refine wpAny_bind (HN.ifBound_objEq X I he (ask ?_))
    exact wpAny_pure ⟨rfl, rfl⟩
  simp only [cmpInfo_Eq, richCompare, oneThing_ref]
  refine wpAny_holding (wpAny_bind (wpAny_cRoomFor hu ?_))
  refine wpAny_bind (I.type.here ?_)
  refine wpAny_bind (I.type.here ?_)
  simp only [bne_self_eq_false, Bool.false_eq_true, if_false]
  refine wpAny_bind (wpAny_pure ?_)
  simp only [Bool.false_eq_true, if_false]
  refine wpAny_bind (wpAny_mono tried (fun r s1 z => ?_) fun _ _ e => e)
  obtain ⟨rfl, rfl⟩ := z
  exact wpAny_pure h
end
section
variable {X : Cx} {C : Addr}
theorem op_eqE (T : ExK X.K C) (hu : X.A.units < cLine) : OpR X (compareOp .Eq) (rEqE C) := by
  intro pins s σ H x y v u Q I rx ry h
  rcases h with h | ⟨rfl, ⟨a, dd, fs, rfl, h1, h2⟩, q⟩
  · exact op_eq pins s σ H x y v u Q I rx ry h
  · obtain rfl : v = Value.ref a := rx
    obtain rfl : u = Value.ref a := ry
    obtain ⟨oe, od, J⟩ := exv_inst I h1 h2
    exact self_eq hu I.kIn J T.hm T.eq ⟨.bl true, H, I, rfl, q⟩
/-- what makes an error tells it -/
theorem pe_exv {e : Expr} {t : L2.St → Hp → XK → Prop} (h : PMk X e t) : PE X e (fun σ H Q => t σ H fun cls d H' => ∃ C dd, cls = .ref C ∧ d = some dd ∧ ∀ a, H' a = none → Q (.ref a) (upd H' a (exv C a dd))) := by
  refine ⟨fun pins s σ H Q I h1 => thn (h pins s σ H _ I h1) fun u s1 hu => ?_⟩
  obtain ⟨a, oe, vs, sI, H', cls, d, rfl, J, k, hne, ha, hz, hd, _, na, os, ag, _, C, dd, rfl, rfl, q⟩ := hu
  exact ⟨.ref a, _, J.call' (ch := []) os (Un.laidN k hne na) (J.hok.laidN k na (exv_ok ha hz hd)) ag (fun b z => absurd z (by simp)), rfl, q a na⟩
end
end Ts


set_option Elab.async false
set_option linter.all false
set_option maxRecDepth 100000
set_option maxHeartbeats 4000000
namespace Ts
open PySem PySem.Spec L2
open PySem.W (dataLe)
open Evl (Ex)
/-- the class of books -/
structure BkC (K : PySem.W.Frag) (mg : Str → Option Value) (C fI fR : Addr) : Prop where
  cl : Cls K C
  ha : PySem.W.findIn K (.ref C) "__class__" = some (some (.builtin "object.__class__"))
  hn : PySem.W.specialIn K (.builtin "object.__class__") "__get__" = some (some (.builtin "getset_descriptor.__get__"))
  htk : PySem.W.takesIn K (.builtin "object.__class__") = some true
  hm : PySem.W.mroIn K C (.type "object") = some true
  me : PySem.W.kitOne K (.ref C) (.ref C) = some true
  nA : NoAttr K C "_rules"
  gC : mg "Book" = some (.ref C)
  no : ∀ d : PyData, PySem.W.kitOne K (.type (tyD d)) (.ref C) = some false
  made : Mk K C fI
  mR : Meth K C "rules" fR
section
variable {P : Program} {w : World} {K : PySem.W.Frag} {mg : Str → Option Value} {base : Heap}
abbrev s_brules : Stmt := inClass (top 25) 1
abbrev s_need_book := top 27
theorem sc_brules : FnScope ["self"] ["self"] (defScope s_brules) := ⟨rfl, rfl, rfl, by decide +kernel, rfl, by decide +kernel, by decide +kernel⟩
theorem sc_need_book : FnScope ["thing"] ["thing"] (defScope s_need_book) := ⟨rfl, rfl, rfl, by decide +kernel, rfl, by decide +kernel, by decide +kernel⟩
def spBrules (C : Addr) : Sp := fun vs H Q _ => ∃ p rs, vs = [.ref p] ∧ BookAt C H p rs ∧ ∀ (L : Addr) H' (qs : List (Addr × Rl)), H L = none → Ex H H' → H' L = some (.lst (qs.map fun q => V.ref q.1)) → RulesAt H' qs → qs.map (·.2) = rs → Q (.ref L) H'
theorem ok_brules {f fI fR C : Addr} {fd : FuncData} (F : Fun K "rules" "Book.rules" s_brules f fd) (B : BkC K mg C fI fR) (T : Bl mg) : FnOk P w K mg base CX0 1 f fd ["self"] (spBrules C) := by
  refine F.ok sc_brules (fun vs H Q E h => ?_) (fun cdv A outer s H vs Q E hr h => ?_)
  · obtain ⟨p, rs, rfl, _⟩ := h
    rfl
  · obtain ⟨p, rs, rfl, ⟨dx, L, qs, hp, hL, hR, hm⟩, k⟩ := h
    refine ⟨_, pss_one (ps_ret (pe_callTy call_list_of (by rfl) T.list PyProof.Rows.boot_list (pa_cons (pe_fld (pv 0) rfl) pa_nil))), ?_⟩
    refine ⟨_, rfl, p, C, dx, _, _, rfl, hp, B.cl, B.nA, rfl, L, _, rfl, .inl (SqL.of hL), fun l nl => ?_⟩
    have e := Ex.new (o := .lst (qs.map fun q => V.ref q.1)) nl
    exact k l _ qs nl e upd_same (fun q hq => e _ _ (hR q hq)) hm
def spNeedB (C CB : Addr) : Sp := fun vs H Q E => ∃ v, vs = [v] ∧ ((∃ (a dx : Addr) (fs : List (Str × V)), v = .ref a ∧ H a = some (.ins C dx fs) ∧ ∀ H', Ex H H' → Q .non H') ∨ (((∃ d, D H v d) ∨ ExAt CB H v) ∧ ∀ H', Ex H H' → Raised H' "thing" v CB E))
theorem ok_need_book {f fI fR C CB g : Addr} {fd fi : FuncData} (F : FD K mg "need_book" "need_book" s_need_book f fd) (B : BkC K mg C fI fR) (X : XC K mg "BadBook" "thing" CB g) (GI : FnOk P w K mg base CX0 1 g fi ["self", "thing"] (spIni CB "thing")) (bI : Binds K fi ["self", "thing"] []) (T : Bl mg) (TE : ExK K CB) (hk : PySem.W.kitOne K (.ref CB) (.ref C) = some false) :
    FnOk P w K mg base (L2.CX P w) 3 f fd ["thing"] (spNeedB C CB) := by
  refine F.F.okX sc_need_book (fun vs H Q E h => ?_) (fun cdv A outer s H vs Q E hr h => ?_)
  · obtain ⟨v, rfl, _⟩ := h
    rfl
  · obtain ⟨v, rfl, h⟩ := h
    refine ⟨_, pss_one (ps_if (pt_not (pt_val (pe_callB (r := rIsE1 K CB) (call_isE1 TE) (by rfl) T.isinstance (by decide +kernel) (pa_cons (pv 0) (pa_cons (pe_glob (v := .ref C) rfl B.gC rfl) pa_nil))))) (pss_one (ps_raise1 rfl (takes_of rfl rfl rfl rfl) X GI bI hr (by rfl) (pv 0))) pss_nil), ?_⟩
    rcases h with ⟨a, dx, fs, rfl, ha, k⟩ | ⟨⟨d, hd⟩ | hx, k⟩
    · exact ⟨_, rfl, _, _, _, _, _, rfl, .own C, .old (.base (TyOf.ins ha B.cl B.ha B.hn B.htk B.hm)), B.me, _, rfl, ite_ff rfl (k _ (Ex.refl _))⟩
    · exact ⟨_, rfl, _, _, _, _, _, rfl, .own C, .old hd.ty, B.no d, _, rfl, ite_tt rfl ⟨_, rfl, raise1 (k _ (Ex.refl _))⟩⟩
    · exact ⟨_, rfl, _, _, _, _, _, rfl, .own C, .exc hx, hk, _, rfl, ite_tt rfl ⟨_, rfl, raise1 (k _ (Ex.refl _))⟩⟩
end
end Ts


set_option Elab.async false
set_option linter.all false
set_option maxRecDepth 100000
set_option maxHeartbeats 4000000
namespace Ts
open PySem PySem.Spec L2
open Evl (Ex)
/-! ## spans -/
def bottomOf (r : Rl) (n l : Int) : Int := match r.high with
  | none => l
  | some h => if n - h > l then n - h else l
/-- what a rule leaves of a heap together, from a least on -/
def spanOf (r : Rl) (n l : Int) : Option (Int × Int) := if n % r.mod = r.rest ∧ bottomOf r n l ≤ n - r.low then some (bottomOf r n l, n - r.low) else none
/-- it lets be taken so that x are left -/
def Leaves (r : Rl) (n x : Int) : Prop := n % r.mod = r.rest ∧ r.low ≤ n - x ∧ ∀ h, r.high = some h → n - x ≤ h
theorem span_iff {r : Rl} {n l x : Int} : (∃ p, spanOf r n l = some p ∧ p.1 ≤ x ∧ x ≤ p.2) ↔ (Leaves r n x ∧ l ≤ x) := by
  unfold spanOf Leaves
  constructor
  · rintro ⟨p, h, h1, h2⟩
    split at h
    · rename_i c
      cases h
      have h1 : bottomOf r n l ≤ x := h1
      have h2 : x ≤ n - r.low := h2
      unfold bottomOf at h1
      cases e : r.high with
      | none =>
        rw [e] at h1
        have h1 : l ≤ x := h1
        exact ⟨⟨c.1, by omega, fun h z => by cases z⟩, h1⟩
      | some i =>
        rw [e] at h1
        have h1 : (if n - i > l then n - i else l) ≤ x := h1
        split at h1
        · exact ⟨⟨c.1, by omega, fun h z => by cases z; omega⟩, by omega⟩
        · exact ⟨⟨c.1, by omega, fun h z => by cases z; omega⟩, by omega⟩
    · cases h
  · rintro ⟨⟨h1, h2, h3⟩, h4⟩
    have hb : bottomOf r n l ≤ x := by
      unfold bottomOf
      cases e : r.high with
      | none => exact h4
      | some i =>
        have := h3 i e
        show (if n - i > l then n - i else l) ≤ x
        split <;> omega
    exact ⟨_, if_pos ⟨h1, by omega⟩, hb, by omega⟩
section
variable {P : Program} {w : World} {K : PySem.W.Frag} {mg : Str → Option Value} {base : Heap}
abbrev s_span := top 31
theorem sc_span : FnScope ["rule", "heap", "least", "low", "high", "_", "rest", "modulus", "bottom"] ["rule", "heap", "least"] (defScope s_span) := ⟨rfl, rfl, rfl, by decide +kernel, rfl, by decide +kernel, by decide +kernel⟩
def spSpan : Sp := fun vs H Q _ => ∃ (a : Addr) (r : Rl) (n l : Int), vs = [.ref a, .int n, .int l] ∧ Row H a r.vs ∧ 0 < r.mod ∧ (spanOf r n l = none → Q .non H) ∧ ∀ p, spanOf r n l = some p → ∀ z, H z = none → Q (.ref z) (upd H z (.tup [.int p.1, .int p.2]))
theorem ok_span {f : Addr} {fd : FuncData} (F : FD K mg "span_left" "span_left" s_span f fd) (hmax : mg "max" = none) : FnOk P w K mg base CX0 1 f fd ["rule", "heap", "least"] spSpan := by
  refine F.F.ok sc_span (fun vs H Q E h => ?_) (fun cdv A outer s H vs Q E hr h => ?_)
  · obtain ⟨a, r, n, l, rfl, _⟩ := h
    rfl
  · obtain ⟨a, r, n, l, rfl, hrow, hm, k1, k2⟩ := h
    have nd := sc_span.nd
    have rest : ∃ t3, PSs (cxOf CX0 P w K mg base ["rule", "heap", "least", "low", "high", "_", "rest", "modulus", "bottom"] "span_left" (defScope s_span) f cdv A outer s H E).nox ((defBody s_span).drop 2) t3 ∧
        t3 { nx := fun _ H' => Q .non H', rt := Q } [some (.ref a), some (.int n), some (.int l), some (.int r.low), some (hiV r.high), some (.str r.left), some (.int r.rest), some (.int r.mod), some (.int (bottomOf r n l))] H := by
      refine ⟨_, (pss_cons (ps_if (PW.pt (pw_or (pt_cmpR op_ne (pe_op op_mod (pv 1) (pv 7)) (pv 6) (nomark _)) (pw_or1 (pt_cmpR op_gt (pv 8) (pe_op op_sub (pv 1) (pv 3)) (nomark _))))) (pss_one (ps_ret pe_non)) pss_nil)
      (pss_one (ps_ret (pe_tup (pa_cons (pv 8) (pa_cons (pe_op op_sub (pv 1) (pv 3)) pa_nil)))))), ?_⟩
      generalize hb : bottomOf r n l = b at k1 k2
      unfold spanOf at k1 k2
      rw [hb] at k1 k2
      refine ⟨_, rfl, _, rfl, _, _, rfl, rfl, hm, _, rfl, rfl, _, rfl, ?_⟩
      by_cases c1 : n % r.mod = r.rest
      · refine ite_ff (by show (!decide (V.int (n % r.mod) = V.int r.rest)) = false; rw [dec_z, decide_eq_true c1]; rfl) ?_
        refine ⟨_, rfl, _, rfl, _, rfl, _, _, rfl, rfl, _, _, rfl, rfl, _, rfl, ?_⟩
        by_cases c2 : b ≤ n - r.low
        · refine ite_ff (decide_eq_false (show ¬ n - r.low < b by omega)) ?_
          refine ⟨_, rfl, _, rfl, _, rfl, _, _, rfl, rfl, by show 2 ≤ sizeLine; decide, fun z nz => ?_⟩
          exact k2 (b, n - r.low) (if_pos ⟨c1, c2⟩) z nz
        · refine ite_tt (decide_eq_true (show n - r.low < b by omega)) ?_
          exact k1 (if_neg fun z => c2 z.2)
      · refine ite_tt (by show (!decide (V.int (n % r.mod) = V.int r.rest)) = true; rw [dec_z, decide_eq_false c1]; rfl) ?_
        exact k1 (if_neg fun z => c1 z.1)
    obtain ⟨t3, h3, fin⟩ := rest
    refine ⟨_, (pss_cons (ps_asg (pv 0) (pg_or (pg_tup rfl (pgs_cons (pg_name (i := 3) nd rfl (Or.inl rfl)) (pgs_cons (pg_name (i := 4) nd rfl (Or.inl rfl)) (pgs_cons (pg_name (i := 5) nd rfl (Or.inl rfl)) (pgs_cons (pg_name (i := 6) nd rfl (Or.inl rfl)) (pgs_cons (pg_name (i := 7) nd rfl (Or.inl rfl)) pgs_nil)))))) (pg_unl rfl (pgs_cons (pg_name (i := 3) nd rfl (Or.inl rfl)) (pgs_cons (pg_name (i := 4) nd rfl (Or.inl rfl)) (pgs_cons (pg_name (i := 5) nd rfl (Or.inl rfl)) (pgs_cons (pg_name (i := 6) nd rfl (Or.inl rfl)) (pgs_cons (pg_name (i := 7) nd rfl (Or.inl rfl)) pgs_nil))))))))
      (pss_cons (ps_set (i := 8) nd rfl (Or.inl rfl) (pe_ifExp (pt_cmpR op_isN (pv 4) pe_non (nomark _)) (pv 2) (pe_callB (call_max2 rfl) (by rfl) hmax (by decide +kernel) (pa_cons (pv 2) (pa_cons (pe_op op_sub (pv 1) (pv 4)) pa_nil)))))
      h3)), ?_⟩
    refine ⟨_, rfl, g_row hrow rfl ⟨_, _, rfl, _, _, rfl, _, _, rfl, _, _, rfl, _, _, rfl, rfl, ?_⟩⟩
    refine ⟨_, rfl, rfl, _, rfl, ?_⟩
    unfold bottomOf at fin
    cases e : r.high with
    | none =>
      rw [e] at fin
      exact ite_tt rfl ⟨_, rfl, fin⟩
    | some i =>
      rw [e] at fin
      exact ite_ff rfl ⟨_, rfl, _, rfl, _, rfl, _, _, rfl, rfl, _, _, rfl, fin⟩
end
end Ts


set_option Elab.async false
set_option linter.all false
set_option maxRecDepth 100000
set_option maxHeartbeats 4000000
namespace Ts
open PySem PySem.Spec L2
open Evl (Ex)
/-! ## spans apart and ascending -/
/-- x is in some of them -/
def InS (ss : List (Int × Int)) (x : Int) : Prop := ∃ s ∈ ss, s.1 ≤ x ∧ x ≤ s.2
structure Apart (ss : List (Int × Int)) : Prop where
  asc : ss.Pairwise fun a b => a.2 < b.1
  some : ∀ s ∈ ss, s.1 ≤ s.2
structure Mg (ps ss : List (Int × Int)) : Prop where
  ap : Apart ss
  has : ∀ x, InS ss x ↔ InS ps x
  low : ∀ s ∈ ss, ∃ p ∈ ps, p.1 = s.1
  len : ss.length ≤ ps.length
theorem Mg.nil : Mg [] [] := ⟨⟨.nil, (fun s hs => by cases hs)⟩, fun x => Iff.rfl, (fun s hs => by cases hs), Nat.le_refl _⟩
theorem InS.app {a b : List (Int × Int)} {x : Int} : InS (a ++ b) x ↔ InS a x ∨ InS b x := by
  unfold InS
  constructor
  · rintro ⟨s, hs, h⟩
    rcases List.mem_append.mp hs with hs | hs
    · exact .inl ⟨s, hs, h⟩
    · exact .inr ⟨s, hs, h⟩
  · rintro (⟨s, hs, h⟩ | ⟨s, hs, h⟩)
    · exact ⟨s, List.mem_append_left _ hs, h⟩
    · exact ⟨s, List.mem_append_right _ hs, h⟩
theorem InS.one {p : Int × Int} {x : Int} : InS [p] x ↔ p.1 ≤ x ∧ x ≤ p.2 := by
  constructor
  · rintro ⟨s, hs, h⟩
    rw [List.mem_singleton] at hs
    exact hs ▸ h
  · exact fun h => ⟨p, List.mem_singleton.mpr rfl, h⟩
theorem Mg.add {ps ss : List (Int × Int)} (m : Mg ps ss) {p : Int × Int} (hp : p.1 ≤ p.2) (h : ∀ s ∈ ss, s.2 < p.1) : Mg (ps ++ [p]) (ss ++ [p]) := by
  refine ⟨⟨List.pairwise_append.mpr ⟨m.ap.asc, List.pairwise_singleton _ _, fun a ha b hb => ?_⟩, fun s hs => ?_⟩, fun x => ?_, fun s hs => ?_, ?_⟩
  · rw [List.mem_singleton] at hb
    exact hb ▸ h a ha
  · rcases List.mem_append.mp hs with hs | hs
    · exact m.ap.some s hs
    · rw [List.mem_singleton] at hs
      exact hs ▸ hp
  · rw [InS.app, InS.app, m.has]
  · rcases List.mem_append.mp hs with hs | hs
    · obtain ⟨q, hq, e⟩ := m.low s hs
      exact ⟨q, List.mem_append_left _ hq, e⟩
    · rw [List.mem_singleton] at hs
      exact ⟨p, List.mem_append_right _ (List.mem_singleton.mpr rfl), by rw [hs]⟩
  · rw [List.length_append, List.length_append]
    have := m.len
    show ss.length + 1 ≤ ps.length + 1
    omega
theorem Mg.wide {ps ss : List (Int × Int)} {s p : Int × Int} (m : Mg ps (ss ++ [s])) (h1 : s.1 ≤ p.1) (h2 : p.1 ≤ s.2) {t : Int} (ht : t = if s.2 > p.2 then s.2 else p.2) : Mg (ps ++ [p]) (ss ++ [(s.1, t)]) := by
  have t1 : s.2 ≤ t := by rw [ht]; split <;> omega
  have t2 : p.2 ≤ t := by rw [ht]; split <;> omega
  have t3 : t = s.2 ∨ t = p.2 := by rw [ht]; split <;> simp
  obtain ⟨a1, a2, a3⟩ := List.pairwise_append.mp m.ap.asc
  have hs := m.ap.some s (List.mem_append_right _ (List.mem_singleton.mpr rfl))
  refine ⟨⟨List.pairwise_append.mpr ⟨a1, List.pairwise_singleton _ _, fun a ha b hb => ?_⟩, fun q hq => ?_⟩, fun x => ?_, fun q hq => ?_, ?_⟩
  · rw [List.mem_singleton] at hb
    subst hb
    exact a3 a ha s (List.mem_singleton.mpr rfl)
  · rcases List.mem_append.mp hq with hq | hq
    · exact m.ap.some q (List.mem_append_left _ hq)
    · rw [List.mem_singleton] at hq
      subst hq
      show s.1 ≤ t
      omega
  · have z := m.has x
    rw [InS.app, InS.one] at z
    rw [InS.app, InS.app, ← z, InS.one, InS.one]
    show InS ss x ∨ (s.1 ≤ x ∧ x ≤ t) ↔ _
    constructor
    · rintro (h | ⟨h3, h4⟩)
      · exact .inl (.inl h)
      · by_cases c : x ≤ s.2
        · exact .inl (.inr ⟨h3, c⟩)
        · exact .inr ⟨by omega, by omega⟩
    · rintro ((h | ⟨h3, h4⟩) | ⟨h3, h4⟩)
      · exact .inl h
      · exact .inr ⟨h3, by omega⟩
      · exact .inr ⟨by omega, by omega⟩
  · rcases List.mem_append.mp hq with hq | hq
    · obtain ⟨r, hr, e⟩ := m.low q (List.mem_append_left _ hq)
      exact ⟨r, List.mem_append_left _ hr, e⟩
    · rw [List.mem_singleton] at hq
      obtain ⟨r, hr, e⟩ := m.low s (List.mem_append_right _ (List.mem_singleton.mpr rfl))
      exact ⟨r, List.mem_append_left _ hr, by rw [hq]; exact e⟩
  · have := m.len
    rw [List.length_append] at this ⊢
    rw [List.length_append]
    simp only [List.length_singleton] at *
    omega
theorem ixN_last {n : Nat} : ixN (n + 1) (-1) = some n := by
  unfold ixN
  rw [if_neg (by omega), if_pos (by omega)]
  congr 1
  omega
theorem set_last {α : Type} {xs : List α} {a b : α} {n : Nat} (h : n = xs.length) : (xs ++ [a]).set n b = xs ++ [b] := by
  subst h
  simp
/-- pairs at their places -/
def PairsAt (H : Hp) (qs : List (Addr × (Int × Int))) : Prop := ∀ q ∈ qs, H q.1 = some (.tup [.int q.2.1, .int q.2.2])
theorem PairsAt.ex {H H' : Hp} {qs : List (Addr × (Int × Int))} (e : Ex H H') (h : PairsAt H qs) : PairsAt H' qs := fun q hq => e _ _ (h q hq)
theorem PairsAt.upd {H : Hp} {qs : List (Addr × (Int × Int))} (h : PairsAt H qs) {M : Addr} {l l' : List V} (hM : H M = some (.lst l)) : PairsAt (upd H M (.lst l')) qs := fun q hq => by
  have z := h q hq
  have ne : q.1 ≠ M := fun e => by
    rw [e, hM] at z
    cases z
  rw [upd_ne ne]
  exact z
/-- what a pair's place tells -/
def kOf (H : Hp) : V → Int × Int
  | .ref t => match H t with
    | some (.tup [.int i, .int j]) => (i, j)
    | _ => (0, 0)
  | _ => (0, 0)
theorem kOf_at {H : Hp} {t : Addr} {p : Int × Int} (h : H t = some (.tup [.int p.1, .int p.2])) : kOf H (.ref t) = p := by
  unfold kOf
  dsimp only
  rw [h]
/-- what the rules that leave so many heaps leave together -/
def SpansOf (rs : List Rl) (left : Str) (n l : Int) (ss : List (Int × Int)) : Prop := Apart ss ∧ ss.length ≤ rs.length ∧ ∀ x, InS ss x ↔ ∃ r ∈ rs, V.str r.left = V.str left ∧ Leaves r n x ∧ l ≤ x
/-- what the first comprehension has found by its turn i -/
abbrev Fnd (H : Hp) (D1 : Addr) (qs : List (Addr × Rl)) (left : Str) (n l : Int) (i : Nat) (H' : Hp) : Prop := Ex H H' ∧ ∃ vs, H' D1 = some (.lst vs) ∧ vs.length ≤ i ∧ (∀ v ∈ vs, v = .non ∨ ∃ t p, v = V.ref t ∧ H' t = some (.tup [.int (p : Int × Int).1, .int p.2]) ∧ ∃ q ∈ qs, V.str q.2.left = V.str left ∧ spanOf q.2 n l = some p) ∧ ∀ j q, j < i → qs[j]? = some q → V.str q.2.left = V.str left → ∀ p, spanOf q.2 n l = some p → ∃ t, V.ref t ∈ vs ∧ H' t = some (.tup [.int p.1, .int p.2])
theorem Fnd.turn {H H2 H4 : Hp} {D1 : Addr} {qs : List (Addr × Rl)} {left : Str} {n l : Int} {i : Nat} {vs : List V} {y : V} (e : Ex H H2) (hD1 : H D1 = none) (hd : H2 D1 = some (.lst vs)) (hl : vs.length ≤ i)
    (h1 : ∀ v ∈ vs, v = .non ∨ ∃ t p, v = V.ref t ∧ H2 t = some (.tup [.int (p : Int × Int).1, .int p.2]) ∧ ∃ q ∈ qs, V.str q.2.left = V.str left ∧ spanOf q.2 n l = some p)
    (h2 : ∀ j q, j < i → qs[j]? = some q → V.str q.2.left = V.str left → ∀ p, spanOf q.2 n l = some p → ∃ t, V.ref t ∈ vs ∧ H2 t = some (.tup [.int p.1, .int p.2]))
    (hy : y = .non ∨ ∃ t p, y = V.ref t ∧ H4 t = some (.tup [.int (p : Int × Int).1, .int p.2]) ∧ ∃ q ∈ qs, V.str q.2.left = V.str left ∧ spanOf q.2 n l = some p) (e4 : Ex H2 H4)
    (h3 : ∀ q, qs[i]? = some q → V.str q.2.left = V.str left → ∀ p, spanOf q.2 n l = some p → ∃ t, y = V.ref t ∧ H4 t = some (.tup [.int p.1, .int p.2])) : Fnd H D1 qs left n l (i + 1) (upd H4 D1 (.lst (vs ++ [y]))) := by
  have pa : ∀ t (p : Int × Int), H4 t = some (.tup [.int p.1, .int p.2]) → upd H4 D1 (.lst (vs ++ [y])) t = some (.tup [.int p.1, .int p.2]) := fun t p ht => by
    have ne : t ≠ D1 := fun z => by
      rw [z, e4 _ _ hd] at ht
      cases ht
    rw [upd_ne ne]
    exact ht
  refine ⟨(e.trans e4).mut hD1, vs ++ [y], upd_same, by rw [List.length_append]; exact Nat.succ_le_succ hl, fun v hv => ?_, fun j q hj hq hc p hp => ?_⟩
  · rcases List.mem_append.mp hv with hv | hv
    · rcases h1 v hv with h | ⟨t, p, h, ht, r⟩
      · exact .inl h
      · exact .inr ⟨t, p, h, pa t p (e4 _ _ ht), r⟩
    · rw [List.mem_singleton] at hv
      subst hv
      rcases hy with h | ⟨t, p, h, ht, r⟩
      · exact .inl h
      · exact .inr ⟨t, p, h, pa t p ht, r⟩
  · by_cases hji : j < i
    · obtain ⟨t, ht, h⟩ := h2 j q hji hq hc p hp
      exact ⟨t, List.mem_append_left _ ht, pa t p (e4 _ _ h)⟩
    · obtain rfl : j = i := by omega
      obtain ⟨t, rfl, h⟩ := h3 q hq hc p hp
      exact ⟨t, List.mem_append_right _ (List.mem_singleton.mpr rfl), pa t p h⟩
section
variable {P : Program} {w : World} {K : PySem.W.Frag} {mg : Str → Option Value} {base : Heap}
abbrev s_spans := top 32
theorem sc_spans : FnScope ["rules", "heap", "left", "least", "found", "merged", "bottom", "top", "rule", "span"] ["rules", "heap", "left", "least"] (defScope s_spans) := ⟨rfl, rfl, rfl, by decide +kernel, rfl, by decide +kernel, by decide +kernel⟩
def spSpans : Sp := fun vs H Q _ => ∃ (L : Addr) (qs : List (Addr × Rl)) (n l : Int) (left : Str), vs = [.ref L, .int n, .str left, .int l] ∧ H L = some (.lst (qs.map fun q => V.ref q.1)) ∧ RulesAt H qs ∧ qs.length ≤ 1000 ∧ (∀ q ∈ qs, 0 < q.2.mod) ∧
  ∀ (M : Addr) H' (ss : List (Addr × (Int × Int))), H M = none → Ex H H' → H' M = some (.lst (ss.map fun q => V.ref q.1)) → PairsAt H' ss → SpansOf (qs.map (·.2)) left n l (ss.map (·.2)) → Q (.ref M) H'
theorem ok_spans {f f1 : Addr} {fd fd1 : FuncData} (F : FD K mg "spans_left" "spans_left" s_spans f fd) (F_span : FD K mg "span_left" "span_left" s_span f1 fd1) (G_span : FnOk P w K mg base CX0 1 f1 fd1 ["rule", "heap", "least"] spSpan)
    (T : Bl mg) (hmax : mg "max" = none) (hsorted : mg "sorted" = none) : FnOk P w K mg base CX0 2 f fd ["rules", "heap", "left", "least"] spSpans := by
  have b_span : Binds K fd1 ["rule", "heap", "least"] [] := F_span.F.binds fun _ _ _ _ _ _ us hl => match us, hl with | [_, _, _], _ => rfl
  refine F.F.ok sc_spans (fun vs H Q E h => ?_) (fun cdv A outer s H vs Q E hr h => ?_)
  · obtain ⟨L, qs, n, l, left, rfl, _⟩ := h
    rfl
  · obtain ⟨L, qs, n, l, left, rfl, hL, hR, hz, hm, k⟩ := h
    have nd := sc_spans.nd
    have hr1 : Room 1 _ := hr.mono (by decide)
    refine ⟨_, (pss_cons (ps_setLc (i := 4) (own := [("rule", 8)]) (g := gName 8) rfl nd rfl rfl (sw_true rfl rfl rfl (by decide +kernel)) (pi_list (pv 0)) (blkOk_by (N := ["rules", "heap", "left", "least", "found", "merged", "bottom", "top", "rule", "span"]) (sc := defScope s_spans) (by decide +kernel)) (fun _ _ _ _ _ => pg_name (i := 8) nd rfl (Or.inl rfl)) (fun _ _ _ _ _ => (pts_one (pt_cmpR op_eq (pe_ix (r := rIx K) ix_seq (pv 8) pe_int (fun _ _ => rfl)) (pv 2) (nomark _)))) (fun _ _ _ _ _ => (pe_call G_span hr1 (by rfl) F_span.g F_span.F.kp b_span .nil pass0 (pa_cons (pv 8) (pa_cons (pv 1) (pa_cons (pv 3) pa_nil))))))
      (pss_cons (ps_set (i := 5) nd rfl (Or.inl rfl) (pe_lst pa_nil))
      (pss_cons (ps_for PassesOwn.never rfl (pi_list (pe_callB cr_sortedPO (by rfl) hsorted (by decide +kernel) (pa_cons (pe_lc (own := [("span", 9)]) (g := gName 9) rfl nd (pi_list (pv 4)) (blkOk_by (N := ["rules", "heap", "left", "least", "found", "merged", "bottom", "top", "rule", "span"]) (sc := defScope s_spans) (by decide +kernel)) (fun _ _ _ _ _ => pg_name (i := 9) nd rfl (Or.inl rfl)) (fun _ _ _ _ _ => (pts_one (pt_cmpR op_notN (pv 9) pe_non (nomark _)))) (fun _ _ _ _ _ => (pv 9))) pa_nil))) (pg_tup rfl (pgs_cons (pg_name (i := 6) nd rfl (Or.inl rfl)) (pgs_cons (pg_name (i := 7) nd rfl (Or.inl rfl)) pgs_nil))) (pss_one (ps_if (PW.pt (pw_and (pt_cmpR op_gt (pe_callB call_len_seq (by rfl) T.len PySem.boot_len (pa_cons (pv 5) pa_nil)) pe_int (nomark _)) (pw_and1 (pt_cmpR op_le (pv 6) (pe_ix ix_seq (pe_ix ix_seq (pv 5) (pe_un un_neg pe_int) (fun _ _ => rfl)) pe_int (fun _ _ => rfl)) (nomark _))))) (pss_one (ps_asg (pe_tup (pa_cons (pe_ix ix_seq (pe_ix ix_seq (pv 5) (pe_un un_neg pe_int) (fun _ _ => rfl)) pe_int (fun _ _ => rfl)) (pa_cons (pe_callB (call_max2 rfl) (by rfl) hmax (by decide +kernel) (pa_cons (pv 7) (pa_cons (pe_ix ix_seq (pe_ix ix_seq (pv 5) (pe_un un_neg pe_int) (fun _ _ => rfl)) pe_int (fun _ _ => rfl)) pa_nil))) pa_nil))) (pg_sub (pv 5) (pe_un un_neg pe_int) set_list))) (pss_one (ps_expr (pe_bm PySem.F.plainAttrs_list PySem.F.slot_list_append PySem.F.type_list_append mt_append (pv 5) (pa_cons (pe_tup (pa_cons (pv 6) (pa_cons (pv 7) pa_nil))) pa_nil)))))))
      (pss_one (ps_ret (pv 5)))))), ?_⟩
    refine ⟨_, rfl, L, rfl, ⟨_, SqL.of hL⟩, fun D1 hD1 => ?_⟩
    refine lc_it (walk_list (xs := qs.map fun q => V.ref q.1)) (Pv := Fnd H D1 qs left n l) ⟨Ex.new hD1, [], upd_same, Nat.le_refl _, (fun v hv => by cases hv), (fun j q hj => absurd hj (Nat.not_lt_zero _))⟩ (fun i H' _ p => SqL.of (p.1 _ _ hL)) ?_ ?_
    · rintro i x H1 H2 hi ⟨e, vs, hd, hl, h1, h2⟩ y
      obtain ⟨eH, hx⟩ := y
      subst eH
      rw [List.getElem?_map] at hx
      cases hq : qs[i]? with
      | none => rw [hq] at hx; cases hx
      | some q =>
        rw [hq] at hx
        cases hx
        have mq := List.mem_of_getElem? hq
        have hqt := e _ _ (hR q mq)
        refine ⟨rfl, ?_⟩
        refine ⟨_, rfl, ix_row (.inr hqt) (atI_nat (j := 2) rfl) ⟨_, rfl, rfl, _, rfl, ?_⟩⟩
        by_cases c : V.str q.2.left = V.str left
        · refine ite_tt (decide_eq_true c) ?_
          refine ⟨_, rfl, _, rfl, _, rfl, q.1, q.2, n, l, rfl, .inr hqt, hm q mq, fun hn => ?_, fun p hp z nz => ?_⟩
          · exact ⟨vs, hd, by have := hz; rw [List.length_map] at hi; exact Nat.lt_of_lt_of_le (show vs.length < 1001 by omega) (by decide), Fnd.turn e hD1 hd hl h1 h2 (.inl rfl) (Ex.refl _) fun q' hq' _ p hp => by
              rw [hq] at hq'
              cases hq'
              rw [hn] at hp
              cases hp⟩
          · have nz' : H2 z = none := nz
            have hd' : upd H2 z (.tup [.int p.1, .int p.2]) D1 = some (.lst vs) := Ex.new nz' _ _ hd
            exact ⟨vs, hd', by have := hz; rw [List.length_map] at hi; exact Nat.lt_of_lt_of_le (show vs.length < 1001 by omega) (by decide), Fnd.turn e hD1 hd hl h1 h2 (.inr ⟨z, p, rfl, upd_same, q, mq, c, hp⟩) (Ex.new nz') fun q' hq' _ p' hp' => by
              rw [hq] at hq'
              cases hq'
              rw [hp] at hp'
              cases hp'
              exact ⟨z, rfl, upd_same⟩⟩
        · refine ite_ff (decide_eq_false c) ?_
          refine ⟨e, vs, hd, by omega, h1, fun j q' hj hq' hc p hp => ?_⟩
          by_cases hji : j < i
          · exact h2 j q' hji hq' hc p hp
          · obtain rfl : j = i := by omega
            rw [hq] at hq'
            cases hq'
            exact absurd hc c
    · rintro H1 ⟨e1, vs, hd1, hl, h1, h2⟩
      refine ⟨Nat.zero_le _, fun M hM => ?_⟩
      have e2 : Ex H1 (upd H1 M (.lst [])) := Ex.new hM
      have dM : upd H1 M (.lst []) M = some (.lst []) := upd_same
      have MH : H M = none := Evl.fresh_back e1 hM
      generalize upd H1 M (.lst []) = H2 at e2 dM
      refine ⟨_, rfl, D1, rfl, ⟨_, SqL.of (e2 _ _ hd1)⟩, fun D2 hD2 => ?_⟩
      refine lc_it (walk_list (xs := vs)) (Pv := fun i H' => Ex H2 H' ∧ ∃ xs, H' D2 = some (.lst xs) ∧ xs.length ≤ i ∧ (∀ x ∈ xs, x ∈ vs ∧ x ≠ .non) ∧ ∀ j x, j < i → vs[j]? = some x → x ≠ .non → x ∈ xs) ⟨Ex.new hD2, [], upd_same, Nat.le_refl _, (fun v hv => by cases hv), (fun j q hj => absurd hj (Nat.not_lt_zero _))⟩ (fun i H' _ p => SqL.of (p.1 _ _ (e2 _ _ hd1))) ?_ ?_
      · rintro i x H3 H4 hi ⟨e, xs, hd, hl', g1, g2⟩ y
        obtain ⟨eH, hx⟩ := y
        subst eH
        refine ⟨rfl, ?_⟩
        refine ⟨_, rfl, rfl, _, rfl, ?_⟩
        by_cases c : x = .non
        · refine ite_ff (by rw [decide_eq_true c]; rfl) ?_
          refine ⟨e, xs, hd, by omega, g1, fun j z hj hz hne => ?_⟩
          by_cases hji : j < i
          · exact g2 j z hji hz hne
          · obtain rfl : j = i := by omega
            rw [hx] at hz
            cases hz
            exact absurd c hne
        · refine ite_tt (by rw [decide_eq_false c]; rfl) ?_
          refine ⟨_, rfl, xs, hd, by have := hz; rw [List.length_map] at hl; exact Nat.lt_of_lt_of_le (show xs.length < 1001 by omega) (by decide), e.mut hD2, xs ++ [x], upd_same, by rw [List.length_append]; exact Nat.succ_le_succ hl', fun z hz => ?_, fun j z hj hz hne => ?_⟩
          · rcases List.mem_append.mp hz with hz | hz
            · exact g1 z hz
            · rw [List.mem_singleton] at hz
              subst hz
              exact ⟨List.mem_of_getElem? hx, c⟩
          · by_cases hji : j < i
            · exact List.mem_append_left _ (g2 j z hji hz hne)
            · obtain rfl : j = i := by omega
              rw [hx] at hz
              cases hz
              exact List.mem_append_right _ (List.mem_singleton.mpr rfl)
      · rintro H3 ⟨e3, xs, hd2, hl2, g1, g2⟩
        have hxs : ∀ x ∈ xs, ∃ t, x = V.ref t ∧ H3 t = some (.tup [.int (kOf H3 x).1, .int (kOf H3 x).2]) ∧ ∃ q ∈ qs, V.str q.2.left = V.str left ∧ spanOf q.2 n l = some (kOf H3 x) := fun x hx => by
          obtain ⟨m, ne⟩ := g1 x hx
          rcases h1 x m with h | ⟨t, p, rfl, ht, r⟩
          · exact absurd h ne
          · have z := e3 _ _ (e2 _ _ ht)
            have zk := kOf_at z
            rw [zk]
            exact ⟨t, rfl, z, r⟩
        have hsp : ∀ q ∈ qs, V.str q.2.left = V.str left → ∀ p, spanOf q.2 n l = some p → ∃ x ∈ xs, kOf H3 x = p := fun q hq hc p hp => by
          obtain ⟨j, hj, hjq⟩ := List.getElem_of_mem hq
          obtain ⟨t, ht, h⟩ := h2 j q (by rw [List.length_map]; exact hj) (by rw [List.getElem?_eq_getElem hj, hjq]) hc p hp
          obtain ⟨i, hi, hix⟩ := List.getElem_of_mem ht
          exact ⟨_, g2 i _ hi (by rw [List.getElem?_eq_getElem hi, hix]) (fun z => by cases z), kOf_at (e3 _ _ (e2 _ _ h))⟩
        refine ⟨D2, xs, kOf H3, rfl, SqL.of hd2, (fun x hx => by
          obtain ⟨t, h, ht, _⟩ := hxs x hx
          exact ⟨t, h, ht⟩), fun ys SL hsrt hstb hSL => ?_⟩
        have hys : ∀ x ∈ ys, x ∈ xs := fun x hx => hstb.perm.mem_iff.mp hx
        have hyl : ys.length ≤ 1000 := by
          rw [hstb.perm.length_eq]
          rw [List.length_map] at hl
          omega
        have d3M := e3 _ _ dM
        have neM : SL ≠ M := fun z => by
          rw [z, d3M] at hSL
          cases hSL
        have e4 : Ex H3 (upd H3 SL (.lst ys)) := Ex.new hSL
        have dSL : upd H3 SL (.lst ys) SL = some (.lst ys) := upd_same
        have d4M := e4 _ _ d3M
        generalize upd H3 SL (.lst ys) = H4 at e4 dSL d4M
        have eH : Ex H (del H4 M) := fun b o hb => by
          have nb : b ≠ M := fun z => by
            rw [z, MH] at hb
            cases hb
          unfold del
          rw [if_neg nb]
          exact e4 _ _ (e3 _ _ (e2 _ _ (e1 _ _ hb)))
        have eP : ∀ t (p : Int × Int), H3 t = some (.tup [.int p.1, .int p.2]) → del H4 M t = some (.tup [.int p.1, .int p.2]) := fun t p ht => by
          have nb : t ≠ M := fun z => by
            rw [z, d3M] at ht
            cases ht
          unfold del
          rw [if_neg nb]
          exact e4 _ _ ht
        have nM : del H4 M M = none := by unfold del; rw [if_pos rfl]
        have dL4 : del H4 M SL = some (.lst ys) := by
          unfold del
          rw [if_neg neM]
          exact dSL
        have eB : Ex (del H4 M) H4 := fun b o e => by
          unfold del at e
          split at e
          · cases e
          · exact e
        refine ⟨SL, rfl, ⟨ys, SqL.of dSL⟩, for_list (K := K) (a := SL) (xs := ys) (fun i σ H' => ∃ (ss : List (Addr × (Int × Int))) (v6 v7 : Option V), σ = [some (.ref L), some (.int n), some (.str left), some (.int l), some (.ref D1), some (.ref M), v6, v7, none, none] ∧ H' M = some (.lst (ss.map fun q => V.ref q.1)) ∧ Ex (del H4 M) H' ∧ PairsAt H' ss ∧ Mg ((ys.take i).map (kOf H3)) (ss.map (·.2)))
          ⟨[], none, none, rfl, d4M, eB, (fun q hq => by cases hq), Mg.nil⟩ (fun i σ H' _ q => ?_) (fun i x σ H' hx q => ?_) (fun σ H' q => ?_)⟩
        · obtain ⟨ss, v6, v7, rfl, _, e, _, _⟩ := q
          exact SqL.of (e _ _ dL4)
        · obtain ⟨ss, v6, v7, rfl, hM', e, hP, mg⟩ := q
          have mx := List.mem_of_getElem? hx
          obtain ⟨t, rfl, ht, q0, hq0, hc0, hs0⟩ := hxs x (hys x mx)
          have ht' := e _ _ (eP _ _ ht)
          have hle : (kOf H3 (.ref t)).1 ≤ (kOf H3 (.ref t)).2 := by
            have hs := hs0
            unfold spanOf at hs
            split at hs
            · rename_i c
              rw [← Option.some.inj hs]
              exact c.2
            · cases hs
          have hlow : ∀ p ∈ (ys.take i).map (kOf H3), p.1 ≤ (kOf H3 (.ref t)).1 := fun p hp => by
            obtain ⟨y, hy, rfl⟩ := List.mem_map.mp hp
            obtain ⟨j, hj, hjy⟩ := List.getElem_of_mem hy
            have hji : j < i := by
              rw [List.length_take] at hj
              omega
            obtain ⟨hil, hix⟩ := List.getElem?_eq_some_iff.mp hx
            have z := List.pairwise_iff_getElem.mp hsrt j i (by omega) hil hji
            rw [hix] at z
            rw [List.getElem_take] at hjy
            rw [hjy] at z
            have := SrtO.lexB_no.mp z
            omega
          have htake : (ys.take (i + 1)).map (kOf H3) = (ys.take i).map (kOf H3) ++ [kOf H3 (.ref t)] := by
            rw [List.take_add_one, hx, List.map_append]
            rfl
          have hlen : ss.length ≤ 1000 := by
            have z := mg.len
            rw [List.length_map, List.length_map, List.length_take] at z
            omega
          refine ⟨t, _, rfl, SqT.of ht', rfl, _, _, rfl, _, _, rfl, rfl, ?_⟩
          generalize kOf H3 (.ref t) = p at *
          have app : (∀ s ∈ ss.map (·.2), s.2 < p.1) → ∀ z, H' z = none → (∃ (ss' : List (Addr × (Int × Int))) (v6 v7 : Option V), [some (V.ref L), some (.int n), some (.str left), some (.int l), some (.ref D1), some (.ref M), some (.int p.1), some (.int p.2), none, none] = [some (.ref L), some (.int n), some (.str left), some (.int l), some (.ref D1), some (.ref M), v6, v7, none, none] ∧ upd (upd H' z (.tup [.int p.1, .int p.2])) M (.lst (ss.map (fun q => V.ref q.1) ++ [.ref z])) M = some (.lst (ss'.map fun q => V.ref q.1)) ∧ Ex (del H4 M) (upd (upd H' z (.tup [.int p.1, .int p.2])) M (.lst (ss.map (fun q => V.ref q.1) ++ [.ref z]))) ∧ PairsAt (upd (upd H' z (.tup [.int p.1, .int p.2])) M (.lst (ss.map (fun q => V.ref q.1) ++ [.ref z]))) ss' ∧ Mg ((ys.take (i + 1)).map (kOf H3)) (ss'.map (·.2))) := fun hsep z nz => by
            have ez : Ex H' (upd H' z (.tup [.int p.1, .int p.2])) := Ex.new nz
            have dz : upd H' z (.tup [.int p.1, .int p.2]) z = some (.tup [.int p.1, .int p.2]) := upd_same
            refine ⟨ss ++ [(z, p)], _, _, rfl, by rw [upd_same, List.map_append]; rfl, (e.trans ez).mut nM, PairsAt.upd (fun q hq => ?_) (ez _ _ hM'), ?_⟩
            · rcases List.mem_append.mp hq with hq | hq
              · exact ez _ _ (hP q hq)
              · rw [List.mem_singleton] at hq
                subst hq
                exact dz
            · rw [htake, List.map_append]
              exact mg.add hle hsep
          rcases List.eq_nil_or_concat ss with rfl | ⟨s0, s, hs⟩
          · refine ⟨_, rfl, M, _, rfl, .inl (SqL.of hM'), _, _, rfl, rfl, _, rfl, ?_⟩
            refine ite_ff (decide_eq_false (show ¬ (0 : Int) < ((0 : Nat) : Int) by decide)) ?_
            refine ite_ff rfl ?_
            refine ⟨_, rfl, .inl ⟨rfl, _, SqL.of hM'⟩, _, rfl, _, rfl, by show 2 ≤ sizeLine; decide, fun z nz => ⟨M, _, _, rfl, rfl, Ex.new nz _ _ hM', by show 0 < sizeLine; decide, app (fun s hs => by cases hs) z nz⟩⟩
          · have hs : ss = s0 ++ [s] := by rw [hs, List.concat_eq_append]
            subst hs
            have hM2 : H' M = some (.lst (s0.map (fun q => V.ref q.1) ++ [V.ref s.1])) := by rw [hM', List.map_append]; rfl
            have hsT := hP s (List.mem_append_right _ (List.mem_singleton.mpr rfl))
            have hl0 : s0.length + 1 ≤ 1000 := by
              rw [List.length_append] at hlen
              exact hlen
            have mg2 : Mg ((ys.take i).map (kOf H3)) (s0.map (·.2) ++ [s.2]) := by
              have z := mg
              rw [List.map_append] at z
              exact z
            refine ⟨_, rfl, M, _, rfl, .inl (SqL.of hM'), _, _, rfl, rfl, _, rfl, ?_⟩
            refine ite_tt (decide_eq_true (by rw [List.length_map, List.length_append]; show (0 : Int) < ((s0.length + 1 : Nat) : Int); omega)) ?_
            refine ⟨_, rfl, _, rfl, _, rfl, ix_row (.inl hM2) (atI_last _ _) (ix_row (.inr hsT) (atI_nat (j := 1) rfl) ⟨_, _, rfl, rfl, _, rfl, ?_⟩)⟩
            by_cases c : p.1 ≤ s.2.2
            · refine ite_tt (decide_eq_true c) ?_
              refine ⟨_, rfl, _, rfl, ix_row (.inl hM2) (atI_last _ _) (ix_row (.inr hsT) (atI_nat (j := 0) rfl) ⟨_, rfl, _, rfl, _, rfl, ix_row (.inl hM2) (atI_last _ _) (ix_row (.inr hsT) (atI_nat (j := 1) rfl) ⟨_, _, rfl, by show 2 ≤ sizeLine; decide, fun z nz => ?_⟩)⟩)⟩
              have ez : Ex H' (upd H' z (.tup [.int s.2.1, .int (if s.2.2 > p.2 then s.2.2 else p.2)])) := Ex.new nz
              have dz : upd H' z (.tup [.int s.2.1, .int (if s.2.2 > p.2 then s.2.2 else p.2)]) z = some (.tup [.int s.2.1, .int (if s.2.2 > p.2 then s.2.2 else p.2)]) := upd_same
              refine ⟨_, rfl, _, rfl, M, _, _, s0.length, rfl, rfl, ez _ _ hM2, by rw [List.length_append, List.length_map]; exact ixN_last, ?_⟩
              refine ⟨s0 ++ [(z, (s.2.1, if s.2.2 > p.2 then s.2.2 else p.2))], _, _, rfl, by rw [upd_same, set_last (by rw [List.length_map]), List.map_append]; rfl, (e.trans ez).mut nM, PairsAt.upd (fun q hq => ?_) (ez _ _ hM2), ?_⟩
              · rcases List.mem_append.mp hq with hq | hq
                · exact ez _ _ (hP q (List.mem_append_left _ hq))
                · rw [List.mem_singleton] at hq
                  subst hq
                  exact dz
              · rw [htake, List.map_append]
                obtain ⟨q, hq, eq⟩ := mg2.low s.2 (List.mem_append_right _ (List.mem_singleton.mpr rfl))
                exact mg2.wide (by rw [← eq]; exact hlow q hq) c rfl
            · refine ite_ff (decide_eq_false c) ?_
              refine ⟨_, rfl, .inl ⟨rfl, _, SqL.of hM'⟩, _, rfl, _, rfl, by show 2 ≤ sizeLine; decide, fun z nz => ⟨M, _, _, rfl, rfl, Ex.new nz _ _ hM', by rw [List.length_map]; exact Nat.lt_of_le_of_lt hlen (by decide), app (fun s' hs' => ?_) z nz⟩⟩
              rw [List.map_append] at hs'
              rcases List.mem_append.mp hs' with hs' | hs'
              · have z1 := (List.pairwise_append.mp mg2.ap.asc).2.2 s' hs' s.2 (List.mem_singleton.mpr rfl)
                have z2 := mg2.ap.some s.2 (List.mem_append_right _ (List.mem_singleton.mpr rfl))
                omega
              · have hs' : s' = s.2 := List.mem_singleton.mp hs'
                rw [hs']
                omega
        · obtain ⟨ss, v6, v7, rfl, hM', e, hP, mg⟩ := q
          rw [List.take_length] at mg
          refine ⟨_, rfl, k M H' ss MH (eH.trans e) hM' hP ⟨mg.ap, ?_, fun x => ?_⟩⟩
          · have z := mg.len
            have z2 := hstb.perm.length_eq
            rw [List.length_map] at z hl ⊢
            rw [List.length_map] at z ⊢
            omega
          · rw [mg.has]
            constructor
            · rintro ⟨p, hp, h⟩
              obtain ⟨y, hy, rfl⟩ := List.mem_map.mp hp
              obtain ⟨t, rfl, ht, q, hq, hc, hs⟩ := hxs y (hys y hy)
              exact ⟨q.2, List.mem_map.mpr ⟨q, hq, rfl⟩, hc, span_iff.mp ⟨_, hs, h⟩⟩
            · rintro ⟨r, hr', hc, h⟩
              obtain ⟨q, hq, rfl⟩ := List.mem_map.mp hr'
              obtain ⟨p, hp, h⟩ := span_iff.mpr h
              obtain ⟨y, hy, rfl⟩ := hsp q hq hc p hp
              exact ⟨_, List.mem_map.mpr ⟨y, hstb.perm.mem_iff.mpr hy, rfl⟩, h⟩
end
end Ts


set_option Elab.async false
set_option linter.all false
set_option maxRecDepth 100000
set_option maxHeartbeats 4000000
namespace Ts
open PySem PySem.Spec L2
open Evl (Ex)
noncomputable instance inS_dec {ss : List (Int × Int)} {x : Int} : Decidable (InS ss x) := Classical.propDecidable _
/-- the turns of a walk, whatever a turn does -/
theorem it_gen {J : It} {n : Nat} {G : Hp → Prop} {Y : Nat → Hp → V → Hp → Prop} (w : Walk J n G Y) {H0 : Hp} {Qd : Hp → Prop} {T : (Hp → Prop) → V → Hp → Prop} (Pv : Nat → Hp → Prop) (h0 : Pv 0 H0) (hG : ∀ i H, i ≤ n → Pv i H → G H)
    (hs : ∀ i x H H', i < n → Pv i H → Y i H x H' → T (Pv (i + 1)) x H') (hd : ∀ H, Pv n H → Qd H) :
    ∃ W : Nat → Nat → Hp → Prop, (∃ m, W 0 m H0) ∧ ∀ i m H, W i m H → (J.stop i H ∧ Qd H) ∨ (J.go i H ∧ ∃ Nx : Hp → Prop, (∀ H', Nx H' → ∃ m', m' < m ∧ W (i + 1) m' H') ∧ ∀ x H', J.yld i H x H' → T Nx x H') := by
  refine ⟨fun i m H => m = n - i ∧ i ≤ n ∧ Pv i H, ⟨n, by simp, Nat.zero_le _, h0⟩, ?_⟩
  rintro i m H ⟨rfl, hi, p⟩
  have q := hG i H hi p
  by_cases hlt : i < n
  · exact .inr ⟨w.goes i H hlt q, Pv (i + 1), fun H' p' => ⟨n - (i + 1), by omega, rfl, hlt, p'⟩, fun x H' y => hs i x H H' hlt p (w.yields i H x H' hlt q y)⟩
  · have e : i = n := by omega
    subst e
    exact .inl ⟨w.stops H q, hd H p⟩
theorem yes_of {σ : L2.St} {H : Hp} {A B : Hp → Prop} (a : A H) : tYes σ H fun b H3 => if b = true then A H3 else B H3 := by
  unfold tYes
  dsimp only
  rw [if_pos rfl]
  exact a
theorem asc_len : ∀ {ns : List Int} {a b : Int}, ns.Pairwise (· < ·) → (∀ x ∈ ns, a ≤ x ∧ x ≤ b) → a ≤ b + 1 → (ns.length : Int) ≤ b - a + 1
  | [], a, b, _, _, h => by
    show ((0 : Nat) : Int) ≤ _
    omega
  | n :: ns, a, b, hp, hb, h => by
    obtain ⟨h1, h2⟩ := List.pairwise_cons.mp hp
    have hn := hb n List.mem_cons_self
    have z := asc_len (ns := ns) (a := n + 1) (b := b) h2 (fun x hx => ⟨h1 x hx, (hb x (List.mem_cons_of_mem _ hx)).2⟩) (by omega)
    rw [List.length_cons]
    omega
theorem no_key : ∀ kvs : List (Key × V), ∃ n : Nat, valV kvs (.inl (n : Int)) = none := fun kvs => by
  have z : ∃ B : Nat, ∀ kv ∈ kvs, ∀ i : Int, kv.1 = .inl i → i < (B : Nat) := by
    induction kvs with
    | nil => exact ⟨0, fun kv h => by cases h⟩
    | cons kv kvs ih =>
      obtain ⟨B, hB⟩ := ih
      obtain ⟨k, v⟩ := kv
      cases k with
      | inl i =>
        refine ⟨B + i.toNat + 1, fun kv' h j e => ?_⟩
        rcases List.mem_cons.mp h with rfl | h
        · cases e
          omega
        · have := hB kv' h j e
          omega
      | inr x =>
        refine ⟨B, fun kv' h j e => ?_⟩
        rcases List.mem_cons.mp h with rfl | h
        · cases e
        · exact hB kv' h j e
  obtain ⟨B, hB⟩ := z
  refine ⟨B, ?_⟩
  unfold valV
  rw [List.find?_eq_none.mpr fun kv h z => ?_]
  · rfl
  · have := hB kv h (B : Int) (of_decide_eq_true z)
    omega
theorem least_ex {p : Nat → Prop} (h : ∃ n, p n) : ∃ m, p m ∧ ∀ k, k < m → ¬ p k := by
  obtain ⟨n, hn⟩ := h
  induction n using Nat.strongRecOn with
  | ind n ih =>
    by_cases c : ∃ k, k < n ∧ p k
    · obtain ⟨k, hk, hp⟩ := c
      exact ih k hk hp
    · exact ⟨n, hn, fun k hk hp => c ⟨k, hk, hp⟩⟩
section
variable {P : Program} {w : World} {K : PySem.W.Frag} {mg : Str → Option Value} {base : Heap}
abbrev s_lnone := top 33
theorem sc_lnone : FnScope ["rules", "heap", "spans"] ["rules", "heap"] (defScope s_lnone) := ⟨rfl, rfl, rfl, by decide +kernel, rfl, by decide +kernel, by decide +kernel⟩
def spLnone : Sp := fun vs H Q _ => ∃ (L : Addr) (qs : List (Addr × Rl)) (n : Int), vs = [.ref L, .int n] ∧ H L = some (.lst (qs.map fun q => V.ref q.1)) ∧ RulesAt H qs ∧ qs.length ≤ 1000 ∧ (∀ q ∈ qs, 0 < q.2.mod) ∧
  ∀ (b : Bool) H', Ex H H' → (b = true ↔ ∃ r ∈ qs.map (·.2), V.str r.left = V.str "none" ∧ Leaves r n 0) → Q (.bl b) H'
theorem ok_lnone {f f1 : Addr} {fd fd1 : FuncData} (F : FD K mg "leaves_none" "leaves_none" s_lnone f fd) (F_spans : FD K mg "spans_left" "spans_left" s_spans f1 fd1) (G_spans : FnOk P w K mg base CX0 2 f1 fd1 ["rules", "heap", "left", "least"] spSpans)
    (T : Bl mg) : FnOk P w K mg base CX0 3 f fd ["rules", "heap"] spLnone := by
  have b_spans : Binds K fd1 ["rules", "heap", "left", "least"] [] := F_spans.F.binds fun _ _ _ _ _ _ us hl => match us, hl with | [_, _, _, _], _ => rfl
  refine F.F.ok sc_lnone (fun vs H Q E h => ?_) (fun cdv A outer s H vs Q E hr h => ?_)
  · obtain ⟨L, qs, n, rfl, _⟩ := h
    rfl
  · obtain ⟨L, qs, n, rfl, hL, hR, hz, hm, k⟩ := h
    have nd := sc_lnone.nd
    have hr2 : Room 2 _ := hr.mono (by decide)
    refine ⟨_, (pss_cons (ps_set (i := 2) nd rfl (Or.inl rfl) (pe_call G_spans hr2 (by rfl) F_spans.g F_spans.F.kp b_spans .nil pass0 (pa_cons (pv 0) (pa_cons (pv 1) (pa_cons pe_str (pa_cons pe_int pa_nil))))))
      (pss_one (ps_ret (pe_and (pe_cmpR op_gt (pe_callB call_len_seq (by rfl) T.len PySem.boot_len (pa_cons (pv 2) pa_nil)) pe_int (nomark _)) (pe_one (pe_cmpR op_eq (pe_ix ix_seq (pe_ix ix_seq (pv 2) pe_int (fun _ _ => rfl)) pe_int (fun _ _ => rfl)) pe_int (nomark _))))))), ?_⟩
    refine ⟨_, rfl, _, rfl, L, qs, n, 0, "none", rfl, hL, hR, hz, hm, fun M H' ss nM e hM hP sp => ?_⟩
    obtain ⟨ap, hl, hs⟩ := sp
    have k' := k (b := decide (InS (ss.map (·.2)) 0)) H' e (by
      rw [decide_eq_true_iff, hs]
      exact ⟨fun ⟨r, h1, h2, h3, h4⟩ => ⟨r, h1, h2, h3⟩, fun ⟨r, h1, h2, h3⟩ => ⟨r, h1, h2, h3, Int.le_refl _⟩⟩)
    have nonneg : ∀ s ∈ ss.map (·.2), 0 ≤ s.1 := fun s hs' => by
      obtain ⟨r, _, _, _, h⟩ := (hs s.1).mp ⟨s, hs', Int.le_refl _, ap.some s hs'⟩
      exact h
    refine ⟨_, rfl, M, _, rfl, .inl (SqL.of hM), _, _, rfl, rfl, _, rfl, ?_⟩
    cases ss with
    | nil =>
      refine ite_ff (decide_eq_false (show ¬ (0 : Int) < ((0 : Nat) : Int) by decide)) ?_
      rw [decide_eq_false (show ¬ InS (([] : List (Addr × (Int × Int))).map (·.2)) 0 from fun ⟨s, hs, _⟩ => by cases hs)] at k'
      exact k'
    | cons s0 ss =>
      refine ite_tt (decide_eq_true (by rw [List.length_map, List.length_cons]; show (0 : Int) < ((ss.length + 1 : Nat) : Int); omega)) ?_
      have e0 : decide (V.int s0.2.1 = V.int 0) = decide (InS ((s0 :: ss).map (·.2)) 0) := by
        have n0 := nonneg s0.2 List.mem_cons_self
        rw [dec_z]
        have n1 : s0.2.1 ≤ s0.2.2 := ap.some s0.2 List.mem_cons_self
        have n0 : 0 ≤ s0.2.1 := n0
        refine decide_eq_decide.mpr ⟨fun h => ⟨s0.2, List.mem_cons_self, by show s0.2.1 ≤ 0; omega, ?_⟩, fun ⟨s, hs', h1, h2⟩ => ?_⟩
        · show 0 ≤ s0.2.2
          omega
        · rcases List.mem_cons.mp hs' with rfl | hs''
          · have h1 : s0.2.1 ≤ 0 := h1
            omega
          · have z1 := (List.pairwise_cons.mp ap.asc).1 s hs''
            have z2 := ap.some s0.2 List.mem_cons_self
            have : s0.2.2 < s.1 := z1
            omega
      refine ⟨_, rfl, ix_row (.inl hM) (atI_nat (j := 0) rfl) (ix_row (.inr (hP s0 List.mem_cons_self)) (atI_nat (j := 0) rfl) ⟨rfl, ?_⟩)⟩
      rw [e0]
      exact k'
def spNums : Sp := fun vs H Q _ => ∃ (M : Addr) (ss : List (Addr × (Int × Int))) (N : Int), vs = [.ref M] ∧ H M = some (.lst (ss.map fun q => V.ref q.1)) ∧ PairsAt H ss ∧ Apart (ss.map (·.2)) ∧ ss.length ≤ 1000 ∧ (∀ x, InS (ss.map (·.2)) x → 0 ≤ x ∧ x ≤ N) ∧ 0 ≤ N ∧ N ≤ 100000 ∧
  ∀ (D : Addr) H' (ns : List Int), H D = none → Ex H H' → H' D = some (.lst (ns.map V.int)) → ns.Pairwise (· < ·) → (∀ x, x ∈ ns ↔ InS (ss.map (·.2)) x) → Q (.ref D) H'
end
end Ts


set_option Elab.async false
set_option linter.all false
set_option maxRecDepth 100000
set_option maxHeartbeats 4000000
namespace Ts
open PySem PySem.Spec L2
variable {X : Cx}
/-- a local gets a dict told on one line -/
theorem ps_setDc {i : Nat} {y : Str} {py : Pos} {kx vx tg iter : Expr} {ifs : List Expr} {scope : Scope} {own : List (Str × Nat)} {pos spos : Pos} {wi : TI} {g : TG} {tt : TT} {tk tv : TE} (hc : X.calm = true) (hN : X.N.Nodup) (hy : X.N[i]? = some y) (hyl : X.env.scope.names.lookup y = some .local)
    (hsw : swapsWith (.DictComp kx vx [⟨tg, iter, ifs, 0⟩] scope pos) (some (.Name y py)) spos.line X.env = pure true) (hi : PI X tg iter wi) (ok : BlkOk X.N X.env.scope scope own)
    (hg : ∀ (s : Shared) (H : Hp) (C : Addr) (cl : List (Str × Addr)) (fp : List Addr), PG (X.blk s H scope (compEnvC scope cl C X.env) fp) tg g) (ht : ∀ (s : Shared) (H : Hp) (C : Addr) (cl : List (Str × Addr)) (fp : List Addr), PTs (X.blk s H scope (compEnvC scope cl C X.env) fp) ifs tt)
    (hk : ∀ (s : Shared) (H : Hp) (C : Addr) (cl : List (Str × Addr)) (fp : List Addr), PE (X.blk s H scope (compEnvC scope cl C X.env) fp) kx tk)
    (he : ∀ (s : Shared) (H : Hp) (C : Addr) (cl : List (Str × Addr)) (fp : List Addr), PE (X.blk s H scope (compEnvC scope cl C X.env) fp) vx tv) (hs : ∀ x, foldedSetIterable iter X.env x = pure x := by intro _; rfl) :
    PS X (.Assign [.Name y py] (.DictComp kx vx [⟨tg, iter, ifs, 0⟩] scope pos) spos) (tAsg (tDc wi g tt tk tv (own.map (·.2))) (gName i)) := by
  refine ⟨fun pins s σ H D I h => ?_⟩
  rw [exec_Assign_Name_used _ _ _ _ hsw]
  refine wpAny_bind (wpAny_standAt (wpAny_bind ?_))
  show wpAny _ X.A (do let _ ← comprehension (.DictComp kx vx [⟨tg, iter, ifs, 0⟩] scope pos) scope X.env (firstIterPos [⟨tg, iter, ifs, 0⟩] pos) newDict false (eval iter X.env) (some (assign (.Name y py) X.env))) _ _ s
  have h : tDc wi g tt tk tv (own.map (·.2)) σ H (fun x H1 => gName i x σ H1 D.nx) := h
  refine wpAny_bind (thn (dc_core (Qf := fun _ s' => SP X pins D .next s') hc hN I hi ok hg ht hk he hs h fun L C s' m H' I' q hn f => ?_) fun _ s' hq => wpAny_pure (wpAny_pure hq))
  show wpAny _ _ (assign (.Name y py) X.env (.ref L)) _ _ _
  refine wpAny_assign_Name (store_ok2 (v := V.ref L) I' hN hy (.inl hyl) rfl (fun s2 I2 ⟨a, sb, ha⟩ => ?_) (.inr hyl))
  obtain ⟨f0, f1, f2, f3, f4, f5⟩ := f
  have haC : C ≠ a := by
    rcases ha with z | z
    · rw [z]; exact f1
    · exact fun e => f4 y a z e.symm
  refine ⟨m, hn.sameBut sb haC, fun h3 sb3 => ?_⟩
  exact ⟨_, H', I2.turned (t' := s2.toks) (fun b o hb e => (sb3.2 b hb).trans e) f0 f1 f3 f4 f5, q⟩
theorem sw_trueD {kx vx : Expr} {gs : List Comprehension} {scope : Scope} {pos py : Pos} {y : Str} {l : Nat} {env : Env} (hk : env.scope.kind = .function) (hy : env.scope.names.lookup y = some .local) (hl : (py.line == pos.line) = true)
    (ha : (scope.names.any fun (n, k) => n == y && (k == .local || k == .cell)) = false) : swapsWith (.DictComp kx vx gs scope pos) (some (.Name y py)) l env = pure true := by
  have ky : env.kindOf y = some .local := hy
  have hb : env.blockKind = .function := by unfold Env.blockKind; rw [hk]; rfl
  unfold swapsWith
  simp only [hb, ky, ha, Expr.pos, hl]
  rfl
end Ts


set_option Elab.async false
set_option linter.all false
set_option maxRecDepth 100000
set_option maxHeartbeats 4000000
namespace Ts
open PySem PySem.Spec L2
open Evl (Ex)
/-- a comprehension with a test over a list in a slot -/
theorem lc_sel {K : PySem.W.Frag} {i j : Nat} {tt : TT} {te : TE} {vs : List Nat} {σ : L2.St} {H : Hp} {a : Addr} {α : Type} {Q : VK} (f : α → V) (S : α → Bool) (xs : List α) (hσ : σ[i]? = some (some (.ref a))) (ha : H a = some (.lst (xs.map f))) (hz : xs.length ≤ 100000)
    (hs : ∀ (x : α) H' (A : V → Hp → Prop) (B : Hp → Prop), x ∈ xs → Ex H H' → (∀ H4, Ex H' H4 → S x = true → A (f x) H4) → (∀ H4, Ex H' H4 → S x = false → B H4) →
      gName j (f x) (wipe σ vs) H' fun σ2 H2 => wipe σ2 vs = wipe σ vs ∧ tt σ2 H2 fun b H3 => if b = true then te σ2 H3 A else B H3)
    (hq : ∀ D Hf, H D = none → Ex H Hf → Hf D = some (.lst ((xs.filter S).map f)) → Q (.ref D) Hf) : tLc (iList K (tVar i)) (gName j) tt te vs σ H Q := by
  refine ⟨_, hσ, a, rfl, ⟨_, SqL.of ha⟩, fun D hD => ?_⟩
  refine lc_it (walk_list (xs := xs.map f)) (fun i H' => Ex H H' ∧ H' D = some (.lst (((xs.take i).filter S).map f))) ⟨Ex.new hD, upd_same⟩ (fun i H' _ p => SqL.of (p.1 _ _ ha)) (fun i x H2 H' hi p y => ?_) (fun H2 p => ?_)
  · obtain ⟨e, hd⟩ := p
    obtain ⟨rfl, hx⟩ := y
    rw [List.length_map] at hi
    rw [List.getElem?_map, List.getElem?_eq_getElem hi] at hx
    cases hx
    have et : xs.take (i + 1) = xs.take i ++ [xs[i]] := by rw [List.take_add_one, List.getElem?_eq_getElem hi]; rfl
    refine hs xs[i] H' _ _ (List.getElem_mem hi) e (fun H4 e4 ht => ⟨_, e4 _ _ hd, ?_, (e.trans e4).mut hD, ?_⟩) (fun H4 e4 ht => ⟨e.trans e4, ?_⟩)
    · have := List.length_filter_le S (xs.take i)
      rw [List.length_take] at this
      rw [List.length_map]
      exact Evl.sz_lt (by omega)
    · rw [upd_same, et, List.filter_append, List.map_append, List.filter_cons, if_pos ht]
      rfl
    · rw [e4 _ _ hd, et, List.filter_append, List.map_append, List.filter_cons, if_neg (by rw [ht]; decide)]
      simp
  · obtain ⟨e, hd⟩ := p
    rw [List.length_map, List.take_length] at hd
    exact hq D H2 hD e hd
theorem gn1 {i : Nat} {x : V} {σ : L2.St} {H : Hp} {K : L2.St → Hp → Prop} (h : K (σ.set i (some x)) H) : gName i x σ H K := h
theorem sFld1 {K : PySem.W.Frag} {ta tv : TE} {f : Str} {D : Ends} {σ : L2.St} {H : Hp} (h : tv σ H fun y H1 => ta σ H1 fun x H2 => ∃ a C dx fs, x = .ref a ∧ H2 a = some (.ins C dx fs) ∧ Cls K C ∧ NoAttr K C f ∧ fs.length < 1000 ∧ D.nx σ (upd H2 a (.ins C dx (putF f y fs)))) : sFld K ta tv f D σ H := h
theorem seq1 {t u : TS} {D : Ends} {σ : L2.St} {H : Hp} (h : t { D with nx := u D } σ H) : tSeq t u D σ H := h
theorem asg1 {t : TE} {g : TG} {D : Ends} {σ : L2.St} {H : Hp} (h : t σ H (fun x H1 => g x σ H1 D.nx)) : tAsg t g D σ H := h
theorem next1 {D : Ends} {σ : L2.St} {H : Hp} (h : D.nx σ H) : tNext D σ H := h
theorem tcons1 {t : TE} {σ : L2.St} {H : Hp} {Q : List V → Hp → Prop} (h : t σ H (fun x H1 => Q [x] H1)) : tCons t tNil σ H Q := h
end Ts


set_option Elab.async false
set_option linter.all false
set_option maxRecDepth 100000
set_option maxHeartbeats 4000000
namespace Ts
open PySem PySem.Spec L2
open Evl (Ex)
def RsAt (H : Hp) (L : Addr) (qs : List (Addr × Rl)) : Prop := H L = some (.lst (qs.map fun q => V.ref q.1)) ∧ RulesAt H qs
/-- a dict of True, as its keys come -/
def KS (us : List Int) : List (Key × V) := us.map fun u => ((.inl u : Key), V.bl true)
theorem KS_any (u : Int) : ∀ us : List Int, ((KS us).any fun kv => decide (kv.1 = (.inl u : Key))) = decide (u ∈ us)
  | [] => rfl
  | v :: us => by
    have ih := KS_any u us
    unfold KS at ih ⊢
    rw [List.map_cons, List.any_cons, ih]
    by_cases c : v = u
    · subst c
      simp
    · have c2 : ¬ u = v := fun z => c z.symm
      have c3 : ¬ ((.inl v : Key) = .inl u) := fun z => by
        cases z
        exact c rfl
      simp [c2, c3]
theorem put_us (us : List Int) (u : Int) : putK (KS us) (.inl u) (.bl true) = KS (if u ∈ us then us else us ++ [u]) := by
  unfold putK
  rw [KS_any]
  by_cases c : u ∈ us
  · rw [if_pos (decide_eq_true c), if_pos c]
    unfold KS
    rw [List.map_map]
    refine List.map_congr_left fun v hv => ?_
    show (if (.inl v : Key) = .inl u then _ else _) = _
    split <;> rfl
  · rw [if_neg (by rw [decide_eq_false c]; decide), if_neg c]
    unfold KS
    rw [List.map_append]
    rfl
theorem valV_mem {kvs : List (Key × V)} {k : Key} {v : V} (h : valV kvs k = some v) : (k, v) ∈ kvs := by
  unfold valV at h
  cases e : kvs.find? fun kv => decide (kv.1 = k) with
  | none =>
    rw [e] at h
    cases h
  | some kv =>
    rw [e] at h
    cases h
    have z := List.find?_some e
    have z2 : kv.1 = k := of_decide_eq_true z
    rw [← z2]
    exact List.mem_of_find?_eq_some e
theorem nodup_len : ∀ (n : Nat) (l : List Int), l.Nodup → (∀ x ∈ l, 0 ≤ x ∧ x < (n : Int)) → l.length ≤ n
  | 0, l, _, h => by
    cases l with
    | nil => exact Nat.le_refl _
    | cons x l =>
      have := h x List.mem_cons_self
      omega
  | n + 1, l, hn, h => by
    have h1 : (l.erase (n : Int)).length ≤ n := nodup_len n _ (hn.erase _) fun x hx => by
      have z := h x (List.mem_of_mem_erase hx)
      have ne : x ≠ (n : Int) := fun e => by
        rw [e] at hx
        exact hn.not_mem_erase hx
      omega
    by_cases c : (n : Int) ∈ l
    · rw [List.length_erase_of_mem c] at h1
      omega
    · rw [List.erase_of_not_mem c] at h1
      omega
theorem ins_us {us : List Int} {v u : Int} : u ∈ (if v ∈ us then us else us ++ [v]) ↔ u ∈ us ∨ u = v := by
  split
  · rename_i c
    exact ⟨.inl, fun h => h.elim id fun h => h ▸ c⟩
  · rw [List.mem_append, List.mem_singleton]
theorem ins_len {us : List Int} {v : Int} : (if v ∈ us then us else us ++ [v]).length ≤ us.length + 1 := by
  split
  · omega
  · rw [List.length_append]
    exact Nat.le_refl _
end Ts


set_option Elab.async false
set_option linter.all false
set_option maxRecDepth 100000
set_option maxHeartbeats 4000000
namespace Ts
open PySem PySem.Spec L2
open Evl (Ex)
/-! ## the spring of draws -/
/-- a heap without two objects that change -/
def off (a c : Addr) (H : Hp) : Hp := fun b => if b = a ∨ b = c then none else H b
theorem off_of {a c b : Addr} {H : Hp} {o : HO} (h : off a c H b = some o) : H b = some o := by
  unfold off at h
  split at h
  · cases h
  · exact h
theorem off_ne {a c b : Addr} {H : Hp} (h1 : b ≠ a) (h2 : b ≠ c) : off a c H b = H b := if_neg (fun z => z.elim h1 h2)
theorem off_ex {a c : Addr} {H : Hp} : Ex (off a c H) H := fun _ _ h => off_of h
theorem Ex.offs {a c : Addr} {H H' : Hp} (e : Ex H H') : Ex (off a c H) (off a c H') := fun b o h => by
  unfold off at h ⊢
  split at h
  · cases h
  · rename_i n
    rw [if_neg n]
    exact e _ _ h
/-- a change of one of the two -/
theorem off_upd {a c p : Addr} {H : Hp} {o : HO} (h : p = a ∨ p = c) : off a c (upd H p o) = off a c H := by
  funext b
  unfold off
  split
  · rfl
  · rename_i n
    exact upd_ne fun z => n (z ▸ h)
structure Strm (H : Hp) (a c : Addr) (n : Int) : Prop where
  h : ∃ (cells : List Int) (s1 s3 : Int), H a = some (.lst [.ref c, .int s1, .int n, .int s3]) ∧ H c = some (.lst (cells.map V.int)) ∧ 0 ≤ s1 ∧ 0 ≤ s3 ∧ s3 < 2147483647
  ne : a ≠ c
  n0 : 0 ≤ n
theorem Strm.ex {H H' : Hp} {a c : Addr} {n : Int} (e : Ex H H') (h : Strm H a c n) : Strm H' a c n := by
  obtain ⟨⟨cells, s1, s3, h1, h2, r⟩, ne, n0⟩ := h
  exact ⟨⟨cells, s1, s3, e _ _ h1, e _ _ h2, r⟩, ne, n0⟩
theorem while_then {c : TT} {tb : TS} {D : Ends} {σ : L2.St} {H : Hp} (Pv Pn : L2.St → Hp → Prop) (μ : L2.St → Hp → Nat) (h0 : Pv σ H)
    (mono : ∀ σ H Q Q', (∀ b H1, Q b H1 → Q' b H1) → c σ H Q → c σ H Q')
    (hs : ∀ σ H, Pv σ H → c σ H fun b H1 => if b = true then tb { D with nx := fun σ' H' => Pv σ' H' ∧ μ σ' H' < μ σ H, ct := fun σ' H' => Pv σ' H' ∧ μ σ' H' < μ σ H, bk := D.nx } σ H1 else Pn σ H1)
    (fin : ∀ σ H, Pn σ H → D.nx σ H) : tWhile c tb D σ H :=
  while_by Pv μ h0 (fun σ H p => mono σ H _ _ (fun b H1 q => by
    cases b with
    | true => exact q
    | false => exact iteF (fin _ _ (by simpa using q))) (hs σ H p)) mono
theorem dp_ints {K : PySem.W.Frag} {H : Hp} : ∀ ns : List Int, DpAll K H (ns.map V.int) (ns.map PyData.int)
  | [] => .nil
  | n :: r => .cons (.int n) (dp_ints r)
theorem lay_ints : ∀ ns : List Int, PyData.canLayAll0 (ns.map PyData.int) = true
  | [] => by simp only [List.map_nil, PyData.canLayAll0]
  | n :: r => by
    rw [List.map_cons]
    simp only [PyData.canLayAll0, PyData.canLay0, lay_ints r, Bool.and_true]
theorem depth_ints : ∀ ns : List Int, PyData.depthAll (ns.map PyData.int) ≤ 1
  | [] => by simp [PyData.depthAll]
  | n :: r => by
    have := depth_ints r
    rw [List.map_cons]
    simp only [PyData.depthAll, PyData.depth]
    omega
theorem shaped_ints (ns : List Int) : SeqAt.shaped (.list (ns.map PyData.int)) = true := by
  have h := depth_ints ns
  refine Bool.and_eq_true_iff.mpr ⟨?_, decide_eq_true ?_⟩
  · simp only [PyData.canLay0, lay_ints]
  · simp only [PyData.depth]
    omega
theorem eqv_nil (ns : List Int) : PyData.eqv (.list (ns.map PyData.int)) (.list []) = ns.isEmpty := by
  cases ns <;> simp [PyData.eqv, PyData.eqvAll]
section
variable {P : Program} {w : World} {K : PySem.W.Frag} {mg : Str → Option Value} {base : Heap}
abbrev s_draw := top 55
theorem sc_draw : FnScope ["stream", "many", "cell", "digit", "mixed"] ["stream", "many"] (defScope s_draw) := ⟨rfl, rfl, rfl, by decide +kernel, rfl, by decide +kernel, by decide +kernel⟩
def spDraw : Sp := fun vs H Q _ => ∃ a c n m, vs = [.ref a, .int m] ∧ Strm H a c n ∧ 1 ≤ m ∧ m < 2 ^ 60 ∧ n < 2 ^ 40 ∧ ∀ H' r, Ex (off a c H) (off a c H') → Strm H' a c (n + 1) → 0 ≤ r → r < m → Q (.int r) H'
theorem ok_draw {f : Addr} {fd : FuncData} (F : FD K mg "_law_draw" "_law_draw" s_draw f fd) (T : Bl mg) : FnOk P w K mg base CX0 1 f fd ["stream", "many"] spDraw := by
  refine F.F.ok sc_draw (fun vs H Q E h => ?_) (fun cdv A outer s H vs Q E hr h => ?_)
  · obtain ⟨a, c, n, m, rfl, _⟩ := h
    rfl
  · obtain ⟨a, c, n, m, rfl, ⟨⟨cells, s1, s3, ha, hc, s10, s30, s31⟩, ne, n0⟩, m1, m2, n1, k⟩ := h
    have nd := sc_draw.nd
    refine ⟨_, pss_cons (ps_asg (pe_op op_add (pe_ix ix_list (pv 0) pe_int (fun _ _ => rfl)) pe_int) (pg_sub (pv 0) pe_int set_list))
      (pss_cons (ps_while PassesOwn.never (PW.pt (pw_and (pt_cmpR op_eq (pe_ix ix_list (pv 0) pe_int (fun _ _ => rfl)) pe_int (nomark _)) (pw_and1 (pt_cmpR (op_neD hr.units) (pe_ix ix_list (pv 0) pe_int (fun _ _ => rfl)) (pe_lst pa_nil) (nomark _)))))
          (pss_cons (ps_set (i := 2) nd rfl (Or.inl rfl) (pe_bm PySem.F.plainAttrs_list PySem.F.slot_list_pop PySem.F.type_list_pop mt_popAt (pe_ix ix_list (pv 0) pe_int (fun _ _ => rfl)) (pa_cons pe_int pa_nil)))
          (pss_cons (ps_asg (pe_op op_mod (pe_callTy call_int1 (by rfl) T.int (by decide +kernel) (pa_cons (pe_op op_add (pe_op op_add (pe_op op_mul (pe_ix ix_list (pv 0) pe_int (fun _ _ => rfl)) pe_int) (pv 2)) pe_int) pa_nil)) pe_int) (pg_sub (pv 0) pe_int set_list))
          (pss_one (ps_asg (pe_ifExp (pt_cmpR op_ge (pv 2) (pe_op op_pow pe_int pe_int) (nomark _)) (pv 2) pe_int) (pg_sub (pv 0) pe_int set_list))))))
      (pss_cons (ps_if (pt_cmpR op_gt (pe_ix ix_list (pv 0) pe_int (fun _ _ => rfl)) pe_int (nomark _))
          (pss_cons (ps_set (i := 3) nd rfl (Or.inl rfl) (pe_op op_mod (pe_callTy call_int1 (by rfl) T.int (by decide +kernel) (pa_cons (pe_ix ix_list (pv 0) pe_int (fun _ _ => rfl)) pa_nil)) (pv 1)))
          (pss_cons (ps_asg (pe_op op_fdivW (pe_ix ix_list (pv 0) pe_int (fun _ _ => rfl)) (pv 1)) (pg_sub (pv 0) pe_int set_list))
          (pss_one (ps_ret (pv 3))))) pss_nil)
      (pss_cons (ps_set (i := 4) nd rfl (Or.inl rfl) (pe_op op_mod (pe_callTy call_int1 (by rfl) T.int (by decide +kernel) (pa_cons (pe_op op_pow (pe_op op_add (pe_op op_add (pe_ix ix_list (pv 0) pe_int (fun _ _ => rfl)) (pe_op op_mul pe_int (pe_ix ix_list (pv 0) pe_int (fun _ _ => rfl)))) pe_int) pe_int) pa_nil)) pe_int))
      (pss_one (ps_ret (pe_op op_mod (pe_op op_mod (pe_callTy call_int1 (by rfl) T.int (by decide +kernel) (pa_cons (pe_op op_pow (pe_op op_add (pe_op op_add (pe_op op_mul (pv 4) pe_int) (pe_op op_mul pe_int (pe_ix ix_list (pv 0) pe_int (fun _ _ => rfl)))) pe_int) pe_int) pa_nil)) pe_int) (pv 1))))))), ?_⟩
    refine ⟨_, rfl, a, _, 2, _, rfl, rfl, SqL.of ha, atI_nat (j := 2) rfl, _, _, rfl, rfl, _, rfl, a, _, 2, 2, rfl, rfl, ha, rfl, ?_⟩
    let Pv : L2.St → Hp → Prop := fun σ H' => ∃ (cells : List Int) (s1 s3 : Int) (v2 : Option V), σ = [some (.ref a), some (.int m), v2, none, none] ∧ H' a = some (.lst [.ref c, .int s1, .int (n + 1), .int s3]) ∧ H' c = some (.lst (cells.map V.int)) ∧ 0 ≤ s1 ∧ 0 ≤ s3 ∧ s3 < 2147483647 ∧ Ex (off a c H) (off a c H')
    refine while_then Pv Pv (fun _ H' => match H' c with | some (.lst xs) => xs.length | _ => 0)
      ⟨cells, s1, s3, none, rfl, upd_same, by rw [upd_ne (Ne.symm ne)]; exact hc, s10, s30, s31, by rw [off_upd (.inl rfl)]; exact Ex.refl _⟩ ?_ ?_ ?_
    · rintro σ H2 q q' hq ⟨v, h1, p, xs, i, v2, h2, h3, h4, h5, h6, b1, h7, h8⟩
      refine ⟨v, h1, p, xs, i, v2, h2, h3, h4, h5, h6, b1, h7, ?_⟩
      cases b1 with
      | false => exact iteF (hq _ _ (by simpa using h8))
      | true =>
        rw [if_pos rfl] at h8
        obtain ⟨v, g1, p, xs, i, v2, g2, g3, g4, g5, g6, g7⟩ := h8
        refine iteT ⟨v, g1, p, xs, i, v2, g2, g3, g4, g5, g6, fun q nq => ?_⟩
        obtain ⟨d, e, x1, x2, x3, x4, b, x5, x6⟩ := g7 q nq
        exact ⟨d, e, x1, x2, x3, x4, b, x5, hq _ _ x6⟩
    · rintro σ H2 ⟨cells, s1, s3, v2, rfl, ha, hc, s10, s30, s31, e2⟩
      refine ⟨_, rfl, a, _, 1, _, rfl, rfl, SqL.of ha, atI_nat (j := 1) rfl, rfl, _, rfl, ?_⟩
      rw [dec_z]
      by_cases hz : s1 = 0
      · rw [decide_eq_true hz]
        refine iteT ⟨_, rfl, a, _, 0, _, rfl, rfl, SqL.of ha, atI_nat (j := 0) rfl, Nat.zero_le _, fun q nq => ?_⟩
        have eq := Ex.new (o := .lst []) nq
        refine ⟨_, _, .lst (SqL.of (eq _ _ hc)) (dp_ints cells), .lst (SqL.of upd_same) .nil, shaped_ints cells, shaped_ints [], _, rfl, ?_⟩
        rw [eqv_nil]
        have na : a ≠ q := ne_of_none ha nq
        have nc : c ≠ q := ne_of_none hc nq
        have eo : Ex (off a c H) (off a c (upd H2 q (.lst []))) := e2.trans (Ex.offs eq)
        cases cells with
        | nil => exact iteF ⟨[], s1, s3, v2, rfl, eq _ _ ha, eq _ _ hc, s10, s30, s31, eo⟩
        | cons z rest =>
          refine iteT ?_
          refine ⟨_, rfl, a, _, 0, _, rfl, rfl, SqL.of (eq _ _ ha), atI_nat (j := 0) rfl, .inl ⟨rfl, _, SqL.of (eq _ _ hc)⟩, c, _, 0, 0, .int z, rfl, rfl, eq _ _ hc, by decide, by decide, by simp [seqIndex?], rfl, ?_⟩
          have ha3 : upd (upd H2 q (.lst [])) c (.lst ((V.int z :: rest.map V.int).eraseIdx 0)) a = some (.lst [.ref c, .int s1, .int (n + 1), .int s3]) := by
            rw [upd_ne ne]
            exact eq _ _ ha
          refine ⟨_, rfl, a, _, 3, _, rfl, rfl, SqL.of ha3, atI_nat (j := 3) rfl, _, _, rfl, rfl, .inl ⟨by omega, by omega⟩, _, rfl, _, _, rfl, rfl, _, _, rfl, rfl, .inl ⟨_, rfl, ?_⟩⟩
          refine ⟨_, _, rfl, rfl, (by show (0 : Int) < 2147483647; decide), _, rfl, a, _, 3, 3, rfl, rfl, ha3, rfl, ?_⟩
          have last : ∀ (t : Int) (H3 : Hp), 0 ≤ t → H3 a = some (.lst [.ref c, .int t, .int (n + 1), .int ((s3 * 8191 + z + 3) % 2147483647)]) → H3 c = some (.lst (rest.map V.int)) → Ex (off a c H) (off a c H3) →
              Pv [some (.ref a), some (.int m), some (.int z), none, none] H3 ∧ (match H3 c with | some (.lst xs) => xs.length | _ => 0) < (match H2 c with | some (.lst xs) => xs.length | _ => 0) := fun t H3 t0 h1 h2 h3 => by
            refine ⟨⟨rest, t, _, _, rfl, h1, h2, t0, Int.emod_nonneg _ (by decide), Int.emod_lt_of_pos _ (by decide), h3⟩, ?_⟩
            rw [h2, hc]
            simp
          refine ⟨_, rfl, _, _, rfl, rfl, ⟨by decide, by decide, by decide⟩, _, _, rfl, rfl, _, rfl, ?_⟩
          have oe : ∀ (x y u : HO), Ex (off a c H) (off a c (upd (upd (upd (upd H2 q (.lst [])) c x) a y) a u)) := fun x y u => by
            rw [off_upd (.inl rfl), off_upd (.inl rfl), off_upd (.inr rfl)]
            exact eo
          have ce : ∀ (y u : HO), upd (upd (upd (upd H2 q (.lst [])) c (.lst ((V.int z :: rest.map V.int).eraseIdx 0))) a y) a u c = some (.lst (rest.map V.int)) := fun y u => by
            rw [upd_ne (Ne.symm ne), upd_ne (Ne.symm ne), upd_same]
            rfl
          cases hd : decide ((10 : Int) ^ (18 : Int).toNat ≤ z) with
          | true =>
            have hz18 := of_decide_eq_true hd
            refine iteT ⟨_, rfl, _, rfl, a, _, 1, 1, rfl, rfl, upd_same, rfl, ?_⟩
            exact last z _ (Int.le_trans (by decide) hz18) upd_same (ce _ _) (oe _ _ _)
          | false =>
            refine iteF ⟨_, rfl, a, _, 1, 1, rfl, rfl, upd_same, rfl, ?_⟩
            exact last 0 _ (Int.le_refl _) upd_same (ce _ _) (oe _ _ _)
      · rw [decide_eq_false hz]
        exact iteF ⟨cells, s1, s3, v2, rfl, ha, hc, s10, s30, s31, e2⟩
    · rintro σ H2 ⟨cells, s1, s3, v2, rfl, ha, hc, s10, s30, s31, e2⟩
      refine ⟨_, rfl, a, _, 1, _, rfl, rfl, SqL.of ha, atI_nat (j := 1) rfl, _, _, rfl, rfl, _, rfl, ?_⟩
      by_cases hp : 0 < s1
      · rw [decide_eq_true hp]
        refine iteT ⟨_, rfl, a, _, 1, _, rfl, rfl, SqL.of ha, atI_nat (j := 1) rfl, .inl ⟨_, rfl, ?_⟩⟩
        have r0 : 0 ≤ s1 % m := Int.emod_nonneg _ (by omega)
        have r1 : s1 % m < m := Int.emod_lt_of_pos _ (by omega)
        refine ⟨_, rfl, _, _, rfl, rfl, (by show (0 : Int) < m; omega), ?_⟩
        refine ⟨_, rfl, a, _, 1, _, rfl, rfl, SqL.of ha, atI_nat (j := 1) rfl, _, rfl, _, _, rfl, rfl, wide_div (b := 64) (by omega) (by omega) (by decide) (by decide), _, rfl, a, _, 1, 1, rfl, rfl, ha, rfl, ?_⟩
        refine ⟨_, rfl, k _ _ ?_ ⟨⟨cells, s1 / m, s3, upd_same, by rw [upd_ne (Ne.symm ne)]; exact hc, Int.ediv_nonneg (by omega) (by omega), s30, s31⟩, ne, by omega⟩ r0 r1⟩
        rw [off_upd (.inl rfl)]
        exact e2
      · rw [decide_eq_false hp]
        refine iteF ?_
        refine ⟨_, rfl, a, _, 3, _, rfl, rfl, SqL.of ha, atI_nat (j := 3) rfl, _, rfl, a, _, 2, _, rfl, rfl, SqL.of ha, atI_nat (j := 2) rfl, _, _, rfl, rfl, .inl ⟨by omega, by omega⟩, _, _, rfl, rfl, _, _, rfl, rfl, _, _, rfl, rfl, ⟨by decide, by decide, by omega⟩, .inl ⟨_, rfl, ?_⟩⟩
        refine ⟨_, _, rfl, rfl, (by show (0 : Int) < 2147483629; decide), ?_⟩
        have d0 : 0 ≤ (s3 + 7919 * (n + 1) + 104729) ^ (5 : Int).toNat % 2147483629 := Int.emod_nonneg _ (by decide)
        have d1 : (s3 + 7919 * (n + 1) + 104729) ^ (5 : Int).toNat % 2147483629 < 2147483629 := Int.emod_lt_of_pos _ (by decide)
        generalize (s3 + 7919 * (n + 1) + 104729) ^ (5 : Int).toNat % 2147483629 = mx at d0 d1
        refine ⟨_, rfl, _, _, rfl, rfl, .inl ⟨by omega, by omega⟩, _, rfl, a, _, 2, _, rfl, rfl, SqL.of ha, atI_nat (j := 2) rfl, _, _, rfl, rfl, .inl ⟨by omega, by omega⟩, _, _, rfl, rfl, _, _, rfl, rfl, _, _, rfl, rfl, ⟨by decide, by decide, by omega⟩, .inl ⟨_, rfl, ?_⟩⟩
        refine ⟨_, _, rfl, rfl, (by show (0 : Int) < 1000000007; decide), _, rfl, _, _, rfl, rfl, (by show (0 : Int) < m; omega), ?_⟩
        exact k _ _ e2 ⟨⟨cells, s1, s3, ha, hc, s10, s30, s31⟩, ne, by omega⟩ (Int.emod_nonneg _ (by omega)) (Int.emod_lt_of_pos _ (by omega))
end
end Ts


set_option Elab.async false
set_option linter.all false
set_option maxRecDepth 100000
set_option maxHeartbeats 4000000
namespace Ts
open PySem PySem.Spec L2
open Evl (Ex)
section
variable {P : Program} {w : World} {K : PySem.W.Frag} {mg : Str → Option Value} {base : Heap}
abbrev s_start := top 54
theorem sc_start : FnScope ["script"] ["script"] (defScope s_start) := ⟨rfl, rfl, rfl, by decide +kernel, rfl, by decide +kernel, by decide +kernel⟩
def spStart (K : PySem.W.Frag) : Sp := fun vs H Q _ => ∃ (s : Addr) (ns : List Int), vs = [.ref s] ∧ SqL K H s (ns.map V.int) ∧ ∀ a c H', H a = none → H c = none → Strm H' a c 0 → Ex H H' → Q (.ref a) H'
theorem ok_start {f : Addr} {fd : FuncData} (F : FD K mg "_law_start" "_law_start" s_start f fd) (T : Bl mg) : FnOk P w K mg base CX0 1 f fd ["script"] (spStart K) := by
  refine F.F.ok sc_start (fun vs H Q E h => ?_) (fun cdv A outer s H vs Q E hr h => ?_)
  · obtain ⟨s, ns, rfl, _⟩ := h
    rfl
  · obtain ⟨s, ns, rfl, hs, k⟩ := h
    refine ⟨_, pss_one (ps_ret (pe_lst (pa_cons (pe_callTy call_list_of (by rfl) T.list PyProof.Rows.boot_list (pa_cons (pv 0) pa_nil)) (pa_cons pe_int (pa_cons pe_int (pa_cons pe_int pa_nil)))))), ?_⟩
    refine ⟨_, rfl, s, _, rfl, .inl hs, fun c nc => ⟨by show 4 ≤ sizeLine; decide, fun a na => ?_⟩⟩
    have e1 := Ex.new (o := .lst (ns.map V.int)) nc
    have e2 := Ex.new (o := .lst [.ref c, .int 0, .int 0, .int 11]) na
    have ne : a ≠ c := fun z => by
      rw [z, upd_same] at na
      cases na
    exact k a c _ (Evl.fresh_back e1 na) nc ⟨⟨ns, 0, 11, upd_same, e2 _ _ upd_same, by decide, by decide, by decide⟩, ne, by decide⟩ (e1.trans e2)
end
end Ts


set_option Elab.async false
set_option linter.all false
set_option maxRecDepth 100000
set_option maxHeartbeats 4000000
namespace Ts
open PySem PySem.Spec L2
open Evl (Ex)
theorem off_upd_ne {a c p : Addr} {H : Hp} {o : HO} (h1 : p ≠ a) (h2 : p ≠ c) : off a c (upd H p o) = upd (off a c H) p o := by
  funext b
  by_cases hb : b = p
  · subst hb
    rw [upd_same, off_ne h1 h2, upd_same]
  · rw [upd_ne hb]
    unfold off
    split
    · rfl
    · exact upd_ne hb
theorem off_none {a c p : Addr} {H : Hp} (h : H p = none) : off a c H p = none := by
  unfold off
  split
  · rfl
  · exact h
theorem Strm.nea {H : Hp} {a c : Addr} {n : Int} (h : Strm H a c n) {p : Addr} (hp : H p = none) : p ≠ a ∧ p ≠ c := by
  obtain ⟨⟨cells, s1, s3, h1, h2, _⟩, _, _⟩ := h
  exact ⟨fun z => (by rw [z, h1] at hp; cases hp), fun z => (by rw [z, h2] at hp; cases hp)⟩
theorem Strm.upd {H : Hp} {a c p : Addr} {n : Int} {o : HO} (h : Strm H a c n) (h1 : p ≠ a) (h2 : p ≠ c) : Strm (L2.upd H p o) a c n := by
  obtain ⟨⟨cells, s1, s3, g1, g2, r⟩, ne, n0⟩ := h
  exact ⟨⟨cells, s1, s3, by rw [upd_ne (Ne.symm h1)]; exact g1, by rw [upd_ne (Ne.symm h2)]; exact g2, r⟩, ne, n0⟩
theorem DAll.app {H : Hp} : ∀ {xs ys : List V} {ds es : List PyData}, DAll H xs ds → DAll H ys es → DAll H (xs ++ ys) (ds ++ es)
  | _, _, _, _, .nil, h => h
  | _, _, _, _, .cons h r, h2 => .cons h (DAll.app r h2)
section
variable {P : Program} {w : World} {K : PySem.W.Frag} {mg : Str → Option Value} {base : Heap}
theorem b_draw {f : Addr} {fd : FuncData} (F : FD K mg "_law_draw" "_law_draw" s_draw f fd) : Binds K fd ["stream", "many"] [] := F.F.binds fun _ _ _ _ _ _ us hl => match us, hl with | [_, _], _ => rfl
end
end Ts


set_option Elab.async false
set_option linter.all false
set_option maxRecDepth 100000
set_option maxHeartbeats 4000000
namespace Ts
open PySem PySem.Spec L2
open Evl (Ex)
/-- containers not too deep, not too long -/
def okD : Nat → PyData → Bool
  | _, .none => true
  | _, .bool _ => true
  | _, .int _ => true
  | _, .str _ => true
  | 0, _ => false
  | k + 1, .list l => decide (l.length ≤ 90000) && l.all (okD k)
  | k + 1, .tuple l => decide (l.length ≤ 90000) && l.all (okD k)
  | k + 1, .dict l => decide (l.length ≤ 10) && okD k (.list (l.map fun p => .tuple [p.1, p.2]))
def isTy (n : String) (d : PyData) : Bool := decide (tyD d = n)
theorem kit_list {K : PySem.W.Frag} (d : PyData) : PySem.W.kitOne K (.type (tyD d)) (.type "list") = some (isTy "list" d) := by cases d <;> first | rfl | decide +kernel
theorem kit_tuple {K : PySem.W.Frag} (d : PyData) : PySem.W.kitOne K (.type (tyD d)) (.type "tuple") = some (isTy "tuple" d) := by cases d <;> first | rfl | decide +kernel
theorem kit_dict {K : PySem.W.Frag} (d : PyData) : PySem.W.kitOne K (.type (tyD d)) (.type "dict") = some (isTy "dict" d) := by cases d <;> first | rfl | decide +kernel
def isIB : PyData → Bool
  | .int _ => true | .bool _ => true | _ => false
def isB : PyData → Bool
  | .bool _ => true | _ => false
theorem kit_ib {K : PySem.W.Frag} (d : PyData) : PySem.W.kitOne K (.type (tyD d)) (.type "int") = some (isIB d) := by cases d <;> first | rfl | decide +kernel
theorem kit_b {K : PySem.W.Frag} (d : PyData) : PySem.W.kitOne K (.type (tyD d)) (.type "bool") = some (isB d) := by cases d <;> first | rfl | decide +kernel
def is4 : PyData → Bool
  | .none => false | .str _ => false | _ => true
theorem kit_4 {K : PySem.W.Frag} (d : PyData) : PySem.W.kitAny K (.type (tyD d)) [.type "int", .type "list", .type "tuple", .type "dict"] = some (is4 d) := by cases d <;> first | rfl | decide +kernel
theorem walk_zipT {K : PySem.W.Frag} {a b : Addr} {xs ys : List V} {n : Nat} (hn : n = min xs.length ys.length) : Walk (RZ.ItzT K a b) n (fun H => SqT K H a xs ∧ SqT K H b ys) (YPair (fun i => xs[i]?) (fun i => ys[i]?)) := by
  subst hn
  refine ⟨fun i H hi g => ⟨xs, ys, xs[i]'(by omega), ys[i]'(by omega), g.1, g.2, List.getElem?_eq_getElem _, List.getElem?_eq_getElem _⟩, fun H g => ⟨xs, ys, g.1, g.2, by omega⟩, fun i H v H' hi g z => ?_⟩
  obtain ⟨T, u, v', e1, e2, e3, e4, e5⟩ := z
  exact ⟨T, u, v', e1, e2, e3, e4 _ g.1, e5 _ g.2⟩
theorem tcb1 {r : List V → Hp → VK → Prop} {t : TE} {σ : L2.St} {H : Hp} {Q : VK} (h : t σ H (fun x H1 => r [x] H1 Q)) : tCB r (tCons t tNil) σ H Q := h
/-- a pure comprehension, whatever it walks: J is what its iterable gives -/
theorem lc_any {wi : TI} {J : It} {n : Nat} {G : Hp → Prop} {Y : Nat → Hp → V → Hp → Prop} (w : Walk J n G Y) {g : TG} {te : TE} {vs : List Nat} {σ : L2.St} {H H1 : Hp} {out : Nat → V} {Q : VK} (hw : ∀ R : It → Hp → Prop, R J H1 → wi σ H R) (hz : n ≤ sizeLine)
    (hG : ∀ H, Ex H1 H → G H)
    (hs : ∀ i x H H', i < n → Ex H1 H → Y i H x H' → Ex H H' ∧ g x (wipe σ vs) H' fun σ2 H2 => wipe σ2 vs = wipe σ vs ∧ Ex H' H2 ∧ ∀ q : VK, (∀ H4, Ex H2 H4 → q (out i) H4) → te σ2 H2 q)
    (hgm : ∀ (x : V) (H : Hp) (q q' : L2.St → Hp → Prop), (∀ σ2 H2, q σ2 H2 → q' σ2 H2) → g x (wipe σ vs) H q → g x (wipe σ vs) H q')
    (hq : ∀ D Hf, H1 D = none → Ex H1 Hf → Hf D = some (.lst ((List.range n).map out)) → Q (.ref D) Hf) : tLc wi g tYes te vs σ H Q :=
  hw _ (lc_pure w hz hG hs hgm hq)
theorem dkv_tuples {H : Hp} : ∀ {ts : List Addr} {kvs : List (Key × V)} {ds : List (PyData × PyData)}, Paired (fun (t : Addr) (q : Key × V) => H t = some (.tup [kV q.1, q.2])) ts kvs → DKv H kvs ds → DAll H (ts.map V.ref) (ds.map fun p => .tuple [p.1, p.2])
  | [], [], ds, .nil, h2 => by
    cases h2
    exact .nil
  | _ :: _, (k, v) :: _, ds, .cons h r, h2 => by
    cases h2 with
    | cons hv t =>
      refine .cons (.tup h (.cons ?_ (.cons hv .nil))) (dkv_tuples r t)
      cases k with
      | inl n => exact .int n
      | inr x => exact .str x
theorem bl_same (q : Bool) : (!decide (V.bl q = V.bl q)) = false := by simp
section
variable {P : Program} {w : World} {K : PySem.W.Frag} {mg : Str → Option Value} {base : Heap}
abbrev s_same := top 58
theorem sc_same : FnScope ["found", "due", "x", "y"] ["found", "due"] (defScope s_same) := ⟨rfl, rfl, rfl, by decide +kernel, rfl, by decide +kernel, by decide +kernel⟩
/-- like things are told to be like -/
def spSame : Nat → Sp
  | 0 => fun _ _ _ _ => False
  | k + 1 => fun vs H Q _ => ∃ x y d, vs = [x, y] ∧ D H x d ∧ D H y d ∧ okD k d = true ∧ ∀ H', Ex H H' → Q (.bl true) H'
theorem ok_same {f : Addr} {fd : FuncData} (F : FD K mg "_law_same" "_law_same" s_same f fd) (T : Bl mg) : ∀ k, FnOk P w K mg base CX0 k f fd ["found", "due"] (spSame k)
  | 0 => ⟨fun _ _ _ _ h => h.elim, fun _ _ _ _ _ _ _ _ _ _ _ _ _ h => h.elim⟩
  | k + 1 => by
    have G0 := ok_same F T k
    have b0 : Binds K fd ["found", "due"] [] := F.F.binds fun _ _ _ _ _ _ us hl => match us, hl with | [_, _], _ => rfl
    refine F.F.ok sc_same (fun vs H Q E h => ?_) (fun cdv A outer s H vs Q E hr h => ?_)
    · obtain ⟨x, y, d, rfl, _⟩ := h
      rfl
    · obtain ⟨x, y, d, rfl, hx, hy, hok, kq⟩ := h
      have nd := sc_same.nd
      refine ⟨_, pss_cons (ps_if (pt_val (pe_callB call_isiT (by rfl) T.isinstance (by decide +kernel) (pa_cons (pv 1) (pa_cons (pe_tup (pa_cons (pe_bltn (v := .ty "list") (by rfl) T.list (by decide +kernel) rfl) (pa_cons (pe_bltn (v := .ty "tuple") (by rfl) T.tuple (by decide +kernel) rfl) pa_nil))) pa_nil))))
        (pss_cons (ps_if (PW.pt (pw_or (pt_cmpR op_ne (pe_callB call_isi (by rfl) T.isinstance (by decide +kernel) (pa_cons (pv 0) (pa_cons (pe_bltn (v := .ty "list") (by rfl) T.list (by decide +kernel) rfl) pa_nil))) (pe_callB call_isi (by rfl) T.isinstance (by decide +kernel) (pa_cons (pv 1) (pa_cons (pe_bltn (v := .ty "list") (by rfl) T.list (by decide +kernel) rfl) pa_nil))) (nomark _)) (pw_or1 (pt_cmpR op_ne (pe_callB call_isi (by rfl) T.isinstance (by decide +kernel) (pa_cons (pv 0) (pa_cons (pe_bltn (v := .ty "tuple") (by rfl) T.tuple (by decide +kernel) rfl) pa_nil))) (pe_callB call_isi (by rfl) T.isinstance (by decide +kernel) (pa_cons (pv 1) (pa_cons (pe_bltn (v := .ty "tuple") (by rfl) T.tuple (by decide +kernel) rfl) pa_nil))) (nomark _))))) (pss_one (ps_ret pe_bl)) pss_nil)
        (pss_one (ps_ret (pe_and (pe_cmpR op_eq (pe_callB call_len_seq (by rfl) T.len PySem.boot_len (pa_cons (pv 0) pa_nil)) (pe_callB call_len_seq (by rfl) T.len PySem.boot_len (pa_cons (pv 1) pa_nil)) (nomark _)) (pe_one (pe_callB (cr_all rfl) (by rfl) T.all (by decide +kernel) (pa_cons (pe_lc (own := [("x", 2), ("y", 3)]) (g := gTup K 2 (gCons (gName 2) (gCons (gName 3) gNil))) (tt := tYes) rfl nd (RZ.pi_zipA (by rfl) T.zip (pa_cons (pv 0) (pa_cons (pv 1) pa_nil))) (blkOk_by (N := ["found", "due", "x", "y"]) (sc := defScope s_same) (by decide +kernel))
          (fun _ _ _ _ _ => pg_tup rfl (pgs_cons (pg_name (i := 2) nd rfl (Or.inl rfl)) (pgs_cons (pg_name (i := 3) nd rfl (Or.inl rfl)) pgs_nil))) (fun _ _ _ _ _ => pts_nil) (fun _ _ _ _ _ => (pe_call G0 hr (by rfl) F.g F.F.kp b0 .nil pass0 (pa_cons (pv 2) (pa_cons (pv 3) pa_nil))))) pa_nil))))))) pss_nil)
      (pss_cons (ps_if (pt_val (pe_callB call_isi (by rfl) T.isinstance (by decide +kernel) (pa_cons (pv 1) (pa_cons (pe_bltn (v := .ty "dict") (by rfl) T.dict (by decide +kernel) rfl) pa_nil)))) (pss_one (ps_ret (pe_and (pe_callB call_isi (by rfl) T.isinstance (by decide +kernel) (pa_cons (pv 0) (pa_cons (pe_bltn (v := .ty "dict") (by rfl) T.dict (by decide +kernel) rfl) pa_nil))) (pe_one (pe_call G0 hr (by rfl) F.g F.F.kp b0 .nil pass0 (pa_cons (LiI.pe_listItems rfl (pv 0) (by rfl) T.list PyProof.Rows.boot_list) (pa_cons (LiI.pe_listItems rfl (pv 1) (by rfl) T.list PyProof.Rows.boot_list) pa_nil))))))) pss_nil)
      (pss_cons (ps_if (pt_val (pe_callB call_isi (by rfl) T.isinstance (by decide +kernel) (pa_cons (pv 1) (pa_cons (pe_bltn (v := .ty "int") (by rfl) T.int (by decide +kernel) rfl) pa_nil)))) (pss_one (ps_ret (pe_and (pe_callB call_isi (by rfl) T.isinstance (by decide +kernel) (pa_cons (pv 0) (pa_cons (pe_bltn (v := .ty "int") (by rfl) T.int (by decide +kernel) rfl) pa_nil))) (pe_and (pe_cmpR op_eq (pe_callB call_isi (by rfl) T.isinstance (by decide +kernel) (pa_cons (pv 0) (pa_cons (pe_bltn (v := .ty "bool") (by rfl) T.bool (by decide +kernel) rfl) pa_nil))) (pe_callB call_isi (by rfl) T.isinstance (by decide +kernel) (pa_cons (pv 1) (pa_cons (pe_bltn (v := .ty "bool") (by rfl) T.bool (by decide +kernel) rfl) pa_nil))) (nomark _)) (pe_one (pe_cmpR op_eq (pv 0) (pv 1) (nomark _))))))) pss_nil)
      (pss_one (ps_ret (pe_and (pe_not (pe_callB call_isiT (by rfl) T.isinstance (by decide +kernel) (pa_cons (pv 0) (pa_cons (pe_tup (pa_cons (pe_bltn (v := .ty "int") (by rfl) T.int (by decide +kernel) rfl) (pa_cons (pe_bltn (v := .ty "list") (by rfl) T.list (by decide +kernel) rfl) (pa_cons (pe_bltn (v := .ty "tuple") (by rfl) T.tuple (by decide +kernel) rfl) (pa_cons (pe_bltn (v := .ty "dict") (by rfl) T.dict (by decide +kernel) rfl) pa_nil))))) pa_nil)))) (pe_one (pe_cmpR op_eq (pv 0) (pv 1) (nomark _)))))))), ?_⟩
      refine ⟨_, rfl, by show 2 ≤ sizeLine; decide, fun p np => ⟨_, p, _, _, _, _, rfl, upd_same, .cons (.ty "list") (.cons (.ty "tuple") .nil), (hy.ex (Ex.new np)).ty, kit_row d, _, rfl, ?_⟩⟩
      have ep := Ex.new (o := .tup [.ty "list", .ty "tuple"]) np
      generalize hP : upd H p (.tup [.ty "list", .ty "tuple"]) = Hp at ep
      cases hy with
      | @lst b ys ds hb hys =>
        cases hx with
        | @lst a xs _ ha hxs =>
          cases k with
          | zero => cases hok
          | succ k =>
            obtain ⟨hl, hal⟩ := Bool.and_eq_true_iff.mp (show (decide (ds.length ≤ 90000) && ds.all (okD k)) = true from hok)
            have hl := of_decide_eq_true hl
            refine iteT ?_
            have hxp := (D.lst ha hxs).ex ep
            have hyp := (D.lst hb hys).ex ep
            refine ⟨_, rfl, _, _, _, _, _, rfl, .ty "list", hxp.ty, kit_list _, _, rfl, _, _, _, _, _, rfl, .ty "list", hyp.ty, kit_list _, rfl, _, rfl, ?_⟩
            refine ite_ff (bl_same _) ?_
            refine ⟨_, rfl, _, _, _, _, _, rfl, .ty "tuple", hxp.ty, kit_tuple _, _, rfl, _, _, _, _, _, rfl, .ty "tuple", hyp.ty, kit_tuple _, rfl, _, rfl, ?_⟩
            refine ite_ff (bl_same _) ?_
            refine ⟨_, rfl, a, xs, rfl, .inl (SqL.of (ep _ _ ha)), _, rfl, b, ys, rfl, .inl (SqL.of (ep _ _ hb)), rfl, _, rfl, ?_⟩
            refine ite_tt (by rw [hxs.len, hys.len]; exact decide_eq_true rfl) ?_
            refine tcb1 ?_
            refine lc_any (J := Itz K a b) (H1 := Hp) (out := fun _ => V.bl true) (walk_zip (xs := xs) (ys := ys) (n := ds.length) (by rw [hxs.len, hys.len, Nat.min_self])) (fun R r => ⟨_, rfl, _, rfl, a, b, xs, ys, rfl, Or.inl ⟨SqL.of (ep _ _ ha), SqL.of (ep _ _ hb), r⟩⟩) (Evl.sz_of (by omega)) (fun H' e => ⟨SqL.of (e _ _ (ep _ _ ha)), SqL.of (e _ _ (ep _ _ hb))⟩) (fun i z H1 H2 hi e yy => ?_) (fun z H1 q q' h zz => ?_) (fun Dd Hf hD e hl' => ?_)
            · obtain ⟨Tp, u, v, rfl, nT, rfl, hu, hv⟩ := yy
              have eT := Ex.new (o := .tup [u, v]) nT
              refine ⟨eT, Tp, _, rfl, SqT.of upd_same, rfl, _, _, rfl, _, _, rfl, rfl, rfl, Ex.refl _, fun q hq => ?_⟩
              obtain ⟨du, hdu, Du⟩ := hxs.get hu
              obtain ⟨dv, hdv, Dv⟩ := hys.get hv
              rw [hdu] at hdv
              cases hdv
              have e3 := (ep.trans e).trans eT
              exact ⟨_, rfl, _, rfl, u, v, du, rfl, Du.ex e3, Dv.ex e3, List.all_eq_true.mp hal du (List.mem_of_getElem? hdu), hq⟩
            · obtain ⟨a1, xs1, r1, r2, r3, v1, r4, r5, v2, r7, r8, r9, r10⟩ := zz
              exact ⟨a1, xs1, r1, r2, r3, v1, r4, r5, v2, r7, r8, r9, h _ _ r10⟩
            · refine ⟨Dd, List.replicate ds.length true, rfl, SqL.of ?_, ?_⟩
              · rw [hl', List.map_replicate, List.map_const', List.length_range]
              · have et : (List.replicate ds.length true).all id = true := List.all_eq_true.mpr fun z hz => List.eq_of_mem_replicate hz
                rw [et]
                exact kq _ (ep.trans e)
      | @tup b ys ds hb hys =>
        cases hx with
        | @tup a xs _ ha hxs =>
          cases k with
          | zero => cases hok
          | succ k =>
            obtain ⟨hl, hal⟩ := Bool.and_eq_true_iff.mp (show (decide (ds.length ≤ 90000) && ds.all (okD k)) = true from hok)
            have hl := of_decide_eq_true hl
            refine iteT ?_
            have hxp := (D.tup ha hxs).ex ep
            have hyp := (D.tup hb hys).ex ep
            refine ⟨_, rfl, _, _, _, _, _, rfl, .ty "list", hxp.ty, kit_list _, _, rfl, _, _, _, _, _, rfl, .ty "list", hyp.ty, kit_list _, rfl, _, rfl, ?_⟩
            refine ite_ff (bl_same _) ?_
            refine ⟨_, rfl, _, _, _, _, _, rfl, .ty "tuple", hxp.ty, kit_tuple _, _, rfl, _, _, _, _, _, rfl, .ty "tuple", hyp.ty, kit_tuple _, rfl, _, rfl, ?_⟩
            refine ite_ff (bl_same _) ?_
            refine ⟨_, rfl, a, xs, rfl, .inr (SqT.of (ep _ _ ha)), _, rfl, b, ys, rfl, .inr (SqT.of (ep _ _ hb)), rfl, _, rfl, ?_⟩
            refine ite_tt (by rw [hxs.len, hys.len]; exact decide_eq_true rfl) ?_
            refine tcb1 ?_
            refine lc_any (J := RZ.ItzT K a b) (H1 := Hp) (out := fun _ => V.bl true) (walk_zipT (xs := xs) (ys := ys) (n := ds.length) (by rw [hxs.len, hys.len, Nat.min_self])) (fun R r => ⟨_, rfl, _, rfl, a, b, xs, ys, rfl, Or.inr ⟨SqT.of (ep _ _ ha), SqT.of (ep _ _ hb), r⟩⟩) (Evl.sz_of (by omega)) (fun H' e => ⟨SqT.of (e _ _ (ep _ _ ha)), SqT.of (e _ _ (ep _ _ hb))⟩) (fun i z H1 H2 hi e yy => ?_) (fun z H1 q q' h zz => ?_) (fun Dd Hf hD e hl' => ?_)
            · obtain ⟨Tp, u, v, rfl, nT, rfl, hu, hv⟩ := yy
              have eT := Ex.new (o := .tup [u, v]) nT
              refine ⟨eT, Tp, _, rfl, SqT.of upd_same, rfl, _, _, rfl, _, _, rfl, rfl, rfl, Ex.refl _, fun q hq => ?_⟩
              obtain ⟨du, hdu, Du⟩ := hxs.get hu
              obtain ⟨dv, hdv, Dv⟩ := hys.get hv
              rw [hdu] at hdv
              cases hdv
              have e3 := (ep.trans e).trans eT
              exact ⟨_, rfl, _, rfl, u, v, du, rfl, Du.ex e3, Dv.ex e3, List.all_eq_true.mp hal du (List.mem_of_getElem? hdu), hq⟩
            · obtain ⟨a1, xs1, r1, r2, r3, v1, r4, r5, v2, r7, r8, r9, r10⟩ := zz
              exact ⟨a1, xs1, r1, r2, r3, v1, r4, r5, v2, r7, r8, r9, h _ _ r10⟩
            · refine ⟨Dd, List.replicate ds.length true, rfl, SqL.of ?_, ?_⟩
              · rw [hl', List.map_replicate, List.map_const', List.length_range]
              · have et : (List.replicate ds.length true).all id = true := List.all_eq_true.mpr fun z hz => List.eq_of_mem_replicate hz
                rw [et]
                exact kq _ (ep.trans e)
      | non =>
        cases hx
        refine iteF ?_
        refine ⟨_, rfl, _, _, _, _, _, rfl, .ty "dict", (D.non).ty, kit_dict _, _, rfl, ?_⟩
        refine ite_ff (by show decide ("NoneType" = "dict") = false; decide) ?_
        refine ⟨_, rfl, _, _, _, _, _, rfl, .ty "int", (D.non).ty, kit_ib _, _, rfl, ?_⟩
        refine ite_ff rfl ?_
        refine ⟨_, rfl, by show 4 ≤ sizeLine; decide, fun p2 np2 => ⟨_, p2, _, _, _, _, rfl, upd_same, .cons (.ty "int") (.cons (.ty "list") (.cons (.ty "tuple") (.cons (.ty "dict") .nil))), (D.non).ty, kit_4 _, ?_⟩⟩
        refine ⟨_, rfl, _, rfl, iteT ⟨_, rfl, _, rfl, rfl, ?_⟩⟩
        rw [decide_eq_true rfl]
        exact kq _ (ep.trans (Ex.new np2))
      | bl b =>
        cases hx
        refine iteF ?_
        refine ⟨_, rfl, _, _, _, _, _, rfl, .ty "dict", (D.bl b).ty, kit_dict _, _, rfl, ?_⟩
        refine ite_ff (by show decide ("NoneType" = "dict") = false; decide) ?_
        refine ⟨_, rfl, _, _, _, _, _, rfl, .ty "int", (D.bl b).ty, kit_ib _, _, rfl, ?_⟩
        refine ite_tt rfl ?_
        refine ⟨_, rfl, _, _, _, _, _, rfl, .ty "int", (D.bl b).ty, kit_ib _, _, rfl, iteT ?_⟩
        refine ⟨_, rfl, _, _, _, _, _, rfl, .ty "bool", (D.bl b).ty, kit_b _, _, rfl, _, _, _, _, _, rfl, .ty "bool", (D.bl b).ty, kit_b _, rfl, _, rfl, ?_⟩
        refine ite_tt (decide_eq_true rfl) ⟨_, rfl, _, rfl, rfl, ?_⟩
        rw [decide_eq_true rfl]
        exact kq _ ep
      | int i =>
        cases hx
        refine iteF ?_
        refine ⟨_, rfl, _, _, _, _, _, rfl, .ty "dict", (D.int i).ty, kit_dict _, _, rfl, ?_⟩
        refine ite_ff (by show decide ("NoneType" = "dict") = false; decide) ?_
        refine ⟨_, rfl, _, _, _, _, _, rfl, .ty "int", (D.int i).ty, kit_ib _, _, rfl, ?_⟩
        refine ite_tt rfl ?_
        refine ⟨_, rfl, _, _, _, _, _, rfl, .ty "int", (D.int i).ty, kit_ib _, _, rfl, iteT ?_⟩
        refine ⟨_, rfl, _, _, _, _, _, rfl, .ty "bool", (D.int i).ty, kit_b _, _, rfl, _, _, _, _, _, rfl, .ty "bool", (D.int i).ty, kit_b _, rfl, _, rfl, ?_⟩
        refine ite_tt (decide_eq_true rfl) ⟨_, rfl, _, rfl, rfl, ?_⟩
        rw [decide_eq_true rfl]
        exact kq _ ep
      | str z =>
        cases hx
        refine iteF ?_
        refine ⟨_, rfl, _, _, _, _, _, rfl, .ty "dict", (D.str z).ty, kit_dict _, _, rfl, ?_⟩
        refine ite_ff (by show decide ("NoneType" = "dict") = false; decide) ?_
        refine ⟨_, rfl, _, _, _, _, _, rfl, .ty "int", (D.str z).ty, kit_ib _, _, rfl, ?_⟩
        refine ite_ff rfl ?_
        refine ⟨_, rfl, by show 4 ≤ sizeLine; decide, fun p2 np2 => ⟨_, p2, _, _, _, _, rfl, upd_same, .cons (.ty "int") (.cons (.ty "list") (.cons (.ty "tuple") (.cons (.ty "dict") .nil))), (D.str z).ty, kit_4 _, ?_⟩⟩
        refine ⟨_, rfl, _, rfl, iteT ⟨_, rfl, _, rfl, rfl, ?_⟩⟩
        rw [decide_eq_true rfl]
        exact kq _ (ep.trans (Ex.new np2))
      | @dic b kvs ds hb hkv =>
        cases hx with
        | @dic a kvs2 _ ha hkv2 =>
          cases k with
          | zero => cases hok
          | succ k =>
            obtain ⟨_, hal⟩ := Bool.and_eq_true_iff.mp (show (decide (ds.length ≤ 10) && okD k (.list (ds.map fun p => .tuple [p.1, p.2]))) = true from hok)
            have hxp := (D.dic ha hkv2).ex ep
            have hyp := (D.dic hb hkv).ex ep
            refine iteF ?_
            refine ⟨_, rfl, _, _, _, _, _, rfl, .ty "dict", hyp.ty, kit_dict _, _, rfl, ?_⟩
            refine ite_tt (decide_eq_true rfl) ?_
            refine ⟨_, rfl, _, _, _, _, _, rfl, .ty "dict", hxp.ty, kit_dict _, _, rfl, ?_⟩
            refine ite_tt (decide_eq_true rfl) ?_
            refine ⟨_, rfl, a, kvs2, rfl, ep _ _ ha, fun H1 p1 ts1 e1 np1 _ _ hl1 pr1 => ?_⟩
            refine ⟨_, rfl, b, kvs, rfl, e1 _ _ (ep _ _ hb), fun H2 p2 ts2 e2 np2 _ _ hl2 pr2 => ?_⟩
            have e01 : Ex H H1 := ep.trans e1
            have e02 : Ex H H2 := e01.trans e2
            refine ⟨.ref p1, .ref p2, .list (ds.map fun p => .tuple [p.1, p.2]), rfl, .ex e2 (.lst hl1 (dkv_tuples pr1 (hkv2.ex e01))), .lst hl2 (dkv_tuples pr2 (hkv.ex e02)), hal, fun H3 e3 => kq _ (e02.trans e3)⟩
end
end Ts


set_option Elab.async false
set_option linter.all false
set_option maxRecDepth 100000
set_option maxHeartbeats 4000000
namespace Ts
open PySem PySem.Spec L2
open Evl (Ex)
/-- data that is led loosely: short rows; dicts as they are -/
def okL : Nat → PyData → Bool
  | _, .none => true
  | _, .bool _ => true
  | _, .int _ => true
  | _, .str _ => true
  | _, .dict _ => true
  | 0, _ => false
  | k + 1, .list l => decide (l.length ≤ 90) && l.all (okL k)
  | k + 1, .tuple l => decide (l.length ≤ 90) && l.all (okL k)
/-- how many draws at most -/
def dr : Nat → Int
  | 0 => 0
  | k + 1 => 1 + 90 * dr k
theorem dr_pos : ∀ k, 0 ≤ dr k
  | 0 => Int.le_refl 0
  | k + 1 => by
    have := dr_pos k
    show 0 ≤ 1 + 90 * dr k
    omega
mutual
inductive Loo : PyData → PyData → Prop
  | same {d : PyData} : isRow d = false → Loo d d
  | row {d : PyData} (k : Bool) {es : List PyData} : isRow d = true → LooAll (items d) es → Loo d (mk k es)
inductive LooAll : List PyData → List PyData → Prop
  | nil : LooAll [] []
  | cons {d e : PyData} {ds es : List PyData} : Loo d e → LooAll ds es → LooAll (d :: ds) (e :: es)
end
theorem LooAll.snoc : ∀ {ds es : List PyData} {d e : PyData}, LooAll ds es → Loo d e → LooAll (ds ++ [d]) (es ++ [e])
  | _, _, _, _, .nil, h => .cons h .nil
  | _, _, _, _, .cons h r, h2 => .cons h (LooAll.snoc r h2)
theorem okL_row {k : Nat} {d : PyData} (hr : isRow d = true) (h : okL k d = true) : ∃ j, k = j + 1 ∧ (items d).length ≤ 90 ∧ ∀ e ∈ items d, okL j e = true := by
  cases k with
  | zero => cases d <;> first | (cases hr; done) | (cases h; done)
  | succ j =>
    refine ⟨j, rfl, ?_⟩
    cases d <;> first
      | (cases hr; done)
      | (obtain ⟨h1, h2⟩ := Bool.and_eq_true_iff.mp h; exact ⟨of_decide_eq_true h1, fun e he => List.all_eq_true.mp h2 e he⟩)
theorem DAll.snoc {H : Hp} {xs : List V} {ds : List PyData} {x : V} {d : PyData} (h : DAll H xs ds) (hd : D H x d) : DAll H (xs ++ [x]) (ds ++ [d]) := h.app (.cons hd .nil)
/-- a comprehension over the row in slot i, whose elements change what Pv tells -/
theorem lcs_row {K : PySem.W.Frag} {i j : Nat} {te : TE} {vs : List Nat} {σ : L2.St} {H : Hp} {a : Addr} {xs : List V} {Q : VK} (Pv : Addr → Nat → Hp → Prop) (hσ : σ[i]? = some (some (.ref a))) (hr : Row H a xs)
    (hw : ∀ x : V, wipe ((wipe σ vs).set j (some x)) vs = wipe σ vs)
    (h0 : ∀ D, H D = none → Pv D 0 (upd H D (.lst [])))
    (hkeep : ∀ D i H', Pv D i H' → ∀ o, H a = some o → H' a = some o)
    (hs : ∀ D i x H', xs[i]? = some x → Pv D i H' → te ((wipe σ vs).set j (some x)) H' fun y H4 => ∃ acc, H4 D = some (.lst acc) ∧ acc.length < sizeLine ∧ Pv D (i + 1) (upd H4 D (.lst (acc ++ [y]))))
    (hq : ∀ D H', Pv D xs.length H' → Q (.ref D) H') : tLc (iOr (iList K (tVar i)) (iTup K (tVar i))) (gName j) tYes te vs σ H Q := by
  have body : ∀ D i x H', xs[i]? = some x → Pv D i H' → gName j x (wipe σ vs) H' fun σ2 H2 => wipe σ2 vs = wipe σ vs ∧ tYes σ2 H2 fun b H3 =>
      if b = true then te σ2 H3 fun y H4 => ∃ acc, H4 D = some (.lst acc) ∧ acc.length < sizeLine ∧ Pv D (i + 1) (upd H4 D (.lst (acc ++ [y]))) else Pv D (i + 1) H3 := fun D i x H' hx p => by
    refine ⟨hw x, ?_⟩
    unfold tYes
    dsimp only
    rw [if_pos rfl]
    exact hs D i x H' hx p
  rcases hr with h | h
  · refine .inl ⟨_, hσ, a, rfl, ⟨xs, SqL.of h⟩, fun D hD => ?_⟩
    exact lc_it (walk_list (xs := xs)) (Pv D) (h0 D hD) (fun i H' _ p => SqL.of (hkeep D i H' p _ h)) (fun i x H' H'' hi p y => by
      obtain ⟨rfl, hx⟩ := y
      exact body D i x H'' hx p) (fun H' p => hq D H' p)
  · refine .inr ⟨_, hσ, a, rfl, ⟨xs, SqT.of h⟩, fun D hD => ?_⟩
    exact lc_it (walk_tup (xs := xs)) (Pv D) (h0 D hD) (fun i H' _ p => SqT.of (hkeep D i H' p _ h)) (fun i x H' H'' hi p y => by
      obtain ⟨rfl, hx⟩ := y
      exact body D i x H'' hx p) (fun H' p => hq D H' p)
theorem off_back {a c l : Addr} {n : Int} {H H' : Hp} (e : Ex (off a c H) (off a c H')) (S : Strm H' a c n) (h : H' l = none) : H l = none := by
  cases q : H l with
  | none => rfl
  | some o =>
    exfalso
    obtain ⟨⟨_, _, _, g1, g2, _⟩, _, _⟩ := S
    by_cases la : l = a
    · rw [la, g1] at h
      cases h
    · by_cases lc : l = c
      · rw [lc, g2] at h
        cases h
      · have z := off_of (e l o ((off_ne la lc).trans q))
        rw [h] at z
        cases z
/-- a region of the heap has grown by what is new -/
structure Reg (a c : Addr) (G G' H H' : Hp) : Prop where
  e : Ex G G'
  i : Ex G' (off a c H')
  f : ∀ b, G' b ≠ none → G b ≠ none ∨ H b = none
section
variable {P : Program} {w : World} {K : PySem.W.Frag} {mg : Str → Option Value} {base : Heap}
abbrev s_loose := top 59
theorem sc_loose : FnScope ["stream", "thing", "found", "part"] ["stream", "thing"] (defScope s_loose) := ⟨rfl, rfl, rfl, by decide +kernel, rfl, by decide +kernel, by decide +kernel⟩
def spLoose : Nat → Sp
  | 0 => fun _ _ _ _ => False
  | k + 1 => fun vs H Q _ => ∃ a c n v d G, vs = [.ref a, v] ∧ Strm H a c n ∧ Ex G (off a c H) ∧ D G v d ∧ okL k d = true ∧ n + dr k ≤ 2 ^ 39 ∧
      ∀ H' v' d' G' n', Ex (off a c H) (off a c H') → Strm H' a c n' → n ≤ n' → n' ≤ n + dr k → Reg a c G G' H H' → D G' v' d' → Loo d d' → Q v' H'
theorem ok_loose {f f1 : Addr} {fd fd1 : FuncData} (F : FD K mg "_law_loose" "_law_loose" s_loose f fd) (F1 : FD K mg "_law_draw" "_law_draw" s_draw f1 fd1) (T : Bl mg) : ∀ k, FnOk P w K mg base CX0 (k + 1) f fd ["stream", "thing"] (spLoose k)
  | 0 => ⟨fun _ _ _ _ h => h.elim, fun _ _ _ _ _ _ _ _ _ _ _ _ _ h => h.elim⟩
  | k + 1 => by
    have G0 := ok_loose F F1 T k
    have G1 : FnOk P w K mg base CX0 1 f1 fd1 ["stream", "many"] spDraw := ok_draw F1 T
    have b0 : Binds K fd ["stream", "thing"] [] := F.F.binds fun _ _ _ _ _ _ us hl => match us, hl with | [_, _], _ => rfl
    refine F.F.ok sc_loose (fun vs H Q E h => ?_) (fun cdv A outer s H vs Q E hr h => ?_)
    · obtain ⟨a, c, n, v, d, G, rfl, _⟩ := h
      rfl
    · obtain ⟨a, c, n, v, d, G, rfl, S, eG, hd, hok, hn, kq⟩ := h
      have nd := sc_loose.nd
      refine ⟨_, pss_cons (ps_if (pt_not (pt_val (pe_callB call_isiT (by rfl) T.isinstance (by decide +kernel) (pa_cons (pv 1) (pa_cons (pe_tup (pa_cons (pe_bltn (v := .ty "list") (by rfl) T.list (by decide +kernel) rfl) (pa_cons (pe_bltn (v := .ty "tuple") (by rfl) T.tuple (by decide +kernel) rfl) pa_nil))) pa_nil))))) (pss_one (ps_ret (pv 1))) pss_nil)
        (pss_cons (ps_setLc (i := 2) (own := [("part", 3)]) (g := gName 3) (tt := tYes) rfl nd rfl rfl (sw_true rfl rfl rfl (by decide +kernel)) (pi_or (pi_list (pv 1)) (pi_tup (pv 1))) (blkOk_by (N := ["stream", "thing", "found", "part"]) (sc := defScope s_loose) (by decide +kernel))
            (fun _ _ _ _ _ => pg_name (i := 3) nd rfl (Or.inl rfl)) (fun _ _ _ _ _ => pts_nil) (fun _ _ _ _ _ => pe_call G0 hr (by rfl) F.g F.F.kp b0 .nil pass0 (pa_cons (pv 0) (pa_cons (pv 3) pa_nil))))
        (pss_one (ps_ret (pe_ifExp (pt_cmpR op_eq (pe_call G1 (hr.mono (by omega)) (by rfl) F1.g F1.F.kp (b_draw F1) .nil pass0 (pa_cons (pv 0) (pa_cons pe_int pa_nil))) pe_int (nomark _)) (pv 2)
            (pe_callTy call_tuple_of (by rfl) T.tuple PyProof.Rows.boot_tuple (pa_cons (pv 2) pa_nil)))))), ?_⟩
      have hdH := hd.ex (eG.trans off_ex)
      refine ⟨_, rfl, by show 2 ≤ sizeLine; decide, fun p np => ⟨_, p, _, _, _, _, rfl, upd_same, .cons (.ty "list") (.cons (.ty "tuple") .nil), (hdH.ex (Ex.new np)).ty, kit_row d, _, rfl, ?_⟩⟩
      have ep := Ex.new (o := .tup [.ty "list", .ty "tuple"]) np
      generalize hP : upd H p (.tup [.ty "list", .ty "tuple"]) = H0 at ep
      have S0 := S.ex ep
      have e0 := Ex.offs (a := a) (c := c) ep
      have dp := dr_pos k
      by_cases hr1 : isRow d = true
      · obtain ⟨j, rfl, hlen, hall⟩ := okL_row hr1 hok
        obtain ⟨a', xs, rfl, hrow, hxs⟩ := hd.row hr1
        have dj := dr_pos j
        have hdr : dr (j + 1) = 1 + 90 * dr j := rfl
        refine ite_ff (by rw [hr1]; rfl) ?_
        have row0 : Row H0 a' xs := ((hrow.ex eG).ex e0).ex off_ex
        refine next1 ?_
        dsimp only
        refine seq1 (asg1 ?_)
        refine lcs_row (fun Dd i H' => ∃ (acc : List V) (G' : Hp) (es : List PyData) (n' : Int), acc.length = i ∧ H' Dd = some (.lst acc) ∧ H0 Dd = none ∧ Strm H' a c n' ∧ n ≤ n' ∧ n' ≤ n + (i : Nat) * dr j ∧ Ex (off a c H0) (off a c H') ∧ Ex G G' ∧ Ex G' (off a c H') ∧ (∀ b, G' b ≠ none → G b ≠ none ∨ (H0 b = none ∧ b ≠ Dd)) ∧ DAll G' acc es ∧ LooAll ((items d).take i) es)
          (by rfl) row0 (fun x => rfl) (fun Dd hD => ?_) (fun Dd i H' p o ho => ?_) (fun Dd i x H' hx p => ?_) (fun Dd H' p => ?_)
        · refine ⟨[], G, [], n, rfl, upd_same, hD, S0.ex (Ex.new hD), Int.le_refl _, by simp, Ex.offs (Ex.new hD), Ex.refl _, (eG.trans e0).trans (Ex.offs (Ex.new hD)), fun b hb => .inl hb, .nil, .nil⟩
        · obtain ⟨acc, G', es, n', h1, h2, h3, h4, h5, h6, h7, h8, h9, h10, h11, h12⟩ := p
          rcases hrow with z | z
          · have q := eG _ _ z
            have q0 := e0 _ _ q
            rw [off_of q0] at ho
            cases ho
            exact off_of (h7 _ _ q0)
          · have q := eG _ _ z
            have q0 := e0 _ _ q
            rw [off_of q0] at ho
            cases ho
            exact off_of (h7 _ _ q0)
        · obtain ⟨acc, G', es, n', h1, h2, h3, h4, h5, h6, h7, h8, h9, h10, h11, h12⟩ := p
          obtain ⟨dx, hdx, Dx⟩ := hxs.get hx
          have hi : i < (items d).length := (List.getElem?_eq_some_iff.mp hdx).1
          have hmul : (i : Int) * dr j + dr j ≤ 90 * dr j := by
            have : ((i : Int) + 1) * dr j ≤ 90 * dr j := Int.mul_le_mul_of_nonneg_right (by omega) dj
            rw [Int.add_mul, Int.one_mul] at this
            exact this
          refine ⟨_, rfl, _, rfl, a, c, n', x, dx, G', rfl, h4, h9, Dx.ex h8, hall dx (List.mem_of_getElem? hdx), by omega, fun H4 y dy G2 n2 k1 k2 k3 k4 k5 k6 k7 => ?_⟩
          have nea := S0.nea h3
          have hD4 : H4 Dd = some (.lst acc) := off_of (k1 _ _ ((off_ne nea.1 nea.2).trans h2))
          have gD : G2 Dd = none := by
            cases e : G2 Dd with
            | none => rfl
            | some o =>
              rcases k5.f Dd (by rw [e]; simp) with z | z
              · rcases h10 Dd z with z | z
                · exfalso
                  cases e' : G Dd with
                  | none => exact z e'
                  | some o' =>
                    have q := off_of (e0 _ _ (eG _ _ e'))
                    rw [h3] at q
                    cases q
                · exact (z.2 rfl).elim
              · rw [h2] at z
                cases z
          refine ⟨acc, hD4, by rw [h1]; exact Evl.sz_lt (by omega), acc ++ [y], G2, es ++ [dy], n2, by rw [List.length_append, h1]; rfl, upd_same, h3, k2.upd nea.1 nea.2, by omega, ?_, ?_, h8.trans k5.e, fun b o hb => ?_, fun b hb => ?_, (h11.ex k5.e).snoc k6, ?_⟩
          · have ec : ((i + 1 : Nat) : Int) * dr j = (i : Int) * dr j + dr j := by
              rw [Int.natCast_add, Int.add_mul]
              simp
            rw [ec]
            omega
          · rw [off_upd_ne nea.1 nea.2]
            exact (h7.trans k1).mut (off_none h3)
          · have nb : b ≠ Dd := fun z => by
              rw [z, gD] at hb
              cases hb
            rw [off_upd_ne nea.1 nea.2, upd_ne nb]
            exact k5.i b o hb
          · rcases k5.f b hb with z | z
            · exact h10 b z
            · refine .inr ⟨?_, fun q => ?_⟩
              · cases e : H0 b with
                | none => rfl
                | some o =>
                  exfalso
                  by_cases ba : b = a
                  · obtain ⟨⟨_, _, _, g1, _⟩, _, _⟩ := h4
                    rw [ba, g1] at z
                    cases z
                  · by_cases bc : b = c
                    · obtain ⟨⟨_, _, _, _, g2, _⟩, _, _⟩ := h4
                      rw [bc, g2] at z
                      cases z
                    · have q := off_of (h7 b o ((off_ne ba bc).trans e))
                      rw [q] at z
                      cases z
              · rw [q, h2] at z
                cases z
          · rw [List.take_add_one, hdx]
            exact h12.snoc k7
        · obtain ⟨acc, G', es, n', h1, h2, h3, h4, h5, h6, h7, h8, h9, h10, h11, h12⟩ := p
          have nea := S0.nea h3
          have hlx := hxs.len
          have h12' : LooAll (items d) es := by
            rw [List.take_of_length_le (by omega)] at h12
            exact h12
          have hmul : (xs.length : Int) * dr j ≤ 90 * dr j := Int.mul_le_mul_of_nonneg_right (by omega) dj
          have gD : G' Dd = none := by
            cases e : G' Dd with
            | none => rfl
            | some o =>
              rcases h10 Dd (by rw [e]; simp) with z | z
              · exfalso
                cases e' : G Dd with
                | none => exact z e'
                | some o' =>
                  have q := off_of (e0 _ _ (eG _ _ e'))
                  rw [h3] at q
                  cases q
              · exact (z.2 rfl).elim
          refine ⟨_, rfl, a, c, n', 3, rfl, h4, by decide, by decide, by omega, fun H5 r e5 S5 r0 r1 => ⟨rfl, _, rfl, ?_⟩⟩
          have hD5 : off a c H5 Dd = some (.lst acc) := e5 _ _ ((off_ne nea.1 nea.2).trans h2)
          have eH := (e0.trans h7).trans e5
          have fr : ∀ b, G' b ≠ none → G b ≠ none ∨ H b = none := fun b hb => (h10 b hb).imp id fun z => Evl.fresh_back ep z.1
          rw [dec_z]
          by_cases hr0 : r = 0
          · rw [decide_eq_true hr0]
            refine iteT ⟨_, rfl, kq H5 (.ref Dd) (.list es) (upd G' Dd (.lst acc)) (n' + 1) eH S5 (by omega) (by omega) ⟨h8.trans (Ex.new gD), fun b o hb => ?_, fun b hb => ?_⟩ (.lst upd_same (h11.ex (Ex.new gD))) (.row true hr1 h12')⟩
            · by_cases z : b = Dd
              · rw [z, upd_same] at hb
                cases hb
                rw [z]
                exact hD5
              · rw [upd_ne z] at hb
                exact e5 _ _ (h9 _ _ hb)
            · by_cases z : b = Dd
              · rw [z]
                exact .inr (Evl.fresh_back ep h3)
              · rw [upd_ne z] at hb
                exact fr b hb
          · rw [decide_eq_false hr0]
            refine iteF ⟨_, rfl, Dd, acc, rfl, .inl ⟨SqL.of (off_of hD5), fun l nl => ?_⟩⟩
            have gl : G' l = none := by
              cases e : G' l with
              | none => rfl
              | some o =>
                have q := off_of (e5 _ _ (h9 _ _ e))
                rw [nl] at q
                cases q
            have nel := S5.nea nl
            have el := Ex.new (o := .tup acc) nl
            refine kq _ (.ref l) (.tuple es) (upd G' l (.tup acc)) (n' + 1) (eH.trans (Ex.offs el)) (S5.ex el) (by omega) (by omega) ⟨h8.trans (Ex.new gl), fun b o hb => ?_, fun b hb => ?_⟩ (.tup upd_same (h11.ex (Ex.new gl))) (.row false hr1 h12')
            · rw [off_upd_ne nel.1 nel.2]
              by_cases z : b = l
              · rw [z, upd_same] at hb ⊢
                exact hb
              · rw [upd_ne z] at hb ⊢
                exact e5 _ _ (h9 _ _ hb)
            · by_cases z : b = l
              · rw [z]
                exact .inr (off_back eH S5 nl)
              · rw [upd_ne z] at hb
                exact fr b hb
      · have hf : isRow d = false := by simpa using hr1
        refine ite_tt (by rw [hf]; rfl) ?_
        exact ⟨_, rfl, kq H0 v d G n e0 S0 (Int.le_refl _) (by omega) ⟨Ex.refl _, eG.trans e0, fun b hb => .inl hb⟩ hd (.same hf)⟩
end
end Ts


set_option Elab.async false
set_option linter.all false
set_option maxRecDepth 100000
set_option maxHeartbeats 4000000
namespace Ts
open PySem PySem.Spec L2
open Evl (Ex)
theorem perm_at {α : Type} : ∀ (l : List α) (i : Nat) (h : i < l.length), (l[i] :: l.eraseIdx i).Perm l
  | x :: l, 0, _ => List.Perm.refl _
  | x :: l, i + 1, h => (List.Perm.swap x (l[i]'(Nat.lt_of_succ_lt_succ h)) (l.eraseIdx i)).trans ((perm_at l i (Nat.lt_of_succ_lt_succ h)).cons x)
def rLenQ (K : PySem.W.Frag) : List V → Hp → VK → Prop := fun xs H Q => ∃ p ys, xs = [V.ref p] ∧ (SqL K H p ys ∨ SqT K H p ys) ∧ Q (.int (ys.length : Nat)) H
section
variable {P : Program} {w : World} {K : PySem.W.Frag} {mg : Str → Option Value} {base : Heap}
abbrev s_pick := top 56
abbrev s_mixed := top 57
theorem sc_pick : FnScope ["stream", "some"] ["stream", "some"] (defScope s_pick) := ⟨rfl, rfl, rfl, by decide +kernel, rfl, by decide +kernel, by decide +kernel⟩
theorem sc_mixed : FnScope ["stream", "some", "left", "k"] ["stream", "some"] (defScope s_mixed) := ⟨rfl, rfl, rfl, by decide +kernel, rfl, by decide +kernel, by decide +kernel⟩
def spPick : Sp := fun vs H Q _ => ∃ (a c b : Addr) (n : Int) (xs : List V), vs = [.ref a, .ref b] ∧ Strm H a c n ∧ off a c H b = some (.lst xs) ∧ 1 ≤ xs.length ∧ xs.length ≤ 1000000 ∧ n < 2 ^ 40 ∧
  ∀ H' x, Ex (off a c H) (off a c H') → Strm H' a c (n + 1) → x ∈ xs → Q x H'
theorem ok_pick {f f1 : Addr} {fd fd1 : FuncData} (F : FD K mg "_law_pick" "_law_pick" s_pick f fd) (F1 : FD K mg "_law_draw" "_law_draw" s_draw f1 fd1) (T : Bl mg) : FnOk P w K mg base CX0 2 f fd ["stream", "some"] spPick := by
  have G1 : FnOk P w K mg base CX0 1 f1 fd1 ["stream", "many"] spDraw := ok_draw F1 T
  refine F.F.ok sc_pick (fun vs H Q E h => ?_) (fun cdv A outer s H vs Q E hr h => ?_)
  · obtain ⟨a, c, b, n, xs, rfl, _⟩ := h
    rfl
  · obtain ⟨a, c, b, n, xs, rfl, S, hb, l1, l2, nz, k⟩ := h
    refine ⟨_, pss_one (ps_ret (pe_ix ix_seq (pv 1) (pe_call G1 hr (by rfl) F1.g F1.F.kp (b_draw F1) .nil pass0 (pa_cons (pv 0) (pa_cons (pe_callB call_len_seq (by rfl) T.len PySem.boot_len (pa_cons (pv 1) pa_nil)) pa_nil))) (fun _ _ => rfl))), ?_⟩
    refine ⟨_, rfl, _, rfl, _, rfl, b, _, rfl, .inl (SqL.of (off_of hb)), a, c, n, _, rfl, S, by omega, ?_, nz, fun H' r e S' r0 r1 => ?_⟩
    · have : (1000000 : Int) < 2 ^ 60 := by decide
      omega
    · have hb' := off_of (e _ _ hb)
      obtain ⟨m, rfl⟩ := Int.eq_ofNat_of_zero_le r0
      have hm : m < xs.length := by omega
      exact ix_row (.inl hb') (atI_nat (List.getElem?_eq_getElem hm)) (k H' _ e S' (List.getElem_mem hm))
def spMixed : Sp := fun vs H Q _ => ∃ (a c b : Addr) (n : Int) (xs : List V), vs = [.ref a, .ref b] ∧ Strm H a c n ∧ off a c H b = some (.lst xs) ∧ xs.length ≤ 1000 ∧ n < 2 ^ 39 ∧
  ∀ H' M ys, H M = none → Ex (off a c H) (off a c H') → Strm H' a c (n + xs.length) → off a c H' M = some (.lst ys) → ys.Perm xs → Q (.ref M) H'
theorem ok_mixed {f f1 : Addr} {fd fd1 : FuncData} (F : FD K mg "_law_mixed" "_law_mixed" s_mixed f fd) (F1 : FD K mg "_law_draw" "_law_draw" s_draw f1 fd1) (T : Bl mg) : FnOk P w K mg base CX0 2 f fd ["stream", "some"] spMixed := by
  have G1 : FnOk P w K mg base CX0 1 f1 fd1 ["stream", "many"] spDraw := ok_draw F1 T
  refine F.F.ok sc_mixed (fun vs H Q E h => ?_) (fun cdv A outer s H vs Q E hr h => ?_)
  · obtain ⟨a, c, b, n, xs, rfl, _⟩ := h
    rfl
  · obtain ⟨a, c, b, n, xs, rfl, S, hb, l2, nz, k⟩ := h
    have nd := sc_mixed.nd
    refine ⟨_, (pss_cons (ps_set (i := 2) nd rfl (Or.inr rfl) (pe_callTy call_list_of (by rfl) T.list PyProof.Rows.boot_list (pa_cons (pv 1) pa_nil)))
      (pss_one (ps_ret (pe_lc (own := [("k", 3)]) (g := gName 3) (tt := tYes) rfl nd (pi_range1 (by rfl) T.range (pa_cons (pe_callB call_len_seq (by rfl) T.len PySem.boot_len (pa_cons (pv 2) pa_nil)) pa_nil)) (blkOk_by (N := ["stream", "some", "left", "k"]) (sc := defScope s_mixed) (by decide +kernel)) (fun _ _ _ _ _ => pg_name (i := 3) nd rfl (Or.inl rfl)) (fun _ _ _ _ _ => pts_nil) (fun _ _ _ _ _ => (show PE _ _ (tBM K "list" rPopAt (tVar 2) (tCons (tCall spDraw [] E0 (tCons (tVar 0) (tCons (tCB (rLenQ K) (tCons (tVar 2) tNil)) tNil))) tNil)) from (pe_bm PySem.F.plainAttrs_list PySem.F.slot_list_pop PySem.F.type_list_pop mt_popAt (pv 2) (pa_cons (pe_call G1 hr (by rfl) F1.g F1.F.kp (b_draw F1) .nil pass0 (pa_cons (pv 0) (pa_cons (pe_callB (r := rLenQ K) call_len_seq (by rfl) T.len PySem.boot_len (pa_cons (pv 2) pa_nil)) pa_nil))) pa_nil)))))))), ?_⟩
    refine ⟨_, rfl, b, _, rfl, .inl (SqL.of (off_of hb)), fun l nl => ?_⟩
    obtain ⟨la, lc⟩ := S.nea nl
    refine ⟨_, rfl, l, _, rfl, .inl (SqL.of upd_same), _, rfl, by omega, by omega, fun Dd nD => ?_⟩
    have S1 := S.upd (o := .lst xs) la lc
    have hl1 : upd H l (.lst xs) l = some (.lst xs) := upd_same
    have e1 : Ex (off a c H) (off a c (upd H l (.lst xs))) := Ex.offs (Ex.new nl)
    have nDl : Dd ≠ l := fun z => by
      rw [z, upd_same] at nD
      cases nD
    have DH : H Dd = none := by
      rw [upd_ne nDl] at nD
      exact nD
    have LH : off a c H l = none := by rw [off_ne la lc]; exact nl
    generalize upd H l (.lst xs) = H1 at *
    obtain ⟨Da, Dc⟩ := S1.nea nD
    refine it_gen (walk_range (lo := 0) (n := xs.length)) (fun i H' => ∃ acc rest, H' Dd = some (.lst acc) ∧ H' l = some (.lst rest) ∧ (acc ++ rest).Perm xs ∧ acc.length = i ∧ Strm H' a c (n + (i : Nat)) ∧ Ex (off a c H) (off a c H')) ⟨[], xs, upd_same, by rw [upd_ne nDl.symm]; exact hl1, List.Perm.refl _, rfl, by simpa using S1.upd Da Dc, ?_⟩ (fun _ _ _ _ => trivial) (fun i x H2 H3 hi q y => ?_) (fun H' q => ?_)
    · rw [off_upd_ne Da Dc]
      exact e1.mut (by rw [off_ne Da Dc]; exact DH)
    · obtain ⟨acc, rest, hD, hl, hp, hlen, S2, e2⟩ := q
      obtain ⟨eH, rfl⟩ := y
      subst eH
      have hpl := hp.length_eq
      rw [List.length_append] at hpl
      refine ⟨rfl, yes_of ?_⟩
      refine ⟨_, rfl, .inl ⟨rfl, _, SqL.of hl⟩, _, rfl, _, rfl, l, rest, rfl, .inl (SqL.of hl), a, c, n + (i : Nat), _, rfl, S2, by omega, ?_, ?_, fun H4 r e4 S4 r0 r1 => ?_⟩
      · have : (1000 : Int) < 2 ^ 60 := by decide
        omega
      · have : (2 : Int) ^ 39 + 1000 < 2 ^ 40 := by decide
        omega
      obtain ⟨m, rfl⟩ := Int.eq_ofNat_of_zero_le r0
      have hm : m < rest.length := by omega
      have at4 : ∀ z o, z ≠ a → z ≠ c → H3 z = some o → H4 z = some o := fun z o n1 n2 h => off_of (e4 _ _ (by rw [off_ne n1 n2]; exact h))
      have hl4 := at4 _ _ la lc hl
      have hD4 := at4 _ _ Da Dc hD
      refine ⟨l, rest, (m : Int), m, rest[m], rfl, rfl, hl4, by omega, by omega, seqIndex_of (by omega) (by omega), List.getElem?_eq_getElem hm, acc, by rw [upd_ne nDl]; exact hD4, by rw [hlen]; exact Nat.lt_of_lt_of_le (show i < 1001 by omega) (by decide), acc ++ [rest[m]], rest.eraseIdx m, upd_same, by rw [upd_ne nDl.symm, upd_same], ?_, by rw [List.length_append, hlen]; rfl, ?_, ?_⟩
      · rw [List.append_assoc]
        exact (List.Perm.append_left acc (perm_at rest m hm)).trans hp
      · have z := (S4.upd (o := .lst (rest.eraseIdx m)) la lc).upd (o := .lst (acc ++ [rest[m]])) Da Dc
        have ec : n + ((i + 1 : Nat) : Int) = n + (i : Nat) + 1 := by omega
        rw [ec]
        exact z
      · rw [off_upd_ne Da Dc, off_upd_ne la lc]
        exact ((e2.trans e4).mut LH).mut (by rw [off_ne Da Dc]; exact DH)
    · obtain ⟨acc, rest, hD, hl, hp, hlen, S2, e2⟩ := q
      have hpl := hp.length_eq
      rw [List.length_append] at hpl
      have hr0 : rest = [] := List.eq_nil_of_length_eq_zero (by omega)
      subst hr0
      rw [List.append_nil] at hp
      exact k H' Dd acc DH e2 S2 (by rw [off_ne Da Dc]; exact hD) hp
end
end Ts


set_option Elab.async false
set_option linter.all false
set_option maxRecDepth 100000
set_option maxHeartbeats 4000000
namespace Ts
open PySem PySem.Spec L2 PyProof.Rows
variable {X : Cx}
/-- sorted(d), d a dict whose keys are ints, any number of them -/
def rSortedDI : List V → Hp → VK → Prop := fun xs H Q => ∃ (a : Addr) (us : List Int), xs = [.ref a] ∧ H a = some (.dK (KS us)) ∧ us.length ≤ 1000000 ∧
  ∀ (ys : List Int) (p : Addr), ys.Perm us → ys.Pairwise (· ≤ ·) → H p = none → Q (.ref p) (upd H p (.lst (ys.map V.int)))
theorem cr_sortedDI (hcalm : X.calm = true) : CallR X (.builtin "sorted") rSortedDI := by
  intro pins s σ H xs us Q I r q
  obtain ⟨a, ks, rfl, hd, hz, q⟩ := q
  obtain ⟨u, rfl, rx⟩ := vals1 r
  cases rx
  obtain ⟨z, lo, vs, rel, dd⟩ := dk_of I.hok hd
  obtain ⟨ep, hat⟩ := dd.dictAt
  have hkeys : vs.map (·.1) = ks.map Sum.inl := by
    rw [← rel.keys]
    unfold KS
    rw [List.map_map]
    rfl
  have hl : vs.length = ks.length := by
    have e := congrArg List.length hkeys
    rw [List.length_map, List.length_map] at e
    exact e
  have h16 : vs.length ≤ sizeLine := by rw [hl]; exact Nat.le_trans hz (by decide)
  refine Calls.call_function_entry kind_sorted plain_sorted entry_sorted (args_sorted1 _) ?_
  unfold Builtin.«sorted»
  refine wpAny_bind (m := checkCount "sorted" 1 1 _) (wpAny_pure ?_)
  refine wpAny_bind (PySem.W.kdu_collect (A := X.A.in1) (PySem.W.kdl_dict (knd := mixKind X.prog X.w) (kvs := vs) (ep := ep) lo) (I.ok.hd hcalm) hat h16 fun h' tk acc hk hacc => ?_)
  have hal : acc.toList.length = ks.length := by rw [Array.length_toList, hacc.1, hl]
  have hS : IntsAre acc.toList ks := ints_each hal fun j v e => by
    obtain ⟨k, x, e1, e2⟩ := hacc.2 j v (by rw [← Array.getElem?_toList]; exact e)
    have e3 : (vs.map (·.1))[j]? = some k := by rw [List.getElem?_map, e1]; rfl
    rw [hkeys, List.getElem?_map] at e3
    cases e4 : ks[j]? with
    | none => rw [e4] at e3; cases e3
    | some y =>
      rw [e4] at e3
      have e5 : Sum.inl y = k := Option.some.inj e3
      subst e5
      rcases keyIs_shape (show keyIs (Sum.inl y) v = true from e2) with ⟨i, t, ek, ev⟩ | ⟨z, t, ek, ev⟩
      · cases ek
        exact ⟨y, t, rfl, ev⟩
      · cases ek
  have I1 : Inv X pins σ H { s with heap := h', toks := tk } := I.kept hk
  have hacz : acc.toList.length ≤ sizeLine := by rw [hal]; exact Nat.le_trans hz (by decide)
  refine wpAny_bind (wpAny_newList ?_ hacz)
  have hoL : (h'.push (seqObj "list" acc.toList.toArray 0)).get? h'.objs.size = some (seqObj "list" acc.toList.toArray 0) := Heap.get?_push_size _ rfl
  show wpAny _ _ _ _ _ { s with heap := h'.push (seqObj "list" acc.toList.toArray 0), toks := tk }
  refine wpAny_bind (wpAny_holding (wpAny_call_entry slot_list_sort ⟨_, hoL, rfl⟩ entry_list_sort
    (SrtO.list_sort_ord (s := { s with heap := h'.push (seqObj "list" acc.toList.toArray 0), toks := tk }) SrtO.swo_int hoL hacz (fun h2 => SrtO.ints_sortable hS h2) fun out h1 h2 => ⟨_, rfl, ?_⟩) (args_list_sort _)))
  obtain ⟨k1, k2, k3⟩ := SrtO.ints_out hS h1 h2
  obtain ⟨e', he'⟩ := sortedHeap_at (vs := acc.toList) (out := out.toArray) hoL
  have hlen : ((out.map SrtO.iv).map V.int).length ≤ sizeLine := by
    rw [List.length_map, k2.length_eq]
    exact Nat.le_trans hz (by decide)
  refine wpAny_pure ⟨_, rfl, .ref h'.objs.size, upd H h'.objs.size (.lst ((out.map SrtO.iv).map V.int)), I1.laid (t' := tk) (fun b u e => ?_) (Nat.le_refl _)
    (show ObjOk X.prog X.w _ _ _ (.lst ((out.map SrtO.iv).map V.int)) from ⟨hlen, out, e', vals_of_ints k1, he'⟩), rfl, q _ _ k2 k3 (I1.hok.fresh (Nat.le_refl _))⟩
  have hb : b < h'.objs.size := Heap.lt_size e
  rw [sortedHeap_old (Nat.ne_of_lt hb) (by rw [size_push']; exact Nat.lt_succ_of_lt hb)]
  exact Heap.get?_push_of_some _ e
end Ts


set_option Elab.async false
set_option linter.all false
set_option maxRecDepth 100000
set_option maxHeartbeats 4000000
namespace Ts
open PySem PySem.Spec L2
open Evl (Ex)
theorem ins_nodup {us : List Int} {v : Int} (h : us.Nodup) : (if v ∈ us then us else us ++ [v]).Nodup := by
  split
  · exact h
  · rename_i c
    refine List.nodup_append.mpr ⟨h, List.pairwise_singleton _ _, fun a ha b hb hab => ?_⟩
    rw [List.mem_singleton] at hb
    exact c (hb ▸ hab ▸ ha)
/-- one number goes: what a rule tells of it -/
abbrev Hit (n : Int) (r : Rl) (s : Str) (lo x : Int) : Prop := V.str r.left = V.str s ∧ Leaves r n x ∧ lo ≤ x
/-- the dicts of the law, and whether a heap may go -/
structure Tk (n : Int) (G1 G2 G3 : Int → Prop) (g : Bool) (os ts : List Int) : Prop where
  g : g = true ↔ G1 0
  o : ∀ x, x ∈ os ↔ G2 x
  t : ∀ x, x ∈ ts ↔ G3 x
  no : os.Nodup
  nt : ts.Nodup
  lo : ∀ x ∈ os, 0 ≤ x ∧ x < ((1001 : Nat) : Int)
  lt : ∀ x ∈ ts, 0 ≤ x ∧ x < ((1001 : Nat) : Int)
theorem Tk.congr {n : Int} {G1 G2 G3 G1' G2' G3' : Int → Prop} {g : Bool} {os ts : List Int} (h : Tk n G1 G2 G3 g os ts) (h1 : G1 0 ↔ G1' 0) (h2 : ∀ x, G2 x ↔ G2' x) (h3 : ∀ x, G3 x ↔ G3' x) : Tk n G1' G2' G3' g os ts :=
  ⟨h.g.trans h1, fun x => (h.o x).trans (h2 x), fun x => (h.t x).trans (h3 x), h.no, h.nt, h.lo, h.lt⟩
theorem Tk.step {n : Int} {G1 G2 G3 : Int → Prop} {g : Bool} {os ts : List Int} (h : Tk n G1 G2 G3 g os ts) {L1 L2 L3 : Prop} [Decidable L1] [Decidable L2] [Decidable L3] {x : Int} (x0 : 0 ≤ x) (x1 : x ≤ 1000) :
    Tk n (fun y => G1 y ∨ (L1 ∧ y = x)) (fun y => G2 y ∨ (L2 ∧ 1 ≤ x ∧ y = x)) (fun y => G3 y ∨ (L3 ∧ 2 ≤ x ∧ y = x)) (g || decide (L1 ∧ x = 0)) (if L2 ∧ 1 ≤ x then (if x ∈ os then os else os ++ [x]) else os) (if L3 ∧ 2 ≤ x then (if x ∈ ts then ts else ts ++ [x]) else ts) := by
  refine ⟨?_, fun y => ?_, fun y => ?_, ?_, ?_, ?_, ?_⟩
  · rw [Bool.or_eq_true, h.g, decide_eq_true_iff]
    exact ⟨fun z => z.imp id fun z => ⟨z.1, z.2.symm⟩, fun z => z.imp id fun z => ⟨z.1, z.2.symm⟩⟩
  · split
    · rename_i c
      rw [ins_us, h.o y]
      exact ⟨fun z => z.imp id fun z => ⟨c.1, c.2, z⟩, fun z => z.imp id fun z => z.2.2⟩
    · rename_i c
      rw [h.o y]
      exact ⟨.inl, fun z => z.elim id fun z => absurd ⟨z.1, z.2.1⟩ c⟩
  · split
    · rename_i c
      rw [ins_us, h.t y]
      exact ⟨fun z => z.imp id fun z => ⟨c.1, c.2, z⟩, fun z => z.imp id fun z => z.2.2⟩
    · rename_i c
      rw [h.t y]
      exact ⟨.inl, fun z => z.elim id fun z => absurd ⟨z.1, z.2.1⟩ c⟩
  · split
    · exact ins_nodup h.no
    · exact h.no
  · split
    · exact ins_nodup h.nt
    · exact h.nt
  · intro y hy
    split at hy
    · rcases ins_us.mp hy with hy | rfl
      · exact h.lo y hy
      · omega
    · exact h.lo y hy
  · intro y hy
    split at hy
    · rcases ins_us.mp hy with hy | rfl
      · exact h.lt y hy
      · omega
    · exact h.lt y hy
theorem if_ins {A : TT} {D : Ends} {σ : L2.St} {H : Hp} {i : Nat} {S : Addr} {us : List Int} {n m : Int} {c : Prop} [Decidable c] (hA : ∀ q : Bool → Hp → Prop, q (decide c) H → A σ H q) (hσ : σ[i]? = some (some (.ref S))) (h1 : σ[1]? = some (some (.int n))) (h10 : σ[10]? = some (some (.int m)))
    (hS : H S = some (.dK (KS us))) (hl : us.length < sizeLine) (k : ∀ H', Ex (del H S) H' → H' S = some (.dK (KS (if c then (if n - m ∈ us then us else us ++ [n - m]) else us))) → D.nx σ H') :
    tIfS A (sDPut (tVar i) (tOp (rI0 fun i j => .int (i - j)) (tVar 1) (tVar 10)) (tC (.bl true))) tNext D σ H := by
  have eD : Ex (del H S) H := fun b o e => by
    unfold del at e
    split at e
    · cases e
    · exact e
  refine hA _ ?_
  by_cases hc : c
  · rw [if_pos hc] at k
    refine ite_tt (decide_eq_true hc) ⟨_, hσ, _, h1, _, h10, _, _, rfl, rfl, S, _, rfl, DPut.k (k := (.inl (n - m) : Key)) hS (by unfold KS; rw [List.length_map]; exact hl), ?_⟩
    rw [put_us]
    exact k _ (eD.mut (by unfold del; rw [if_pos rfl])) upd_same
  · rw [if_neg hc] at k
    exact ite_ff (decide_eq_false hc) (k H eD hS)
/-- what the numbers of a rule told so far leave -/
abbrev Cur (n : Int) (r : Rl) (s : Str) (lo : Int) (j : Nat) (x : Int) : Prop := V.str r.left = V.str s ∧ (r.low ≤ n - x ∧ n - x < r.low + (j : Nat)) ∧ lo ≤ x
theorem top_of {r : Rl} {n : Int} (l0 : 0 ≤ r.low) (hh : ∀ h, r.high = some h → r.low ≤ h) (n1 : 1 ≤ n) :
    0 ≤ (if r.high.getD n < n then r.high.getD n else n) ∧ (if r.high.getD n < n then r.high.getD n else n) ≤ n ∧ ∀ m, m ≤ (if r.high.getD n < n then r.high.getD n else n) ↔ (m ≤ n ∧ ∀ h, r.high = some h → m ≤ h) := by
  cases e : r.high with
  | none =>
    have z : (none : Option Int).getD n = n := rfl
    rw [z, if_neg (by omega)]
    exact ⟨by omega, by omega, fun m => ⟨fun h => ⟨h, fun h z => by cases z⟩, fun h => h.1⟩⟩
  | some h =>
    have z : (some h).getD n = h := rfl
    have := hh h e
    rw [z]
    split
    · exact ⟨by omega, by omega, fun m => ⟨fun h => ⟨by omega, fun h' z => by cases z; exact h⟩, fun h' => h'.2 h rfl⟩⟩
    · exact ⟨by omega, by omega, fun m => ⟨fun h => ⟨h, fun h' z => by cases z; omega⟩, fun h => h.1⟩⟩
theorem hi_if {σ : L2.St} {H : Hp} {Q : VK} {hi : Option Int} {n : Int} (h6 : σ[6]? = some (some (hiV hi))) (h1 : σ[1]? = some (some (.int n))) (q : Q (.int (hi.getD n)) H) :
    tIf (tTest (tOp (fun x y H Q => y = V.non ∧ Q (.bl (decide (x = V.non))) H) (tVar 6) (tC .non))) (tVar 1) (tVar 6) σ H Q := by
  refine ⟨_, h6, rfl, _, rfl, ?_⟩
  cases hi with
  | none => exact ite_tt rfl ⟨_, h1, q⟩
  | some h => exact ite_ff rfl ⟨_, h6, q⟩
theorem or_ne {σ : L2.St} {H : Hp} {Q : VK} {g : Bool} {l s : Str} {m n : Int} (h2 : σ[2]? = some (some (.bl g))) (h7 : σ[7]? = some (some (.str l))) (h10 : σ[10]? = some (some (.int m))) (h1 : σ[1]? = some (some (.int n)))
    (q : Q (.bl (g || decide (V.str l = V.str s ∧ n - m = 0))) H) : tOrV (tVar 2) (tAndV (tOp rEq (tVar 7) (tC (.str s))) (tOp rEq (tVar 10) (tVar 1))) σ H Q := by
  refine ⟨_, h2, g, rfl, ?_⟩
  cases g with
  | true => exact ite_tt rfl q
  | false =>
    refine ite_ff rfl ⟨_, h7, rfl, _, rfl, ?_⟩
    have q : Q (.bl (decide (V.str l = V.str s ∧ n - m = 0))) H := q
    by_cases c : V.str l = V.str s
    · refine ite_tt (decide_eq_true c) ⟨_, h10, _, h1, rfl, ?_⟩
      rw [dec_z]
      have z : decide (m = n) = decide (V.str l = V.str s ∧ n - m = 0) := decide_eq_decide.mpr ⟨fun z => ⟨c, by omega⟩, fun z => by omega⟩
      rw [z]
      exact q
    · refine ite_ff (decide_eq_false c) ?_
      rw [decide_eq_false fun z => c z.1] at q
      exact q
section
variable {P : Program} {w : World} {K : PySem.W.Frag} {mg : Str → Option Value} {base : Heap}
abbrev s_taken := top 51
theorem sc_taken : FnScope ["raw", "heap", "goes", "ones", "twos", "low", "high", "left", "rest", "modulus", "number"] ["raw", "heap"] (defScope s_taken) := ⟨rfl, rfl, rfl, by decide +kernel, rfl, by decide +kernel, by decide +kernel⟩
def spTaken : Sp := fun vs H Q _ => ∃ (b : Addr) (qs : List (Addr × Rl)) (n : Int), vs = [.ref b, .int n] ∧ RsAt H b qs ∧ qs.length ≤ 100 ∧ (∀ q ∈ qs, q.2.Ok) ∧ (∀ q ∈ qs, q.2.low ≤ 1000) ∧ 1 ≤ n ∧ n ≤ 1000 ∧
  ∀ (z o t : Addr) H' (g : Bool) (os ts : List Int), Ex H H' → H' z = some (.tup [.bl g, .ref o, .ref t]) → H' o = some (.lst (os.map V.int)) → H' t = some (.lst (ts.map V.int)) → os.length ≤ 1001 → ts.length ≤ 1001 → os.Nodup → ts.Nodup →
    (g = true ↔ ∃ r ∈ qs.map (·.2), V.str r.left = V.str "none" ∧ Leaves r n 0) → (∀ x, x ∈ os ↔ ∃ r ∈ qs.map (·.2), V.str r.left = V.str "one" ∧ Leaves r n x ∧ 1 ≤ x) → (∀ x, x ∈ ts ↔ ∃ r ∈ qs.map (·.2), V.str r.left = V.str "two" ∧ Leaves r n x ∧ 2 ≤ x) → Q (.ref z) H'
theorem ok_taken {f : Addr} {fd : FuncData} (F : FD K mg "_law_a_taken" "_law_a_taken" s_taken f fd) (T : Bl mg) (hmin : mg "min" = none) (hsorted : mg "sorted" = none) : FnOk P w K mg base CX0 1 f fd ["raw", "heap"] spTaken := by
  refine F.F.ok sc_taken (fun vs H Q E h => ?_) (fun cdv A outer s H vs Q E hr h => ?_)
  · obtain ⟨b, qs, n, rfl, _⟩ := h
    rfl
  · obtain ⟨b, qs, n, rfl, ⟨hb, hR⟩, qz, ok, lw, n1, n2, k⟩ := h
    have nd := sc_taken.nd
    have hu : _ + 1 < cLine := Nat.lt_of_le_of_lt (Nat.add_le_add_left (by decide) _) hr.units
    refine ⟨_, (pss_cons (ps_par3 (i := 2) (j := 3) (l := 4) (by rfl) nd rfl rfl rfl (by decide) (by decide) (by decide) rfl rfl rfl (pa_cons pe_bl (pa_cons pe_dnewK (pa_cons pe_dnewK pa_nil))) rfl)
      (pss_cons (ps_for PassesOwn.never rfl (pi_list (pv 0)) (pg_tup rfl (pgs_cons (pg_name (i := 5) nd rfl (Or.inl rfl)) (pgs_cons (pg_name (i := 6) nd rfl (Or.inl rfl)) (pgs_cons (pg_name (i := 7) nd rfl (Or.inl rfl)) (pgs_cons (pg_name (i := 8) nd rfl (Or.inl rfl)) (pgs_cons (pg_name (i := 9) nd rfl (Or.inl rfl)) pgs_nil)))))) (pss_one (ps_if (pt_cmpR op_eq (pe_op op_mod (pe_callTy call_int1 (by rfl) T.int (by decide +kernel) (pa_cons (pv 1) pa_nil)) (pv 9)) (pv 8) (nomark _)) (pss_one (ps_for PassesOwn.never rfl (pi_range2 (by rfl) T.range (pa_cons (pv 5) (pa_cons (pe_op op_add (pe_callB (call_min2 rfl) (by rfl) hmin (by decide +kernel) (pa_cons (pv 1) (pa_cons (pe_ifExp (pt_cmpR op_isN (pv 6) pe_non (nomark _)) (pv 1) (pv 6)) pa_nil))) pe_int) pa_nil))) (pg_name (i := 10) nd rfl (Or.inl rfl)) (pss_cons (ps_set (i := 2) nd rfl (Or.inl rfl) (pe_or (pv 2) (pe_one (pe_and (pe_cmpR op_eq (pv 7) pe_str (nomark _)) (pe_one (pe_cmpR op_eq (pv 10) (pv 1) (nomark _)))))))
      (pss_cons (ps_if (PW.pt (pw_and (pt_cmpR op_eq (pv 7) pe_str (nomark _)) (pw_and1 (pt_cmpR op_lt (pv 10) (pv 1) (nomark _))))) (pss_one (ps_dput hu (pv 3) (pe_op op_sub (pv 1) (pv 10)) pe_bl rfl)) pss_nil)
      (pss_one (ps_if (PW.pt (pw_and (pt_cmpR op_eq (pv 7) pe_str (nomark _)) (pw_and1 (pt_cmpR op_lt (pv 10) (pe_op op_sub (pv 1) pe_int) (nomark _))))) (pss_one (ps_dput hu (pv 4) (pe_op op_sub (pv 1) (pv 10)) pe_bl rfl)) pss_nil)))))) pss_nil)))
      (pss_one (ps_ret (pe_tup (pa_cons (pv 2) (pa_cons (pe_callB (cr_sortedDI rfl) (by rfl) hsorted (by decide +kernel) (pa_cons (pv 3) pa_nil)) (pa_cons (pe_callB (cr_sortedDI rfl) (by rfl) hsorted (by decide +kernel) (pa_cons (pv 4) pa_nil)) pa_nil)))))))), ?_⟩
    refine fun O nO T2 nT => ⟨_, _, _, rfl, ?_⟩
    have OH : H O = none := nO
    have nTO : T2 ≠ O := fun z => by
      rw [z, upd_same] at nT
      cases nT
    have TH : H T2 = none := by
      rw [upd_ne nTO] at nT
      exact nT
    have hO : upd (upd H O (.dK [])) T2 (.dK []) O = some (.dK (KS [])) := by rw [upd_ne nTO.symm, upd_same]; rfl
    have hT : upd (upd H O (.dK [])) T2 (.dK []) T2 = some (.dK (KS [])) := upd_same
    have eH : Ex H (upd (upd H O (.dK [])) T2 (.dK [])) := (Ex.new nO).trans (Ex.new nT)
    generalize upd (upd H O (.dK [])) T2 (.dK []) = H1 at eH hO hT
    clear nO nT
    have big : ∀ l : List Int, l.Nodup → (∀ x ∈ l, 0 ≤ x ∧ x < ((1001 : Nat) : Int)) → l.length ≤ 1001 := fun l h1 h2 => nodup_len 1001 l h1 h2
    have big2 : ∀ l : List Int, l.length ≤ 1001 → l.length < sizeLine := fun l h => Nat.lt_of_le_of_lt h (by decide)
    refine ⟨_, rfl, b, rfl, ⟨_, SqL.of (eH _ _ hb)⟩, for_list (K := K) (a := b) (xs := qs.map fun q => V.ref q.1) (fun i σ H' => ∃ (g : Bool) (os ts : List Int) (v5 v6 v7 v8 v9 v10 : Option V), σ = [some (.ref b), some (.int n), some (.bl g), some (.ref O), some (.ref T2), v5, v6, v7, v8, v9, v10] ∧ Ex H H' ∧ H' O = some (.dK (KS os)) ∧ H' T2 = some (.dK (KS ts)) ∧
        Tk n (fun x => ∃ q ∈ qs.take i, Hit n q.2 "none" 0 x) (fun x => ∃ q ∈ qs.take i, Hit n q.2 "one" 1 x) (fun x => ∃ q ∈ qs.take i, Hit n q.2 "two" 2 x) g os ts)
      ⟨false, [], [], none, none, none, none, none, none, rfl, eH, hO, hT, ⟨⟨(fun z => by cases z), (fun ⟨q, hq, _⟩ => by cases hq)⟩, fun x => ⟨(fun z => by cases z), (fun ⟨q, hq, _⟩ => by cases hq)⟩, fun x => ⟨(fun z => by cases z), (fun ⟨q, hq, _⟩ => by cases hq)⟩, .nil, .nil, (fun x hx => by cases hx), (fun x hx => by cases hx)⟩⟩ (fun i σ H' _ q => ?_) (fun i x σ H' hx q => ?_) (fun σ H' q => ?_)⟩
    · obtain ⟨g, os, ts, v5, v6, v7, v8, v9, v10, rfl, e, _⟩ := q
      exact SqL.of (e _ _ hb)
    · obtain ⟨g, os, ts, v5, v6, v7, v8, v9, v10, rfl, e, hO', hT', tk⟩ := q
      rw [List.getElem?_map] at hx
      cases hq : qs[i]? with
      | none => rw [hq] at hx; cases hx
      | some q =>
        rw [hq] at hx
        cases hx
        have mq := List.mem_of_getElem? hq
        have hqt := e _ _ (hR q mq)
        have okq := ok q mq
        have hm : 0 < q.2.mod := by
          have := okq.rest0
          have := okq.rest1
          omega
        have htake : ∀ (p : Addr × Rl → Prop), (∃ q' ∈ qs.take (i + 1), p q') ↔ (∃ q' ∈ qs.take i, p q') ∨ p q := fun p => by
          rw [List.take_add_one, hq]
          constructor
          · rintro ⟨q', h, z⟩
            rcases List.mem_append.mp h with h | h
            · exact .inl ⟨q', h, z⟩
            · have h : q' = q := List.mem_singleton.mp h
              exact .inr (h ▸ z)
          · rintro (⟨q', h, z⟩ | z)
            · exact ⟨q', List.mem_append_left _ h, z⟩
            · exact ⟨q, List.mem_append_right _ (List.mem_singleton.mpr rfl), z⟩
        refine ⟨q.1, _, rfl, SqT.of hqt, rfl, _, _, rfl, _, _, rfl, _, _, rfl, _, _, rfl, _, _, rfl, rfl, ?_⟩
        refine ⟨_, rfl, .inl ⟨n, rfl, _, rfl, _, _, rfl, rfl, hm, _, rfl, rfl, _, rfl, ?_⟩⟩
        by_cases c : n % q.2.mod = q.2.rest
        · refine ite_tt (by rw [dec_z, decide_eq_true c]) ?_
          have l0 := okq.low0
          have l1 := lw q mq
          have hh := okq.high
          refine ⟨_, rfl, _, rfl, hi_if (hi := q.2.high) (n := n) rfl rfl ⟨_, _, rfl, _, _, rfl, rfl, _, _, rfl, ?_⟩⟩
          obtain ⟨t0, t1, top⟩ := top_of (n := n) l0 hh n1
          generalize (if q.2.high.getD n < n then q.2.high.getD n else n) = tp at t0 t1 top
          refine ⟨⟨by omega, by omega, by omega, by omega⟩, ?_⟩
          refine for_range (lo := q.2.low) (n := (tp + 1 - q.2.low).toNat) (fun j σ H' => ∃ (g : Bool) (os ts : List Int) (v10 : Option V), σ = [some (.ref b), some (.int n), some (.bl g), some (.ref O), some (.ref T2), some (.int q.2.low), some (hiV q.2.high), some (.str q.2.left), some (.int q.2.rest), some (.int q.2.mod), v10] ∧ Ex H H' ∧ H' O = some (.dK (KS os)) ∧ H' T2 = some (.dK (KS ts)) ∧
            Tk n (fun x => (∃ q' ∈ qs.take i, Hit n q'.2 "none" 0 x) ∨ Cur n q.2 "none" 0 j x) (fun x => (∃ q' ∈ qs.take i, Hit n q'.2 "one" 1 x) ∨ Cur n q.2 "one" 1 j x) (fun x => (∃ q' ∈ qs.take i, Hit n q'.2 "two" 2 x) ∨ Cur n q.2 "two" 2 j x) g os ts)
            ⟨g, os, ts, v10, rfl, e, hO', hT', tk.congr ⟨.inl, fun z => z.elim id fun z => by have := z.2.1; omega⟩ (fun x => ⟨.inl, fun z => z.elim id fun z => by have := z.2.1; omega⟩) (fun x => ⟨.inl, fun z => z.elim id fun z => by have := z.2.1; omega⟩)⟩ (fun j σ H2 hj p => ?_) (fun σ H2 p => ?_)
          · obtain ⟨g, os, ts, v10, rfl, e, hO', hT', tk⟩ := p
            have lo := big2 _ (big os tk.no tk.lo)
            have lt := big2 _ (big ts tk.nt tk.lt)
            have st := tk.step (L1 := V.str q.2.left = V.str "none") (L2 := V.str q.2.left = V.str "one") (L3 := V.str q.2.left = V.str "two") (x := n - (q.2.low + (j : Nat))) (by omega) (by omega)
            refine or_ne (g := g) rfl rfl rfl rfl ?_
            unfold gName tSeq
            dsimp only
            show tIfS _ _ _ _ _ _
            refine if_ins (c := V.str q.2.left = V.str "one" ∧ 1 ≤ n - (q.2.low + (j : Nat))) (i := 3) (S := O) (us := os) (n := n) (m := q.2.low + (j : Nat)) (fun qq hqq => tand_of (b1 := decide (V.str q.2.left = V.str "one")) (b2 := decide (q.2.low + (j : Nat) < n)) (fun qq z => ⟨_, rfl, rfl, _, rfl, z⟩) (fun qq z => ⟨_, rfl, _, rfl, _, _, rfl, rfl, _, rfl, z⟩) ?_) rfl rfl rfl hO' lo (fun H3 e3 hO3 => ?_)
            · have z : decide (V.str q.2.left = V.str "one" ∧ 1 ≤ n - (q.2.low + (j : Nat))) = (decide (V.str q.2.left = V.str "one") && decide (q.2.low + (j : Nat) < n)) := by
                rw [Bool.decide_and]
                congr 1
                exact decide_eq_decide.mpr (by omega)
              rw [← z]
              exact hqq
            have inO : ∀ a o, a ≠ O → H2 a = some o → H3 a = some o := fun a o na ha => e3 _ _ (by unfold del; rw [if_neg na]; exact ha)
            dsimp only
            refine if_ins (c := V.str q.2.left = V.str "two" ∧ 2 ≤ n - (q.2.low + (j : Nat))) (i := 4) (S := T2) (us := ts) (n := n) (m := q.2.low + (j : Nat)) (fun qq hqq => tand_of (b1 := decide (V.str q.2.left = V.str "two")) (b2 := decide (q.2.low + (j : Nat) < n - 1)) (fun qq z => ⟨_, rfl, rfl, _, rfl, z⟩) (fun qq z => ⟨_, rfl, _, rfl, _, _, rfl, rfl, _, _, rfl, rfl, _, rfl, z⟩) ?_) rfl rfl rfl (inO _ _ nTO hT') lt (fun H4 e4 hT4 => ?_)
            · have z : decide (V.str q.2.left = V.str "two" ∧ 2 ≤ n - (q.2.low + (j : Nat))) = (decide (V.str q.2.left = V.str "two") && decide (q.2.low + (j : Nat) < n - 1)) := by
                rw [Bool.decide_and]
                congr 1
                exact decide_eq_decide.mpr (by omega)
              rw [← z]
              exact hqq
            have cur : ∀ (s : Str) (l x : Int), (Cur n q.2 s l j x ∨ (V.str q.2.left = V.str s ∧ l ≤ n - (q.2.low + (j : Nat)) ∧ x = n - (q.2.low + (j : Nat)))) ↔ Cur n q.2 s l (j + 1) x := fun s l x => by
              constructor
              · rintro (⟨h1, h2, h3⟩ | ⟨h1, h2, h3⟩)
                · exact ⟨h1, by omega, h3⟩
                · exact ⟨h1, by omega, by omega⟩
              · rintro ⟨h1, h2, h3⟩
                by_cases cc : n - x < q.2.low + (j : Nat)
                · exact .inl ⟨h1, ⟨h2.1, cc⟩, h3⟩
                · exact .inr ⟨h1, by omega, by omega⟩
            refine ⟨_, _, _, _, rfl, fun a o ha => ?_, e4 _ _ (by unfold del; rw [if_neg nTO.symm]; exact hO3), hT4, st.congr ?_ (fun x => ?_) (fun x => ?_)⟩
            · have na : a ≠ O := fun z => by
                rw [z, OH] at ha
                cases ha
              have nb : a ≠ T2 := fun z => by
                rw [z, TH] at ha
                cases ha
              exact e4 _ _ (by unfold del; rw [if_neg nb]; exact inO a o na (e _ _ ha))
            · rw [or_assoc]
              refine or_congr Iff.rfl (Iff.trans ?_ (cur _ _ _))
              exact or_congr Iff.rfl ⟨fun z => ⟨z.1, by omega, z.2⟩, fun z => ⟨z.1, z.2.2⟩⟩
            · rw [or_assoc]
              exact or_congr Iff.rfl (cur _ _ _)
            · rw [or_assoc]
              exact or_congr Iff.rfl (cur _ _ _)
          · obtain ⟨g, os, ts, v10, rfl, e, hO', hT', tk⟩ := p
            have all : ∀ (s : Str) (l x : Int), 0 ≤ l → (Cur n q.2 s l (tp + 1 - q.2.low).toNat x ↔ Hit n q.2 s l x) := fun s l x hl => by
              constructor
              · rintro ⟨h1, h2, h3⟩
                have h4 : n - x ≤ tp := by omega
                exact ⟨h1, ⟨c, h2.1, ((top (n - x)).mp h4).2⟩, h3⟩
              · rintro ⟨h1, ⟨_, h4, h5⟩, h3⟩
                have h6 : n - x ≤ tp := (top (n - x)).mpr ⟨by omega, h5⟩
                exact ⟨h1, ⟨h4, by omega⟩, h3⟩
            refine ⟨g, os, ts, _, _, _, _, _, _, rfl, e, hO', hT', tk.congr ?_ (fun x => ?_) (fun x => ?_)⟩
            · exact (or_congr Iff.rfl (all _ _ _ (by decide))).trans (htake _).symm
            · exact (or_congr Iff.rfl (all _ _ _ (by decide))).trans (htake _).symm
            · exact (or_congr Iff.rfl (all _ _ _ (by decide))).trans (htake _).symm
        · refine ite_ff (by rw [dec_z, decide_eq_false c]) ?_
          have no : ∀ s lo x, ¬ Hit n q.2 s lo x := fun s lo x z => c z.2.1.1
          exact ⟨g, os, ts, _, _, _, _, _, _, rfl, e, hO', hT', tk.congr ((htake _).trans ⟨fun z => z.elim id fun z => absurd z (no _ _ _), .inl⟩).symm (fun x => ((htake _).trans ⟨fun z => z.elim id fun z => absurd z (no _ _ _), .inl⟩).symm) (fun x => ((htake _).trans ⟨fun z => z.elim id fun z => absurd z (no _ _ _), .inl⟩).symm)⟩
    · obtain ⟨g, os, ts, v5, v6, v7, v8, v9, v10, rfl, e, hO', hT', tk⟩ := q
      rw [List.length_map, List.take_length] at tk
      have lo := big os tk.no tk.lo
      have lt := big ts tk.nt tk.lt
      refine ⟨_, rfl, _, rfl, O, os, rfl, hO', Nat.le_trans lo (by decide), fun ys1 p1 perm1 asc1 np1 => ?_⟩
      have ea := Ex.new (o := .lst (ys1.map V.int)) np1
      have a1 : upd H' p1 (.lst (ys1.map V.int)) p1 = some (.lst (ys1.map V.int)) := upd_same
      generalize upd H' p1 (.lst (ys1.map V.int)) = H2 at ea a1
      refine ⟨_, rfl, T2, ts, rfl, ea _ _ hT', Nat.le_trans lt (by decide), fun ys2 p2 perm2 asc2 np2 => ?_⟩
      have eb := Ex.new (o := .lst (ys2.map V.int)) np2
      have b1 : upd H2 p2 (.lst (ys2.map V.int)) p2 = some (.lst (ys2.map V.int)) := upd_same
      generalize upd H2 p2 (.lst (ys2.map V.int)) = H3 at eb b1
      refine ⟨by show 3 ≤ sizeLine; decide, fun z nz => ?_⟩
      have ec := Ex.new (o := .tup [.bl g, .ref p1, .ref p2]) nz
      have mp : ∀ (s : Str) (lo x : Int), (∃ q ∈ qs, Hit n q.2 s lo x) ↔ ∃ r ∈ qs.map (·.2), V.str r.left = V.str s ∧ Leaves r n x ∧ lo ≤ x := fun s lo x => ⟨fun ⟨q, hq, h⟩ => ⟨q.2, List.mem_map.mpr ⟨q, hq, rfl⟩, h⟩, fun ⟨r, hr', h⟩ => by
        obtain ⟨q, hq, rfl⟩ := List.mem_map.mp hr'
        exact ⟨q, hq, h⟩⟩
      refine k z p1 p2 _ g ys1 ys2 (((e.trans ea).trans eb).trans ec) upd_same (ec _ _ (eb _ _ a1)) (ec _ _ b1) (by rw [perm1.length_eq]; exact lo) (by rw [perm2.length_eq]; exact lt) (perm1.nodup_iff.mpr tk.no) (perm2.nodup_iff.mpr tk.nt) ?_ (fun x => (perm1.mem_iff.trans (tk.o x)).trans (mp _ _ _)) (fun x => (perm2.mem_iff.trans (tk.t x)).trans (mp _ _ _))
      rw [tk.g, mp]
      exact ⟨fun ⟨r, h1, h2, h3, _⟩ => ⟨r, h1, h2, h3⟩, fun ⟨r, h1, h2, h3⟩ => ⟨r, h1, h2, h3, Int.le_refl _⟩⟩
end
end Ts


set_option Elab.async false
set_option linter.all false
set_option maxRecDepth 100000
set_option maxHeartbeats 4000000
namespace Ts
open PySem PySem.Spec L2
open Evl (Ex)
/-- a rule's line as the law writes it -/
def Rl.hi2 (r : Rl) : Str := match r.high with
  | none => " or more"
  | some h => if h = r.low then "" else " to " ++ num h
def Rl.al (r : Rl) : Str := "take " ++ num r.low ++ r.hi2
def Rl.wh (r : Rl) : Str := if r.mod = 1 then "" else " when " ++ num r.rest ++ " of " ++ num r.mod
def Rl.aline (r : Rl) : Str := r.al ++ " leave " ++ r.left ++ r.wh
theorem Rl.len_hi2 {r : Rl} (h : r.Sml) : r.hi2.length ≤ 2000 := by
  have hh := h.high
  unfold Rl.hi2
  cases e : r.high with
  | none =>
    show ((" or more" : Str)).length ≤ 2000
    decide
  | some i =>
    rw [e] at hh
    show (if i = r.low then ("" : Str) else " to " ++ num i).length ≤ 2000
    have := num_len hh
    have e2 : (" to " : Str).length = 4 := rfl
    have e3 : ("" : Str).length = 0 := rfl
    split
    · omega
    · rw [Str.length_append]
      omega
theorem Rl.len_al {r : Rl} (h : r.Sml) : r.al.length ≤ 4000 := by
  have h1 := Rl.len_hi2 h
  have h2 := num_len h.low
  have e2 : ("take " : Str).length = 5 := rfl
  unfold Rl.al
  rw [Str.length_append, Str.length_append]
  omega
theorem Rl.len_wh {r : Rl} (h : r.Sml) : r.wh.length ≤ 4000 := by
  have h1 := num_len h.rest
  have h2 := num_len h.mod
  have e2 : (" when " : Str).length = 6 := rfl
  have e3 : (" of " : Str).length = 4 := rfl
  have e4 : ("" : Str).length = 0 := rfl
  unfold Rl.wh
  split
  · omega
  · rw [Str.length_append, Str.length_append, Str.length_append]
    omega
abbrev rAddS : R2 := fun x y H Q => ∃ i j, x = V.str i ∧ y = V.str j ∧ i.length + j.length ≤ sizeLine ∧ Q (V.str (i ++ j)) H
abbrev rStrI : List V → Hp → VK → Prop := fun xs H Q => ∃ i : Int, xs = [V.int i] ∧ i.natAbs.log2 < 1920 ∧ Q (V.str (Str.ofString (toString i))) H
theorem hi_text {r : Rl} (sm : r.Sml) {σ : L2.St} {H : Hp} {Q : VK} (h2 : σ[2]? = some (some (hiV r.high))) (h1 : σ[1]? = some (some (.int r.low))) (q : Q (.str r.hi2) H) :
    tIf (tTest (tOp (fun x y H Q => y = V.non ∧ Q (.bl (decide (x = V.non))) H) (tVar 2) (tC .non))) (tC (.str " or more")) (tIf (tTest (tOp rNe (tVar 2) (tVar 1))) (tOp rAddS (tC (.str " to ")) (tCB rStrI (tCons (tVar 2) tNil))) (tC (.str ""))) σ H Q := by
  have hh := sm.high
  refine ⟨_, h2, rfl, _, rfl, ?_⟩
  unfold Rl.hi2 at q
  cases e : r.high with
  | none =>
    rw [e] at q
    exact ite_tt rfl q
  | some i =>
    rw [e] at q hh h2
    have n := num_len hh
    refine ite_ff rfl ⟨_, h2, _, h1, rfl, _, rfl, ?_⟩
    have q : Q (.str (if i = r.low then ("" : Str) else " to " ++ num i)) H := q
    by_cases c : i = r.low
    · rw [if_pos c] at q
      exact ite_ff (by show (!decide (V.int i = V.int r.low)) = false; rw [dec_z, decide_eq_true c]; rfl) q
    · rw [if_neg c] at q
      exact ite_tt (by show (!decide (V.int i = V.int r.low)) = true; rw [dec_z, decide_eq_false c]; rfl) ⟨_, h2, i, rfl, hh, _, _, rfl, rfl, le_sz (by show 4 + (num i).length ≤ _; omega), q⟩
theorem wh_text {r : Rl} (sm : r.Sml) {σ : L2.St} {H : Hp} {Q : VK} (h5 : σ[5]? = some (some (.int r.mod))) (h4 : σ[4]? = some (some (.int r.rest))) (h6 : r = r) (q : Q (.str r.wh) H) :
    tIf (tTest (tOp rNe (tVar 5) (tC (.int 1)))) (tOp rAddS (tOp rAddS (tOp rAddS (tC (.str " when ")) (tCB rStrI (tCons (tVar 4) tNil))) (tC (.str " of "))) (tCB rStrI (tCons (tVar 5) tNil))) (tC (.str "")) σ H Q := by
  have n4 := num_len sm.rest
  have n5 := num_len sm.mod
  have e6 : (" when " : Str).length = 6 := rfl
  have e4 : (" of " : Str).length = 4 := rfl
  refine ⟨_, h5, rfl, _, rfl, ?_⟩
  unfold Rl.wh at q
  by_cases c : r.mod = 1
  · rw [if_pos c] at q
    exact ite_ff (by show (!decide (V.int r.mod = V.int 1)) = false; rw [dec_z, decide_eq_true c]; rfl) q
  · rw [if_neg c] at q
    exact ite_tt (by show (!decide (V.int r.mod = V.int 1)) = true; rw [dec_z, decide_eq_false c]; rfl) ⟨_, h4, _, rfl, sm.rest, _, _, rfl, rfl, le_sz (by show 6 + (num r.rest).length ≤ _; omega), _, _, rfl, rfl, le_sz (by rw [Str.length_append]; show 6 + (num r.rest).length + 4 ≤ _; omega), _, h5, _, rfl, sm.mod, _, _, rfl, rfl, le_sz (by rw [Str.length_append, Str.length_append]; show 6 + (num r.rest).length + 4 + (num r.mod).length ≤ _; omega), q⟩
section
variable {P : Program} {w : World} {K : PySem.W.Frag} {mg : Str → Option Value} {base : Heap}
abbrev s_aline := top 46
theorem sc_aline : FnScope ["rule", "low", "high", "left", "rest", "modulus", "found"] ["rule"] (defScope s_aline) := ⟨rfl, rfl, rfl, by decide +kernel, rfl, by decide +kernel, by decide +kernel⟩
def spAline : Sp := fun vs H Q _ => ∃ (a : Addr) (r : Rl), vs = [.ref a] ∧ Row H a r.vs ∧ r.Sml ∧ ∀ H', Ex H H' → Q (.str r.aline) H'
theorem ok_aline {f : Addr} {fd : FuncData} (F : FD K mg "_law_a_line" "_law_a_line" s_aline f fd) (hstr : mg "str" = none) : FnOk P w K mg base CX0 1 f fd ["rule"] spAline := by
  refine F.F.ok sc_aline (fun vs H Q E h => ?_) (fun cdv A outer s H vs Q E hr h => ?_)
  · obtain ⟨a, r, rfl, _⟩ := h
    rfl
  · obtain ⟨a, r, rfl, hrow, sm, k⟩ := h
    have nd := sc_aline.nd
    refine ⟨_, (pss_cons (ps_asg (pv 0) (pg_or (pg_tup rfl (pgs_cons (pg_name (i := 1) nd rfl (Or.inl rfl)) (pgs_cons (pg_name (i := 2) nd rfl (Or.inl rfl)) (pgs_cons (pg_name (i := 3) nd rfl (Or.inl rfl)) (pgs_cons (pg_name (i := 4) nd rfl (Or.inl rfl)) (pgs_cons (pg_name (i := 5) nd rfl (Or.inl rfl)) pgs_nil)))))) (pg_unl rfl (pgs_cons (pg_name (i := 1) nd rfl (Or.inl rfl)) (pgs_cons (pg_name (i := 2) nd rfl (Or.inl rfl)) (pgs_cons (pg_name (i := 3) nd rfl (Or.inl rfl)) (pgs_cons (pg_name (i := 4) nd rfl (Or.inl rfl)) (pgs_cons (pg_name (i := 5) nd rfl (Or.inl rfl)) pgs_nil))))))))
      (pss_cons (ps_set (i := 6) nd rfl (Or.inl rfl) (pe_op op_add_str (pe_op op_add_str pe_str (pe_callTy call_str_int (by rfl) hstr PyProof.Rows.boot_str (pa_cons (pv 1) pa_nil))) (pe_ifExp (pt_cmpR op_isN (pv 2) pe_non (nomark _)) pe_str (pe_ifExp (pt_cmpR op_ne (pv 2) (pv 1) (nomark _)) (pe_op op_add_str pe_str (pe_callTy call_str_int (by rfl) hstr PyProof.Rows.boot_str (pa_cons (pv 2) pa_nil))) pe_str))))
      (pss_one (ps_ret (pe_op op_add_str (pe_op op_add_str (pe_op op_add_str (pv 6) pe_str) (pv 3)) (pe_ifExp (pt_cmpR op_ne (pv 5) pe_int (nomark _)) (pe_op op_add_str (pe_op op_add_str (pe_op op_add_str pe_str (pe_callTy call_str_int (by rfl) hstr PyProof.Rows.boot_str (pa_cons (pv 4) pa_nil))) pe_str) (pe_callTy call_str_int (by rfl) hstr PyProof.Rows.boot_str (pa_cons (pv 5) pa_nil))) pe_str)))))), ?_⟩
    have k := k H (Ex.refl H)
    have n1 := num_len sm.low
    have l1 := Rl.len_hi2 sm
    have l2 := Rl.len_al sm
    have l3 := Rl.len_wh sm
    have l4 := sm.left
    have n4 := num_len sm.rest
    have n5 := num_len sm.mod
    have e5 : ("take " : Str).length = 5 := rfl
    have e7 : (" leave " : Str).length = 7 := rfl
    have e6 : (" when " : Str).length = 6 := rfl
    have e4 : (" of " : Str).length = 4 := rfl
    have e3 : (" to " : Str).length = 4 := rfl
    refine ⟨_, rfl, g_row hrow rfl ⟨_, _, rfl, _, _, rfl, _, _, rfl, _, _, rfl, _, _, rfl, rfl, ?_⟩⟩
    refine ⟨_, rfl, _, rfl, sm.low, _, _, rfl, rfl, le_sz (by show _ + (num r.low).length ≤ _; omega), ?_⟩
    refine hi_text sm rfl rfl ⟨_, _, rfl, rfl, le_sz (by rw [Str.length_append]; show 5 + (num r.low).length + _ ≤ _; omega), ?_⟩
    refine ⟨_, rfl, _, _, rfl, rfl, le_sz (by show r.al.length + 7 ≤ _; omega), _, rfl, _, _, rfl, rfl, le_sz (by rw [Str.length_append]; show r.al.length + 7 + _ ≤ _; omega), ?_⟩
    exact wh_text sm rfl rfl rfl ⟨_, _, rfl, rfl, le_sz (by rw [Str.length_append, Str.length_append]; show r.al.length + 7 + _ + _ ≤ _; omega), k⟩
end
end Ts


set_option Elab.async false
set_option linter.all false
set_option maxRecDepth 100000
set_option maxHeartbeats 4000000
namespace Ts
open PySem PySem.Spec L2
open Evl (Ex)
section
variable {P : Program} {w : World} {K : PySem.W.Frag} {mg : Str → Option Value} {base : Heap}
/-- a def's body where no repr is under way -/
theorem okG {x q : Str} {st : Stmt} {f : Addr} {fd : FuncData} {N ps : List Str} {k : Nat} {sp : Sp} (F : Fun K x q st f fd) (S : FnScope N ps (defScope st)) (ln : ∀ vs H Q E, sp vs H Q E → vs.length = ps.length)
    (hb : ∀ (cdv : Value) (A : Around) (outer : List Env) (s : Shared) (H : Hp) (vs : List V) (Q : VK) (E : XK), A.guards = some [] → Room k (A.deeper (PyProof.Rows.envOfC q (defScope st) s.heap.objs.size f cdv)) → sp vs H Q E →
      ∃ t, PSs (cxOf CX0 P w K mg base N q (defScope st) f cdv A outer s H E).nox (defBody st) t ∧ t { nx := fun _ H' => Q .non H', rt := Q } (L2.start N vs) H) :
    GOk P w K mg base CX0 (k + 1) f fd ps sp := by
  obtain ⟨oc, od, kV, doc, pm, an, cdv, ct, osl, hfd, lk, hcd⟩ := F.ex
  subst hfd
  refine ⟨ln, fun A outer s H args us vs Q E hg hr e0 hbi hv hsp => LamX.run_ofS lk hcd S hr e0 hbi hv (ln _ _ _ _ hsp) fun hr' => ?_⟩
  obtain ⟨t, ht, q⟩ := hb cdv A outer s H vs Q E hg hr' hsp
  exact ⟨t, ht.nox, q⟩
end
section
variable {X : Cx} {k : Nat} {f : Addr} {fd : FuncData} {ps : List Str} {sp : Sp} {E : XK} {x : Str} {p pos : Pos} {e : Expr} {es : List Expr} {t : TA}
theorem pe_callG (F : GOk X.prog X.w X.K X.mg X.base CX0 k f fd ps sp) (hA : X.A.guards = some []) (hr : Room k X.A) (hg : Gl X x) (hm : X.mg x = some (.ref f)) (hk : PySem.W.keepIn X.K (.ref f) = true) (hb : Binds X.K fd ps [])
    (ha : PA X (e :: es) t) (hdb : (x == ("__debug__" : Str)) = false := by decide) (he : starEach (e :: es) X.env = (false, eval e X.env) :: starEach es X.env := by rfl) (hpl : (backTo pos (starEach es X.env)).any (·.1) = false := by rfl) :
    PE X (.Call (.Name x p) (e :: es) [] pos) (tCall sp [] E t) := by
  refine ⟨fun pins s σ H Q I h => wpAny_Call_Name_kw (ld_glob I hg hm ?_ hdb)⟩
  refine PySem.W.callWith_K (h₀ := X.base) I.ok.mod.kin hk (thn (ha.run pos pins s σ H _ I h) fun us s1 z => ?_) he hpl
  obtain ⟨vs, H1, I1, r, q⟩ := z
  have q : sp vs H1 Q E := by
    rw [List.append_nil] at q
    exact q
  have hl : (us ++ []).length = ps.length := by rw [List.append_nil, ← r.length]; exact F.ln _ _ _ _ q
  have hbi := hb s1 us I1.kIn hl
  rw [List.append_nil] at hbi
  refine ⟨I1.kIn, wpAny_call (codeAny_mono (F.go X.A X.stack s1 H1 ⟨us, []⟩ us vs Q E hA hr I1.env0 hbi r q) fun res s' hq => ?_)⟩
  rcases res with e | (u | u | u | u) <;> first
    | exact (show False from hq).elim
    | exact I1.after hq
end
/-! ## what stands while a law's def runs -/
structure Stt (a c : Addr) (n : Int) (R H : Hp) : Prop where
  s : Strm H a c n
  r : Ex R (off a c H)
theorem Stt.ex {a c : Addr} {n : Int} {R H H' : Hp} (t : Stt a c n R H) (e : Ex H H') : Stt a c n R H' := ⟨t.s.ex e, t.r.trans (Ex.offs e)⟩
theorem Stt.drawn {a c : Addr} {n n' : Int} {R H H' : Hp} (t : Stt a c n R H) (e : Ex (off a c H) (off a c H')) (s : Strm H' a c n') : Stt a c n' R H' := ⟨s, t.r.trans e⟩
theorem Stt.toH {a c : Addr} {n : Int} {R H : Hp} (t : Stt a c n R H) : Ex R H := t.r.trans off_ex
theorem Stt.no {a c : Addr} {n : Int} {R H : Hp} (t : Stt a c n R H) {z : Addr} (h : H z = none) : R z = none := Evl.fresh_back t.toH h
/-- what no one holds changes -/
theorem Stt.mut {a c z : Addr} {n : Int} {R H : Hp} {o : HO} (t : Stt a c n R H) (hz : R z = none) (h1 : z ≠ a) (h2 : z ≠ c) : Stt a c n R (upd H z o) :=
  ⟨t.s.upd h1 h2, by rw [off_upd_ne h1 h2]; exact t.r.mut hz⟩
/-- one more thing is held -/
theorem Stt.hold {a c z : Addr} {n : Int} {R H : Hp} {o : HO} (t : Stt a c n R H) (hz : H z = some o) (h1 : z ≠ a) (h2 : z ≠ c) : Stt a c n (upd R z o) H :=
  ⟨t.s, fun b u h => by
    by_cases hb : b = z
    · rw [hb, upd_same] at h
      rw [hb, off_ne h1 h2, hz]
      exact h
    · rw [upd_ne hb] at h
      exact t.r b u h⟩
theorem Ex.held {R : Hp} {z : Addr} {o : HO} (h : R z = none) : Ex R (upd R z o) := Ex.new h
end Ts


set_option Elab.async false
set_option linter.all false
set_option maxRecDepth 100000
set_option maxHeartbeats 4000000
namespace Ts
open PySem PySem.Spec L2
open Evl (Ex)
theorem wr_small {i : Int} (h0 : 0 ≤ i) (h1 : i ≤ 100000) : Wr i := by
  unfold Wr
  by_cases c : i.natAbs = 0
  · rw [c]
    decide
  · rw [Nat.log2_lt c]
    have : (2 : Nat) ^ 17 ≤ 2 ^ 1920 := Nat.pow_le_pow_right (by decide) (by decide)
    have : (2 : Nat) ^ 17 = 131072 := by decide
    omega
/-- a rule of the law's: its numbers are small -/
structure RGood (r : Rl) : Prop where
  ok : r.Ok
  sm : r.Sml
  low : r.low ≤ 100
section
variable {P : Program} {w : World} {K : PySem.W.Frag} {mg : Str → Option Value} {base : Heap}
abbrev s_arule := top 47
theorem sc_arule : FnScope ["stream", "lefts", "far", "turns", "left", "modulus", "low", "high"] ["stream", "lefts", "far", "turns"] (defScope s_arule) := ⟨rfl, rfl, rfl, by decide +kernel, rfl, by decide +kernel, by decide +kernel⟩
def words : List V := [.str "none", .str "one", .str "two", .str "more"]
def spArule : Sp := fun vs H Q _ => ∃ (a c b : Addr) (n far turns : Int) (ws : List V), vs = [.ref a, .ref b, .int far, .int turns] ∧ Strm H a c n ∧ off a c H b = some (.lst ws) ∧ (∀ x ∈ ws, x ∈ words) ∧ 1 ≤ ws.length ∧ ws.length ≤ 10 ∧ 1 ≤ far ∧ far ≤ 10 ∧ 1 ≤ turns ∧ turns ≤ 10 ∧ n < 2 ^ 39 ∧
  ∀ H' z r n', Ex (off a c H) (off a c H') → Strm H' a c n' → n ≤ n' → n' ≤ n + 10 → H z = none → off a c H' z = some (.tup r.vs) → RGood r → (r.high = none → V.str "more" ∈ ws) → (V.str r.left = V.str "two" → V.str "two" ∈ ws) → Q (.ref z) H'
theorem tif_draw {σ : L2.St} {H : Hp} {Q : VK} {a c : Addr} {n m d z : Int} {i : Nat} (h0 : σ[0]? = some (some (.ref a))) (hi : σ[i]? = some (some (.int m))) (S : Strm H a c n) (d0 : 1 ≤ d) (d1 : d ≤ 100) (m0 : 1 ≤ m) (m1 : m ≤ 1000) (nz : n < 2 ^ 39 + 1000)
    (k : ∀ H' v n', Ex (off a c H) (off a c H') → Strm H' a c n' → n ≤ n' → n' ≤ n + 2 → (v = z ∨ (1 ≤ v ∧ v ≤ m)) → Q (.int v) H') :
    tIf (tTest (tOp rEq (tCall spDraw [] E0 (tCons (tVar 0) (tCons (tC (.int d)) tNil))) (tC (.int 0)))) (tOp (rI0 fun i j => .int (i + j)) (tC (.int 1)) (tCall spDraw [] E0 (tCons (tVar 0) (tCons (tVar i) tNil)))) (tC (.int z)) σ H Q := by
  have big : (2 : Int) ^ 39 + 1100 < 2 ^ 40 := by decide
  have big2 : (1000 : Int) < 2 ^ 60 := by decide
  refine ⟨_, h0, a, c, n, d, rfl, S, d0, by omega, by omega, fun H2 r2 e2 S2 r20 r21 => ⟨rfl, _, rfl, ?_⟩⟩
  by_cases cc : r2 = 0
  · refine ite_tt (by rw [dec_z, decide_eq_true cc]) ⟨_, h0, _, hi, a, c, n + 1, m, rfl, S2, m0, by omega, by omega, fun H3 r3 e3 S3 r30 r31 => ⟨_, _, rfl, rfl, ?_⟩⟩
    exact k H3 _ _ (e2.trans e3) S3 (by omega) (by omega) (.inr ⟨by omega, by omega⟩)
  · refine ite_ff (by rw [dec_z, decide_eq_false cc]) ?_
    exact k H2 _ _ e2 S2 (by omega) (by omega) (.inl rfl)
theorem low_draw {σ : L2.St} {H : Hp} {Q : VK} {a c : Addr} {n m : Int} {s : Str} (h0 : σ[0]? = some (some (.ref a))) (h2 : σ[2]? = some (some (.int m))) (h4 : σ[4]? = some (some (.str s))) (S : Strm H a c n) (m0 : 1 ≤ m) (m1 : m ≤ 1000) (nz : n < 2 ^ 39 + 1000)
    (k : ∀ H' v n', Ex (off a c H) (off a c H') → Strm H' a c n' → n ≤ n' → n' ≤ n + 1 → 0 ≤ v → v ≤ m → (V.str s ≠ V.str "two" → 1 ≤ v) → Q (.int v) H') :
    tIf (tTest (tOp rEq (tVar 4) (tC (.str "two")))) (tCall spDraw [] E0 (tCons (tVar 0) (tCons (tVar 2) tNil))) (tOp (rI0 fun i j => .int (i + j)) (tC (.int 1)) (tCall spDraw [] E0 (tCons (tVar 0) (tCons (tVar 2) tNil)))) σ H Q := by
  have big : (2 : Int) ^ 39 + 1100 < 2 ^ 40 := by decide
  have big2 : (1000 : Int) < 2 ^ 60 := by decide
  refine ⟨_, h4, rfl, _, rfl, ?_⟩
  by_cases cc : V.str s = V.str "two"
  · refine ite_tt (decide_eq_true cc) ⟨_, h0, _, h2, a, c, n, m, rfl, S, m0, by omega, by omega, fun H2 r2 e2 S2 r20 r21 => ?_⟩
    exact k H2 _ _ e2 S2 (by omega) (by omega) (by omega) (by omega) (fun z => absurd cc z)
  · refine ite_ff (decide_eq_false cc) ⟨_, h0, _, h2, a, c, n, m, rfl, S, m0, by omega, by omega, fun H2 r2 e2 S2 r20 r21 => ⟨_, _, rfl, rfl, ?_⟩⟩
    exact k H2 _ _ e2 S2 (by omega) (by omega) (by omega) (by omega) (fun _ => by omega)
theorem ok_arule {f f1 f2 : Addr} {fd fd1 fd2 : FuncData} (F : FD K mg "_law_a_rule" "_law_a_rule" s_arule f fd) (F_draw : FD K mg "_law_draw" "_law_draw" s_draw f1 fd1) (F_pick : FD K mg "_law_pick" "_law_pick" s_pick f2 fd2) (T : Bl mg) (hmin : mg "min" = none) (hmax : mg "max" = none) :
    FnOk P w K mg base CX0 3 f fd ["stream", "lefts", "far", "turns"] spArule := by
  have G_draw : FnOk P w K mg base CX0 1 f1 fd1 ["stream", "many"] spDraw := ok_draw F_draw T
  have G_pick : FnOk P w K mg base CX0 2 f2 fd2 ["stream", "some"] spPick := ok_pick F_pick F_draw T
  have b_draw' := b_draw F_draw
  have b_pick : Binds K fd2 ["stream", "some"] [] := F_pick.F.binds fun _ _ _ _ _ _ us hl => match us, hl with | [_, _], _ => rfl
  refine F.F.ok sc_arule (fun vs H Q E h => ?_) (fun cdv A outer s H vs Q E hr h => ?_)
  · obtain ⟨a, c, b, n, far, turns, ws, rfl, _⟩ := h
    rfl
  · obtain ⟨a, c, b, n, far, turns, ws, rfl, S, hb, hw, w1, w2, f0, f10, t0, t10, nz, k⟩ := h
    have nd := sc_arule.nd
    have hr1 : Room 1 _ := hr.mono (by decide)
    have hr2 : Room 2 _ := hr.mono (by decide)
    refine ⟨_, (pss_cons (ps_par (i := 4) (j := 5) (by rfl) nd rfl rfl (by decide) rfl rfl (pa_cons (pe_call G_pick hr2 (by rfl) F_pick.g F_pick.F.kp b_pick .nil pass0 (pa_cons (pv 0) (pa_cons (pv 1) pa_nil))) (pa_cons (pe_ifExp (pt_cmpR op_eq (pe_call G_draw hr1 (by rfl) F_draw.g F_draw.F.kp b_draw' .nil pass0 (pa_cons (pv 0) (pa_cons pe_int pa_nil))) pe_int (nomark _)) (pe_op op_add pe_int (pe_call G_draw hr1 (by rfl) F_draw.g F_draw.F.kp b_draw' .nil pass0 (pa_cons (pv 0) (pa_cons (pv 3) pa_nil)))) pe_int) pa_nil)) rfl)
      (pss_cons (ps_set (i := 6) nd rfl (Or.inl rfl) (pe_ifExp (pt_cmpR op_eq (pv 4) pe_str (nomark _)) (pe_call G_draw hr1 (by rfl) F_draw.g F_draw.F.kp b_draw' .nil pass0 (pa_cons (pv 0) (pa_cons (pv 2) pa_nil))) (pe_op op_add pe_int (pe_call G_draw hr1 (by rfl) F_draw.g F_draw.F.kp b_draw' .nil pass0 (pa_cons (pv 0) (pa_cons (pv 2) pa_nil))))))
      (pss_cons (ps_if (pt_cmpR op_eq (pv 4) pe_str (nomark _)) (pss_one (ps_ret (pe_tup (pa_cons (pv 6) (pa_cons pe_non (pa_cons (pe_call G_pick hr2 (by rfl) F_pick.g F_pick.F.kp b_pick .nil pass0 (pa_cons (pv 0) (pa_cons (pe_lst (pa_cons pe_str (pa_cons pe_str (pa_cons pe_str pa_nil)))) pa_nil))) (pa_cons pe_int (pa_cons pe_int pa_nil)))))))) pss_nil)
      (pss_cons (ps_set (i := 7) nd rfl (Or.inl rfl) (pe_callB (call_min2 rfl) (by rfl) hmin (by decide +kernel) (pa_cons (pe_callB (call_max2 rfl) (by rfl) hmax (by decide +kernel) (pa_cons pe_int (pa_cons (pv 6) pa_nil))) (pa_cons (pe_op op_add (pv 6) (pe_ifExp (pt_cmpR op_eq (pe_call G_draw hr1 (by rfl) F_draw.g F_draw.F.kp b_draw' .nil pass0 (pa_cons (pv 0) (pa_cons pe_int pa_nil))) pe_int (nomark _)) (pe_op op_add pe_int (pe_call G_draw hr1 (by rfl) F_draw.g F_draw.F.kp b_draw' .nil pass0 (pa_cons (pv 0) (pa_cons (pv 2) pa_nil)))) pe_int)) pa_nil))))
      (pss_one (ps_ret (pe_tup (pa_cons (pv 6) (pa_cons (pv 7) (pa_cons (pv 4) (pa_cons (pe_call G_draw hr1 (by rfl) F_draw.g F_draw.F.kp b_draw' .nil pass0 (pa_cons (pv 0) (pa_cons (pv 5) pa_nil))) (pa_cons (pv 5) pa_nil)))))))))))), ?_⟩
    refine ⟨_, rfl, _, rfl, a, c, b, n, ws, rfl, S, hb, w1, by omega, by omega, fun H1 x e1 S1 hx => ?_⟩
    obtain ⟨s, rfl, hs⟩ : ∃ s : Str, x = .str s ∧ (s = "none" ∨ s = "one" ∨ s = "two" ∨ s = "more") := by
      have z := hw x hx
      unfold words at z
      rcases List.mem_cons.mp z with rfl | z
      · exact ⟨_, rfl, .inl rfl⟩
      · rcases List.mem_cons.mp z with rfl | z
        · exact ⟨_, rfl, .inr (.inl rfl)⟩
        · rcases List.mem_cons.mp z with rfl | z
          · exact ⟨_, rfl, .inr (.inr (.inl rfl))⟩
          · have z := List.mem_singleton.mp z
            subst z
            exact ⟨_, rfl, .inr (.inr (.inr rfl))⟩
    refine tif_draw (a := a) (c := c) (m := turns) rfl rfl S1 (by decide) (by decide) t0 (by omega) (by omega) (fun H2 md n2 e2 S2 a2 b2 v2 => ⟨_, _, rfl, ?_⟩)
    have m1 : 1 ≤ md ∧ md ≤ 10 := by omega
    refine low_draw (a := a) (c := c) (m := far) (s := s) rfl rfl rfl S2 f0 (by omega) (by omega) (fun H3 lw n3 e3 S3 a3 b3 z0 z1 z2 => ?_)
    have e13 := (e1.trans e2).trans e3
    refine ⟨_, rfl, rfl, _, rfl, ?_⟩
    by_cases more : V.str s = V.str "more"
    · refine ite_tt (decide_eq_true more) ?_
      refine ⟨_, rfl, _, rfl, by show 3 ≤ sizeLine; decide, fun p np => ?_⟩
      obtain ⟨pa, pc⟩ := S3.nea np
      refine ⟨a, c, p, n3, [.str "none", .str "one", .str "one"], rfl, S3.upd pa pc, by rw [off_ne pa pc]; exact upd_same, by decide, by decide, by omega, fun H4 y e4 S4 hy => ⟨by show 5 ≤ sizeLine; decide, fun z nz' => ?_⟩⟩
      have e14 : Ex (off a c H) (off a c H4) := (e13.trans (Ex.offs (Ex.new np))).trans e4
      obtain ⟨za, zc⟩ := S4.nea nz'
      have zH := off_back e14 S4 nz'
      obtain ⟨t, rfl, ht⟩ : ∃ t : Str, y = .str t ∧ (t = "none" ∨ t = "one") := by
        rcases List.mem_cons.mp hy with rfl | hy
        · exact ⟨_, rfl, .inl rfl⟩
        · rcases List.mem_cons.mp hy with rfl | hy
          · exact ⟨_, rfl, .inr rfl⟩
          · have hy := List.mem_singleton.mp hy
            subst hy
            exact ⟨_, rfl, .inr rfl⟩
      have l1 : 1 ≤ lw := z2 (by rw [more]; decide)
      refine k _ z ⟨lw, none, t, 0, 1⟩ (n3 + 1) ?_ (S4.upd za zc) (by omega) (by omega) zH (by rw [off_ne za zc, upd_same]; rfl) ⟨⟨?_, z0, (fun h => by have h : lw = 0 := h; omega), Int.le_refl _, (by show (0 : Int) < 1; decide), fun _ => ⟨rfl, ?_⟩, (fun h z => by cases z)⟩, ⟨wr_small z0 (by show lw ≤ _; omega), trivial, ?_, wr_small (by show (0 : Int) ≤ 0; decide) (by show (0 : Int) ≤ 100000; decide), wr_small (by show (0 : Int) ≤ 1; decide) (by show (1 : Int) ≤ 100000; decide)⟩, by show lw ≤ 100; omega⟩ (fun _ => more ▸ hx) ?_
      · rw [off_upd_ne za zc]
        exact e14.mut (by rw [off_ne za zc]; exact zH)
      · show inV (V.str t) lefts = true
        rcases ht with rfl | rfl <;> decide
      · show V.str t ≠ V.str "two"
        rcases ht with rfl | rfl <;> decide
      · show t.length ≤ 100
        rcases ht with rfl | rfl <;> decide
      · intro h
        have h : V.str t = V.str "two" := h
        rcases ht with rfl | rfl <;> exact absurd h (by decide)
    · refine ite_ff (decide_eq_false more) ?_
      refine ⟨_, rfl, _, _, rfl, _, rfl, tif_draw (a := a) (c := c) (m := far) rfl rfl S3 (by decide) (by decide) f0 (by omega) (by omega) (fun H4 v n4 e4 S4 a4 b4 v4 => ⟨_, _, rfl, rfl, _, _, rfl, ?_⟩)⟩
      have v5 : 0 ≤ v ∧ v ≤ far := by omega
      obtain ⟨h0, h1, h2⟩ : lw ≤ (if lw + v < (if lw > 12 then lw else 12) then lw + v else if lw > 12 then lw else 12) ∧ (if lw + v < (if lw > 12 then lw else 12) then lw + v else if lw > 12 then lw else 12) ≤ 100 ∧ 0 ≤ (if lw + v < (if lw > 12 then lw else 12) then lw + v else if lw > 12 then lw else 12) := by
        split <;> split <;> omega
      generalize (if lw + v < (if lw > 12 then lw else 12) then lw + v else if lw > 12 then lw else 12) = hg at h0 h1 h2
      have e14 := e13.trans e4
      have big : (2 : Int) ^ 39 + 1100 < 2 ^ 40 := by decide
      have big2 : (1000 : Int) < 2 ^ 60 := by decide
      refine ⟨_, rfl, _, rfl, _, rfl, _, rfl, _, rfl, a, c, n4, md, rfl, S4, m1.1, by omega, by omega, fun H5 r5 e5 S5 r50 r51 => ⟨_, rfl, by show 5 ≤ sizeLine; decide, fun z nz' => ?_⟩⟩
      have e15 := e14.trans e5
      obtain ⟨za, zc⟩ := S5.nea nz'
      have zH := off_back e15 S5 nz'
      have ht : s = "none" ∨ s = "one" ∨ s = "two" := by
        rcases hs with h | h | h | h
        · exact .inl h
        · exact .inr (.inl h)
        · exact .inr (.inr h)
        · exact absurd (congrArg V.str h) more
      refine k _ z ⟨lw, some hg, s, r5, md⟩ (n4 + 1) ?_ (S5.upd za zc) (by omega) (by omega) zH (by rw [off_ne za zc, upd_same]; rfl) ⟨⟨?_, z0, fun h => ?_, r50, r51, (fun h => by cases h), (fun h z => by cases z; exact h0)⟩, ⟨wr_small z0 (by show lw ≤ _; omega), wr_small h2 (by omega), ?_, wr_small r50 (by show r5 ≤ _; omega), wr_small (by show 0 ≤ md; omega) (by show md ≤ _; omega)⟩, by show lw ≤ 100; omega⟩ (fun h => by cases h) (fun h => by have h : V.str s = V.str "two" := h; rw [← h]; exact hx)
      · rw [off_upd_ne za zc]
        exact e15.mut (by rw [off_ne za zc]; exact zH)
      · show inV (V.str s) lefts = true
        rcases ht with rfl | rfl | rfl <;> decide
      · exact Classical.byContradiction fun w => by have := z2 w; have h : lw = 0 := h; omega
      · show s.length ≤ 100
        rcases ht with rfl | rfl | rfl <;> decide
end
end Ts


set_option Elab.async false
set_option linter.all false
namespace Ts
open PySem PySem.Spec L2
theorem mem_sortR {rs : List Rl} {r : Rl} : r ∈ sortR rs ↔ r ∈ rs := by
  unfold sortR
  exact (List.mergeSort_perm _ _).mem_iff
end Ts


set_option Elab.async false
set_option linter.all false
set_option maxRecDepth 100000
set_option maxHeartbeats 4000000
/-! ## sorted, of a list of any data that are alike -/
namespace Ts
open PySem PySem.Spec L2 PyProof.Rows
open PySem.W (dataLe)
open Evl (Ex)
theorem each_dp {X : Cx} {pins : List (Addr × Obj)} {σ : L2.St} {H : Hp} {s : Shared} (I : Inv X pins σ H s) {β : Type} (val : β → V) (enc : β → PyData) : ∀ {bs : List β} {vs : List Value}, Vals (bs.map val) vs → (∀ b ∈ bs, Dp X.K H (val b) (enc b)) →
    PySem.W.EachIs (fun (v : Value) (b : β) => RelV (val b) v) vs bs ∧ PySem.W.EachIs (fun v (b : β) => ∃ as, Reads s.heap v (enc b) as) vs bs
  | [], _, r, _ => by
    cases r
    exact ⟨.nil, .nil⟩
  | q :: t, _, r, k => by
    rw [List.map_cons] at r
    cases r with
    | cons r rr =>
      obtain ⟨h1, h2⟩ := each_dp I val enc rr fun x hx => k x (List.mem_cons_of_mem _ hx)
      exact ⟨.cons r h1, .cons (Dp.reads I _ _ _ (k q List.mem_cons_self) r) h2⟩
theorem each_valsB {β : Type} (val : β → V) : ∀ {vs : List Value} {bs : List β}, PySem.W.EachIs (fun (v : Value) (b : β) => RelV (val b) v) vs bs → Vals (bs.map val) vs
  | _, _, .nil => .nil
  | _, _, .cons r rr => .cons r (each_valsB val rr)
section
variable {X : Cx}
def rSortDp (K : PySem.W.Frag) : List V → Hp → VK → Prop := fun vs H Q => ∃ (β : Type) (val : β → V) (enc : β → PyData) (l : Addr) (bs : List β), vs = [.ref l] ∧ H l = some (.lst (bs.map val)) ∧ (∀ b ∈ bs, Dp K H (val b) (enc b)) ∧
  PySem.W.AllAlike (bs.map enc) ∧ PySem.W.Sortable (bs.map enc) ∧ (∀ b ∈ bs, (enc b).depth ≤ 60) ∧ ∀ (p : Addr), H p = none → Q (.ref p) (upd H p (.lst ((bs.mergeSort (dataLe false enc)).map val)))
theorem cr_sortedDp (hr : Room 1 X.A) : CallR X (.builtin "sorted") (rSortDp X.K) := by
  intro pins s σ H xs us Q I r h
  obtain ⟨β, val, enc, l, bs, rfl, hl, hb, al, so, dp, q⟩ := h
  obtain ⟨its, rv, hL, hz⟩ := I.list (show SqL X.K H l _ from .inl (.inl hl))
  rw [Vals.ref1 r]
  have hlen := rv.length
  rw [List.length_map] at hlen hz
  obtain ⟨e1, e2⟩ := each_dp I val enc rv hb
  refine PySem.W.sorted_data (enc := enc) hL.isList e1 e2 al so (by omega) (fun b hbm => ?_) fun out ho eo => ?_
  · have z := dp b hbm
    have := hr.units
    omega
  · obtain ⟨ep, he'⟩ := PyProof.Rows.sortedAll_at s.heap its out.toArray
    have hp : (bs.mergeSort (dataLe false enc)).Perm bs := List.mergeSort_perm _ _
    refine ⟨.ref _, upd H (s.heap.objs.size + 1) (.lst (_ : List V)), I.laid (t' := s.toks) (fun _ _ => PyProof.Rows.sortedAll_old) (Nat.le_succ _) ⟨?_, out, ep, each_valsB val eo, by simpa using he'⟩, rfl, q _ (I.hok.fresh (Nat.le_succ _))⟩
    rw [List.length_map, hp.length_eq]
    exact hz
end
end Ts


set_option Elab.async false
set_option linter.all false
set_option maxRecDepth 100000
set_option maxHeartbeats 4000000
namespace Ts
open PySem PySem.Spec L2 PyProof.Rows
open PySem.W (alike alikeAll)
open Evl (Ex)
/-! ## lists of ints, as they compare -/
def leI : List Int → List Int → Bool
  | [], _ => true
  | _ :: _, [] => false
  | a :: s, b :: t => if a = b then leI s t else decide (a < b)
theorem leI_refl : ∀ s, leI s s = true
  | [] => rfl
  | a :: s => by
    unfold leI
    rw [if_pos rfl]
    exact leI_refl s
theorem leI_anti : ∀ {s t}, leI s t = true → leI t s = true → s = t
  | [], [], _, _ => rfl
  | [], _ :: _, _, h => by cases h
  | _ :: _, [], h, _ => by cases h
  | a :: s, b :: t, h1, h2 => by
    unfold leI at h1 h2
    by_cases c : a = b
    · subst c
      rw [if_pos rfl] at h1 h2
      rw [leI_anti h1 h2]
    · rw [if_neg c] at h1
      rw [if_neg (fun z => c z.symm)] at h2
      have := of_decide_eq_true h1
      have := of_decide_eq_true h2
      omega
theorem leI_trans : ∀ {s t u}, leI s t = true → leI t u = true → leI s u = true
  | [], _, _, _, _ => rfl
  | _ :: _, [], _, h, _ => by cases h
  | _ :: _, _ :: _, [], _, h => by cases h
  | a :: s, b :: t, c :: u, h1, h2 => by
    unfold leI at h1 h2 ⊢
    by_cases e : a = b
    · subst e
      rw [if_pos rfl] at h1
      by_cases f : a = c
      · subst f
        rw [if_pos rfl] at h2 ⊢
        exact leI_trans h1 h2
      · rw [if_neg f] at h2 ⊢
        exact h2
    · rw [if_neg e] at h1
      have h1 := of_decide_eq_true h1
      by_cases f : b = c
      · subst f
        rw [if_neg e]
        exact decide_eq_true h1
      · rw [if_neg f] at h2
        have h2 := of_decide_eq_true h2
        rw [if_neg (by omega)]
        exact decide_eq_true (by omega)
theorem leI_total : ∀ s t, leI s t = true ∨ leI t s = true
  | [], _ => .inl rfl
  | _ :: _, [] => .inr rfl
  | a :: s, b :: t => by
    unfold leI
    by_cases e : a = b
    · subst e
      rw [if_pos rfl, if_pos rfl]
      exact leI_total s t
    · rw [if_neg e, if_neg (fun z => e z.symm)]
      rcases Int.lt_or_lt_of_ne e with h | h
      · exact .inl (decide_eq_true h)
      · exact .inr (decide_eq_true h)
abbrev Asc (l : List (List Int)) : Prop := l.Pairwise fun a b => leI a b = true
theorem sorted_uniq : ∀ {l l' : List (List Int)}, Asc l → Asc l' → l.Perm l' → l = l'
  | [], l', _, _, p => (List.nil_perm.mp p).symm
  | a :: l, l', h, h', p => by
    cases l' with
    | nil => exact absurd p.symm (by intro z; have := z.length_eq; simp at this)
    | cons b l' =>
      obtain ⟨h1, h2⟩ := List.pairwise_cons.mp h
      obtain ⟨g1, g2⟩ := List.pairwise_cons.mp h'
      have e : a = b := by
        have ma : a ∈ b :: l' := p.mem_iff.mp List.mem_cons_self
        have mb : b ∈ a :: l := p.mem_iff.mpr List.mem_cons_self
        rcases List.mem_cons.mp ma with e | ma
        · exact e
        · rcases List.mem_cons.mp mb with e | mb
          · exact e.symm
          · exact leI_anti (h1 b mb) (g1 a ma)
      subst e
      rw [sorted_uniq h2 g2 (List.perm_cons a |>.mp p)]
theorem perm_of_mem {α : Type} [DecidableEq α] : ∀ {l l' : List α}, l.Nodup → l'.Nodup → (∀ x, x ∈ l ↔ x ∈ l') → l.Perm l'
  | [], l', _, _, h => by
    cases l' with
    | nil => exact .nil
    | cons b l' => exact absurd ((h b).mpr List.mem_cons_self) (by simp)
  | a :: l, l', h, h', m => by
    obtain ⟨h1, h2⟩ := List.nodup_cons.mp h
    have ma : a ∈ l' := (m a).mp List.mem_cons_self
    refine (List.Perm.cons a (perm_of_mem h2 (h'.erase a) fun x => ?_)).trans (List.perm_cons_erase ma).symm
    rw [h'.mem_erase_iff]
    constructor
    · intro hx
      exact ⟨fun e => h1 (e ▸ hx), (m x).mp (List.mem_cons_of_mem _ hx)⟩
    · rintro ⟨hx, hx'⟩
      rcases List.mem_cons.mp ((m x).mpr hx') with e | e
      · exact absurd e hx
      · exact e
/-- the contents that are sorted -/
def optsC (g : Bool) (os ts : List Int) : List (List Int) := (if g then [[]] else []) ++ os.map (fun x => [x]) ++ ts.flatMap fun t => (List.range (t / 2).toNat).map fun (j : Nat) => [1 + (j : Int), t - (1 + (j : Int))]
theorem optsC_nodup (g : Bool) {os ts : List Int} (h1 : os.Nodup) (h2 : ts.Nodup) : (optsC g os ts).Nodup := by
  unfold optsC
  refine List.nodup_append.mpr ⟨List.nodup_append.mpr ⟨by cases g <;> simp, ?_, ?_⟩, ?_, ?_⟩
  · exact List.pairwise_map.mpr (h1.imp fun h e => h (List.head_eq_of_cons_eq e))
  · intro a ha b hb e
    subst e
    obtain ⟨x, _, rfl⟩ := List.mem_map.mp hb
    cases g <;> simp at ha
  · refine List.pairwise_flatMap.mpr ⟨fun t _ => ?_, ?_⟩
    · refine List.pairwise_map.mpr (List.nodup_range.imp fun h e => h ?_)
      have := List.head_eq_of_cons_eq e
      omega
    · refine h2.imp fun h x hx y hy e => ?_
      obtain ⟨i, _, rfl⟩ := List.mem_map.mp hx
      obtain ⟨j, _, rfl⟩ := List.mem_map.mp hy
      have e1 := List.head_eq_of_cons_eq e
      have e2 := List.head_eq_of_cons_eq (List.tail_eq_of_cons_eq e)
      omega
  · intro a ha b hb e
    subst e
    obtain ⟨t, _, hb⟩ := List.mem_flatMap.mp hb
    obtain ⟨j, _, rfl⟩ := List.mem_map.mp hb
    rcases List.mem_append.mp ha with ha | ha
    · cases g <;> simp at ha
    · obtain ⟨x, _, e⟩ := List.mem_map.mp ha
      simp at e
theorem leI_iff : ∀ {s t : List Int}, leI s t = true ↔ s ≤ t
  | [], t => by
    refine ⟨fun _ => ?_, fun _ => rfl⟩
    intro h
    exact absurd h (List.not_lt_nil _)
  | a :: s, [] => by
    refine ⟨(fun h => by cases h), fun h => absurd (List.nil_lt_cons a s) h⟩
  | a :: s, b :: t => by
    have ih := @leI_iff s t
    unfold leI
    have e : (a :: s ≤ b :: t) ↔ ¬ (b < a ∨ b = a ∧ t < s) := by
      show ¬ (b :: t < a :: s) ↔ _
      rw [List.cons_lt_cons_iff]
    rw [e]
    by_cases c : a = b
    · subst c
      rw [if_pos rfl, ih]
      refine ⟨fun h z => ?_, fun h z => h (.inr ⟨rfl, z⟩)⟩
      rcases z with z | ⟨_, z⟩
      · omega
      · exact h z
    · rw [if_neg c]
      refine ⟨fun h z => ?_, fun h => decide_eq_true (by
        rcases Int.lt_trichotomy a b with x | x | x
        · exact x
        · exact absurd x c
        · exact absurd (Or.inl x) h)⟩
      have h := of_decide_eq_true h
      rcases z with z | ⟨z, _⟩ <;> omega
/-- a list of options: ascending, each once, just these -/
structure Opts (p : List Int → Prop) (l : List (List Int)) : Prop where
  asc : Asc l
  nd : l.Nodup
  mem : ∀ ns, ns ∈ l ↔ p ns
theorem Opts.uniq {p : List Int → Prop} {l l' : List (List Int)} (h : Opts p l) (h' : Opts p l') : l = l' :=
  sorted_uniq h.asc h'.asc (perm_of_mem h.nd h'.nd fun x => (h.mem x).trans (h'.mem x).symm)
abbrev encI (q : Addr × List Int) : PyData := .list (q.2.map .int)
theorem sort_asc (bs : List (Addr × List Int)) : Asc ((bs.mergeSort (PySem.W.dataLe false encI)).map (·.2)) := by
  have e : PySem.W.dataLe false encI = fun p q : Addr × List Int => decide (p.2 ≤ q.2) := PySem.W.dataLe_rows (fun q : Addr × List Int => q.2)
  have e2 : (fun p q : Addr × List Int => decide (p.2 ≤ q.2)) = fun p q => leI p.2 q.2 := by
    funext p q
    rw [Bool.eq_iff_iff, decide_eq_true_iff, leI_iff]
  rw [e, e2]
  exact List.pairwise_map.mpr (List.pairwise_mergeSort (le := fun p q : Addr × List Int => leI p.2 q.2) (fun a b c => leI_trans) (fun a b => by
    rcases leI_total a.2 b.2 with h | h
    · show (leI a.2 b.2 || leI b.2 a.2) = true
      rw [h]
      rfl
    · show (leI a.2 b.2 || leI b.2 a.2) = true
      rw [h, Bool.or_true]) bs)
theorem alike_ints : ∀ a b : List Int, alikeAll (a.map PyData.int) (b.map PyData.int) = true
  | [], b => by cases b <;> rfl
  | _ :: _, [] => rfl
  | x :: a, y :: b => by
    show (alike (.int x) (.int y) && alikeAll (a.map PyData.int) (b.map PyData.int)) = true
    rw [alike_ints a b]
    rfl
theorem alike_encI (b b' : Addr × List Int) : alike (encI b) (encI b') = true := alike_ints _ _
theorem depth_encI (b : Addr × List Int) : (encI b).depth ≤ 60 := by
  have h := depth_ints b.2
  show PyData.depthAll (b.2.map PyData.int) + 1 ≤ 60
  omega
/-- two heaps each, of so much together -/
def pairsC (ts : List Int) : List (List Int) := ts.flatMap fun t => (List.range (t / 2).toNat).map fun (j : Nat) => [1 + (j : Int), t - (1 + (j : Int))]
theorem pairsC_mem {ts : List Int} {ns : List Int} : ns ∈ pairsC ts ↔ ∃ t ∈ ts, ∃ a : Int, 1 ≤ a ∧ a ≤ t / 2 ∧ ns = [a, t - a] := by
  unfold pairsC
  rw [List.mem_flatMap]
  refine exists_congr fun t => and_congr_right fun _ => ?_
  rw [List.mem_map]
  constructor
  · rintro ⟨j, hj, rfl⟩
    rw [List.mem_range] at hj
    exact ⟨1 + (j : Int), by omega, by omega, rfl⟩
  · rintro ⟨a, a1, a2, rfl⟩
    refine ⟨(a - 1).toNat, List.mem_range.mpr (by omega), ?_⟩
    have z : 1 + (((a - 1).toNat : Nat) : Int) = a := by omega
    rw [z]
theorem optsC_mem {g : Bool} {os ts : List Int} {ns : List Int} : ns ∈ optsC g os ts ↔ (ns = [] ∧ g = true) ∨ (∃ x ∈ os, ns = [x]) ∨ ∃ t ∈ ts, ∃ a : Int, 1 ≤ a ∧ a ≤ t / 2 ∧ ns = [a, t - a] := by
  have e : optsC g os ts = (if g then [[]] else []) ++ os.map (fun x => [x]) ++ pairsC ts := rfl
  rw [e, List.mem_append, List.mem_append, pairsC_mem, List.mem_map, or_assoc]
  refine or_congr ?_ (or_congr ⟨fun ⟨x, h, e⟩ => ⟨x, h, e.symm⟩, fun ⟨x, h, e⟩ => ⟨x, h, e.symm⟩⟩ Iff.rfl)
  cases g <;> simp
theorem pairsC_take {ts : List Int} {i : Nat} {u : Int} (h : ts[i]? = some u) : pairsC (ts.take (i + 1)) = pairsC (ts.take i) ++ (List.range (u / 2).toNat).map fun (j : Nat) => [1 + (j : Int), u - (1 + (j : Int))] := by
  unfold pairsC
  rw [List.take_add_one, h, List.flatMap_append]
  show _ ++ List.flatMap _ [u] = _
  rw [List.flatMap_singleton]
theorem pairsC_len : ∀ {ts : List Int} {n : Nat}, (∀ t ∈ ts, t ≤ 2 * (n : Int)) → (pairsC ts).length ≤ n * ts.length
  | [], n, _ => Nat.zero_le _
  | t :: ts, n, h => by
    have ih := @pairsC_len ts n fun x hx => h x (List.mem_cons_of_mem _ hx)
    have h1 := h t List.mem_cons_self
    show (List.map _ _ ++ pairsC ts).length ≤ _
    rw [List.length_append, List.length_map, List.length_range, List.length_cons, Nat.mul_succ]
    omega
end Ts


set_option Elab.async false
set_option linter.all false
set_option maxRecDepth 100000
set_option maxHeartbeats 4000000
namespace Ts
open PySem PySem.Spec L2
open Evl (Ex)
abbrev Bs := List (Addr × List Int)
abbrev Bs.vs (bs : Bs) : List V := bs.map fun q => V.ref q.1
/-- D is a list of new lists of ints, new since H -/
structure News (H H' : Hp) (D : Addr) (bs : Bs) : Prop where
  ex : Ex H H'
  at_ : H' D = some (.lst bs.vs)
  el : ∀ q ∈ bs, q.1 ≠ D ∧ H q.1 = none ∧ H' q.1 = some (.lst (q.2.map V.int))
section
variable {H H1 H2 H3 : Hp} {D F z : Addr} {bs cs : Bs}
theorem News.exr (h : News H H1 D bs) (e : Ex H1 H2) : News H H2 D bs :=
  ⟨h.ex.trans e, e _ _ h.at_, fun q hq => ⟨(h.el q hq).1, (h.el q hq).2.1, e _ _ (h.el q hq).2.2⟩⟩
theorem none_of {a : Addr} (e : Ex H H1) (h : H1 a = none) : H a = none := by
  cases q : H a with
  | none => rfl
  | some o =>
    rw [e _ _ q] at h
    cases h
theorem News.snoc (h : News H H2 D bs) (hD : H D = none) (nz : H2 z = none) (ns : List Int) : News H (upd (upd H2 z (.lst (ns.map V.int))) D (.lst (bs.vs ++ [V.ref z]))) D (bs ++ [(z, ns)]) := by
  have zD : z ≠ D := fun w => by
    rw [w, h.at_] at nz
    cases nz
  refine ⟨(h.ex.trans (Ex.new nz)).mut hD, by rw [upd_same]; show _ = some (HO.lst (List.map _ _)); rw [List.map_append]; rfl, fun q hq => ?_⟩
  rcases List.mem_append.mp hq with hq | hq
  · obtain ⟨h1, h2, h3⟩ := h.el q hq
    exact ⟨h1, h2, by rw [upd_ne h1]; exact Ex.new nz _ _ h3⟩
  · obtain rfl := List.mem_singleton.mp hq
    exact ⟨zD, none_of h.ex nz, by rw [upd_ne zD, upd_same]⟩
theorem News.ext (h : News H H1 F bs) (hF : H F = none) (g : News H1 H2 D cs) : News H (upd H2 F (.lst (bs.vs ++ cs.vs))) F (bs ++ cs) := by
  refine ⟨(h.ex.trans g.ex).mut hF, by rw [upd_same]; show _ = some (HO.lst (List.map _ _)); rw [List.map_append], fun q hq => ?_⟩
  rcases List.mem_append.mp hq with hq | hq
  · obtain ⟨h1, h2, h3⟩ := h.el q hq
    exact ⟨h1, h2, by rw [upd_ne h1]; exact g.ex _ _ h3⟩
  · obtain ⟨h1, h2, h3⟩ := g.el q hq
    have n : q.1 ≠ F := fun w => by
      rw [w, h.at_] at h2
      cases h2
    exact ⟨n, none_of h.ex h2, by rw [upd_ne n]; exact h3⟩
end
theorem ex_app {bs cs : Bs} {ns : List Int} : (∃ q ∈ bs ++ cs, q.2 = ns) ↔ (∃ q ∈ bs, q.2 = ns) ∨ ∃ q ∈ cs, q.2 = ns := by
  constructor
  · rintro ⟨q, h, e⟩
    exact (List.mem_append.mp h).imp (fun h => ⟨q, h, e⟩) fun h => ⟨q, h, e⟩
  · rintro (⟨q, h, e⟩ | ⟨q, h, e⟩)
    · exact ⟨q, List.mem_append_left _ h, e⟩
    · exact ⟨q, List.mem_append_right _ h, e⟩
theorem ex_map {bs : Bs} {ns : List Int} : (∃ q ∈ bs, q.2 = ns) ↔ ns ∈ bs.map (·.2) := by
  rw [List.mem_map]
/-- a comprehension whose items are new lists of ints -/
theorem lc_new {J : It} {n : Nat} {G : Hp → Prop} {Y : Nat → Hp → V → Hp → Prop} (w : Walk J n G Y) {g : TG} {te : TE} {vs : List Nat} {σ : L2.St} {H0 : Hp} {D : Addr} {Qd : Hp → Prop} (f : Nat → List Int) (hz : n ≤ 100000) (hD : H0 D = none)
    (hG : ∀ H', Ex H0 H' → G H')
    (hs : ∀ i y H3 H4 (A : V → Hp → Prop) (B : Hp → Prop), i < n → Ex H0 H3 → Y i H3 y H4 → H4 = H3 ∧ ((∀ z, H3 z = none → A (.ref z) (upd H3 z (.lst ((f i).map V.int)))) → g y (wipe σ vs) H3 fun σ2 H2 => wipe σ2 vs = wipe σ vs ∧ tYes σ2 H2 fun b H5 => if b = true then te σ2 H5 A else B H5))
    (hq : ∀ Hf (bs : Bs), News H0 Hf D bs → bs.map (·.2) = (List.range n).map f → Qd Hf) :
    ∃ W : Nat → Nat → Hp → Prop, (∃ m, W 0 m (upd H0 D (.lst []))) ∧ ∀ i m H, W i m H →
      (J.stop i H ∧ Qd H) ∨ (J.go i H ∧ ∃ Nx : Hp → Prop, (∀ H', Nx H' → ∃ m', m' < m ∧ W (i + 1) m' H') ∧ ∀ x H', J.yld i H x H' → g x (wipe σ vs) H' fun σ2 H2 => wipe σ2 vs = wipe σ vs ∧ tYes σ2 H2 fun b H3 =>
        if b = true then te σ2 H3 fun y H4 => ∃ acc, H4 D = some (.lst acc) ∧ acc.length < sizeLine ∧ Nx (upd H4 D (.lst (acc ++ [y]))) else Nx H3) := by
  refine it_gen w (fun i H' => ∃ bs : Bs, News H0 H' D bs ∧ bs.map (·.2) = (List.range i).map f) ⟨[], ⟨Ex.new hD, upd_same, fun q hq => absurd hq (by simp)⟩, rfl⟩ (fun i H' _ q => ?_) (fun i x H1 H2 hi q y => ?_) (fun H' q => ?_)
  · obtain ⟨bs, h, _⟩ := q
    exact hG _ h.ex
  · obtain ⟨bs, h, hb⟩ := q
    obtain rfl := (hs i x H1 H2 (fun _ _ => True) (fun _ => True) hi h.ex y).1
    refine (hs i x _ _ _ _ hi h.ex y).2 fun z nz => ⟨bs.vs, ?_, ?_, bs ++ [(z, f i)], h.snoc hD nz (f i), ?_⟩
    · exact Ex.new nz _ _ h.at_
    · have l := congrArg List.length hb
      rw [List.length_map, List.length_map, List.length_range] at l
      rw [List.length_map, l]
      exact Nat.lt_of_lt_of_le hi (Nat.le_trans hz (by decide))
    · rw [List.map_append, hb, List.range_succ, List.map_append]
      rfl
  · obtain ⟨bs, h, hb⟩ := q
    exact hq _ _ h hb
section
variable {P : Program} {w : World} {K : PySem.W.Frag} {mg : Str → Option Value} {base : Heap}
theorem News.ground {H H1 H2 : Hp} {D : Addr} {bs : Bs} (e : Ex H H1) (h : News H1 H2 D bs) : News H H2 D bs := ⟨e.trans h.ex, h.at_, fun q hq => ⟨(h.el q hq).1, none_of e (h.el q hq).2.1, (h.el q hq).2.2⟩⟩
theorem if_lst {σ : L2.St} {H : Hp} {g : Bool} {Q : VK} (h2 : σ[2]? = some (some (.bl g))) (k : ∀ (F : Addr) H' (bs : Bs), News H H' F bs → bs.map (·.2) = (if g then [[]] else []) → H F = none → Q (.ref F) H') : tIf (tB (tVar 2)) (tLst (tCons (tLst tNil) tNil)) (tLst tNil) σ H Q := by
  refine ⟨_, h2, g, rfl, ?_⟩
  cases g with
  | false => exact ite_ff rfl ⟨Nat.zero_le _, fun F hF => k F _ [] ⟨Ex.new hF, upd_same, fun q hq => absurd hq (by simp)⟩ rfl hF⟩
  | true =>
    refine ite_tt rfl ⟨Nat.zero_le _, fun z nz => ⟨by show 1 ≤ sizeLine; decide, fun F hF => k F _ [(z, [])] ⟨(Ex.new nz).trans (Ex.new hF), upd_same, fun q hq => ?_⟩ rfl (none_of (Ex.new nz) hF)⟩⟩
    obtain rfl := List.mem_singleton.mp hq
    have n : z ≠ F := fun w => by
      rw [← w, upd_same] at hF
      cases hF
    exact ⟨n, nz, by rw [upd_ne n, upd_same]; rfl⟩
abbrev s_aopts := top 52
theorem sc_aopts : FnScope ["raw", "heap", "goes", "ones", "twos", "found", "both", "one"] ["raw", "heap"] (defScope s_aopts) := ⟨rfl, rfl, rfl, by decide +kernel, rfl, by decide +kernel, by decide +kernel⟩
/-- what the law's options are -/
def AOpt (rs : List Rl) (n : Int) (ns : List Int) : Prop :=
  (ns = [] ∧ ∃ r ∈ rs, V.str r.left = V.str "none" ∧ Leaves r n 0) ∨ (∃ x, ns = [x] ∧ ∃ r ∈ rs, V.str r.left = V.str "one" ∧ Leaves r n x ∧ 1 ≤ x) ∨
  ∃ t a, ns = [a, t - a] ∧ (∃ r ∈ rs, V.str r.left = V.str "two" ∧ Leaves r n t ∧ 2 ≤ t) ∧ 1 ≤ a ∧ a ≤ t / 2
def spAopts : Sp := fun vs H Q _ => ∃ (b : Addr) (qs : List (Addr × Rl)) (n : Int), vs = [.ref b, .int n] ∧ RsAt H b qs ∧ qs.length ≤ 100 ∧ (∀ q ∈ qs, q.2.Ok) ∧ (∀ q ∈ qs, q.2.low ≤ 1000) ∧ 1 ≤ n ∧ n ≤ 1000 ∧
  ∀ (l : Addr) H' (bs : Bs), H l = none → News H H' l bs → bs.length ≤ 600000 → Opts (AOpt (qs.map (·.2)) n) (bs.map (·.2)) → Q (.ref l) H'
theorem ok_aopts {f f1 : Addr} {fd fd1 : FuncData} (F : FD K mg "_law_a_options" "_law_a_options" s_aopts f fd) (T : Bl mg) (hsorted : mg "sorted" = none)
    (F_taken : FD K mg "_law_a_taken" "_law_a_taken" s_taken f1 fd1) (G_taken : FnOk P w K mg base CX0 1 f1 fd1 ["raw", "heap"] spTaken) : FnOk P w K mg base CX0 2 f fd ["raw", "heap"] spAopts := by
  have b_taken : Binds K fd1 ["raw", "heap"] [] := F_taken.F.binds fun _ _ _ _ _ _ us hl => match us, hl with | [_, _], _ => rfl
  refine F.F.ok sc_aopts (fun vs H Q E h => ?_) (fun cdv A outer s H vs Q E hr h => ?_)
  · obtain ⟨b, qs, n, rfl, _⟩ := h
    rfl
  · obtain ⟨b, qs, n, rfl, hb, qz, ok, lw, n1, n2, k⟩ := h
    have nd := sc_aopts.nd
    refine ⟨_, (pss_cons (ps_asg (pe_call G_taken (hr.mono (by decide)) (by rfl) F_taken.g F_taken.F.kp b_taken .nil pass0 (pa_cons (pv 0) (pa_cons (pv 1) pa_nil))) (pg_tup rfl (pgs_cons (pg_name (i := 2) nd rfl (Or.inl rfl)) (pgs_cons (pg_name (i := 3) nd rfl (Or.inl rfl)) (pgs_cons (pg_name (i := 4) nd rfl (Or.inl rfl)) pgs_nil)))))
      (pss_cons (ps_set (i := 5) nd rfl (Or.inl rfl) (pe_ifExp (pt_val (pv 2)) (pe_lst (pa_cons (pe_lst pa_nil) pa_nil)) (pe_lst pa_nil)))
      (pss_cons (ps_expr (pe_bm PySem.F.plainAttrs_list PySem.F.slot_list_extend PySem.F.type_list_extend mt_extend (pv 5) (pa_cons (pe_lc (own := [("one", 7)]) (g := gName 7) (tt := tYes) rfl nd (pi_list (pv 3)) (blkOk_by (N := ["raw", "heap", "goes", "ones", "twos", "found", "both", "one"]) (sc := defScope s_aopts) (by decide +kernel)) (fun _ _ _ _ _ => pg_name (i := 7) nd rfl (Or.inl rfl)) (fun _ _ _ _ _ => pts_nil) (fun _ _ _ _ _ => (pe_lst (pa_cons (pv 7) pa_nil)))) pa_nil)))
      (pss_cons (ps_for PassesOwn.never rfl (pi_list (pv 4)) (pg_name (i := 6) nd rfl (Or.inr rfl)) (pss_one (ps_expr (pe_bm PySem.F.plainAttrs_list PySem.F.slot_list_extend PySem.F.type_list_extend mt_extend (pv 5) (pa_cons (pe_lc (own := [("one", 7)]) (g := gName 7) (tt := tYes) rfl nd (pi_range2 (by rfl) T.range (pa_cons pe_int (pa_cons (pe_op op_add (pe_op op_fdiv (pv 6) pe_int) pe_int) pa_nil))) (blkOk_by (N := ["raw", "heap", "goes", "ones", "twos", "found", "both", "one"]) (sc := defScope s_aopts) (by decide +kernel)) (fun _ _ _ _ _ => pg_name (i := 7) nd rfl (Or.inl rfl)) (fun _ _ _ _ _ => pts_nil) (fun _ _ _ _ _ => (pe_lst (pa_cons (pv 7) (pa_cons (pe_op op_sub (pv 6) (pv 7)) pa_nil))))) pa_nil)))))
      (pss_one (ps_ret (pe_callB (cr_sortedDp (hr.mono (by decide))) (by rfl) hsorted (by decide +kernel) (pa_cons (pv 5) pa_nil)))))))), ?_⟩
    refine ⟨_, rfl, _, rfl, b, qs, n, rfl, hb, qz, ok, lw, n1, n2, fun z o t H1 g os ts e1 hz ho ht lo lt ndo ndt hg hos hts => ?_⟩
    refine ⟨z, _, rfl, SqT.of hz, rfl, _, _, rfl, _, _, rfl, _, _, rfl, rfl, ?_⟩
    refine seq1 (asg1 (if_lst (g := g) rfl fun F H2 bs1 nw1 hb1 hF1 => ?_))
    refine gn1 ?_
    dsimp only
    have ho2 := nw1.ex _ _ ho
    have ht2 := nw1.ex _ _ ht
    refine ⟨_, rfl, .inl ⟨rfl, _, SqL.of nw1.at_⟩, _, rfl, o, rfl, ⟨_, SqL.of ho2⟩, fun D hD => ?_⟩
    refine lc_new (walk_list (xs := os.map V.int)) (fun i => [os.getD i 0]) (by rw [List.length_map]; omega) hD (fun H' e => SqL.of (e _ _ ho2)) (fun i y H3 H4 A B hi e3 yy => ?_) (fun H3 cs nwc hcs => ?_)
    · obtain ⟨e4, hx⟩ := yy
      subst e4
      rw [List.length_map] at hi
      rw [List.getElem?_map, List.getElem?_eq_getElem hi] at hx
      cases hx
      have ei : os.getD i 0 = os[i] := by rw [List.getD_eq_getElem?_getD, List.getElem?_eq_getElem hi]; rfl
      rw [ei]
      exact ⟨rfl, fun kA => ⟨rfl, yes_of ⟨_, rfl, by show 1 ≤ sizeLine; decide, fun z nz => kA z nz⟩⟩⟩
    rw [List.length_map] at hcs
    have lcs : cs.length = os.length := by
      have := congrArg List.length hcs
      rwa [List.length_map, List.length_map, List.length_range] at this
    have lb1 : bs1.length ≤ 1 := by
      have := congrArg List.length hb1
      rw [List.length_map] at this
      rw [this]
      cases g <;> decide
    refine ⟨F, D, bs1.vs, cs.vs, rfl, rfl, nwc.ex _ _ nw1.at_, nwc.at_, ?_, ?_⟩
    · rw [List.length_map, List.length_map]
      exact Nat.le_trans (show bs1.length + cs.length ≤ 2000 by omega) (by decide)
    have nw2 := nw1.ext hF1 nwc
    have hm2 : (bs1 ++ cs).map (·.2) = (if g then [[]] else []) ++ os.map fun x => [x] := by
      rw [List.map_append, hb1, hcs]
      refine congrArg _ (List.ext_getElem? fun i => ?_)
      rw [List.getElem?_map, List.getElem?_map]
      by_cases h : i < os.length
      · rw [List.getElem?_range h, List.getElem?_eq_getElem h]
        show some [os.getD i 0] = some [os[i]]
        rw [List.getD_eq_getElem?_getD, List.getElem?_eq_getElem h]
        rfl
      · rw [List.getElem?_eq_none (by simpa using h), List.getElem?_eq_none (by omega)]
        rfl
    have lb2 : (bs1 ++ cs).length ≤ 1002 := by
      rw [List.length_append]
      omega
    generalize upd H3 F (.lst (bs1.vs ++ cs.vs)) = H4 at nw2
    generalize bs1 ++ cs = bs2 at nw2 hm2 lb2
    have ht4 := nw2.ex _ _ ht
    refine ⟨_, rfl, t, rfl, ⟨_, SqL.of ht4⟩, for_list (a := t) (xs := ts.map V.int) (fun i σ H' => ∃ (bs : Bs) (v : Option V), σ = [some (.ref b), some (.int n), some (.bl g), some (.ref o), some (.ref t), some (.ref F), v, none] ∧ News H1 H' F bs ∧ bs.length ≤ 1002 + 501 * i ∧
        bs.map (·.2) = (if g then [[]] else []) ++ os.map (fun x => [x]) ++ pairsC (ts.take i))
      ⟨bs2, none, rfl, nw2, by omega, by rw [hm2]; exact (List.append_nil _).symm⟩ (fun i σ H' _ q => ?_) (fun i x σ H' hx q => ?_) (fun σ H' q => ?_)⟩
    · obtain ⟨bs, v, rfl, nw, _⟩ := q
      exact SqL.of (nw.ex _ _ ht)
    · obtain ⟨bs, v, rfl, nw, lb, hm⟩ := q
      rw [List.getElem?_map] at hx
      cases hu : ts[i]? with
      | none => rw [hu] at hx; cases hx
      | some u =>
        rw [hu] at hx
        cases hx
        obtain ⟨r, hr', _, lv, u2⟩ := (hts u).mp (List.mem_of_getElem? hu)
        have l0 : 0 ≤ r.low := by
          obtain ⟨q, hq, rfl⟩ := List.mem_map.mp hr'
          exact (ok q hq).low0
        have u3 : u ≤ 1000 := by
          have := lv.2.1
          omega
        have hi : i < 1001 := by
          have := (List.getElem?_eq_some_iff.mp hu).1
          omega
        refine gn1 ?_
        dsimp only
        refine ⟨_, rfl, .inl ⟨rfl, _, SqL.of nw.at_⟩, _, rfl, _, _, rfl, rfl, ⟨by decide, by decide⟩, _, _, rfl, rfl, _, _, rfl, ⟨by decide, by decide, by omega, by omega⟩, fun D hD => ?_⟩
        refine lc_new (walk_range (lo := 1) (n := (u / 2 + 1 - 1).toNat)) (fun j => [1 + (j : Int), u - (1 + (j : Int))]) (by omega) hD (fun _ _ => trivial) (fun j y H3 H5 A B hj e3 yy => ?_) (fun H3 cs nwc hcs => ?_)
        · obtain ⟨e4, rfl⟩ := yy
          subst e4
          exact ⟨rfl, fun kA => ⟨rfl, yes_of ⟨_, rfl, _, rfl, _, rfl, _, _, rfl, rfl, by show 2 ≤ sizeLine; decide, fun z nz => kA z nz⟩⟩⟩
        have lcs : cs.length = (u / 2 + 1 - 1).toNat := by
          have := congrArg List.length hcs
          rwa [List.length_map, List.length_map, List.length_range] at this
        refine ⟨F, D, bs.vs, cs.vs, rfl, rfl, nwc.ex _ _ nw.at_, nwc.at_, ?_, bs ++ cs, _, rfl, nw.ext ?_ nwc, by rw [List.length_append]; omega, ?_⟩
        · rw [List.length_map, List.length_map]
          exact Nat.le_trans (show bs.length + cs.length ≤ 600000 by omega) (by decide)
        · exact hF1
        rw [List.map_append, hm, hcs, pairsC_take hu, show (u / 2 + 1 - 1).toNat = (u / 2).toNat by rw [Int.add_sub_cancel], List.append_assoc _ (pairsC _) _]
    · obtain ⟨bs, v, rfl, nw, lb, hm⟩ := q
      rw [List.length_map, List.take_length] at hm
      rw [List.length_map] at lb
      have hz1 : bs.length ≤ 600000 := by omega
      refine ⟨_, rfl, Addr × List Int, fun q => .ref q.1, encI, F, bs, rfl, nw.at_, fun q hq => .lst (SqL.of (nw.el q hq).2.2) (dp_ints q.2), PySem.W.AllAlike.of alike_encI, PySem.W.Sortable.others fun q => ⟨fun z => (nomatch z), fun xs z => (nomatch z)⟩, fun q _ => depth_encI q, fun p np => ?_⟩
      have sa := sort_asc bs
      have hp : (bs.mergeSort (PySem.W.dataLe false encI)).Perm bs := List.mergeSort_perm _ _
      generalize bs.mergeSort (PySem.W.dataLe false encI) = bs' at sa hp np ⊢
      have nwe := nw.exr (Ex.new (o := .lst (Bs.vs bs')) np)
      have hm' : bs.map (·.2) = optsC g os ts := hm
      refine k p _ bs' (none_of (e1.trans nw.ex) np) (News.ground e1 ⟨nwe.ex, upd_same, fun q hq => ?_⟩) (by rw [hp.length_eq]; exact hz1) ⟨sa, ?_, fun ns => ?_⟩
      · obtain ⟨h1, h2, h3⟩ := nwe.el q (hp.mem_iff.mp hq)
        refine ⟨fun w => ?_, h2, h3⟩
        have z := (nw.el q (hp.mem_iff.mp hq)).2.2
        rw [w, np] at z
        cases z
      · rw [(hp.map (·.2)).nodup_iff, hm']
        exact optsC_nodup g ndo ndt
      · rw [(hp.map (·.2)).mem_iff, hm', optsC_mem]
        unfold AOpt
        refine or_congr (and_congr Iff.rfl hg) (or_congr ⟨fun ⟨x, hx, e⟩ => ⟨x, e, (hos x).mp hx⟩, fun ⟨x, e, hx⟩ => ⟨x, (hos x).mpr hx, e⟩⟩ ⟨fun ⟨u, hu, a, a1, a2, e⟩ => ⟨u, a, e, (hts u).mp hu, a1, a2⟩, fun ⟨u, a, e, hu, a1, a2⟩ => ⟨u, (hts u).mpr hu, a, a1, a2, e⟩⟩)
end
end Ts


set_option Elab.async false
set_option linter.all false
set_option maxRecDepth 100000
set_option maxHeartbeats 4000000
namespace Ts
open PySem PySem.Spec L2
open Evl (Ex)
theorem BookAt.ex {C : Addr} {H H' : Hp} {p : Addr} {rs : List Rl} (e : Ex H H') (h : BookAt C H p rs) : BookAt C H' p rs := by
  obtain ⟨dx, L, qs, h1, h2, h3, h4⟩ := h
  exact ⟨dx, L, qs, e _ _ h1, e _ _ h2, fun q hq => e _ _ (h3 q hq), h4⟩
theorem RulesAt.ex {H H' : Hp} {qs : List (Addr × Rl)} (h : RulesAt H qs) (e : Ex H H') : RulesAt H' qs := fun q hq => e _ _ (h q hq)
/-! ## what a heap leaves: the class -/
structure LvC (K : PySem.W.Frag) (mg : Str → Option Value) (C fI fL fH : Addr) : Prop where
  cl : Cls K C
  nH : NoAttr K C "heap"
  nN : NoAttr K C "nothing"
  nS : NoAttr K C "singles"
  nT : NoAttr K C "totals"
  gC : mg "Leavings" = some (.ref C)
  made : Mk K C fI
  mL : Meth K C "listed" fL
  mH : Meth K C "has" fH
def lvF (n : Int) (g : Bool) (S T : Addr) : List (Str × V) := [("heap", .int n), ("nothing", .bl g), ("singles", .ref S), ("totals", .ref T)]
def LNone (rs : List Rl) (n : Int) : Prop := ∃ r ∈ rs, V.str r.left = V.str "none" ∧ Leaves r n 0
def LvAt (C : Addr) (H : Hp) (p : Addr) (rs : List Rl) (n : Int) : Prop :=
  ∃ (dx S T : Addr) (g : Bool) (ss tt : List (Addr × (Int × Int))), H p = some (.ins C dx (lvF n g S T)) ∧ H S = some (.lst (ss.map fun q => V.ref q.1)) ∧ H T = some (.lst (tt.map fun q => V.ref q.1)) ∧ PairsAt H ss ∧ PairsAt H tt ∧
    SpansOf rs "one" n 1 (ss.map (·.2)) ∧ SpansOf rs "two" n 2 (tt.map (·.2)) ∧ (g = true ↔ LNone rs n)
theorem LvAt.ex {C p : Addr} {H H' : Hp} {rs : List Rl} {n : Int} (h : LvAt C H p rs n) (e : Ex H H') : LvAt C H' p rs n := by
  obtain ⟨dx, S, T, g, ss, tt, h1, h2, h3, h4, h5, h6⟩ := h
  exact ⟨dx, S, T, g, ss, tt, e _ _ h1, e _ _ h2, e _ _ h3, h4.ex e, h5.ex e, h6⟩
theorem del_ex {H : Hp} {p : Addr} : Ex (del H p) H := fun a o h => by
  unfold del at h
  split at h
  · cases h
  · exact h
theorem del_none {H : Hp} {p : Addr} : del H p p = none := if_pos rfl
section
variable {P : Program} {w : World} {K : PySem.W.Frag} {mg : Str → Option Value} {base : Heap}
abbrev s_linit : Stmt := inClass (top 36) 0
theorem sc_linit : FnScope ["self", "book", "heap", "rules"] ["self", "book", "heap"] (defScope s_linit) := ⟨rfl, rfl, rfl, by decide +kernel, rfl, by decide +kernel, by decide +kernel⟩
def spLinit (C CB : Addr) : Sp := fun vs H Q _ => ∃ (p dx b : Addr) (rs : List Rl) (n : Int), vs = [.ref p, .ref b, .int n] ∧ H p = some (.ins C dx []) ∧ BookAt CB (del H p) b rs ∧ rs.length ≤ 1000 ∧ (∀ r ∈ rs, 0 < r.mod) ∧
  ∀ H', Ex (del H p) H' → LvAt C H' p rs n → Q .non H'
theorem ok_linit {f fI fL fH C CB fBI fBR f1 f2 : Addr} {fd fdR fd1 fd2 : FuncData} (F : Fun K "__init__" "Leavings.__init__" s_linit f fd) (LC : LvC K mg C fI fL fH) (B : BkC K mg CB fBI fBR) (F_rules : Fun K "rules" "Book.rules" s_brules fBR fdR)
    (G_rules : FnOk P w K mg base CX0 1 fBR fdR ["self"] (spBrules CB)) (F_lnone : FD K mg "leaves_none" "leaves_none" s_lnone f1 fd1) (G_lnone : FnOk P w K mg base CX0 3 f1 fd1 ["rules", "heap"] spLnone)
    (F_spans : FD K mg "spans_left" "spans_left" s_spans f2 fd2) (G_spans : FnOk P w K mg base CX0 2 f2 fd2 ["rules", "heap", "left", "least"] spSpans) : FnOk P w K mg base CX0 4 f fd ["self", "book", "heap"] (spLinit C CB) := by
  have b_rules : Binds K fdR ["self"] [] := F_rules.binds fun _ _ _ _ _ _ us hl => match us, hl with | [_], _ => rfl
  have b_lnone : Binds K fd1 ["rules", "heap"] [] := F_lnone.F.binds fun _ _ _ _ _ _ us hl => match us, hl with | [_, _], _ => rfl
  have b_spans : Binds K fd2 ["rules", "heap", "left", "least"] [] := F_spans.F.binds fun _ _ _ _ _ _ us hl => match us, hl with | [_, _, _, _], _ => rfl
  refine F.ok sc_linit (fun vs H Q E h => ?_) (fun cdv A outer s H vs Q E hr h => ?_)
  · obtain ⟨p, dx, b, rs, n, rfl, _⟩ := h
    rfl
  · obtain ⟨p, dx, b, rs, n, rfl, hp, hb, hz, hmod, k⟩ := h
    have nd := sc_linit.nd
    refine ⟨_, (pss_cons (ps_set (i := 3) nd rfl (Or.inl rfl) (pe_meth0 (pv 1) B.cl B.mR G_rules (hr.mono (by decide)) b_rules .nil pass0))
      (pss_cons (ps_fld (pv 0) (pv 2) rfl)
      (pss_cons (ps_fld (pv 0) (pe_call G_lnone (hr.mono (by decide)) (by rfl) F_lnone.g F_lnone.F.kp b_lnone .nil pass0 (pa_cons (pv 3) (pa_cons (pv 2) pa_nil))) rfl)
      (pss_cons (ps_fld (pv 0) (pe_call G_spans (hr.mono (by decide)) (by rfl) F_spans.g F_spans.F.kp b_spans .nil pass0 (pa_cons (pv 3) (pa_cons (pv 2) (pa_cons pe_str (pa_cons pe_int pa_nil))))) rfl)
      (pss_one (ps_fld (pv 0) (pe_call G_spans (hr.mono (by decide)) (by rfl) F_spans.g F_spans.F.kp b_spans .nil pass0 (pa_cons (pv 3) (pa_cons (pv 2) (pa_cons pe_str (pa_cons pe_int pa_nil))))) rfl)))))), ?_⟩
    have hbH := hb.ex del_ex
    obtain ⟨dB, Lb, qb, hb1, _⟩ := id hbH
    refine ⟨_, rfl, b, dB, _, rfl, hb1, rfl, b, _, rfl, hbH, fun L H1 qs nL e1 hL hR hm => ?_⟩
    subst hm
    have hql : qs.length ≤ 1000 := by
      rw [List.length_map] at hz
      exact hz
    have hqm : ∀ q ∈ qs, 0 < q.2.mod := fun q hq => hmod _ (List.mem_map.mpr ⟨q, hq, rfl⟩)
    have hp1 := e1 _ _ hp
    have neL : L ≠ p := fun z => by
      rw [z, hp1] at hL
      cases hL
    -- what stands beside the new one
    have R1 : Ex (del H1 p) H1 := del_ex
    have hR0 : Ex (del H p) (del H1 p) := fun a o h => by
      have n : a ≠ p := fun z => by
        rw [z, del_none] at h
        cases h
      rw [del_ne n]
      exact e1 _ _ (del_ex _ _ h)
    have hLr : del H1 p L = some (.lst (qs.map fun q => V.ref q.1)) := by rw [del_ne neL]; exact hL
    have hRr : RulesAt (del H1 p) qs := fun q hq => by
      have w := hR q hq
      have n : q.1 ≠ p := fun z => by
        rw [z, hp1] at w
        cases w
      rw [del_ne n]
      exact w
    have rp : del H1 p p = none := del_none
    generalize del H1 p = R at R1 hR0 hLr hRr rp
    clear hL hR neL
    refine gn1 ?_
    dsimp only
    refine seq1 (sFld1 ⟨_, rfl, _, rfl, p, C, dx, [], rfl, hp1, LC.cl, LC.nH, by decide, ?_⟩)
    have R2 := R1.mut (o := .ins C dx (putF "heap" (.int n) [])) rp
    have hp2 : upd H1 p (.ins C dx (putF "heap" (.int n) [])) p = some (.ins C dx [("heap", .int n)]) := upd_same
    generalize upd H1 p (.ins C dx (putF "heap" (.int n) [])) = H2 at R2 hp2
    dsimp only
    refine seq1 (sFld1 ⟨_, rfl, _, rfl, L, qs, n, rfl, R2 _ _ hLr, hRr.ex R2, hql, hqm, fun g H3 e3 hg => ⟨_, rfl, p, C, dx, _, rfl, e3 _ _ hp2, LC.cl, LC.nN, by show 1 < 1000; decide, ?_⟩⟩)
    have R3 := (R2.trans e3).mut (o := .ins C dx (putF "nothing" (.bl g) [("heap", .int n)])) rp
    have hp3 : upd H3 p (.ins C dx (putF "nothing" (.bl g) [("heap", .int n)])) p = some (.ins C dx [("heap", .int n), ("nothing", .bl g)]) := upd_same
    generalize upd H3 p (.ins C dx (putF "nothing" (.bl g) [("heap", .int n)])) = H4 at R3 hp3
    dsimp only
    refine seq1 (sFld1 ⟨_, rfl, _, rfl, L, qs, n, 1, "one", rfl, R3 _ _ hLr, hRr.ex R3, hql, hqm, fun S H5 ss nS e5 hS hSP hSO => ⟨_, rfl, p, C, dx, _, rfl, e5 _ _ hp3, LC.cl, LC.nS, by show 2 < 1000; decide, ?_⟩⟩)
    have neS : S ≠ p := fun z => by
      rw [z, hp3] at nS
      cases nS
    have hS6 : upd H5 p (.ins C dx (putF "singles" (.ref S) [("heap", .int n), ("nothing", .bl g)])) S = some (.lst (ss.map fun q => V.ref q.1)) := (upd_ne neS).trans hS
    have hSP6 : PairsAt (upd H5 p (.ins C dx (putF "singles" (.ref S) [("heap", .int n), ("nothing", .bl g)]))) ss := fun q hq => by
      have w := hSP q hq
      have n : q.1 ≠ p := fun z => by
        rw [z, e5 _ _ hp3] at w
        cases w
      rw [upd_ne n]
      exact w
    have R6 := (R3.trans e5).mut (o := .ins C dx (putF "singles" (.ref S) [("heap", .int n), ("nothing", .bl g)])) rp
    have hp6 : upd H5 p (.ins C dx (putF "singles" (.ref S) [("heap", .int n), ("nothing", .bl g)])) p = some (.ins C dx [("heap", .int n), ("nothing", .bl g), ("singles", .ref S)]) := upd_same
    generalize upd H5 p (.ins C dx (putF "singles" (.ref S) [("heap", .int n), ("nothing", .bl g)])) = H6 at R6 hp6 hS6 hSP6
    dsimp only
    refine sFld1 ⟨_, rfl, _, rfl, L, qs, n, 2, "two", rfl, R6 _ _ hLr, hRr.ex R6, hql, hqm, fun T H7 tt nT e7 hT hTP hTO => ⟨_, rfl, p, C, dx, _, rfl, e7 _ _ hp6, LC.cl, LC.nT, by show 3 < 1000; decide, ?_⟩⟩
    have neT : T ≠ p := fun z => by
      rw [z, hp6] at nT
      cases nT
    have keep : ∀ {z : Addr} {o : HO}, H7 z = some o → (∀ fs, o ≠ .ins C dx fs) → upd H7 p (.ins C dx (putF "totals" (.ref T) [("heap", .int n), ("nothing", .bl g), ("singles", .ref S)])) z = some o := fun {z o} hz ho => by
      have n : z ≠ p := fun w => by
        rw [w, e7 _ _ hp6] at hz
        cases hz
        exact ho _ rfl
      rw [upd_ne n]
      exact hz
    exact k _ (hR0.trans ((R6.trans e7).mut rp)) ⟨dx, S, T, g, ss, tt, upd_same, keep (e7 _ _ hS6) (fun _ z => by cases z), keep hT (fun _ z => by cases z), fun q hq => keep (e7 _ _ (hSP6 q hq)) (fun _ z => by cases z), fun q hq => keep (hTP q hq) (fun _ z => by cases z), hSO, hTO, hg⟩
end
end Ts


set_option Elab.async false
set_option linter.all false
set_option maxRecDepth 100000
set_option maxHeartbeats 4000000
namespace Ts
open PySem PySem.Spec L2
open Evl (Ex)
theorem map_one (ns : List Int) : (List.range ns.length).map (fun i => [ns.getD i 0]) = ns.map fun x => [x] := by
  refine List.ext_getElem? fun i => ?_
  rw [List.getElem?_map, List.getElem?_map]
  by_cases h : i < ns.length
  · rw [List.getElem?_range h, List.getElem?_eq_getElem h]
    show some [ns.getD i 0] = some [ns[i]]
    rw [List.getD_eq_getElem?_getD, List.getElem?_eq_getElem h]
    rfl
  · rw [List.getElem?_eq_none (by simpa using h), List.getElem?_eq_none (by omega)]
    rfl
/-- the ends ahead, the others sorted: just the options -/
theorem opts_of {rs : List Rl} {n : Int} {g : Bool} {ns tn : List Int} {l : List (List Int)} (hg : g = true ↔ LNone rs n) (hn : ns.Pairwise (· < ·)) (ht : tn.Pairwise (· < ·)) (mn : ∀ x, x ∈ ns ↔ ∃ r ∈ rs, V.str r.left = V.str "one" ∧ Leaves r n x ∧ 1 ≤ x)
    (mt : ∀ x, x ∈ tn ↔ ∃ r ∈ rs, V.str r.left = V.str "two" ∧ Leaves r n x ∧ 2 ≤ x) (hl : Asc l) (hp : l.Perm (ns.map (fun x => [x]) ++ pairsC tn)) : Opts (AOpt rs n) ((if g then [[]] else []) ++ l) := by
  have hp2 : ((if g then [[]] else []) ++ l).Perm (optsC g ns tn) := by
    have z := List.Perm.append_left (if g then [[]] else []) hp
    rw [← List.append_assoc] at z
    exact z
  refine ⟨?_, ?_, fun x => ?_⟩
  · refine List.pairwise_append.mpr ⟨?_, hl, fun a ha b _ => ?_⟩
    · cases g
      · exact .nil
      · exact List.pairwise_singleton _ _
    · cases g
      · cases ha
      · rw [List.mem_singleton.mp ha]
        rfl
  · rw [hp2.nodup_iff]
    exact optsC_nodup g (hn.imp fun h e => by omega) (ht.imp fun h e => by omega)
  · rw [hp2.mem_iff, optsC_mem]
    unfold AOpt
    refine or_congr (and_congr Iff.rfl hg) (or_congr ⟨fun ⟨x, hx, e⟩ => ⟨x, e, (mn x).mp hx⟩, fun ⟨x, e, hx⟩ => ⟨x, (mn x).mpr hx, e⟩⟩ ⟨fun ⟨u, hu, a, a1, a2, e⟩ => ⟨u, a, e, (mt u).mp hu, a1, a2⟩, fun ⟨u, a, e, hu, a1, a2⟩ => ⟨u, (mt u).mpr hu, a, a1, a2, e⟩⟩)
section
variable {P : Program} {w : World} {K : PySem.W.Frag} {mg : Str → Option Value} {base : Heap}
end
end Ts


set_option Elab.async false
set_option linter.all false
set_option maxRecDepth 100000
set_option maxHeartbeats 4000000
namespace Ts
open PySem PySem.Spec L2
open Evl (Ex)
/-- how often a span has a number -/
def cnt (t : Int) (s : Int × Int) : Int := if s.1 ≤ t ∧ t ≤ s.2 then 1 else 0
theorem cnt_no {t : Int} : ∀ {ss : List (Int × Int)}, ¬ InS ss t → (ss.map (cnt t)).sum = 0
  | [], _ => rfl
  | s :: ss, h => by
    have h1 : ¬ (s.1 ≤ t ∧ t ≤ s.2) := fun z => h ⟨s, List.mem_cons_self, z⟩
    have h2 : ¬ InS ss t := fun ⟨q, hq, z⟩ => h ⟨q, List.mem_cons_of_mem _ hq, z⟩
    rw [List.map_cons, List.sum_cons, cnt_no h2]
    unfold cnt
    rw [if_neg h1]
    rfl
theorem cnt_yes {t : Int} : ∀ {ss : List (Int × Int)}, (ss.Pairwise fun a b => a.2 < b.1) → InS ss t → (ss.map (cnt t)).sum = 1
  | [], _, ⟨q, hq, _⟩ => by cases hq
  | s :: ss, ap, ⟨q, hq, z⟩ => by
    obtain ⟨a1, a2⟩ := List.pairwise_cons.mp ap
    rw [List.map_cons, List.sum_cons]
    unfold cnt
    by_cases c : s.1 ≤ t ∧ t ≤ s.2
    · have h2 : ¬ InS ss t := fun ⟨u, hu, y⟩ => by
        have := a1 u hu
        omega
      rw [if_pos c, show (ss.map fun s => if s.1 ≤ t ∧ t ≤ s.2 then (1 : Int) else 0).sum = 0 from cnt_no h2]
      rfl
    · rw [if_neg c]
      rcases List.mem_cons.mp hq with rfl | hq
      · exact absurd z c
      · rw [show (ss.map fun s => if s.1 ≤ t ∧ t ≤ s.2 then (1 : Int) else 0).sum = 1 from cnt_yes a2 ⟨q, hq, z⟩]
        rfl
section
variable {P : Program} {w : World} {K : PySem.W.Frag} {mg : Str → Option Value} {base : Heap}
abbrev s_count := top 34
abbrev s_has : Stmt := inClass (top 36) 2
theorem sc_count : FnScope ["spans", "low", "high", "bottom", "top"] ["spans", "low", "high"] (defScope s_count) := ⟨rfl, rfl, rfl, by decide +kernel, rfl, by decide +kernel, by decide +kernel⟩
theorem sc_has : FnScope ["self", "option", "total", "spans"] ["self", "option"] (defScope s_has) := ⟨rfl, rfl, rfl, by decide +kernel, rfl, by decide +kernel, by decide +kernel⟩
def spCount : Sp := fun vs H Q _ => ∃ (M : Addr) (ss : List (Addr × (Int × Int))) (t : Int), vs = [.ref M, .int t, .int t] ∧ H M = some (.lst (ss.map fun q => V.ref q.1)) ∧ PairsAt H ss ∧ Apart (ss.map (·.2)) ∧ ss.length ≤ 1000 ∧
  ∀ (c : Int) H', Ex H H' → (c = 1 ↔ InS (ss.map (·.2)) t) → Q (.int c) H'
theorem ok_count {f : Addr} {fd : FuncData} (F : FD K mg "count_in" "count_in" s_count f fd) (hmin : mg "min" = none) (hmax : mg "max" = none) (hsum : mg "sum" = none) : FnOk P w K mg base CX0 1 f fd ["spans", "low", "high"] spCount := by
  refine F.F.ok sc_count (fun vs H Q E h => ?_) (fun cdv A outer s H vs Q E hr h => ?_)
  · obtain ⟨M, ss, t, rfl, _⟩ := h
    rfl
  · obtain ⟨M, ss, t, rfl, hM, hP, ap, hz, k⟩ := h
    have nd := sc_count.nd
    refine ⟨_, (pss_one (ps_ret (pe_callB (r := rSum K) (cr_sum rfl) (by rfl) hsum (by decide +kernel) (pa_cons (pe_lc (own := [("bottom", 3), ("top", 4)]) (g := gTup K 2 (gCons (gName 3) (gCons (gName 4) gNil))) (tt := tYes) rfl nd (pi_list (pv 0)) (blkOk_by (N := ["spans", "low", "high", "bottom", "top"]) (sc := defScope s_count) (by decide +kernel)) (fun _ _ _ _ _ => pg_tup rfl (pgs_cons (pg_name (i := 3) nd rfl (Or.inl rfl)) (pgs_cons (pg_name (i := 4) nd rfl (Or.inl rfl)) pgs_nil))) (fun _ _ _ _ _ => pts_nil)
      (fun _ _ _ _ _ => pe_callB (call_max2 rfl) (by rfl) hmax (by decide +kernel) (pa_cons pe_int (pa_cons (pe_op op_add (pe_op op_sub (pe_callB (call_min2 rfl) (by rfl) hmin (by decide +kernel) (pa_cons (pv 4) (pa_cons (pv 2) pa_nil))) (pe_callB (call_max2 rfl) (by rfl) hmax (by decide +kernel) (pa_cons (pv 3) (pa_cons (pv 1) pa_nil)))) pe_int) pa_nil)))) pa_nil)))), ?_⟩
    refine tcb1 (r := rSum K) ?_
    refine lc_any (J := Itl K M) (H1 := H) (out := fun i => V.int (cnt t ((ss.map (·.2)).getD i (0, 0)))) (walk_list (xs := ss.map fun q => V.ref q.1)) (fun R r => ⟨_, rfl, M, rfl, ⟨_, SqL.of hM⟩, r⟩) (by rw [List.length_map]; exact Nat.le_trans hz (by decide)) (fun H' e => SqL.of (e _ _ hM)) (fun i y H2 H3 hi e yy => ?_) (fun y H2 q q' h zz => ?_) (fun Dd Hf hD e hl' => ?_)
    · obtain ⟨eq, hy⟩ := yy
      subst eq
      rw [List.getElem?_map] at hy
      cases hq : ss[i]? with
      | none => rw [hq] at hy; cases hy
      | some q =>
        rw [hq] at hy
        cases hy
        have hqt := e _ _ (hP q (List.mem_of_getElem? hq))
        have eg : (ss.map (·.2)).getD i (0, 0) = q.2 := getD_of (by rw [List.getElem?_map, hq]; rfl)
        rw [eg]
        refine ⟨Ex.refl _, q.1, _, rfl, SqT.of hqt, rfl, _, _, rfl, _, _, rfl, rfl, rfl, Ex.refl _, fun q' hq' => ?_⟩
        refine ⟨_, rfl, _, rfl, _, _, rfl, _, rfl, _, rfl, _, _, rfl, _, _, rfl, rfl, _, _, rfl, rfl, _, _, rfl, ?_⟩
        have ap2 := ap.some q.2 (List.mem_map.mpr ⟨q, List.mem_of_getElem? hq, rfl⟩)
        have z := hq' H3 (Ex.refl _)
        have ee : (if (if t < q.2.2 then t else q.2.2) - (if t > q.2.1 then t else q.2.1) + 1 > 0 then (if t < q.2.2 then t else q.2.2) - (if t > q.2.1 then t else q.2.1) + 1 else 0) = cnt t q.2 := by
          unfold cnt
          split <;> split <;> split <;> split <;> omega
        rw [← ee] at z
        exact z
    · obtain ⟨a1, xs1, r1, r2, r3, v1, r4, r5, v2, r7, r8, r9, r10⟩ := zz
      exact ⟨a1, xs1, r1, r2, r3, v1, r4, r5, v2, r7, r8, r9, h _ _ r10⟩
    · refine ⟨Dd, (ss.map (·.2)).map (cnt t), rfl, SqL.of ?_, k _ _ e ?_⟩
      · rw [hl', List.map_map, ← map_getD (V.int ∘ cnt t) (0, 0) (ss.map (·.2)), List.length_map, List.length_map]
        rfl
      · by_cases c : InS (ss.map (·.2)) t
        · rw [cnt_yes ap.asc c]
          exact ⟨fun _ => c, fun _ => rfl⟩
        · rw [cnt_no c]
          exact ⟨fun z => absurd z (by decide), fun z => absurd z c⟩
theorem b_count {f : Addr} {fd : FuncData} (F : FD K mg "count_in" "count_in" s_count f fd) : Binds K fd ["spans", "low", "high"] [] := F.F.binds fun _ _ _ _ _ _ us hl => match us, hl with | [_, _, _], _ => rfl
/-- a list of at most two heaps, ascending -/
structure Two (os : List Int) : Prop where
  len : os.length ≤ 2
  pos : ∀ x ∈ os, 1 ≤ x
  asc : os.Pairwise (· ≤ ·)
theorem aopt_nil {rs : List Rl} {n : Int} : AOpt rs n [] ↔ LNone rs n := by
  unfold AOpt
  refine ⟨fun h => ?_, fun h => .inl ⟨rfl, h⟩⟩
  rcases h with ⟨_, h⟩ | ⟨x, z, _⟩ | ⟨t, a, z, _⟩
  · exact h
  · cases z
  · cases z
theorem aopt_one {rs : List Rl} {n x : Int} : AOpt rs n [x] ↔ ∃ r ∈ rs, V.str r.left = V.str "one" ∧ Leaves r n x ∧ 1 ≤ x := by
  unfold AOpt
  refine ⟨fun h => ?_, fun h => .inr (.inl ⟨x, rfl, h⟩)⟩
  rcases h with ⟨z, _⟩ | ⟨y, z, h⟩ | ⟨t, a, z, _⟩
  · cases z
  · cases z
    exact h
  · cases z
theorem aopt_two {rs : List Rl} {n a b : Int} (ha : 1 ≤ a) (hab : a ≤ b) : AOpt rs n [a, b] ↔ ∃ r ∈ rs, V.str r.left = V.str "two" ∧ Leaves r n (a + b) ∧ 2 ≤ a + b := by
  unfold AOpt
  refine ⟨fun h => ?_, fun h => .inr (.inr ⟨a + b, a, by rw [show a + b - a = b by omega], h, ha, by omega⟩)⟩
  rcases h with ⟨z, _⟩ | ⟨y, z, h⟩ | ⟨t, c, z, h, _⟩
  · cases z
  · cases z
  · have h1 := List.head_eq_of_cons_eq z
    have h2 := List.head_eq_of_cons_eq (List.tail_eq_of_cons_eq z)
    rw [show a + b = t by omega]
    exact h
def spHas (C : Addr) : Sp := fun vs H Q _ => ∃ (p l : Addr) (rs : List Rl) (n : Int) (os : List Int), vs = [.ref p, .ref l] ∧ LvAt C H p rs n ∧ rs.length ≤ 1000 ∧ H l = some (.lst (os.map V.int)) ∧ Two os ∧ ∀ (b : Bool) H', Ex H H' → (b = true ↔ AOpt rs n os) → Q (.bl b) H'
abbrev rLenS (K : PySem.W.Frag) : List V → Hp → VK → Prop := fun xs H Q => ∃ p ys, xs = [V.ref p] ∧ (SqL K H p ys ∨ SqT K H p ys) ∧ Q (.int (ys.length : Nat)) H
theorem ok_has {f fI fL fH C f1 : Addr} {fd fd1 : FuncData} (F : Fun K "has" "Leavings.has" s_has f fd) (LC : LvC K mg C fI fL fH) (T : Bl mg) (hsum : mg "sum" = none)
    (F_count : FD K mg "count_in" "count_in" s_count f1 fd1) (G_count : FnOk P w K mg base CX0 1 f1 fd1 ["spans", "low", "high"] spCount) : FnOk P w K mg base CX0 2 f fd ["self", "option"] (spHas C) := by
  have b_count := b_count F_count
  refine F.ok sc_has (fun vs H Q E h => ?_) (fun cdv A outer s H vs Q E hr h => ?_)
  · obtain ⟨p, l, rs, n, os, rfl, _⟩ := h
    rfl
  · obtain ⟨p, l, rs, n, os, rfl, hLv, hz, hl, tw, k⟩ := h
    have nd := sc_has.nd
    refine ⟨_, (pss_cons (ps_if (pt_cmpR op_eq (pe_callB (r := rLenS K) call_len_seq (by rfl) T.len PySem.boot_len (pa_cons (pv 1) pa_nil)) pe_int (nomark _)) (pss_one (ps_ret (pe_fld (pv 0) rfl))) pss_nil)
      (pss_cons (ps_set (i := 2) nd rfl (Or.inl rfl) (pe_callB (r := rSum K) (cr_sum rfl) (by rfl) hsum (by decide +kernel) (pa_cons (pv 1) pa_nil)))
      (pss_cons (ps_set (i := 3) nd rfl (Or.inl rfl) (pe_ifExp (pt_cmpR op_eq (pe_callB (r := rLenS K) call_len_seq (by rfl) T.len PySem.boot_len (pa_cons (pv 1) pa_nil)) pe_int (nomark _)) (pe_fld (pv 0) rfl) (pe_fld (pv 0) rfl)))
      (pss_one (ps_ret (pe_cmpR op_eq (pe_call G_count (hr.mono (by decide)) (by rfl) F_count.g F_count.F.kp b_count .nil pass0 (pa_cons (pv 3) (pa_cons (pv 2) (pa_cons (pv 2) pa_nil)))) pe_int (nomark _))))))), ?_⟩
    obtain ⟨dx, S, TT, g, ss, tt, hp, hS, hT, hSP, hTP, ⟨ap1, l1, m1⟩, ⟨ap2, l2, m2⟩, hg⟩ := id hLv
    rw [List.length_map] at l1 l2
    refine seq1 ⟨_, rfl, l, _, rfl, .inl (SqL.of hl), rfl, _, rfl, ?_⟩
    obtain ⟨tl, tp, ta⟩ := tw
    match os, tl, tp, ta with
    | [], _, _, _ =>
      exact iteT ⟨_, rfl, p, C, dx, _, _, rfl, hp, LC.cl, LC.nN, rfl, k g H (Ex.refl _) (hg.trans aopt_nil.symm)⟩
    | [x], _, tp, _ =>
      refine iteF (next1 ?_)
      dsimp only
      refine seq1 (asg1 ?_)
      refine ⟨_, rfl, l, [x], rfl, SqL.of hl, gn1 ?_⟩
      dsimp only
      refine seq1 (asg1 ?_)
      refine ⟨_, rfl, l, _, rfl, .inl (SqL.of hl), rfl, _, rfl, iteT ⟨_, rfl, p, C, dx, _, _, rfl, hp, LC.cl, LC.nS, rfl, gn1 ?_⟩⟩
      have ex : [x].sum = x := by simp
      rw [ex]
      refine ⟨_, rfl, _, rfl, _, rfl, S, ss, x, rfl, hS, hSP, ap1, by omega, fun c H' e hc => ⟨rfl, ?_⟩⟩
      refine k _ _ e ?_
      rw [decide_eq_true_iff, aopt_one, ← m1 x, ← hc]
      exact ⟨fun z => V.int.inj z, fun z => by rw [z]⟩
    | [a, b], _, tp, ta =>
      refine iteF (next1 ?_)
      dsimp only
      refine seq1 (asg1 ?_)
      refine ⟨_, rfl, l, [a, b], rfl, SqL.of hl, gn1 ?_⟩
      dsimp only
      refine seq1 (asg1 ?_)
      refine ⟨_, rfl, l, _, rfl, .inl (SqL.of hl), rfl, _, rfl, iteF ⟨_, rfl, p, C, dx, _, _, rfl, hp, LC.cl, LC.nT, rfl, gn1 ?_⟩⟩
      have ex : [a, b].sum = a + b := by simp
      rw [ex]
      refine ⟨_, rfl, _, rfl, _, rfl, TT, tt, a + b, rfl, hT, hTP, ap2, by omega, fun c H' e hc => ⟨rfl, ?_⟩⟩
      refine k _ _ e ?_
      have hab : a ≤ b := (List.pairwise_cons.mp ta).1 b (by simp)
      rw [decide_eq_true_iff, aopt_two (tp a (by simp)) hab, ← m2 (a + b), ← hc]
      exact ⟨fun z => V.int.inj z, fun z => by rw [z]⟩
end
end Ts


set_option Elab.async false
set_option linter.all false
set_option maxRecDepth 100000
set_option maxHeartbeats 4000000
namespace Ts
open PySem PySem.Spec L2
open Evl (Ex)
theorem range_getD {α β : Type} (l : List α) (d : α) (f : α → β) : (List.range l.length).map (fun j => f (l.getD j d)) = l.map f := by
  refine List.ext_getElem (by simp) fun i h1 h2 => ?_
  rw [List.length_map] at h2
  rw [List.getElem_map, List.getElem_range, List.getElem_map, List.getD_eq_getElem?_getD, List.getElem?_eq_getElem h2]
  rfl
theorem lc_pureD {J : It} {n : Nat} {G : Hp → Prop} {Y : Nat → Hp → V → Hp → Prop} (w : Walk J n G Y) {g : TG} {te : TE} {vs : List Nat} {σ : L2.St} {H1 : Hp} {out : Nat → V} {Qd : Addr → Hp → Prop} (hz : n ≤ sizeLine)
    (hG : ∀ H, Ex H1 H → G H)
    (hs : ∀ i x H H', i < n → Ex H1 H → Y i H x H' → Ex H H' ∧ g x (wipe σ vs) H' fun σ2 H2 => wipe σ2 vs = wipe σ vs ∧ Ex H' H2 ∧ ∀ q : VK, (∀ H4, Ex H2 H4 → q (out i) H4) → te σ2 H2 q)
    (hgm : ∀ (x : V) (H : Hp) (q q' : L2.St → Hp → Prop), (∀ σ2 H2, q σ2 H2 → q' σ2 H2) → g x (wipe σ vs) H q → g x (wipe σ vs) H q')
    (hq : ∀ D Hf, H1 D = none → Ex H1 Hf → Hf D = some (.lst ((List.range n).map out)) → Qd D Hf) :
    ∀ D, H1 D = none → ∃ W : Nat → Nat → Hp → Prop, (∃ m, W 0 m (upd H1 D (.lst []))) ∧ ∀ i m H, W i m H →
      (J.stop i H ∧ Qd D H) ∨ (J.go i H ∧ ∃ Nx : Hp → Prop, (∀ H', Nx H' → ∃ m', m' < m ∧ W (i + 1) m' H') ∧ ∀ x H', J.yld i H x H' → g x (wipe σ vs) H' fun σ2 H2 => wipe σ2 vs = wipe σ vs ∧ tYes σ2 H2 fun b H3 =>
        if b = true then te σ2 H3 fun y H4 => ∃ acc, H4 D = some (.lst acc) ∧ acc.length < sizeLine ∧ Nx (upd H4 D (.lst (acc ++ [y]))) else Nx H3) :=
  lc_pure (Q := fun v H => match v with
    | .ref a => Qd a H
    | _ => True) w hz hG hs hgm hq
open PySem.W (dataLe)
theorem off_tup {a c b : Addr} {n : Int} {H : Hp} {vs : List V} (S : Strm H a c n) (h : H b = some (.tup vs)) : off a c H b = some (.tup vs) := by
  obtain ⟨⟨cells, s1, s3, ha, hc, _⟩, _, _⟩ := S
  rw [off_ne]
  · exact h
  · intro z
    rw [z, ha] at h
    cases h
  · intro z
    rw [z, hc] at h
    cases h
theorem rule_dp {K : PySem.W.Frag} {H : Hp} {p : Addr} {r : Rl} (h : H p = some (.tup r.vs)) : Dp K H (.ref p) r.d := by
  refine .tup (SqT.of h) (.cons (.int _) (.cons ?_ (.cons (.str _) (.cons (.int _) (.cons (.int _) .nil)))))
  cases r.high with
  | none => exact .non
  | some i => exact .int _
theorem rules_dp {K : PySem.W.Frag} {H : Hp} : ∀ {qs : List (Addr × Rl)}, (∀ q ∈ qs, H q.1 = some (.tup q.2.vs)) → DpAll K H (qs.map fun q => V.ref q.1) (qs.map fun q => q.2.d)
  | [], _ => .nil
  | q :: t, h => .cons (rule_dp (h q List.mem_cons_self)) (rules_dp fun x hx => h x (List.mem_cons_of_mem _ hx))
theorem left_ok {l : Str} (h : inV (.str l) lefts = true) : PyData.strOk l = true := by
  obtain ⟨y, hy, e⟩ := List.any_eq_true.mp h
  unfold lefts at hy
  rcases List.mem_cons.mp hy with rfl | hy
  · have z : ("none" : Str) = l := by simpa [eqV] using e
    rw [← z]
    decide +kernel
  · rcases List.mem_cons.mp hy with rfl | hy
    · have z : ("one" : Str) = l := by simpa [eqV] using e
      rw [← z]
      decide +kernel
    · obtain rfl := List.mem_singleton.mp hy
      have z : ("two" : Str) = l := by simpa [eqV] using e
      rw [← z]
      decide +kernel
theorem rule_lay {r : Rl} (h : r.Ok) : PyData.canLay0 r.d = true ∧ PyData.depth r.d ≤ 2 := by
  have z := left_ok h.left
  unfold Rl.d
  cases r.high with
  | none => exact ⟨by simp [PyData.canLay0, PyData.canLayAll0, hiD, z], by simp [PyData.depth, PyData.depthAll, hiD]⟩
  | some i => exact ⟨by simp [PyData.canLay0, PyData.canLayAll0, hiD, z], by simp [PyData.depth, PyData.depthAll, hiD]⟩
theorem rules_lay : ∀ qs : List (Addr × Rl), (∀ q ∈ qs, q.2.Ok) → PyData.canLayAll0 (qs.map fun q => q.2.d) = true ∧ PyData.depthAll (qs.map fun q => q.2.d) ≤ 2
  | [], _ => ⟨rfl, by decide⟩
  | q :: t, h => by
    obtain ⟨h1, h2⟩ := rules_lay t fun x hx => h x (List.mem_cons_of_mem _ hx)
    obtain ⟨h3, h4⟩ := rule_lay (h q List.mem_cons_self)
    exact ⟨Bool.and_eq_true_iff.mpr ⟨h3, h1⟩, Nat.max_le.mpr ⟨h4, h2⟩⟩
theorem shaped_rule {r : Rl} (h : r.Ok) : SeqAt.shaped r.d = true := Bool.and_eq_true_iff.mpr ⟨(rule_lay h).1, decide_eq_true (by have := (rule_lay h).2; omega)⟩
theorem shaped_rules {qs : List (Addr × Rl)} (h : ∀ q ∈ qs, q.2.Ok) : SeqAt.shaped (.list (qs.map fun q => q.2.d)) = true :=
  Bool.and_eq_true_iff.mpr ⟨(rules_lay qs h).1, decide_eq_true (by have := (rules_lay qs h).2; show PyData.depthAll _ + 1 ≤ 64; omega)⟩
theorem rule_eqv (r : Rl) : PyData.eqv r.d r.d = true := by
  unfold Rl.d
  cases r.high with
  | none => simp [PyData.eqv, PyData.eqvAll, hiD]
  | some i => simp [PyData.eqv, PyData.eqvAll, hiD]
theorem not_met {qs : List (Addr × Rl)} {r : Rl} (h : ((qs.map fun q => q.2.d).any fun z => PyData.eqv z r.d) = false) : r ∉ qs.map (·.2) := fun m => by
  obtain ⟨q, hq, e⟩ := List.mem_map.mp m
  have z := List.any_eq_false.mp h q.2.d (List.mem_map.mpr ⟨q, hq, rfl⟩)
  rw [e] at z
  exact z (rule_eqv r)
/-- a drawn book's rules: none twice, none that grows beside one that splits -/
structure RsGood (qs : List (Addr × Rl)) : Prop where
  ok : ∀ q ∈ qs, RGood q.2
  nd : (qs.map (·.2)).Nodup
  gs : (∀ q ∈ qs, q.2.high ≠ none) ∨ ∀ q ∈ qs, V.str q.2.left ≠ V.str "two"
theorem RsGood.perm {qs qs' : List (Addr × Rl)} (h : RsGood qs) (p : qs'.Perm qs) : RsGood qs' :=
  ⟨fun q hq => h.ok q (p.mem_iff.mp hq), (p.map (·.2)).nodup_iff.mpr h.nd, h.gs.imp (fun g q hq => g q (p.mem_iff.mp hq)) fun g q hq => g q (p.mem_iff.mp hq)⟩
theorem RsGood.sub {qs qs' : List (Addr × Rl)} (h : RsGood qs) (p : qs'.Sublist qs) : RsGood qs' :=
  ⟨fun q hq => h.ok q (p.subset hq), h.nd.sublist (p.map _), h.gs.imp (fun g q hq => g q (p.subset hq)) fun g q hq => g q (p.subset hq)⟩
theorem RsGood.snoc {qs : List (Addr × Rl)} (h : RsGood qs) {p : Addr} {r : Rl} (hr : RGood r) (hn : r ∉ qs.map (·.2)) (hg : (∀ q ∈ qs ++ [(p, r)], q.2.high ≠ none) ∨ ∀ q ∈ qs ++ [(p, r)], V.str q.2.left ≠ V.str "two") : RsGood (qs ++ [(p, r)]) := by
  refine ⟨fun q hq => ?_, ?_, hg⟩
  · rcases List.mem_append.mp hq with hq | hq
    · exact h.ok q hq
    · obtain rfl := List.mem_singleton.mp hq
      exact hr
  · rw [List.map_append]
    refine List.nodup_append.mpr ⟨h.nd, List.pairwise_singleton _ _, fun x hx y hy e => ?_⟩
    have hy : y = r := List.mem_singleton.mp hy
    exact hn (hy ▸ e ▸ hx)
section
variable {P : Program} {w : World} {K : PySem.W.Frag} {mg : Str → Option Value} {base : Heap}
abbrev s_arules := top 48
theorem sc_arules : FnScope ["stream", "way", "many", "far", "turns", "lefts", "found", "k", "rule"] ["stream", "way", "many", "far", "turns"] (defScope s_arules) := ⟨rfl, rfl, rfl, by decide +kernel, rfl, by decide +kernel, by decide +kernel⟩
def spArules : Sp := fun vs H Q _ => ∃ (a c : Addr) (n way many far turns : Int), vs = [.ref a, .int way, .int many, .int far, .int turns] ∧ Strm H a c n ∧ 0 ≤ way ∧ way ≤ 2 ∧ 0 ≤ many ∧ many ≤ 6 ∧ 1 ≤ far ∧ far ≤ 10 ∧ 1 ≤ turns ∧ turns ≤ 10 ∧ n + 100 < 2 ^ 39 ∧
  ∀ H' n' (L : Addr) qs, Ex (off a c H) (off a c H') → Strm H' a c n' → n ≤ n' → n' ≤ n + 100 → H L = none → RsAt (off a c H') L qs → qs.length ≤ 10 → RsGood qs → Q (.ref L) H'
theorem ok_arules {f f1 f2 fl : Addr} {fd fd1 fd2 fdl : FuncData} (F : FD K mg "_law_a_rules" "_law_a_rules" s_arules f fd) (T : Bl mg) (hmax : mg "max" = none) (hall : mg "all" = none) (hsorted : mg "sorted" = none)
    (F_draw : FD K mg "_law_draw" "_law_draw" s_draw f1 fd1) (F_arule : FD K mg "_law_a_rule" "_law_a_rule" s_arule f2 fd2) (G_arule : FnOk P w K mg base CX0 3 f2 fd2 ["stream", "lefts", "far", "turns"] spArule)
    (F_aline : FD K mg "_law_a_line" "_law_a_line" s_aline fl fdl) (G_aline : FnOk P w K mg base CX0 1 fl fdl ["rule"] spAline) : FnOk P w K mg base CX0 4 f fd ["stream", "way", "many", "far", "turns"] spArules := by
  have G_draw : FnOk P w K mg base CX0 1 f1 fd1 ["stream", "many"] spDraw := ok_draw F_draw T
  have b_draw := b_draw F_draw
  have b_arule : Binds K fd2 ["stream", "lefts", "far", "turns"] [] := F_arule.F.binds fun _ _ _ _ _ _ us hl => match us, hl with | [_, _, _, _], _ => rfl
  have b_aline : Binds K fdl ["rule"] [] := F_aline.F.binds fun _ _ _ _ _ _ us hl => match us, hl with | [_], _ => rfl
  refine F.F.ok sc_arules (fun vs H Q E h => ?_) (fun cdv A outer s H vs Q E hr h => ?_)
  · obtain ⟨a, c, n, way, many, far, turns, rfl, _⟩ := h
    rfl
  · obtain ⟨a, c, n, way, many, far, turns, rfl, S, w0, w2, m0, m6, f0, f10, t0, t10, nz, k⟩ := h
    have nd := sc_arules.nd
    have hr3 : Room (1 + 2) _ := hr.mono (by decide)
    have hu : (A.deeper (PyProof.Rows.envOfC (Str.ofString "_law_a_rules") (defScope s_arules) s.heap.objs.size f cdv)).units + 65 < cLine := by
      have := hr.un
      omega
    refine ⟨_, (pss_cons (ps_par (i := 5) (j := 6) (by rfl) nd rfl rfl (by decide) rfl rfl (pa_cons (pe_ix (r := rIx K) ix_seq (pe_lst (pa_cons (pe_lst (pa_cons pe_str (pa_cons pe_str (pa_cons pe_str (pa_cons pe_str pa_nil))))) (pa_cons (pe_lst (pa_cons pe_str (pa_cons pe_str (pa_cons pe_str pa_nil)))) (pa_cons (pe_lst (pa_cons pe_str (pa_cons pe_str (pa_cons pe_str pa_nil)))) pa_nil)))) (pv 1) (fun _ _ => rfl)) (pa_cons (pe_lst pa_nil) pa_nil)) (by rfl))
      (pss_cons (ps_for PassesOwn.never rfl (pi_range1 (by rfl) T.range (pa_cons (pv 2) pa_nil)) (pg_name (i := 7) nd rfl (Or.inl rfl)) (pss_cons (ps_set (i := 8) nd rfl (Or.inl rfl) (pe_call G_arule (hr.mono (by decide)) (by rfl) F_arule.g F_arule.F.kp b_arule .nil pass0 (pa_cons (pv 0) (pa_cons (pv 5) (pa_cons (pv 3) (pa_cons (pv 4) pa_nil))))))
      (pss_one (ps_expr (pe_bm PySem.F.plainAttrs_list PySem.F.slot_list_extend PySem.F.type_list_extend mt_extend (pv 6) (pa_cons (pe_ifExp (pt_cmpR (op_notInD hu) (pv 8) (pv 6) (by rfl)) (pe_lst (pa_cons (pv 8) pa_nil)) (pe_lst pa_nil)) pa_nil))))))
      (pss_cons (ps_if (PW.pt (pw_and (pt_cmpR op_eq (pv 1) pe_int (nomark _)) (pw_and1 (pt_val (pe_callB (cr_all rfl) (by rfl) hall (by decide +kernel) (pa_cons (pe_lc (own := [("rule", 8)]) (g := gName 8) (tt := tYes) rfl nd (pi_list (pv 6)) (blkOk_by (N := ["stream", "way", "many", "far", "turns", "lefts", "found", "k", "rule"]) (sc := defScope s_arules) (by decide +kernel)) (fun _ _ _ _ _ => pg_name (i := 8) nd rfl (Or.inl rfl)) (fun _ _ _ _ _ => pts_nil) (fun _ _ _ _ _ => (pe_cmpR op_notN (pe_ix (r := rIx K) ix_seq (pv 8) pe_int (fun _ _ => rfl)) pe_non (nomark _)))) pa_nil)))))) (pss_one (ps_set (i := 6) nd rfl (Or.inl rfl) (pe_op op_cat (pe_slice (r := rSlL K) sl_list (pv 6) po_none (po_some (pe_callB (call_max2 rfl) (by rfl) hmax (by decide +kernel) (pa_cons pe_int (pa_cons (pe_op op_sub (pv 2) pe_int) pa_nil))))) (pe_lst (pa_cons (pe_tup (pa_cons (pe_op op_add pe_int (pe_call G_draw (hr.mono (by decide)) (by rfl) F_draw.g F_draw.F.kp b_draw .nil pass0 (pa_cons (pv 0) (pa_cons (pv 3) pa_nil)))) (pa_cons pe_non (pa_cons pe_str (pa_cons pe_int (pa_cons pe_int pa_nil)))))) pa_nil))))) pss_nil)
      (pss_one (ps_ret (pe_callBK (cr_sortedBy G_aline hr3 b_aline) (by rfl) hsorted (by decide +kernel) (pa_cons (pv 6) pa_nil) (pk_cons (pe_glob (v := .ref fl) rfl F_aline.g rfl) pk_nil))))))), ?_⟩
    have big : (2 : Int) ^ 39 + 1100 < 2 ^ 40 := by decide
    have big2 : (1000 : Int) < 2 ^ 60 := by decide
    refine ⟨by show 4 ≤ sizeLine; decide, fun p1 n1 => ⟨by show 3 ≤ sizeLine; decide, fun p2 n2 => ⟨by show 3 ≤ sizeLine; decide, fun p3 n3 => ⟨by show 3 ≤ sizeLine; decide, fun p4 n4 => ?_⟩⟩⟩⟩
    have e1 := Ex.new (o := .lst [.str "none", .str "one", .str "two", .str "two"]) n1
    have a1 : upd H p1 (.lst [.str "none", .str "one", .str "two", .str "two"]) p1 = _ := upd_same
    generalize upd H p1 (.lst [.str "none", .str "one", .str "two", .str "two"]) = H1 at e1 a1 n2 n3 n4 ⊢
    have e2 := Ex.new (o := .lst [.str "none", .str "one", .str "one"]) n2
    have a2 : upd H1 p2 (.lst [.str "none", .str "one", .str "one"]) p2 = _ := upd_same
    generalize upd H1 p2 (.lst [.str "none", .str "one", .str "one"]) = H2 at e2 a2 n3 n4 ⊢
    have e3 := Ex.new (o := .lst [.str "none", .str "one", .str "more"]) n3
    have a3 : upd H2 p3 (.lst [.str "none", .str "one", .str "more"]) p3 = _ := upd_same
    generalize upd H2 p3 (.lst [.str "none", .str "one", .str "more"]) = H3 at e3 a3 n4 ⊢
    have e4 := Ex.new (o := .lst [.ref p1, .ref p2, .ref p3]) n4
    have a4 : upd H3 p4 (.lst [.ref p1, .ref p2, .ref p3]) p4 = _ := upd_same
    generalize upd H3 p4 (.lst [.ref p1, .ref p2, .ref p3]) = H4 at e4 a4 ⊢
    obtain ⟨B, ws, hB, hBH, hBn, hw, w1, w10, wm, wt⟩ : ∃ (B : Addr) (ws : List V), atI [V.ref p1, .ref p2, .ref p3] way = some (.ref B) ∧ H4 B = some (.lst ws) ∧ H B = none ∧ (∀ x ∈ ws, x ∈ words) ∧ 1 ≤ ws.length ∧ ws.length ≤ 10 ∧ (way ≠ 2 → V.str "more" ∉ ws) ∧ (way = 2 → V.str "two" ∉ ws) := by
      have c : way = 0 ∨ way = 1 ∨ way = 2 := by omega
      rcases c with rfl | rfl | rfl
      · exact ⟨p1, _, rfl, e4 _ _ (e3 _ _ (e2 _ _ a1)), n1, by decide, by decide, by decide, fun _ => by decide, fun z => absurd z (by decide)⟩
      · exact ⟨p2, _, rfl, e4 _ _ (e3 _ _ a2), none_of e1 n2, by decide, by decide, by decide, fun _ => by decide, fun z => absurd z (by decide)⟩
      · exact ⟨p3, _, rfl, e4 _ _ a3, none_of e1 (none_of e2 n3), by decide, by decide, by decide, fun z => absurd rfl z, fun _ => by decide⟩
    refine ⟨_, rfl, ix_row (.inl a4) hB ⟨Nat.zero_le _, fun F0 nF => ?_⟩⟩
    have st0 : Stt a c n (off a c H) H := ⟨S, Ex.refl _⟩
    obtain ⟨Ba, Bc⟩ := S.nea hBn
    have st4 := ((((st0.ex e1).ex e2).ex e3).ex e4).hold hBH Ba Bc
    have eR : Ex (off a c H) (upd (off a c H) B (.lst ws)) := Ex.held (off_none hBn)
    have RB : upd (off a c H) B (.lst ws) B = some (.lst ws) := upd_same
    generalize upd (off a c H) B (.lst ws) = R at st4 eR RB
    obtain ⟨Fa, Fc⟩ := st4.s.nea nF
    have RF := st4.no nF
    have st5 := st4.ex (Ex.new (o := .lst []) nF)
    have aF : upd H4 F0 (.lst []) F0 = _ := upd_same
    generalize upd H4 F0 (.lst []) = H5 at st5 aF ⊢
    refine ⟨_, _, rfl, ?_⟩
    refine ⟨_, rfl, _, rfl, by omega, by omega, for_range (lo := 0) (n := many.toNat) (fun i σ H' => ∃ (n' : Int) (qs : List (Addr × Rl)) (v7 v8 : Option V), σ = [some (.ref a), some (.int way), some (.int many), some (.int far), some (.int turns), some (.ref B), some (.ref F0), v7, v8] ∧ Stt a c n' R H' ∧
        H' F0 = some (.lst (qs.map fun q => V.ref q.1)) ∧ (∀ q ∈ qs, H' q.1 = some (.tup q.2.vs)) ∧ RsGood qs ∧ ((way ≠ 2 ∧ ∀ q ∈ qs, q.2.high ≠ none) ∨ (way = 2 ∧ ∀ q ∈ qs, V.str q.2.left ≠ V.str "two")) ∧ qs.length ≤ i ∧ n ≤ n' ∧ n' ≤ n + 10 * (i : Nat))
      ⟨n, [], none, none, rfl, st5, aF, (fun q hq => absurd hq (by simp)), ⟨(fun q hq => absurd hq (by simp)), .nil, .inl fun q hq => absurd hq (by simp)⟩, ?_, Nat.le_refl _, Int.le_refl _, by omega⟩ (fun i σ H' hi q => ?_) (fun σ H' q => ?_)⟩
    · by_cases c : way = 2
      · exact .inr ⟨c, fun q hq => absurd hq (by simp)⟩
      · exact .inl ⟨c, fun q hq => absurd hq (by simp)⟩
    · obtain ⟨n', qs, v7, v8, rfl, st, hF, hq, good, way2, hl, b1, b2⟩ := q
      refine gn1 ?_
      dsimp only
      refine seq1 (asg1 ?_)
      refine ⟨_, rfl, _, rfl, _, rfl, _, rfl, a, c, B, n', far, turns, ws, rfl, st.s, st.r _ _ RB, hw, w1, w10, f0, f10, t0, t10, by omega, fun H2 z r n2 e2 S2 c1 c2 nz' hz rg g1 g2 => ?_⟩
      have st2 := st.drawn e2 S2
      have hF2 : H2 F0 = _ := off_of (e2 _ _ ((off_ne Fa Fc).trans hF))
      have hq2 : ∀ q ∈ qs, H2 q.1 = some (.tup q.2.vs) := fun q m => off_of (e2 _ _ (off_tup st.s (hq q m)))
      have hz2 := off_of hz
      refine gn1 ?_
      dsimp only
      refine ⟨_, rfl, .inl ⟨rfl, _, SqL.of hF2⟩, _, rfl, _, rfl, r.d, qs.map fun q => q.2.d, rule_dp hz2, .lst (SqL.of hF2) (rules_dp hq2), shaped_rule rg.ok, shaped_rules fun q m => (good.ok q m).ok, _, rfl, ?_⟩
      cases hm : (qs.map fun q => q.2.d).any fun z => PyData.eqv z r.d with
      | false =>
        refine ite_tt rfl ⟨_, rfl, by show 1 ≤ sizeLine; decide, fun l nl => ⟨F0, l, qs.map fun q => V.ref q.1, [V.ref z], rfl, rfl, Ex.new nl _ _ hF2, upd_same, ?_, ?_⟩⟩
        · rw [List.length_map]
          exact Nat.le_trans (show qs.length + 1 ≤ 100 by omega) (by decide)
        have way3 : (way ≠ 2 ∧ ∀ q ∈ qs ++ [(z, r)], q.2.high ≠ none) ∨ (way = 2 ∧ ∀ q ∈ qs ++ [(z, r)], V.str q.2.left ≠ V.str "two") := by
          refine way2.imp (fun h => ⟨h.1, fun q m => ?_⟩) fun h => ⟨h.1, fun q m => ?_⟩
          · rcases List.mem_append.mp m with m | m
            · exact h.2 q m
            · obtain rfl := List.mem_singleton.mp m
              exact fun w => wm h.1 (g1 w)
          · rcases List.mem_append.mp m with m | m
            · exact h.2 q m
            · obtain rfl := List.mem_singleton.mp m
              exact fun w => wt h.1 (g2 w)
        refine ⟨n2, qs ++ [(z, r)], _, _, rfl, (st2.ex (Ex.new nl)).mut RF Fa Fc, by rw [upd_same, List.map_append]; rfl, fun q m => ?_, good.snoc rg (not_met hm) (way3.imp (·.2) (·.2)), way3, by rw [List.length_append]; exact Nat.succ_le_succ hl, by omega, by omega⟩
        have w : upd H2 l (.lst [V.ref z]) q.1 = some (.tup q.2.vs) := by
          refine Ex.new nl _ _ ?_
          rcases List.mem_append.mp m with m | m
          · exact hq2 q m
          · obtain rfl := List.mem_singleton.mp m
            exact hz2
        rw [upd_ne]
        · exact w
        · intro e
          rw [e, Ex.new nl _ _ hF2] at w
          cases w
      | true =>
        refine ite_ff rfl ⟨Nat.zero_le _, fun l nl => ⟨F0, l, qs.map fun q => V.ref q.1, [], rfl, rfl, Ex.new nl _ _ hF2, upd_same, ?_, ?_⟩⟩
        · rw [List.length_map]
          exact Nat.le_trans (show qs.length + 0 ≤ 100 by omega) (by decide)
        refine ⟨n2, qs, _, _, rfl, (st2.ex (Ex.new nl)).mut RF Fa Fc, by rw [upd_same, List.append_nil], fun q m => ?_, good, way2, by omega, by omega, by omega⟩
        have w := Ex.new (o := .lst []) nl _ _ (hq2 q m)
        rw [upd_ne]
        · exact w
        · intro e
          rw [e, Ex.new nl _ _ hF2] at w
          cases w
    · obtain ⟨n', qs, v7, v8, rfl, st, hF, hq, good, way2, hl, b1, b2⟩ := q
      have fin : ∀ (Dn : Ends) (σ : L2.St) (H' : Hp) (n' : Int) (F' : Addr) (qs : List (Addr × Rl)), Dn.rt = Q → σ[6]? = some (some (.ref F')) → Stt a c n' R H' → H' F' = some (.lst (qs.map fun q => V.ref q.1)) → (∀ q ∈ qs, H' q.1 = some (.tup q.2.vs)) → RsGood qs → qs.length ≤ 10 → n ≤ n' → n' ≤ n + 100 →
          (tRet (tCKw (rSortBy K fl spAline) (tCons (tVar 6) tNil) (tCons (tC (.ref fl)) tNil)) : TS) Dn σ H' := fun Dn σ H' n' F' qs hD h6 st hF hq good hl b1 b2 => by
        refine ⟨_, h6, F', qs.map fun q => (V.ref q.1, q.2.aline), rfl, rfl, SqL.of (by rw [hF, List.map_map]; rfl), fun p hp H'' e Q' kk => ?_, fun L H3 nL e3 hL => ?_⟩
        · obtain ⟨q, m, rfl⟩ := List.mem_map.mp hp
          exact ⟨q.1, q.2, rfl, .inr (e _ _ (hq q m)), (good.ok q m).sm, fun H4 e4 => kk H4 e4⟩
        rw [hD]
        have st3 := st.ex e3
        obtain ⟨La, Lc⟩ := st.s.nea nL
        have pm := List.mergeSort_perm qs (dataLe false fun q => PyData.str q.2.aline)
        refine k H3 n' L (qs.mergeSort (dataLe false fun q => PyData.str q.2.aline)) (eR.trans st3.r) st3.s b1 b2 ?_ ⟨?_, fun q m => off_tup st3.s (e3 _ _ (hq q (pm.mem_iff.mp m)))⟩ (by rw [pm.length_eq]; exact hl) (good.perm pm)
        · exact off_back (eR.trans st.r) st.s nL
        · rw [off_ne La Lc, hL]
          have z := ms_map (fun q : Addr × Rl => (V.ref q.1, q.2.aline)) (fun p : V × Str => PyData.str p.2) qs
          rw [← z, List.map_map]
          rfl
      refine ⟨_, rfl, rfl, _, rfl, ?_⟩
      rw [dec_z]
      by_cases w : way = 2
      · refine ite_tt (decide_eq_true w) ?_
        have nt : ∀ q ∈ qs, V.str q.2.left ≠ V.str "two" := by
          rcases way2 with h | h
          · exact absurd w h.1
          · exact h.2
        refine ⟨_, rfl, F0, rfl, ⟨_, SqL.of hF⟩, ?_⟩
        refine lc_pureD (g := gName 8) (walk_list (xs := qs.map fun q => V.ref q.1)) (out := fun j => V.bl (!decide (((qs.map fun q => hiV q.2.high).getD j .non) = V.non))) (by rw [List.length_map]; exact Nat.le_trans (show qs.length ≤ 100 by omega) (by decide)) (fun H' e => SqL.of (e _ _ hF)) (fun j x H2 H3 hj e2 y => ?_) (fun _ _ _ _ h => h _ _) (fun D H2 nD e2 hD => ?_)
        · obtain ⟨rfl, hx⟩ := y
          rw [List.length_map] at hj
          rw [List.getElem?_map, List.getElem?_eq_getElem hj] at hx
          cases hx
          have eo : (qs.map fun q => hiV q.2.high).getD j .non = hiV qs[j].2.high := by
            rw [List.getD_eq_getElem?_getD, List.getElem?_map, List.getElem?_eq_getElem hj]
            rfl
          rw [eo]
          exact ⟨Ex.refl _, rfl, Ex.refl _, fun q kq => ⟨_, rfl, ix_row (.inr (e2 _ _ (hq _ (List.getElem_mem hj)))) rfl ⟨rfl, kq _ (Ex.refl _)⟩⟩⟩
        · rw [List.length_map] at hD
          have hD : H2 D = some (.lst ((qs.map fun q => !decide (hiV q.2.high = V.non)).map V.bl)) := by
            rw [hD]
            have z := range_getD (qs.map fun q => hiV q.2.high) .non fun x => V.bl (!decide (x = V.non))
            rw [List.length_map] at z
            rw [z, List.map_map, List.map_map]
            rfl
          refine ⟨D, _, rfl, SqL.of hD, _, rfl, ?_⟩
          cases ha : (qs.map fun q => !decide (hiV q.2.high = V.non)).all id with
          | false =>
            refine ite_ff rfl ?_
            have st2 := st.ex e2
            exact fin _ _ H2 n' F0 qs rfl rfl st2 (e2 _ _ hF) (fun q m => e2 _ _ (hq q m)) good (by omega) b1 (by omega)
          | true =>
            refine ite_tt rfl ?_
            have ng : ∀ q ∈ qs, q.2.high ≠ none := fun q m h => by
              have z := List.all_eq_true.mp ha _ (List.mem_map.mpr ⟨q, m, rfl⟩)
              rw [h] at z
              exact absurd z (by decide)
            refine seq1 (asg1 ?_)
            refine ⟨_, rfl, _, rfl, _, _, rfl, rfl, _, _, rfl, _, rfl, F0, _, rfl, SqL.of (e2 _ _ hF), fun p np => ?_⟩
            obtain ⟨cs, sub, ec⟩ : ∃ cs : List (Addr × Rl), cs.Sublist qs ∧ cutV (qs.map fun q => V.ref q.1) none (some (if many - 1 > 0 then many - 1 else 0)) = cs.map fun q => V.ref q.1 :=
              ⟨_, (List.take_sublist _ _).trans (List.drop_sublist _ _), by unfold cutV; rw [List.map_take, List.map_drop]⟩
            rw [ec]
            have lc := sub.length_le
            have st2 := st.ex e2
            obtain ⟨pa, pc⟩ := st2.s.nea np
            have st3 := st2.ex (Ex.new (o := .lst (cs.map fun q => V.ref q.1)) np)
            have hp3 : upd H2 p (.lst (cs.map fun q => V.ref q.1)) p = _ := upd_same
            have hq3 : ∀ q ∈ cs, upd H2 p (.lst (cs.map fun q => V.ref q.1)) q.1 = some (.tup q.2.vs) := fun q m => Ex.new np _ _ (e2 _ _ (hq q (sub.subset m)))
            generalize upd H2 p (.lst (cs.map fun q => V.ref q.1)) = H3 at st3 hp3 hq3
            refine ⟨_, rfl, _, rfl, a, c, n', far, rfl, st3.s, f0, by omega, by omega, fun H4 r e4 S4 r0 r1 => ⟨_, _, rfl, rfl, by show 5 ≤ sizeLine; decide, fun z nz4 => ⟨by show 1 ≤ sizeLine; decide, fun l nl => ?_⟩⟩⟩
            have st4 := st3.drawn e4 S4
            have hp4 : H4 p = _ := off_of (e4 _ _ ((off_ne pa pc).trans hp3))
            have hq4 : ∀ q ∈ cs, H4 q.1 = some (.tup q.2.vs) := fun q m => off_of (e4 _ _ (off_tup st3.s (hq3 q m)))
            have ez := Ex.new (o := .tup [V.int (1 + r), .non, .str "one", .int 0, .int 1]) nz4
            have hz : upd H4 z (.tup [V.int (1 + r), .non, .str "one", .int 0, .int 1]) z = _ := upd_same
            generalize upd H4 z (.tup [V.int (1 + r), .non, .str "one", .int 0, .int 1]) = H5 at ez hz nl ⊢
            have el := Ex.new (o := .lst [V.ref z]) nl
            have hl' : upd H5 l (.lst [V.ref z]) l = _ := upd_same
            generalize upd H5 l (.lst [V.ref z]) = H6 at el hl' ⊢
            refine ⟨p, l, _, _, rfl, rfl, el _ _ (ez _ _ hp4), hl', ?_, fun G nG => ?_⟩
            · rw [List.length_map]
              exact Nat.le_trans (show cs.length + 1 ≤ 100 by omega) (by decide)
            have eG := Ex.new (o := .lst ((cs.map fun q => V.ref q.1) ++ [V.ref z])) nG
            have hG : upd H6 G (.lst ((cs.map fun q => V.ref q.1) ++ [V.ref z])) G = _ := upd_same
            generalize upd H6 G (.lst ((cs.map fun q => V.ref q.1) ++ [V.ref z])) = H7 at eG hG ⊢
            have eall := (ez.trans el).trans eG
            refine gn1 ?_
            refine fin _ _ H7 (n' + 1) G (cs ++ [(z, ⟨1 + r, none, "one", 0, 1⟩)]) rfl rfl (st4.ex eall) (by rw [hG, List.map_append]; rfl) (fun q m => ?_) ((good.sub sub).snoc (p := z) (r := ⟨1 + r, none, "one", 0, 1⟩) ⟨⟨by show inV (.str "one") lefts = true; decide, by show 0 ≤ 1 + r; omega, (fun h => by have h : 1 + r = 0 := h; omega), Int.le_refl _, (by show (0 : Int) < 1; decide), fun _ => ⟨rfl, by show V.str "one" ≠ V.str "two"; decide⟩, (fun h z => by cases z)⟩, ⟨wr_small (by show 0 ≤ 1 + r; omega) (by show 1 + r ≤ _; omega), trivial, by show ("one" : Str).length ≤ 100; decide, wr_small (by show (0 : Int) ≤ 0; decide) (by show (0 : Int) ≤ 100000; decide), wr_small (by show (0 : Int) ≤ 1; decide) (by show (1 : Int) ≤ 100000; decide)⟩, by show 1 + r ≤ 100; omega⟩ (fun m => ?_) (.inr fun q m => ?_)) ?_ (by omega) (by omega)
            · rcases List.mem_append.mp m with m | m
              · exact eall _ _ (hq4 q m)
              · obtain rfl := List.mem_singleton.mp m
                exact eG _ _ (el _ _ hz)
            · obtain ⟨q, hq', e⟩ := List.mem_map.mp m
              refine ng q (sub.subset hq') ?_
              rw [e]
            · rcases List.mem_append.mp m with m | m
              · exact nt q (sub.subset m)
              · obtain rfl := List.mem_singleton.mp m
                show V.str "one" ≠ V.str "two"
                decide
            · rw [List.length_append]
              show cs.length + 1 ≤ 10
              omega
      · refine ite_ff (decide_eq_false w) ?_
        exact fin _ _ H' n' F0 qs rfl rfl st hF hq good (by omega) b1 (by omega)
end
end Ts


set_option Elab.async false
set_option linter.all false
set_option maxRecDepth 100000
set_option maxHeartbeats 4000000
namespace Ts
open PySem PySem.Spec L2
open Evl (Ex)
open PySem.W (dataLe)
abbrev Rl.ds (r : Rl) : List PyData := [.int r.low, hiD r.high, .str r.left, .int r.rest, .int r.mod]
theorem hiOf_hiD (h : Option Int) : hiOf (hiD h) = h := by cases h <;> rfl
theorem items_mk (k : Bool) (l : List PyData) : items (mk k l) = l := by cases k <;> rfl
theorem isRow_mk (k : Bool) (l : List PyData) : isRow (mk k l) = true := by cases k <;> rfl
theorem rlOf_mk (k : Bool) (r : Rl) : rlOf (mk k r.ds) = r := by
  unfold rlOf
  rw [items_mk]
  show (⟨r.low, hiOf (hiD r.high), r.left, r.rest, r.mod⟩ : Rl) = r
  rw [hiOf_hiD]
theorem isRule_mk (k : Bool) {r : Rl} (h : r.Ok) : isRule (mk k r.ds) = true := by
  unfold isRule
  rw [isRow_mk, items_mk]
  show (true && rule5 _ _ _ _ _) = true
  have h0 := h.low0
  have h1 := h.low1
  have h2 := h.rest0
  have h3 := h.rest1
  have m0 : 0 ≤ r.mod := by omega
  have z1 : isNum (.int r.low) = true := decide_eq_true h0
  have z2 : isNum (.int r.rest) = true := decide_eq_true h2
  have z3 : isNum (.int r.mod) = true := decide_eq_true m0
  have z4 : isLeft (.str r.left) = true := h.left
  unfold rule5
  rw [z1, z2, z3, z4]
  have z5 : (!(decide (intOf (.int r.low) = 0) && !isTwo (.str r.left))) = true := by
    show (!(decide (r.low = 0) && !decide (V.str r.left = V.str "two"))) = true
    by_cases c : r.low = 0
    · rw [decide_eq_true (h1 c)]
      simp
    · rw [decide_eq_false c]
      rfl
  have z6 : decide (intOf (.int r.rest) < intOf (.int r.mod)) = true := decide_eq_true h3
  rw [z5, z6]
  have z7 : (if isNon (hiD r.high) = true then decide (intOf (.int r.mod) = 1) && !isTwo (.str r.left) else isNum (hiD r.high) && decide (intOf (.int r.low) ≤ intOf (hiD r.high))) = true := by
    cases e : r.high with
    | none =>
      obtain ⟨g1, g2⟩ := h.grow e
      show (decide (r.mod = 1) && !decide (V.str r.left = V.str "two")) = true
      rw [decide_eq_true g1, decide_eq_false g2]
      rfl
    | some i =>
      have g := h.high i e
      have g0 : 0 ≤ i := by omega
      show (decide (0 ≤ i) && decide (r.low ≤ i)) = true
      rw [decide_eq_true g0, decide_eq_true g]
      rfl
  rw [z7]
  rfl
theorem fault_none : ∀ {ds : List PyData} {i : Nat} {seen : List Rl} {g s : Bool}, (∀ e ∈ ds, isRule e = true) → (ds.map rlOf).Nodup → (∀ e ∈ ds, rlOf e ∉ seen) → ((g = false ∧ ∀ e ∈ ds, (rlOf e).high ≠ none) ∨ (s = false ∧ ∀ e ∈ ds, V.str (rlOf e).left ≠ V.str "two")) → faultAt ds i seen g s = none
  | [], _, _, _, _, _, _, _, _ => rfl
  | d :: ds, i, seen, g, s, h1, h2, h3, h4 => by
    rw [faultAt_cons, if_pos (h1 d List.mem_cons_self), if_neg (by rw [decide_eq_false (h3 d List.mem_cons_self)]; decide)]
    rw [List.map_cons, List.nodup_cons] at h2
    have hq : ((g || (rlOf d).high.isNone) && (s || decide (V.str (rlOf d).left = V.str "two"))) = false := by
      rcases h4 with ⟨rfl, h⟩ | ⟨rfl, h⟩
      · have z := h d List.mem_cons_self
        cases e : (rlOf d).high with
        | none => exact absurd e z
        | some j => rfl
      · rw [decide_eq_false (h d List.mem_cons_self)]
        simp
    rw [if_neg (by rw [hq]; decide)]
    refine fault_none (fun e he => h1 e (List.mem_cons_of_mem _ he)) h2.2 (fun e he m => ?_) ?_
    · rcases List.mem_append.mp m with m | m
      · exact h3 e (List.mem_cons_of_mem _ he) m
      · have m : rlOf e = rlOf d := List.mem_singleton.mp m
        exact h2.1 (List.mem_map.mpr ⟨e, he, m⟩)
    · refine h4.imp (fun h => ⟨?_, fun e he => h.2 e (List.mem_cons_of_mem _ he)⟩) fun h => ⟨?_, fun e he => h.2 e (List.mem_cons_of_mem _ he)⟩
      · have z := h.2 d List.mem_cons_self
        rw [h.1]
        cases e : (rlOf d).high with
        | none => exact absurd e z
        | some j => rfl
      · rw [h.1, decide_eq_false (h.2 d List.mem_cons_self)]
        rfl
theorem loo_rule {r : Rl} {e : PyData} (h : Loo r.d e) : ∃ k, e = mk k r.ds := by
  cases h with
  | same h => cases h
  | row k _ h =>
    refine ⟨k, ?_⟩
    have flat : ∀ {d e : PyData}, isRow d = false → Loo d e → e = d := fun {d e} hd hl => by
      cases hl with
      | same _ => rfl
      | row _ h _ =>
        rw [hd] at h
        cases h
    have hh : isRow (hiD r.high) = false := by cases r.high <;> rfl
    replace h : LooAll r.ds _ := h
    cases h with
    | cons a1 h =>
      cases h with
      | cons a2 h =>
        cases h with
        | cons a3 h =>
          cases h with
          | cons a4 h =>
            cases h with
            | cons a5 h =>
              cases h
              rw [flat rfl a1, flat hh a2, flat rfl a3, flat rfl a4, flat rfl a5]
theorem loo_rules : ∀ {qs : List (Addr × Rl)} {es : List PyData}, LooAll (qs.map fun q => q.2.d) es → (∀ q ∈ qs, q.2.Ok) → (∀ e ∈ es, isRule e = true) ∧ es.map rlOf = qs.map (·.2)
  | [], _, .nil, _ => ⟨fun e he => absurd he (by simp), rfl⟩
  | q :: t, _, .cons h r, ok => by
    obtain ⟨h1, h2⟩ := loo_rules r fun x hx => ok x (List.mem_cons_of_mem _ hx)
    obtain ⟨k, rfl⟩ := loo_rule h
    refine ⟨fun e he => ?_, ?_⟩
    · rcases List.mem_cons.mp he with rfl | he
      · exact isRule_mk k (ok q List.mem_cons_self)
      · exact h1 e he
    · rw [List.map_cons, List.map_cons, h2, rlOf_mk]
theorem perm_map {α β : Type} {f : α → β} {xs : List α} {ys : List β} (h : ys.Perm (xs.map f)) : ∃ zs : List α, ys = zs.map f ∧ zs.Perm xs := by
  replace h := h.symm
  generalize e : xs.map f = ws at h
  induction h generalizing xs with
  | nil => exact ⟨[], rfl, by rw [List.map_eq_nil_iff.mp e]⟩
  | cons x _ ih =>
    cases xs with
    | nil => cases e
    | cons x' t =>
      rw [List.map_cons] at e
      injection e with e1 e2
      obtain ⟨zs, h1, h2⟩ := ih e2
      exact ⟨x' :: zs, by rw [List.map_cons, e1, h1], h2.cons _⟩
  | swap x y l =>
    cases xs with
    | nil => cases e
    | cons x1 t =>
      cases t with
      | nil => cases e
      | cons x2 t =>
        rw [List.map_cons, List.map_cons] at e
        injection e with e1 e2
        injection e2 with e2 e3
        exact ⟨x2 :: x1 :: t, by rw [List.map_cons, List.map_cons, e1, e2, e3], .swap _ _ _⟩
  | trans _ _ ih1 ih2 =>
    obtain ⟨zs, h1, h2⟩ := ih1 e
    obtain ⟨us, h3, h4⟩ := ih2 h1.symm
    exact ⟨us, h3, h4.trans h2⟩
theorem rules_D {H : Hp} : ∀ {qs : List (Addr × Rl)}, (∀ q ∈ qs, H q.1 = some (.tup q.2.vs)) → DAll H (qs.map fun q => V.ref q.1) (qs.map fun q => q.2.d)
  | [], _ => .nil
  | q :: t, h => by
    refine .cons ?_ (rules_D fun x hx => h x (List.mem_cons_of_mem _ hx))
    refine .tup (h q List.mem_cons_self) (.cons (.int _) (.cons ?_ (.cons (.str _) (.cons (.int _) (.cons (.int _) .nil)))))
    cases q.2.high with
    | none => exact .non
    | some i => exact .int _
theorem dr2 : dr 2 = 91 := by decide
theorem okL_rules {qs : List (Addr × Rl)} (h : qs.length ≤ 90) : okL 2 (.list (qs.map fun q => q.2.d)) = true := by
  show (decide ((qs.map fun q => q.2.d).length ≤ 90) && (qs.map fun q => q.2.d).all (okL 1)) = true
  rw [decide_eq_true (by rw [List.length_map]; exact h), Bool.true_and, List.all_eq_true]
  intro d hd
  obtain ⟨q, _, rfl⟩ := List.mem_map.mp hd
  unfold Rl.d
  cases q.2.high <;> rfl
/-- what is drawn is no fault, however loose -/
theorem loose_ok {qs : List (Addr × Rl)} {d : PyData} (good : RsGood qs) (hz : qs.length ≤ 10) (h : Loo (.list (qs.map fun q => q.2.d)) d) : faultV d = .non ∧ (items d).map rlOf = qs.map (·.2) ∧ (items d).length ≤ 60 ∧ ∀ e ∈ items d, isRule e = true → (rlOf e).Sml := by
  cases h with
  | same h => cases h
  | row k _ h =>
    rename_i es hrow
    obtain ⟨h1, h2⟩ := loo_rules (show LooAll (qs.map fun q => q.2.d) es from h) fun q m => (good.ok q m).ok
    rw [items_mk]
    have hm : ∀ e ∈ es, ∃ q ∈ qs, rlOf e = q.2 := fun e he => by
      have z : rlOf e ∈ qs.map (·.2) := by
        rw [← h2]
        exact List.mem_map.mpr ⟨e, he, rfl⟩
      obtain ⟨q, m, z⟩ := List.mem_map.mp z
      exact ⟨q, m, z.symm⟩
    refine ⟨?_, h2, ?_, fun e he _ => ?_⟩
    · unfold faultV
      rw [if_pos (isRow_mk k es), items_mk, fault_none h1 (by rw [h2]; exact good.nd) (fun e _ m => by cases m) ?_]
      refine good.gs.imp (fun g => ⟨rfl, fun e he => ?_⟩) fun g => ⟨rfl, fun e he => ?_⟩
      · obtain ⟨q, m, z⟩ := hm e he
        rw [z]
        exact g q m
      · obtain ⟨q, m, z⟩ := hm e he
        rw [z]
        exact g q m
    · have := congrArg List.length h2
      rw [List.length_map, List.length_map] at this
      omega
    · obtain ⟨q, m, z⟩ := hm e he
      rw [z]
      exact (good.ok q m).sm
section
variable {P : Program} {w : World} {K : PySem.W.Frag} {mg : Str → Option Value} {base : Heap}
abbrev s_abook := top 49
abbrev s_amade := top 50
theorem sc_abook : FnScope ["stream"] ["stream"] (defScope s_abook) := ⟨rfl, rfl, rfl, by decide +kernel, rfl, by decide +kernel, by decide +kernel⟩
theorem sc_amade : FnScope ["stream", "raw"] ["stream", "raw"] (defScope s_amade) := ⟨rfl, rfl, rfl, by decide +kernel, rfl, by decide +kernel, by decide +kernel⟩
/-- what is told of a drawn book -/
abbrev DrawnTo (a c : Addr) (n : Int) (H : Hp) (Q : VK) : Prop := ∀ H' n' (L : Addr) qs, Ex (off a c H) (off a c H') → Strm H' a c n' → n ≤ n' → n' ≤ n + 110 → H L = none → RsAt (off a c H') L qs → qs.length ≤ 10 → RsGood qs → Q (.ref L) H'
def spAbook : Sp := fun vs H Q _ => ∃ (a c : Addr) (n : Int), vs = [.ref a] ∧ Strm H a c n ∧ n + 200 < 2 ^ 39 ∧ DrawnTo a c n H Q
theorem ok_abook {f f1 f2 f3 : Addr} {fd fd1 fd2 fd3 : FuncData} (F : FD K mg "_law_a_book" "_law_a_book" s_abook f fd) (T : Bl mg)
    (F_draw : FD K mg "_law_draw" "_law_draw" s_draw f1 fd1) (F_pick : FD K mg "_law_pick" "_law_pick" s_pick f2 fd2) (F_arules : FD K mg "_law_a_rules" "_law_a_rules" s_arules f3 fd3) (G_arules : FnOk P w K mg base CX0 4 f3 fd3 ["stream", "way", "many", "far", "turns"] spArules) : FnOk P w K mg base CX0 5 f fd ["stream"] spAbook := by
  have G_draw : FnOk P w K mg base CX0 1 f1 fd1 ["stream", "many"] spDraw := ok_draw F_draw T
  have G_pick : FnOk P w K mg base CX0 2 f2 fd2 ["stream", "some"] spPick := ok_pick F_pick F_draw T
  have b_draw := b_draw F_draw
  have b_pick : Binds K fd2 ["stream", "some"] [] := F_pick.F.binds fun _ _ _ _ _ _ us hl => match us, hl with | [_, _], _ => rfl
  have b_arules : Binds K fd3 ["stream", "way", "many", "far", "turns"] [] := F_arules.F.binds fun _ _ _ _ _ _ us hl => match us, hl with | [_, _, _, _, _], _ => rfl
  refine F.F.ok sc_abook (fun vs H Q E h => ?_) (fun cdv A outer s H vs Q E hr h => ?_)
  · obtain ⟨a, c, n, rfl, _⟩ := h
    rfl
  · obtain ⟨a, c, n, rfl, S, nz, k⟩ := h
    have nd := sc_abook.nd
    have big : (2 : Int) ^ 39 + 1100 < 2 ^ 40 := by decide
    have big2 : (1000 : Int) < 2 ^ 60 := by decide
    refine ⟨_, (pss_one (ps_ret (pe_call G_arules (hr.mono (by decide)) (by rfl) F_arules.g F_arules.F.kp b_arules .nil pass0 (pa_cons (pv 0) (pa_cons (pe_call G_pick (hr.mono (by decide)) (by rfl) F_pick.g F_pick.F.kp b_pick .nil pass0 (pa_cons (pv 0) (pa_cons (pe_lst (pa_cons pe_int (pa_cons pe_int (pa_cons pe_int (pa_cons pe_int pa_nil))))) pa_nil))) (pa_cons (pe_call G_draw (hr.mono (by decide)) (by rfl) F_draw.g F_draw.F.kp b_draw .nil pass0 (pa_cons (pv 0) (pa_cons pe_int pa_nil))) (pa_cons pe_int (pa_cons pe_int pa_nil)))))))), ?_⟩
    refine ⟨_, rfl, _, rfl, by show 4 ≤ sizeLine; decide, fun p np => ?_⟩
    obtain ⟨pa, pc⟩ := S.nea np
    have e1 := Ex.new (o := .lst [V.int 0, .int 0, .int 1, .int 2]) np
    refine ⟨a, c, p, n, [.int 0, .int 0, .int 1, .int 2], rfl, S.upd pa pc, by rw [off_ne pa pc]; exact upd_same, by decide, by decide, by omega, fun H2 x e2 S2 hx => ?_⟩
    obtain ⟨wy, rfl, y0, y1⟩ : ∃ wy : Int, x = .int wy ∧ 0 ≤ wy ∧ wy ≤ 2 := by
      rcases List.mem_cons.mp hx with rfl | hx
      · exact ⟨_, rfl, by decide, by decide⟩
      · rcases List.mem_cons.mp hx with rfl | hx
        · exact ⟨_, rfl, by decide, by decide⟩
        · rcases List.mem_cons.mp hx with rfl | hx
          · exact ⟨_, rfl, by decide, by decide⟩
          · obtain rfl := List.mem_singleton.mp hx
            exact ⟨_, rfl, by decide, by decide⟩
    refine ⟨_, rfl, a, c, n + 1, 5, rfl, S2, by decide, by decide, by omega, fun H3 r e3 S3 r0 r1 => ?_⟩
    have e13 := ((Ex.offs e1).trans e2).trans e3
    refine ⟨a, c, n + 1 + 1, wy, r, 3, 3, rfl, S3, y0, y1, r0, by omega, by decide, by decide, by decide, by decide, by omega, fun H4 n4 L qs e4 S4 b1 b2 nL hL hz good => ?_⟩
    exact k H4 n4 L qs (e13.trans e4) S4 (by omega) (by omega) (off_back e13 S3 nL) hL hz good
structure BkMade (K : PySem.W.Frag) (mg : Str → Option Value) (CB fI : Addr) : Prop where
  g : mg "Book" = some (.ref CB)
  made : Mk K CB fI
/-- a made book: its rules are these -/
def spAmade (CB : Addr) : Sp := fun vs H Q _ => ∃ (a c L : Addr) (n : Int) (qs : List (Addr × Rl)), vs = [.ref a, .ref L] ∧ Strm H a c n ∧ RsAt (off a c H) L qs ∧ qs.length ≤ 10 ∧ RsGood qs ∧ n + 200 < 2 ^ 39 ∧
  ∀ H' n' (b : Addr) rs, Ex (off a c H) (off a c H') → Strm H' a c n' → n ≤ n' → n' ≤ n + 110 → H b = none → BookAt CB (off a c H') b rs → (∀ r, r ∈ rs ↔ r ∈ qs.map (·.2)) → rs.length ≤ 10 → (∃ rs0, rs = sortR rs0 ∧ rs0.Perm (qs.map (·.2))) → Q (.ref b) H'
theorem ok_amade {f f1 f2 f3 fI CB CR : Addr} {fd fd1 fd2 fd3 fdI : FuncData} (F : FD K mg "_law_a_made" "_law_a_made" s_amade f fd) (T : Bl mg)
    (F_draw : FD K mg "_law_draw" "_law_draw" s_draw f1 fd1) (F_mixed : FD K mg "_law_mixed" "_law_mixed" s_mixed f2 fd2) (F_loose : FD K mg "_law_loose" "_law_loose" s_loose f3 fd3)
    (BC : BkMade K mg CB fI) (F_I : Fun K "__init__" "Book.__init__" s_binit fI fdI) (G_binit : FnOk P w K mg base (L2.CX P w) 5 fI fdI ["self", "rules"] (spBook CB CR)) : FnOk P w K mg base CX0 7 f fd ["stream", "raw"] (spAmade CB) := by
  have G_mixed : FnOk P w K mg base CX0 2 f2 fd2 ["stream", "some"] spMixed := ok_mixed F_mixed F_draw T
  have G_loose : FnOk P w K mg base CX0 4 f3 fd3 ["stream", "thing"] (spLoose 3) := ok_loose F_loose F_draw T 3
  have b_mixed : Binds K fd2 ["stream", "some"] [] := F_mixed.F.binds fun _ _ _ _ _ _ us hl => match us, hl with | [_, _], _ => rfl
  have b_loose : Binds K fd3 ["stream", "thing"] [] := F_loose.F.binds fun _ _ _ _ _ _ us hl => match us, hl with | [_, _], _ => rfl
  have b_binit : Binds K fdI ["self", "rules"] [] := F_I.binds fun _ _ _ _ _ _ us hl => match us, hl with | [_, _], _ => rfl
  refine F.F.ok sc_amade (fun vs H Q E h => ?_) (fun cdv A outer s H vs Q E hr h => ?_)
  · obtain ⟨a, c, L, n, qs, rfl, _⟩ := h
    rfl
  · obtain ⟨a, c, L, n, qs, rfl, S, ⟨hL, hR⟩, hz, good, nz, k⟩ := h
    have nd := sc_amade.nd
    refine ⟨_, (pss_one (ps_ret (pe_make BC.made G_binit (hr.mono (by decide)) (by rfl) BC.g b_binit .nil (passF rfl rfl) (pa_cons (pe_call G_loose (hr.mono (by decide)) (by rfl) F_loose.g F_loose.F.kp b_loose .nil pass0 (pa_cons (pv 0) (pa_cons (pe_call G_mixed (hr.mono (by decide)) (by rfl) F_mixed.g F_mixed.F.kp b_mixed .nil pass0 (pa_cons (pv 0) (pa_cons (pv 1) pa_nil))) pa_nil))) pa_nil)))), ?_⟩
    refine ⟨_, rfl, _, rfl, _, rfl, a, c, L, n, _, rfl, S, hL, by rw [List.length_map]; omega, by omega, fun H2 M ys nM e2 S2 hM hp => ?_⟩
    obtain ⟨qs2, rfl, p2⟩ : ∃ qs2 : List (Addr × Rl), ys = qs2.map (fun q => V.ref q.1) ∧ qs2.Perm qs := perm_map hp
    have hl2 := p2.length_eq
    have good2 := good.perm p2
    have hd2 : D (off a c H2) (.ref M) (.list (qs2.map fun q => q.2.d)) := .lst hM (rules_D fun q m => e2 _ _ (hR q (p2.mem_iff.mp m)))
    rw [List.length_map] at S2
    refine ⟨a, c, n + qs.length, .ref M, _, off a c H2, rfl, S2, Ex.refl _, hd2, okL_rules (by omega), by rw [dr2]; omega, fun H3 v' d' G3 n3 e3 S3 b1 b2 rg hd3 hl3 => ?_⟩
    obtain ⟨f1, f2, f3, f4⟩ := loose_ok good2 (by omega) hl3
    have hd3 := hd3.ex rg.i
    intro p dx np ndx hne
    obtain ⟨pa, pc⟩ := S3.nea np
    obtain ⟨da, dc⟩ := S3.nea ndx
    have e34 : Ex H3 (del (upd (upd H3 dx (.own p)) p (.ins CB dx [])) p) := fun z o hz => by
      have n1 : z ≠ p := fun w => by
        rw [w, np] at hz
        cases hz
      have n2 : z ≠ dx := fun w => by
        rw [w, ndx] at hz
        cases hz
      rw [del_ne n1, upd_ne n1, upd_ne n2]
      exact hz
    refine ⟨p, dx, v', d', rfl, upd_same, hd3.ex (off_ex.trans e34), f3, f4, fun z => absurd f1 z, fun _ H4 e4 bk newL => ⟨rfl, ?_⟩⟩
    have eH := e34.trans e4
    have S4 := S3.ex eH
    obtain ⟨dx', L', qs', h1, h2, h3, h4⟩ := bk
    have nL' : H3 L' = none := by
      have z := newL dx' L' h1
      by_cases c1 : L' = p
      · rw [c1]
        exact np
      · rw [upd_ne c1] at z
        by_cases c2 : L' = dx
        · rw [c2]
          exact ndx
        · rw [upd_ne c2] at z
          exact z
    obtain ⟨la, lc⟩ := S3.nea nL'
    have pm : (sortR ((items d').map rlOf)).Perm (qs2.map (·.2)) := by
      unfold sortR
      rw [← f2]
      exact List.mergeSort_perm _ _
    refine k H4 n3 p (sortR ((items d').map rlOf)) ((e2.trans e3).trans (Ex.offs eH)) S4 (by omega) (by rw [dr2] at b2; omega) (off_back (e2.trans e3) S3 np) ⟨dx', L', qs', by rw [off_ne pa pc]; exact h1, by rw [off_ne la lc]; exact h2, fun q m => off_tup S4 (h3 q m), h4⟩ (fun r => pm.mem_iff.trans ((p2.map (·.2)).mem_iff)) ?_ ?_
    · rw [pm.length_eq, List.length_map]
      omega
    · exact ⟨_, rfl, by rw [f2]; exact p2.map _⟩
end
end Ts


set_option Elab.async false
set_option linter.all false
set_option maxRecDepth 100000
set_option maxHeartbeats 4000000
namespace Ts
open PySem PySem.Spec L2
open Evl (Ex)
/-- what is never reached -/
theorem pss_dead {X : Cx} {st : List Stmt} : PSs X st (fun _ _ _ => False) := ⟨fun _ _ _ _ _ _ h => h.elim⟩
theorem ints_D {H : Hp} : ∀ ts : List Int, DAll H (ts.map V.int) (ts.map PyData.int)
  | [] => .nil
  | t :: r => .cons (.int t) (ints_D r)
theorem lst_ty {K : PySem.W.Frag} {H : Hp} {a : Addr} {xs : List V} (h : H a = some (.lst xs)) : TyX K H (.ref a) (.type "list") := by
  exact .base (.lst h)
section
variable {P : Program} {w : World} {K : PySem.W.Frag} {mg : Str → Option Value} {base : Heap}
abbrev s_spoil := top 53
theorem sc_spoil : FnScope ["thing", "part", "key"] ["thing"] (defScope s_spoil) := ⟨rfl, rfl, rfl, by decide +kernel, rfl, by decide +kernel, by decide +kernel⟩
/-- a number, a text -/
inductive Sc : V → PyData → Prop where
  | int (i : Int) : Sc (.int i) (.int i)
  | str (x : Str) : Sc (.str x) (.str x)
def ScL (xs : List V) : Prop := ∀ x ∈ xs, ∃ d, Sc x d
theorem Sc.D {H : Hp} {x : V} {d : PyData} (h : Sc x d) : D H x d := by
  cases h with
  | int i => exact .int i
  | str x => exact .str x
theorem scl_ints (ts : List Int) : ScL (ts.map V.int) := fun x hx => by
  obtain ⟨i, _, rfl⟩ := List.mem_map.mp hx
  exact ⟨_, .int i⟩
theorem ScL.snoc {xs : List V} (h : ScL xs) (s : Str) : ScL (xs ++ [.str s]) := fun x hx => by
  rcases List.mem_append.mp hx with hx | hx
  · exact h x hx
  · rw [List.mem_singleton.mp hx]
    exact ⟨_, .str s⟩
/-- the heap without some things -/
def cut (H : Hp) (S : List Addr) : Hp := fun b => if b ∈ S then none else H b
theorem cut_in {H : Hp} {S : List Addr} {b : Addr} (h : b ∈ S) : cut H S b = none := if_pos h
theorem cut_out {H : Hp} {S : List Addr} {b : Addr} (h : b ∉ S) : cut H S b = H b := if_neg h
theorem cut_ex {H : Hp} {S : List Addr} : Ex (cut H S) H := fun b o h => by
  unfold cut at h
  split at h
  · cases h
  · exact h
def spSpoil : Nat → Sp
  | 0 => fun _ _ _ _ => False
  | 1 => fun vs H Q _ => ∃ x d, vs = [x] ∧ Sc x d ∧ ∀ H', Ex H H' → Q .non H'
  | 2 => fun vs H Q _ => ∃ (l : Addr) (xs : List V), vs = [.ref l] ∧ H l = some (.lst xs) ∧ ScL xs ∧ xs.length ≤ 1000000 ∧ ∀ H' s, Ex (del H l) H' → H' l = some (.lst (xs ++ [.str s])) → Q .non H'
  | 3 => fun vs H Q _ => ∃ (l : Addr) (as : List Addr) (R : Hp), vs = [.ref l] ∧ H l = some (.lst (as.map V.ref)) ∧ as.length ≤ 600000 ∧ Ex R H ∧ R l = none ∧ (∀ a ∈ as, a ≠ l ∧ R a = none ∧ ∃ xs, H a = some (.lst xs) ∧ ScL xs ∧ xs.length ≤ 10) ∧ ∀ H', Ex R H' → Q .non H'
  | 4 => fun vs H Q _ => ∃ (F l m : Addr) (as bs : List Addr), vs = [.ref F] ∧ H F = some (.lst [.ref l, .ref m]) ∧ H l = some (.lst (as.map V.ref)) ∧ H m = some (.lst (bs.map V.ref)) ∧ as.length ≤ 600000 ∧ bs.length ≤ 600000 ∧
      (∀ a ∈ as, ∃ xs, H a = some (.lst xs) ∧ ScL xs ∧ xs.length ≤ 10) ∧ (∀ a ∈ bs, ∃ xs, H a = some (.lst xs) ∧ ScL xs ∧ xs.length ≤ 10) ∧ l ∉ as ∧ m ∉ bs ∧ l ≠ m ∧ F ≠ l ∧ F ≠ m ∧ F ∉ as ∧ F ∉ bs ∧ m ∉ as ∧ l ∉ bs ∧ (∀ a ∈ as, a ∉ bs) ∧
      ∀ H', Ex (cut H (F :: l :: m :: (as ++ bs))) H' → Q .non H'
  | _ + 5 => fun _ _ _ _ => False
theorem spSpoil_len : ∀ {k : Nat} {vs : List V} {H : Hp} {Q : VK} {E : XK}, spSpoil k vs H Q E → ∃ v, vs = [v]
  | 0, _, _, _, _, h => h.elim
  | 1, _, _, _, _, ⟨x, d, h, _⟩ => ⟨_, h⟩
  | 2, _, _, _, _, ⟨l, ts, h, _⟩ => ⟨_, h⟩
  | 3, _, _, _, _, ⟨l, as, R, h, _⟩ => ⟨_, h⟩
  | 4, _, _, _, _, ⟨F, l, m, as, bs, h, _⟩ => ⟨_, h⟩
  | _ + 5, _, _, _, _, h => h.elim
theorem ok_spoil {f : Addr} {fd : FuncData} (F : FD K mg "_law_a_spoiled" "_law_a_spoiled" s_spoil f fd) (T : Bl mg) : ∀ k, FnOk P w K mg base CX0 k f fd ["thing"] (spSpoil k)
  | 0 => ⟨fun _ _ _ _ h => h.elim, fun _ _ _ _ _ _ _ _ _ _ _ _ _ h => h.elim⟩
  | k + 1 => by
    have G0 := ok_spoil F T k
    have b0 : Binds K fd ["thing"] [] := F.F.binds fun _ _ _ _ _ _ us hl => match us, hl with | [_], _ => rfl
    refine F.F.ok sc_spoil (fun vs H Q E h => ?_) (fun cdv A outer s H vs Q E hr h => ?_)
    · obtain ⟨v, rfl⟩ := spSpoil_len h
      rfl
    · have nd := sc_spoil.nd
      refine ⟨_, (pss_cons (ps_if (pt_val (pe_callB call_isiT (by rfl) T.isinstance (by decide +kernel) (pa_cons (pv 0) (pa_cons (pe_tup (pa_cons (pe_bltn (v := .ty "list") (by rfl) T.list (by decide +kernel) rfl) (pa_cons (pe_bltn (v := .ty "tuple") (by rfl) T.tuple (by decide +kernel) rfl) pa_nil))) pa_nil)))) (pss_one (ps_for PassesOwn.never rfl (pi_or (pi_list (pv 0)) (pi_tup (pv 0))) (pg_name (i := 1) nd rfl (Or.inl rfl)) (pss_one (ps_expr (pe_call G0 hr (by rfl) F.g F.F.kp b0 .nil pass0 (pa_cons (pv 1) pa_nil)))))) pss_nil)
      (pss_cons (ps_if (pt_val (pe_callB call_isi (by rfl) T.isinstance (by decide +kernel) (pa_cons (pv 0) (pa_cons (pe_bltn (v := .ty "dict") (by rfl) T.dict (by decide +kernel) rfl) pa_nil)))) pss_dead pss_nil)
      (pss_one (ps_if (pt_val (pe_callB call_isi (by rfl) T.isinstance (by decide +kernel) (pa_cons (pv 0) (pa_cons (pe_bltn (v := .ty "list") (by rfl) T.list (by decide +kernel) rfl) pa_nil)))) (pss_one (ps_expr (pe_bm PySem.F.plainAttrs_list PySem.F.slot_list_append PySem.F.type_list_append mt_append (pv 0) (pa_cons pe_str pa_nil)))) pss_nil)))), ?_⟩
      -- a list, behind its parts: one thing more
      have fin : ∀ {a : Addr} {xs : List V} {v1 v2 : Option V} {H2 : Hp}, H2 a = some (.lst xs) → xs.length < sizeLine → (upd H2 a (.lst (xs ++ [.str "late9"])) a = some (.lst (xs ++ [.str "late9"])) → Q .non (upd H2 a (.lst (xs ++ [.str "late9"])))) →
          (tSeq (tIfS (tB (tCB (rIsi K) (tCons (tVar 0) (tCons (tC (.ty "dict")) tNil)))) (fun _ _ _ => False) tNext) (tIfS (tB (tCB (rIsi K) (tCons (tVar 0) (tCons (tC (.ty "list")) tNil)))) (tDrop (tBM K "list" rAppend (tVar 0) (tCons (tC (.str "late9")) tNil))) tNext) : TS) { nx := fun _ H' => Q .non H', rt := Q } [some (.ref a), v1, v2] H2 := fun {a xs v1 v2 H2} ha hl hk => by
        have hT : TyX K H2 (.ref a) (.type "list") := lst_ty ha
        refine ⟨_, rfl, _, _, _, _, _, rfl, .ty "dict", hT, kit_dict (.list []), _, rfl, ite_ff rfl ?_⟩
        refine ⟨_, rfl, _, _, _, _, _, rfl, .ty "list", hT, kit_list (.list []), _, rfl, ite_tt rfl ?_⟩
        exact ⟨_, rfl, .inl ⟨rfl, _, SqL.of ha⟩, a, _, _, rfl, rfl, ha, hl, hk upd_same⟩
      match k, h with
      | 0, h =>
        obtain ⟨x, d, rfl, hx, kq⟩ := h
        refine ⟨_, rfl, by show 2 ≤ sizeLine; decide, fun p np => ⟨_, p, _, _, _, _, rfl, upd_same, .cons (.ty "list") (.cons (.ty "tuple") .nil), (hx.D (H := upd H p (.tup [.ty "list", .ty "tuple"]))).ty, kit_row d, _, rfl, ?_⟩⟩
        have ep := Ex.new (o := .tup [.ty "list", .ty "tuple"]) np
        cases hx with
        | int i =>
          refine ite_ff rfl ?_
          refine ⟨_, rfl, _, _, _, _, _, rfl, .ty "dict", (D.int i).ty, kit_dict (.int i), _, rfl, ite_ff rfl ?_⟩
          refine ⟨_, rfl, _, _, _, _, _, rfl, .ty "list", (D.int i).ty, kit_list (.int i), _, rfl, ite_ff rfl ?_⟩
          exact kq _ ep
        | str i =>
          refine ite_ff rfl ?_
          refine ⟨_, rfl, _, _, _, _, _, rfl, .ty "dict", (D.str i).ty, kit_dict (.str i), _, rfl, ite_ff rfl ?_⟩
          refine ⟨_, rfl, _, _, _, _, _, rfl, .ty "list", (D.str i).ty, kit_list (.str i), _, rfl, ite_ff rfl ?_⟩
          exact kq _ ep
      | 1, h =>
        obtain ⟨l, xs, rfl, hl, hsc, hz, kq⟩ := h
        refine ⟨_, rfl, by show 2 ≤ sizeLine; decide, fun p np => ⟨_, p, _, _, _, _, rfl, upd_same, .cons (.ty "list") (.cons (.ty "tuple") .nil), lst_ty (Ex.new np _ _ hl), kit_row (.list []), _, rfl, ?_⟩⟩
        have ep := Ex.new (o := .tup [.ty "list", .ty "tuple"]) np
        generalize upd H p (.tup [.ty "list", .ty "tuple"]) = H0 at ep ⊢
        refine ite_tt rfl ?_
        refine .inl ⟨_, rfl, l, rfl, ⟨_, SqL.of (ep _ _ hl)⟩, for_list (a := l) (xs := xs) (fun i σ H' => ∃ v1 v2, σ = [some (.ref l), v1, v2] ∧ Ex H H') ⟨none, none, rfl, ep⟩ (fun i σ H' _ q => ?_) (fun i x σ H' hx q => ?_) (fun σ H' q => ?_)⟩
        · obtain ⟨v1, v2, rfl, e⟩ := q
          exact SqL.of (e _ _ hl)
        · obtain ⟨v1, v2, rfl, e⟩ := q
          obtain ⟨d, hd⟩ := hsc x (List.mem_of_getElem? hx)
          refine gn1 ?_
          exact ⟨_, rfl, x, d, rfl, hd, fun H2 e2 => ⟨_, _, rfl, e.trans e2⟩⟩
        · obtain ⟨v1, v2, rfl, e⟩ := q
          refine fin (e _ _ hl) (Nat.lt_of_le_of_lt hz (by decide)) fun z => kq _ _ (fun b o hb => ?_) z
          by_cases c : b = l
          · rw [c, del_same] at hb
            cases hb
          · rw [del_ne c] at hb
            rw [upd_ne c]
            exact e _ _ hb
      | 2, h =>
        obtain ⟨l, as, R, rfl, hl, hz, eR, rl, hA, kq⟩ := h
        refine ⟨_, rfl, by show 2 ≤ sizeLine; decide, fun p np => ⟨_, p, _, _, _, _, rfl, upd_same, .cons (.ty "list") (.cons (.ty "tuple") .nil), lst_ty (Ex.new np _ _ hl), kit_row (.list []), _, rfl, ?_⟩⟩
        have ep := Ex.new (o := .tup [.ty "list", .ty "tuple"]) np
        generalize upd H p (.tup [.ty "list", .ty "tuple"]) = H0 at ep ⊢
        refine ite_tt rfl ?_
        refine .inl ⟨_, rfl, l, rfl, ⟨_, SqL.of (ep _ _ hl)⟩, for_list (a := l) (xs := as.map V.ref) (fun i σ H' => ∃ v1 v2, σ = [some (.ref l), v1, v2] ∧ Ex R H' ∧ H' l = some (.lst (as.map V.ref)) ∧ ∀ a ∈ as, ∃ xs, H' a = some (.lst xs) ∧ ScL xs ∧ xs.length ≤ 10 + i)
          ⟨none, none, rfl, eR.trans ep, ep _ _ hl, fun a ha => by obtain ⟨_, _, xs, h1, h2, h3⟩ := hA a ha; exact ⟨xs, ep _ _ h1, h2, h3⟩⟩ (fun i σ H' _ q => ?_) (fun i x σ H' hx q => ?_) (fun σ H' q => ?_)⟩
        · obtain ⟨v1, v2, rfl, e, q, _⟩ := q
          exact SqL.of q
        · obtain ⟨v1, v2, rfl, e, q, hA'⟩ := q
          have hi : i < 600000 := by
            have := (List.getElem?_eq_some_iff.mp hx).1
            rw [List.length_map] at this
            omega
          obtain ⟨a, ha, rfl⟩ := List.mem_map.mp (List.mem_of_getElem? hx)
          obtain ⟨al, ra, _⟩ := hA a ha
          obtain ⟨xs, h1, h2, h3⟩ := hA' a ha
          refine gn1 ?_
          refine ⟨_, rfl, a, xs, rfl, h1, h2, by omega, fun H2 s e2 h4 => ⟨_, _, rfl, fun b o hb => ?_, ?_, fun b hb => ?_⟩⟩
          · have n : b ≠ a := fun w => by
              rw [w, ra] at hb
              cases hb
            exact e2 _ _ (by rw [del_ne n]; exact e _ _ hb)
          · exact e2 _ _ (by rw [del_ne (Ne.symm al)]; exact q)
          · by_cases c : b = a
            · subst c
              exact ⟨_, h4, h2.snoc s, by rw [List.length_append]; show xs.length + 1 ≤ _; omega⟩
            · obtain ⟨ys, g1, g2, g3⟩ := hA' b hb
              exact ⟨ys, e2 _ _ (by rw [del_ne c]; exact g1), g2, by omega⟩
        · obtain ⟨v1, v2, rfl, e, q, _⟩ := q
          exact fin q (by rw [List.length_map]; exact Nat.lt_of_le_of_lt hz (by decide)) fun _ => kq _ (e.mut rl)
      | 3, h =>
        obtain ⟨F0, l, m, as, bs, rfl, hF, hl, hm, za, zb, hA, hB, la, mb, lm, Fl, Fm, Fa, Fb, ma, lb, ab, kq⟩ := h
        refine ⟨_, rfl, by show 2 ≤ sizeLine; decide, fun p np => ⟨_, p, _, _, _, _, rfl, upd_same, .cons (.ty "list") (.cons (.ty "tuple") .nil), lst_ty (Ex.new np _ _ hF), kit_row (.list []), _, rfl, ?_⟩⟩
        have ep := Ex.new (o := .tup [.ty "list", .ty "tuple"]) np
        generalize upd H p (.tup [.ty "list", .ty "tuple"]) = H0 at ep ⊢
        refine ite_tt rfl ?_
        have sub : ∀ {S : List Addr} {H1 : Hp}, (∀ b ∈ S, b ∈ F0 :: l :: m :: (as ++ bs)) → Ex (cut H (F0 :: l :: m :: (as ++ bs))) H1 → Ex (cut H (F0 :: l :: m :: (as ++ bs))) (cut H1 S) := fun {S H1} hS e b o hb => by
          have n : b ∉ S := fun w => by
            rw [cut_in (hS b w)] at hb
            cases hb
          rw [cut_out n]
          exact e _ _ hb
        refine .inl ⟨_, rfl, F0, rfl, ⟨_, SqL.of (ep _ _ hF)⟩, for_list (a := F0) (xs := [V.ref l, .ref m]) (fun i σ H' => ∃ v1 v2, σ = [some (.ref F0), v1, v2] ∧ H' F0 = some (.lst [.ref l, .ref m]) ∧ (i = 0 → H' l = some (.lst (as.map V.ref)) ∧ ∀ a ∈ as, ∃ xs, H' a = some (.lst xs) ∧ ScL xs ∧ xs.length ≤ 10) ∧
            (i ≤ 1 → H' m = some (.lst (bs.map V.ref)) ∧ ∀ a ∈ bs, ∃ xs, H' a = some (.lst xs) ∧ ScL xs ∧ xs.length ≤ 10) ∧ Ex (cut H (F0 :: l :: m :: (as ++ bs))) H')
          ⟨none, none, rfl, ep _ _ hF, fun _ => ⟨ep _ _ hl, fun a ha => by obtain ⟨xs, h1, h2⟩ := hA a ha; exact ⟨xs, ep _ _ h1, h2⟩⟩, fun _ => ⟨ep _ _ hm, fun a ha => by obtain ⟨xs, h1, h2⟩ := hB a ha; exact ⟨xs, ep _ _ h1, h2⟩⟩, cut_ex.trans ep⟩ (fun i σ H' _ q => ?_) (fun i x σ H' hx q => ?_) (fun σ H' q => ?_)⟩
        · obtain ⟨v1, v2, rfl, q, _⟩ := q
          exact SqL.of q
        · obtain ⟨v1, v2, rfl, qF, ql, qm, e⟩ := q
          match i, hx with
          | 0, hx =>
            cases hx
            obtain ⟨ql1, ql2⟩ := ql rfl
            obtain ⟨qm1, qm2⟩ := qm (by decide)
            have at_ : ∀ {b : Addr} {o : HO}, b ≠ l → b ∉ as → H' b = some o → cut H' (l :: as) b = some o := fun {b o} n1 n2 h => by
              rw [cut_out fun w => (List.mem_cons.mp w).elim n1 n2]
              exact h
            refine gn1 ?_
            refine ⟨_, rfl, l, as, cut H' (l :: as), rfl, ql1, za, cut_ex, cut_in List.mem_cons_self, fun a ha => ⟨fun w => la (w ▸ ha), cut_in (List.mem_cons_of_mem _ ha), ql2 a ha⟩, fun H2 e2 => ⟨_, _, rfl, e2 _ _ (at_ Fl Fa qF), fun z => absurd z (by decide), fun _ => ⟨e2 _ _ (at_ (Ne.symm lm) ma qm1), fun a ha => ?_⟩, (sub (S := l :: as) (fun b hb => ?_) e).trans e2⟩⟩
            · obtain ⟨xs, h1, h2⟩ := qm2 a ha
              exact ⟨xs, e2 _ _ (at_ (fun w => lb (w ▸ ha)) (fun w => ab a w ha) h1), h2⟩
            · rcases List.mem_cons.mp hb with rfl | hb
              · simp
              · simp [hb]
          | 1, hx =>
            cases hx
            obtain ⟨qm1, qm2⟩ := qm (by decide)
            refine gn1 ?_
            refine ⟨_, rfl, m, bs, cut H' (m :: bs), rfl, qm1, zb, cut_ex, cut_in List.mem_cons_self, fun a ha => ⟨fun w => mb (w ▸ ha), cut_in (List.mem_cons_of_mem _ ha), qm2 a ha⟩, fun H2 e2 => ⟨_, _, rfl, e2 _ _ ?_, fun z => absurd z (by decide), fun z => absurd z (by decide), (sub (S := m :: bs) (fun b hb => ?_) e).trans e2⟩⟩
            · rw [cut_out fun w => (List.mem_cons.mp w).elim Fm Fb]
              exact qF
            · rcases List.mem_cons.mp hb with rfl | hb
              · simp
              · simp [hb]
          | i + 2, hx => cases hx
        · obtain ⟨v1, v2, rfl, qF, _, _, e⟩ := q
          exact fin qF (by show 2 < sizeLine; decide) fun _ => kq _ (e.mut (cut_in List.mem_cons_self))
      | k + 4, h => exact h.elim
end
end Ts


set_option Elab.async false
set_option linter.all false
set_option maxRecDepth 100000
set_option maxHeartbeats 4000000
/-! ## sum and sorted, of a list or a tuple of ints -/
namespace Ts
open PySem PySem.Spec PyProof.Rows L2 SrtO
open Evl (Ex)
section
variable {prog : Program} {w : World} {A : Around} {E : Value → Shared → Prop} {s : Shared} {t : Addr} {us : List Value}
theorem collect_row {Q : List Value → Shared → Prop} (ht : s.heap.IsTuple t us.toArray) (hz : us.length ≤ sizeLine) (q : Q us { s with heap := (s.heap.push (seqObj "list" #[] 0)).update s.heap.objs.size (Obj.mapSeq (· ++ us.toArray)) }) : wpAny (model prog w) A (collect (.ref t)) Q E s := by
  obtain ⟨ob, e1, e2, k, e3⟩ := id ht
  have e4 : (s.heap.push (seqObj "list" #[] 0)).get? t = some ob := Heap.get?_push_of_some _ e1
  have e5 : (s.heap.push (seqObj "list" #[] 0)).get? s.heap.objs.size = some (seqObj "list" #[] 0) := Heap.get?_push_size _ rfl
  unfold collect
  refine wpAny_bind <| wpAny_runValue <| codeAny_builtin entry_proto_collect' ?_
  show wpAny _ _ (do again (.builtin "list.__iadd__" ⟨[← newList [], .ref t], []⟩)) _ _ s
  refine wpAny_bind <| wpAny_newList <| wpAny_pure ⟨Code.quiet_builtin _ (by decide +kernel), codeAny_builtin entry_list_iadd' ?_⟩
  show wpAny _ _ (Builtin.List.listExtendWith (.ref s.heap.objs.size) (.ref t) (.ref s.heap.objs.size)) _ _ { s with heap := s.heap.push (seqObj "list" #[] 0) }
  unfold Builtin.List.listExtendWith
  refine wpAny_bind <| wpAny_typeOf (T := "tuple") ⟨ob, e4, e2⟩ ?_
  have g : (Value.type "tuple" == Value.type "tuple") = true := by rfl
  rw [if_pos (by rw [g]; simp)]
  refine wpAny_bind <| listItems_at e4 e3 ?_
  refine wpAny_bind <| listItems_at (xs := #[]) (n := 0) e5 rfl ?_
  rw [if_neg (by simp)]
  refine wpAny_bind <| listUpdate_at (xs := #[]) (n := 0) e5 rfl ?_ (Nat.zero_le _) (by show (#[] ++ us.toArray).size ≤ sizeLine + 1; simp only [Array.size_append, List.size_toArray, List.length_nil]; omega)
  refine wpAny_pure ?_
  show wpAny (model prog w) A (do match (← load s.heap.objs.size).data with
      | .seq zs _ => pure zs.toList
      | _ => unsupported "internal:collect") Q E { s with heap := (s.heap.push (seqObj "list" #[] 0)).update s.heap.objs.size (Obj.mapSeq (· ++ us.toArray)) }
  refine wpAny_bind <| wpAny_load (get?_update_seq e5 _) ?_
  show wpAny _ _ (pure ((#[] : Array Value) ++ us.toArray).toList) Q E _
  have e6 : ((#[] : Array Value) ++ us.toArray).toList = us := by simp
  rw [e6]
  exact wpAny_pure q
theorem sorted_row {ltv : Value → Value → Bool} {Q : Value → Shared → Prop} (O : Swo ltv) (ht : s.heap.IsTuple t us.toArray) (hz : us.length ≤ sizeLine)
    (hS : 2 ≤ us.length → ∀ (g : Heap) (a : Addr), SortableO prog w A.in1.in1 { s with heap := g } a us ltv)
    (q : ∀ out : List Value, Srtd ltv out → Stb ltv out us → Q (.ref (s.heap.objs.size + 1)) { s with heap := sortedAll s.heap us out.toArray }) : wpAny (model prog w) A (call (.builtin "sorted") [.ref t]) Q E s := by
  refine Calls.call_function_entry kind_sorted plain_sorted entry_sorted (args_sorted1 _) ?_
  unfold Builtin.«sorted»
  refine wpAny_bind (m := checkCount "sorted" 1 1 _) <| wpAny_pure ?_
  refine wpAny_bind <| collect_row ht hz ?_
  refine wpAny_bind <| wpAny_newList ?_ hz
  have n1 : ((s.heap.push (seqObj "list" #[] 0)).update s.heap.objs.size (Obj.mapSeq (· ++ us.toArray))).objs.size = s.heap.objs.size + 1 := (Heap.size_update ..).trans (size_push' ..)
  have n2 : (((s.heap.push (seqObj "list" #[] 0)).update s.heap.objs.size (Obj.mapSeq (· ++ us.toArray))).push (seqObj "list" us.toArray 0)).get? (s.heap.objs.size + 1) = some (seqObj "list" us.toArray 0) := n1 ▸ Heap.get?_push_size _ rfl
  show wpAny _ _ _ _ _ { s with heap := ((s.heap.push (seqObj "list" #[] 0)).update s.heap.objs.size (Obj.mapSeq (· ++ us.toArray))).push (seqObj "list" us.toArray 0) }
  rw [n1]
  refine wpAny_bind <| wpAny_holding <| wpAny_call_entry slot_list_sort ⟨_, n2, rfl⟩ entry_list_sort (list_sort_ord O n2 hz (fun h2 => hS h2 _ _) fun out hs hb => ⟨_, rfl, ?_⟩) (args_list_sort _)
  exact wpAny_pure ⟨_, rfl, q out hs hb⟩
end
section
variable {X : Cx}
/-- sorted(xs), ints in a list or a tuple -/
def rSortRow (K : PySem.W.Frag) : List V → Hp → VK → Prop := fun vs H Q => ∃ (a : Addr) (ns : List Int), vs = [V.ref a] ∧ (SqL K H a (ns.map V.int) ∨ SqT K H a (ns.map V.int)) ∧
  ∀ (ns' : List Int) (p : Addr), ns'.Perm ns → ns'.Pairwise (· ≤ ·) → H p = none → Q (.ref p) (upd H p (.lst (ns'.map V.int)))
theorem cr_sortedRow : CallR X (.builtin "sorted") (rSortRow X.K) := by
  intro pins s σ H vs us Q I r h
  obtain ⟨a, ns, rfl, hs | hs, q⟩ := h
  · exact cr_sortedI pins s σ H _ us Q I r ⟨a, ns, rfl, hs, q⟩
  obtain ⟨its, rv, hl, hz⟩ := I.tuple hs
  rw [Vals.ref1 r]
  have hi := rv.ints
  have l1 : its.length ≤ sizeLine := rv.length ▸ hz
  refine sorted_row swo_int hl l1 (fun h2 _ _ => ints_sortable hi h2) fun out h1 h2 => ?_
  obtain ⟨k1, k2, k3⟩ := ints_out hi h1 h2
  obtain ⟨ep, he⟩ := PyProof.Rows.sortedAll_at s.heap its out.toArray
  have l2 : ((out.map iv).map V.int).length ≤ sizeLine := by
    rw [List.length_map, k2.length_eq]
    exact (List.length_map (f := V.int) (as := ns)) ▸ hz
  refine ⟨V.ref (s.heap.objs.size + 1), _, I.laid (t' := s.toks) (o := .lst ((out.map iv).map V.int)) (fun _ _ => PyProof.Rows.sortedAll_old) (Nat.le_succ _) ⟨l2, out, ep, vals_of_ints k1, he⟩, rfl, ?_⟩
  exact q _ _ k2 k3 (I.hok.fresh (Nat.le_succ _))
/-- sum(xs), ints in a list or a tuple -/
def rSumRow (K : PySem.W.Frag) : List V → Hp → VK → Prop := fun vs H Q => ∃ (a : Addr) (ns : List Int), vs = [V.ref a] ∧ (SqL K H a (ns.map V.int) ∨ SqT K H a (ns.map V.int)) ∧ Q (.int ns.sum) H
theorem cr_sumRow (hc : X.calm = true) : CallR X (.builtin "sum") (rSumRow X.K) := by
  intro pins s σ H vs us Q I r h
  obtain ⟨a, ns, rfl, hs | hs, q⟩ := h
  · exact cr_sum hc pins s σ H _ us Q I r ⟨a, ns, rfl, hs, q⟩
  obtain ⟨its, rv, hl, _⟩ := I.tuple hs
  rw [Vals.ref1 r]
  have hi := rv.ints
  obtain ⟨xs, hx⟩ := hi.allInts.items
  have hn : numsOf its.toArray.toList = ns := hi.numsOf
  have hl : s.heap.IsTuple a its.toArray := hl
  rw [hx] at hl hn
  rw [nums_intItems] at hn
  refine PySem.W.ktm_sumG (I.ok.hd hc) hl fun h' tk t' hk => ?_
  have e : preSum (numAt xs) xs.size = ns.sum := by
    rw [preSum_eq, List.take_of_length_le (by simp), hn]
  rw [e]
  exact ⟨.int _, H, I.kept hk, ⟨_, rfl⟩, q⟩
end
end Ts


set_option Elab.async false
set_option linter.all false
set_option maxRecDepth 100000
set_option maxHeartbeats 4000000
namespace Ts
open PySem PySem.Spec L2 PyProof.Rows
open PySem.W (dataLe)
open Evl (Ex)
/-- the word of an option of so many heaps -/
def wordOf : Nat → Str
  | 0 => "none"
  | 1 => "one"
  | _ => "two"
/-- a rule leaves just this -/
def Way (r : Rl) (n : Int) (os : List Int) : Prop := V.str r.left = V.str (wordOf os.length) ∧ Leaves r n os.sum
def leavesB (r : Rl) (n x : Int) : Bool := decide (n % r.mod = r.rest) && decide (r.low ≤ n - x) && (match r.high with
  | none => true
  | some h => decide (n - x ≤ h))
theorem leavesB_iff {r : Rl} {n x : Int} : leavesB r n x = true ↔ Leaves r n x := by
  unfold leavesB Leaves
  rw [Bool.and_eq_true, Bool.and_eq_true, decide_eq_true_iff, decide_eq_true_iff, and_assoc]
  refine and_congr Iff.rfl (and_congr Iff.rfl ?_)
  cases r.high with
  | none => exact ⟨fun _ h z => (by cases z), fun _ => rfl⟩
  | some i => exact ⟨fun z h e => (by cases e; exact of_decide_eq_true z), fun z => decide_eq_true (z i rfl)⟩
def wayB (r : Rl) (n : Int) (os : List Int) : Bool := decide (V.str r.left = V.str (wordOf os.length)) && leavesB r n os.sum
theorem wayB_iff {r : Rl} {n : Int} {os : List Int} : wayB r n os = true ↔ Way r n os := by
  unfold wayB Way
  rw [Bool.and_eq_true, decide_eq_true_iff, leavesB_iff]
/-- the rules as the law sorts them -/
def lawSort (qs : List (Addr × Rl)) : List (Addr × Rl) := qs.mergeSort (dataLe false fun q => PyData.str q.2.aline)
theorem lawSort_perm (qs : List (Addr × Rl)) : (lawSort qs).Perm qs := List.mergeSort_perm _ _
section
variable {P : Program} {w : World} {K : PySem.W.Frag} {mg : Str → Option Value} {base : Heap}
abbrev s_word := top 60
abbrev s_ways := top 61
theorem sc_word : FnScope ["option"] ["option"] (defScope s_word) := ⟨rfl, rfl, rfl, by decide +kernel, rfl, by decide +kernel, by decide +kernel⟩
abbrev NW : List Str := ["raw", "heap", "option", "found", "number", "rule", "low", "high", "left", "rest", "modulus"]
theorem sc_ways : FnScope NW ["raw", "heap", "option"] (defScope s_ways) := ⟨rfl, rfl, rfl, by decide +kernel, rfl, by decide +kernel, by decide +kernel⟩
def spWord : Sp := fun vs H Q _ => ∃ (l : Addr) (xs : List V), vs = [.ref l] ∧ Row H l xs ∧ xs.length ≤ 2 ∧ ∀ H', Ex H H' → Q (.str (wordOf xs.length)) H'
theorem ok_word {f : Addr} {fd : FuncData} (F : FD K mg "_law_b_word" "_law_b_word" s_word f fd) (T : Bl mg) : FnOk P w K mg base CX0 1 f fd ["option"] spWord := by
  refine F.F.ok sc_word (fun vs H Q E h => ?_) (fun cdv A outer s H vs Q E hr h => ?_)
  · obtain ⟨l, xs, rfl, _⟩ := h
    rfl
  · obtain ⟨l, xs, rfl, hl, hz, k⟩ := h
    refine ⟨_, pss_one (ps_ret (pe_ix (r := rIx K) ix_seq (pe_lst (pa_cons pe_str (pa_cons pe_str (pa_cons pe_str pa_nil)))) (pe_callB (r := rLenS K) call_len_seq (by rfl) T.len PySem.boot_len (pa_cons (pv 0) pa_nil)) (fun _ _ => rfl))), ?_⟩
    refine ⟨by show 3 ≤ sizeLine; decide, fun z nz => ?_⟩
    have e := Ex.new (o := .lst [V.str "none", .str "one", .str "two"]) nz
    have hz' : upd H z (.lst [V.str "none", .str "one", .str "two"]) z = some (.lst [V.str "none", .str "one", .str "two"]) := upd_same
    generalize upd H z (.lst [V.str "none", .str "one", .str "two"]) = H1 at e hz' ⊢
    refine ⟨_, rfl, l, xs, rfl, (hl.ex e).imp (fun h => SqL.of h) (fun h => SqT.of h), ?_⟩
    refine ix_row (v := .str (wordOf xs.length)) (.inl hz') ?_ (k _ e)
    match xs, hz with
    | [], _ => rfl
    | [a], _ => rfl
    | [a, b], _ => rfl
theorem b_word {f : Addr} {fd : FuncData} (F : FD K mg "_law_b_word" "_law_b_word" s_word f fd) : Binds K fd ["option"] [] := F.F.binds fun _ _ _ _ _ _ us hl => match us, hl with | [_], _ => rfl
/-- the ways: pairs of a rule and a number -/
def WaysAt (H : Hp) (m : Int) (ts : List (Addr × (Addr × Rl))) : Prop := ∀ u ∈ ts, H u.1 = some (.tup [.ref u.2.1, .int m]) ∧ H u.2.1 = some (.tup u.2.2.vs)
def spWays : Sp := fun vs H Q _ => ∃ (b l : Addr) (qs : List (Addr × Rl)) (n : Int) (os : List Int), vs = [.ref b, .int n, .ref l] ∧ RsAt H b qs ∧ qs.length ≤ 100 ∧ RsGood qs ∧ Row H l (os.map V.int) ∧ os.length ≤ 2 ∧
  ∀ (M : Addr) H' (ts : List (Addr × (Addr × Rl))), H M = none → Ex H H' → H' M = some (.lst (ts.map fun u => V.ref u.1)) → WaysAt H' (n - os.sum) ts → ts.length ≤ 100 → (∀ u ∈ ts, RGood u.2.2) → (ts ≠ [] ↔ ∃ r ∈ qs.map (·.2), Way r n os) → ts.map (·.2) = (lawSort qs).filter (fun q => wayB q.2 n os) → Q (.ref M) H'
theorem ok_ways {f f1 fl : Addr} {fd fd1 fdl : FuncData} (F : FD K mg "_law_b_ways" "_law_b_ways" s_ways f fd) (T : Bl mg) (hsorted : mg "sorted" = none) (hsum : mg "sum" = none) (F_word : FD K mg "_law_b_word" "_law_b_word" s_word f1 fd1)
    (F_aline : FD K mg "_law_a_line" "_law_a_line" s_aline fl fdl) (G_aline : FnOk P w K mg base CX0 1 fl fdl ["rule"] spAline) : FnOk P w K mg base CX0 4 f fd ["raw", "heap", "option"] spWays := by
  have G_word : FnOk P w K mg base CX0 1 f1 fd1 ["option"] spWord := ok_word F_word T
  have b_word := b_word F_word
  have b_aline : Binds K fdl ["rule"] [] := F_aline.F.binds fun _ _ _ _ _ _ us hl => match us, hl with | [_], _ => rfl
  refine F.F.ok sc_ways (fun vs H Q E h => ?_) (fun cdv A outer s H vs Q E hr h => ?_)
  · obtain ⟨b, l, qs, n, os, rfl, _⟩ := h
    rfl
  · obtain ⟨b, l, qs, n, os, rfl, hb, hz, good, hl, oz, k⟩ := h
    have nd := sc_ways.nd
    have hr3 : Room (1 + 2) _ := hr
    refine ⟨_, (pss_cons (ps_par (i := 3) (j := 4) (by rfl) nd rfl rfl (by decide) rfl rfl (pa_cons (pe_lst pa_nil) (pa_cons (pe_op op_sub (pv 1) (pe_callB (r := rSumRow K) (cr_sumRow rfl) (by rfl) hsum (by decide +kernel) (pa_cons (pv 2) pa_nil))) pa_nil)) (by rfl))
      (pss_cons (ps_for PassesOwn.never rfl (pi_list (pe_callBK (cr_sortedBy G_aline hr3 b_aline) (by rfl) hsorted (by decide +kernel) (pa_cons (pv 0) pa_nil) (pk_cons (pe_glob (v := .ref fl) rfl F_aline.g rfl) pk_nil))) (pg_name (i := 5) nd rfl (Or.inl rfl))
        (pss_cons (ps_asg (pv 5) (pg_tup rfl (pgs_cons (pg_name (i := 6) nd rfl (Or.inl rfl)) (pgs_cons (pg_name (i := 7) nd rfl (Or.inl rfl)) (pgs_cons (pg_name (i := 8) nd rfl (Or.inl rfl)) (pgs_cons (pg_name (i := 9) nd rfl (Or.inl rfl)) (pgs_cons (pg_name (i := 10) nd rfl (Or.inl rfl)) pgs_nil)))))))
        (pss_one (ps_if (PW.pt (pw_and (pt_cmpR op_eq (pv 8) (pe_call G_word (hr.mono (by decide)) (by rfl) F_word.g F_word.F.kp b_word .nil pass0 (pa_cons (pv 2) pa_nil)) (nomark _)) (pw_and (pt_cmpR op_eq (pe_op op_mod (pe_callTy call_int1 (by rfl) T.int (by decide +kernel) (pa_cons (pv 1) pa_nil)) (pv 10)) (pv 9) (nomark _)) (pw_and1 (pt_cmpR op_le (pv 6) (pv 4) (nomark _))))))
          (pss_one (ps_expr (pe_bm PySem.F.plainAttrs_list PySem.F.slot_list_extend PySem.F.type_list_extend mt_extend (pv 3) (pa_cons (pe_ifExp (PW.pt (pw_or (pt_cmpR op_isN (pv 7) pe_non (nomark _)) (pw_or1 (pt_cmpR op_le (pv 4) (pv 7) (nomark _))))) (pe_lst (pa_cons (pe_tup (pa_cons (pv 5) (pa_cons (pv 4) pa_nil))) pa_nil)) (pe_lst pa_nil)) pa_nil)))) pss_nil))))
      (pss_one (ps_ret (pv 3))))), ?_⟩
    refine seq1 ⟨Nat.zero_le _, fun F0 nF => ⟨_, rfl, _, rfl, l, os, rfl, ?_, _, _, rfl, rfl, _, _, rfl, ?_⟩⟩
    · exact (hl.ex (Ex.new nF)).imp (fun h => SqL.of h) (fun h => SqT.of h)
    have eF := Ex.new (o := .lst []) nF
    have hF : upd H F0 (.lst []) F0 = some (.lst []) := upd_same
    generalize upd H F0 (.lst []) = H1 at eF hF ⊢
    dsimp only
    have hb1 : H1 b = some (.lst (qs.map fun q => V.ref q.1)) := eF _ _ hb.1
    have hq1 : ∀ q ∈ qs, H1 q.1 = some (.tup q.2.vs) := fun q m => eF _ _ (hb.2 q m)
    refine seq1 ⟨_, rfl, b, qs.map fun q => (V.ref q.1, q.2.aline), rfl, rfl, SqL.of (by rw [hb1, List.map_map]; rfl), fun p hp H'' e Q' kk => ?_, fun L H2 nL e2 hL => ?_⟩
    · obtain ⟨q, m, rfl⟩ := List.mem_map.mp hp
      exact ⟨q.1, q.2, rfl, .inr (e _ _ (hq1 q m)), (good.ok q m).sm, fun H4 e4 => kk H4 e4⟩
    have pm := lawSort_perm qs
    have hL : H2 L = some (.lst ((lawSort qs).map fun q => V.ref q.1)) := by
      rw [hL]
      have z := ms_map (fun q : Addr × Rl => (V.ref q.1, q.2.aline)) (fun p : V × Str => PyData.str p.2) qs
      rw [← z, List.map_map]
      rfl
    generalize hps0 : lawSort qs = ps at pm hL k
    have hps : ∀ q ∈ ps, H2 q.1 = some (.tup q.2.vs) ∧ RGood q.2 := fun q m => ⟨e2 _ _ (hq1 q (pm.mem_iff.mp m)), good.ok q (pm.mem_iff.mp m)⟩
    have lps : ps.length ≤ 100 := by rw [pm.length_eq]; exact hz
    have hl2 := (hl.ex eF).ex e2
    have e02 := eF.trans e2
    have hF2 := e2 _ _ hF
    have LF : L ≠ F0 := fun z => by
      rw [z, hF] at nL
      cases nL
    refine ⟨L, rfl, ⟨_, SqL.of hL⟩, for_list (K := K) (a := L) (xs := ps.map fun q => V.ref q.1) (fun i σ H' => ∃ (ts : List (Addr × (Addr × Rl))) (v5 v6 v7 v8 v9 v10 : Option V), σ = [some (.ref b), some (.int n), some (.ref l), some (.ref F0), some (.int (n - os.sum)), v5, v6, v7, v8, v9, v10] ∧ Ex H H' ∧ (∀ z o, z ≠ F0 → H2 z = some o → H' z = some o) ∧
        H' F0 = some (.lst (ts.map fun u => V.ref u.1)) ∧ WaysAt H' (n - os.sum) ts ∧ ts.length ≤ i ∧ (∀ u ∈ ts, RGood u.2.2) ∧ ts.map (·.2) = (ps.take i).filter (fun q => wayB q.2 n os))
      ⟨[], none, none, none, none, none, none, rfl, e02, fun _ _ _ h => h, hF2, (fun u hu => by cases hu), Nat.le_refl _, (fun u hu => by cases hu), by rw [List.take_zero]; rfl⟩ (fun i σ H' _ q => ?_) (fun i x σ H' hx q => ?_) (fun σ H' q => ?_)⟩
    · obtain ⟨ts, v5, v6, v7, v8, v9, v10, rfl, _, k2, _⟩ := q
      exact SqL.of (k2 _ _ LF hL)
    · obtain ⟨ts, v5, v6, v7, v8, v9, v10, rfl, eH, k2, hts, hW, lt, hG, hne⟩ := q
      rw [List.getElem?_map] at hx
      cases hq : ps[i]? with
      | none => rw [hq] at hx; cases hx
      | some q =>
        rw [hq] at hx
        cases hx
        have mq := List.mem_of_getElem? hq
        obtain ⟨hqt, hgd⟩ := hps q mq
        have nqF : q.1 ≠ F0 := fun z => by
          rw [z, hF2] at hqt
          cases hqt
        have hqt' := k2 _ _ nqF hqt
        have lF : l ≠ F0 := fun z => by
          rw [z] at hl
          rcases hl with hl | hl <;> rw [nF] at hl <;> cases hl
        have hl' : Row H' l (os.map V.int) := hl2.imp (fun h => k2 _ _ lF h) (fun h => k2 _ _ lF h)
        have lt2 : ts.length < 100 := by
          have := (List.getElem?_eq_some_iff.mp hq).1
          omega
        have htake : ∀ p : Addr × Rl → Prop, (∃ u ∈ ps.take (i + 1), p u) ↔ (∃ u ∈ ps.take i, p u) ∨ p q := fun p => by
          rw [List.take_add_one, hq]
          constructor
          · rintro ⟨u, hu, h⟩
            rcases List.mem_append.mp hu with hu | hu
            · exact .inl ⟨u, hu, h⟩
            · have hu : u = q := List.mem_singleton.mp hu
              exact .inr (hu ▸ h)
          · rintro (⟨u, hu, h⟩ | h)
            · exact ⟨u, List.mem_append_left _ hu, h⟩
            · exact ⟨q, List.mem_append_right _ (List.mem_singleton.mpr rfl), h⟩
        refine gn1 ?_
        dsimp only
        refine seq1 ⟨_, rfl, q.1, _, rfl, SqT.of hqt', rfl, _, _, rfl, _, _, rfl, _, _, rfl, _, _, rfl, _, _, rfl, rfl, ?_⟩
        dsimp only
        -- a turn that adds nothing
        have hno : ¬ Way q.2 n os → ∀ {H5 : Hp}, Ex H' H5 → ∃ (ts : List (Addr × (Addr × Rl))) (v5 v6 v7 v8 v9 v10 : Option V), [some (V.ref b), some (.int n), some (.ref l), some (.ref F0), some (.int (n - os.sum)), some (.ref q.1), some (.int q.2.low), some (hiV q.2.high), some (.str q.2.left), some (.int q.2.rest), some (.int q.2.mod)] = [some (V.ref b), some (.int n), some (.ref l), some (.ref F0), some (.int (n - os.sum)), v5, v6, v7, v8, v9, v10] ∧ Ex H H5 ∧ (∀ z o, z ≠ F0 → H2 z = some o → H5 z = some o) ∧
            H5 F0 = some (.lst (ts.map fun u => V.ref u.1)) ∧ WaysAt H5 (n - os.sum) ts ∧ ts.length ≤ i + 1 ∧ (∀ u ∈ ts, RGood u.2.2) ∧ ts.map (·.2) = (ps.take (i + 1)).filter (fun q => wayB q.2 n os) := fun hn H5 e =>
          ⟨ts, _, _, _, _, _, _, rfl, eH.trans e, fun z o h1 h2 => e _ _ (k2 z o h1 h2), e _ _ hts, fun u hu => ⟨e _ _ (hW u hu).1, e _ _ (hW u hu).2⟩, by omega, hG, by rw [hne, List.take_add_one, hq, List.filter_append]; show _ = _ ++ [q].filter _; rw [List.filter_cons, if_neg (fun z => hn (wayB_iff.mp z))]; exact (List.append_nil _).symm⟩
        refine ⟨_, rfl, _, rfl, l, os.map V.int, rfl, hl', by rw [List.length_map]; exact oz, fun H3 e3 => ⟨rfl, _, rfl, ?_⟩⟩
        rw [List.length_map]
        by_cases c1 : V.str q.2.left = V.str (wordOf os.length)
        · refine ite_tt (decide_eq_true c1) ?_
          have hmod : 0 < q.2.mod := by
            have h1 := hgd.ok.rest0
            have h2 := hgd.ok.rest1
            omega
          refine ⟨_, rfl, .inl ⟨n, rfl, _, rfl, _, _, rfl, rfl, hmod, _, rfl, rfl, _, rfl, ?_⟩⟩
          by_cases c2 : n % q.2.mod = q.2.rest
          · refine ite_tt (by rw [dec_z]; exact decide_eq_true c2) ⟨_, rfl, _, rfl, _, _, rfl, rfl, _, rfl, ?_⟩
            by_cases c3 : q.2.low ≤ n - os.sum
            · refine ite_tt (decide_eq_true c3) ?_
              have hF3 := e3 _ _ hts
              have st : [some (V.ref b), some (.int n), some (.ref l), some (.ref F0), some (.int (n - os.sum)), some (.ref q.1), some (.int q.2.low), some (hiV q.2.high), some (.str q.2.left), some (.int q.2.rest), some (.int q.2.mod)] = [some (V.ref b), some (.int n), some (.ref l), some (.ref F0), some (.int (n - os.sum)), some (.ref q.1), some (.int q.2.low), some (hiV q.2.high), some (.str q.2.left), some (.int q.2.rest), some (.int q.2.mod)] := rfl
              have yes : Way q.2 n os → ∀ (t D : Addr) (H5 : Hp), H3 t = none → H5 = upd H3 t (.tup [.ref q.1, .int (n - os.sum)]) → H5 D = none → ∃ (us : List (Addr × (Addr × Rl))), Ex H (upd (upd H5 D (.lst [V.ref t])) F0 (.lst ((ts.map fun u => V.ref u.1) ++ [V.ref t]))) ∧ (∀ z o, z ≠ F0 → H2 z = some o → upd (upd H5 D (.lst [V.ref t])) F0 (.lst ((ts.map fun u => V.ref u.1) ++ [V.ref t])) z = some o) ∧
                  upd (upd H5 D (.lst [V.ref t])) F0 (.lst ((ts.map fun u => V.ref u.1) ++ [V.ref t])) F0 = some (.lst (us.map fun u => V.ref u.1)) ∧ WaysAt (upd (upd H5 D (.lst [V.ref t])) F0 (.lst ((ts.map fun u => V.ref u.1) ++ [V.ref t]))) (n - os.sum) us ∧ us.length ≤ i + 1 ∧ (∀ u ∈ us, RGood u.2.2) ∧ us.map (·.2) = (ps.take (i + 1)).filter (fun q => wayB q.2 n os) := fun hw t D H5 nt e5 nD => by
                have f1 : Ex H3 H5 := by rw [e5]; exact Ex.new nt
                have f2 := Ex.new (o := .lst [V.ref t]) nD
                have ht : H5 t = some (.tup [.ref q.1, .int (n - os.sum)]) := by rw [e5]; exact upd_same
                have kp : ∀ {z : Addr} {o : HO}, z ≠ F0 → H3 z = some o → upd (upd H5 D (.lst [V.ref t])) F0 (.lst ((ts.map fun u => V.ref u.1) ++ [V.ref t])) z = some o := fun {z o} h1 h2 => by
                  rw [upd_ne h1]
                  exact f2 _ _ (f1 _ _ h2)
                have tF : t ≠ F0 := fun z => by
                  rw [z, hF3] at nt
                  cases nt
                refine ⟨ts ++ [(t, q)], (((eH.trans e3).trans f1).trans f2).mut nF, fun z o h1 h2 => kp h1 (e3 _ _ (k2 z o h1 h2)), by rw [upd_same, List.map_append]; rfl, fun u hu => ?_, by rw [List.length_append]; show ts.length + 1 ≤ _; omega, fun u hu => ?_, ?_⟩
                · rcases List.mem_append.mp hu with hu | hu
                  · obtain ⟨g1, g2⟩ := hW u hu
                    have n1 : u.1 ≠ F0 := fun z => by
                      rw [z, hts] at g1
                      cases g1
                    have n2 : u.2.1 ≠ F0 := fun z => by
                      rw [z, hts] at g2
                      cases g2
                    exact ⟨kp n1 (e3 _ _ g1), kp n2 (e3 _ _ g2)⟩
                  · rw [List.mem_singleton.mp hu]
                    exact ⟨by rw [upd_ne tF]; exact f2 _ _ ht, kp nqF (e3 _ _ hqt')⟩
                · rcases List.mem_append.mp hu with hu | hu
                  · exact hG u hu
                  · rw [List.mem_singleton.mp hu]
                    exact hgd
                · rw [List.map_append, hne, List.take_add_one, hq, List.filter_append]
                  show _ = _ ++ [q].filter _
                  rw [List.filter_cons, if_pos (wayB_iff.mpr hw)]
                  rfl
              have nope : ¬ Way q.2 n os → ∀ (D : Addr), H3 D = none → Ex H' (upd (upd H3 D (.lst [])) F0 (.lst ((ts.map fun u => V.ref u.1) ++ []))) := fun _ D nD z o hz => by
                by_cases c : z = F0
                · subst c
                  rw [upd_same, List.append_nil, ← hts]
                  exact hz
                · rw [upd_ne c]
                  exact Ex.new nD _ _ (e3 _ _ hz)
              have szy : ((ts.map fun u => V.ref u.1).length + 1) ≤ sizeLine := by
                rw [List.length_map]
                exact Nat.le_trans (show ts.length + 1 ≤ 101 by omega) (by decide)
              refine ⟨_, rfl, .inl ⟨rfl, _, SqL.of hF3⟩, _, rfl, rfl, _, rfl, ?_⟩
              cases hh : q.2.high with
              | none =>
                have hw : Way q.2 n os := ⟨c1, c2, c3, fun h z => by rw [hh] at z; cases z⟩
                refine ite_tt rfl (ite_tt rfl ⟨_, rfl, _, rfl, by show 2 ≤ sizeLine; decide, fun t nt => ⟨by show 1 ≤ sizeLine; decide, fun D nD => ?_⟩⟩)
                obtain ⟨us, g⟩ := yes hw t D _ nt rfl nD
                have f1 := Ex.new (o := .tup [.ref q.1, .int (n - os.sum)]) nt
                exact ⟨F0, D, _, _, rfl, rfl, Ex.new nD _ _ (f1 _ _ hF3), upd_same, szy, us, _, _, _, _, _, _, rfl, g⟩
              | some h =>
                refine ite_ff rfl ⟨_, rfl, _, rfl, _, _, rfl, rfl, _, rfl, ?_⟩
                by_cases c4 : n - os.sum ≤ h
                · have hw : Way q.2 n os := ⟨c1, c2, c3, fun h' z => by rw [hh] at z; cases z; exact c4⟩
                  refine ite_tt (decide_eq_true c4) ⟨_, rfl, _, rfl, by show 2 ≤ sizeLine; decide, fun t nt => ⟨by show 1 ≤ sizeLine; decide, fun D nD => ?_⟩⟩
                  obtain ⟨us, g⟩ := yes hw t D _ nt rfl nD
                  have f1 := Ex.new (o := .tup [.ref q.1, .int (n - os.sum)]) nt
                  exact ⟨F0, D, _, _, rfl, rfl, Ex.new nD _ _ (f1 _ _ hF3), upd_same, szy, us, _, _, _, _, _, _, rfl, g⟩
                · have hw : ¬ Way q.2 n os := fun z => c4 (z.2.2.2 h hh)
                  refine ite_ff (decide_eq_false c4) ⟨Nat.zero_le _, fun D nD => ?_⟩
                  refine ⟨F0, D, _, _, rfl, rfl, Ex.new nD _ _ hF3, upd_same, ?_, ?_⟩
                  · rw [List.length_map]
                    exact Nat.le_trans (show ts.length + 0 ≤ 101 by omega) (by decide)
                  · have z := hno hw (nope hw D nD)
                    rw [hh] at z
                    exact z
            · refine ite_ff (decide_eq_false c3) (hno (fun z => c3 ?_) e3)
              have := z.2.2.1
              omega
          · exact ite_ff (by rw [dec_z]; exact decide_eq_false c2) (ite_ff rfl (hno (fun z => c2 z.2.1) e3))
        · exact ite_ff (decide_eq_false c1) (ite_ff rfl (hno (fun z => c1 z.1) e3))
    · obtain ⟨ts, v5, v6, v7, v8, v9, v10, rfl, eH, k2, hts, hW, lt, hG, hne⟩ := q
      rw [List.length_map, List.take_length] at hne
      rw [List.length_map] at lt
      refine ⟨_, rfl, k F0 H' ts nF eH hts hW (by omega) hG ⟨fun z => ?_, fun ⟨r, hr', h⟩ z => ?_⟩ hne⟩
      · cases ts with
        | nil => exact absurd rfl z
        | cons u ts =>
          have hu : u.2 ∈ ps.filter (fun q => wayB q.2 n os) := by rw [← hne]; exact .head _
          obtain ⟨h1, h2⟩ := List.mem_filter.mp hu
          exact ⟨u.2.2, List.mem_map.mpr ⟨u.2, pm.mem_iff.mp h1, rfl⟩, wayB_iff.mp h2⟩
      · obtain ⟨q, hq, rfl⟩ := List.mem_map.mp hr'
        have hu : q ∈ ps.filter (fun q => wayB q.2 n os) := List.mem_filter.mpr ⟨pm.mem_iff.mpr hq, wayB_iff.mpr h⟩
        rw [← hne, z] at hu
        cases hu
end
end Ts


set_option Elab.async false
set_option linter.all false
set_option maxRecDepth 100000
set_option maxHeartbeats 4000000
namespace Ts
open PySem PySem.Spec L2 PyProof.Rows
open Evl (Ex)
theorem depth_rule (r : Rl) : PyData.depth r.d = PyData.depth (.tuple [.none]) := by
  obtain ⟨a, b, c, d, e⟩ := r
  cases b <;> rfl
theorem left_of {r : Rl} (h : r.Ok) : r.left = "none" ∨ r.left = "one" ∨ r.left = "two" := by
  have z := h.left
  unfold inV lefts at z
  rw [List.any_eq_true] at z
  obtain ⟨y, hy, e⟩ := z
  rcases List.mem_cons.mp hy with rfl | hy
  · exact .inl (eq_of_beq (show (("none" : Str) == r.left) = true from e)).symm
  · rcases List.mem_cons.mp hy with rfl | hy
    · exact .inr (.inl (eq_of_beq (show (("one" : Str) == r.left) = true from e)).symm)
    · rw [List.mem_singleton.mp hy] at e
      exact .inr (.inr (eq_of_beq (show (("two" : Str) == r.left) = true from e)).symm)
theorem lay_rule {r : Rl} (h : r.Ok) : PyData.canLay0 r.d = true := by
  have s : PyData.canLay0 (.str r.left) = true := by
    rcases left_of h with z | z | z <;> (rw [z]; decide +kernel)
  have e : r.d = .tuple [.int r.low, hiD r.high, .str r.left, .int r.rest, .int r.mod] := rfl
  rw [e]
  simp only [PyData.canLay0] at s
  cases r.high <;> simp [PyData.canLay0, PyData.canLayAll0, hiD, s]
theorem dp_rl {K : PySem.W.Frag} {H : Hp} {p : Addr} {r : Rl} (h : H p = some (.tup r.vs)) : Dp K H (.ref p) r.d := by
  refine .tup (SqT.of h) (.cons (.int _) (.cons ?_ (.cons (.str _) (.cons (.int _) (.cons (.int _) .nil)))))
  cases r.high with
  | none => exact .non
  | some i => exact .int _
def wayD (m : Int) (u : Addr × (Addr × Rl)) : PyData := .tuple [u.2.2.d, .int m]
theorem ways_dp {K : PySem.W.Frag} {H : Hp} {m : Int} : ∀ {ts : List (Addr × (Addr × Rl))}, WaysAt H m ts → DpAll K H (ts.map fun u => V.ref u.1) (ts.map (wayD m))
  | [], _ => .nil
  | u :: ts, h => .cons (.tup (SqT.of (h u List.mem_cons_self).1) (.cons (dp_rl (h u List.mem_cons_self).2) (.cons (.int _) .nil))) (ways_dp fun x hx => h x (List.mem_cons_of_mem _ hx))
theorem ways_shaped (m : Int) (ts : List (Addr × (Addr × Rl))) (hg : ∀ u ∈ ts, RGood u.2.2) : SeqAt.shaped (.list (ts.map (wayD m))) = true := by
  have z : ∀ ts : List (Addr × (Addr × Rl)), (∀ u ∈ ts, RGood u.2.2) → PyData.canLayAll0 (ts.map (wayD m)) = true ∧ PyData.depthAll (ts.map (wayD m)) ≤ 20 := by
    intro ts hg
    induction ts with
    | nil => exact ⟨rfl, by show 0 ≤ 20; decide⟩
    | cons u ts ih =>
      obtain ⟨h1, h2⟩ := ih fun x hx => hg x (List.mem_cons_of_mem _ hx)
      refine ⟨?_, ?_⟩
      · show ((PyData.canLay0 u.2.2.d && true) && PyData.canLayAll0 (ts.map (wayD m))) = true
        rw [lay_rule (hg u List.mem_cons_self).ok, h1]
        rfl
      · show max (max (PyData.depth u.2.2.d) (max 0 0) + 1) (PyData.depthAll (ts.map (wayD m))) ≤ 20
        rw [depth_rule]
        exact Nat.max_le.mpr ⟨by decide, h2⟩
  obtain ⟨h1, h2⟩ := z ts hg
  unfold SeqAt.shaped
  rw [Bool.and_eq_true]
  refine ⟨h1, decide_eq_true ?_⟩
  show PyData.depthAll (ts.map (wayD m)) + 1 ≤ 64
  omega
theorem dall_ints {H : Hp} : ∀ {os : List Int} {xs : List V}, DAll H xs (os.map PyData.int) → xs = os.map V.int
  | [], _, h => by
    cases h
    rfl
  | o :: os, _, h => by
    cases h with
    | cons h3 h4 =>
      cases h3
      rw [dall_ints h4]
      rfl
theorem ints_inj : ∀ {a b : List Int}, a.map PyData.int = b.map PyData.int → a = b
  | [], [], _ => rfl
  | [], _ :: _, h => by cases h
  | _ :: _, [], h => by cases h
  | x :: a, y :: b, h => by
    have h1 := PyData.int.inj (List.head_eq_of_cons_eq h)
    rw [h1, ints_inj (List.tail_eq_of_cons_eq h)]
/-- a whole number from 1 on -/
def isPos : PyData → Bool
  | .int i => decide (0 < i)
  | _ => false
/-- what is at most two whole numbers from 1 on -/
def TwoP (d : PyData) (os : List Int) : Prop := items d = os.map .int ∧ os.length ≤ 2 ∧ ∀ x ∈ os, 1 ≤ x
theorem pos_all : ∀ {ds : List PyData}, ds.all isPos = true → ∃ os : List Int, ds = os.map .int ∧ ∀ x ∈ os, 1 ≤ x
  | [], _ => ⟨[], rfl, fun x h => by cases h⟩
  | d :: ds, h => by
    rw [List.all_cons, Bool.and_eq_true] at h
    obtain ⟨os, e, hp⟩ := pos_all h.2
    cases d <;> first
      | (cases h.1; done)
      | skip
    rename_i i
    have hi : 0 < i := of_decide_eq_true h.1
    refine ⟨i :: os, by rw [e]; rfl, fun x hx => ?_⟩
    rcases List.mem_cons.mp hx with rfl | hx
    · omega
    · exact hp x hx
theorem all_pos {os : List Int} (h : ∀ x ∈ os, 1 ≤ x) : (os.map PyData.int).all isPos = true := by
  rw [List.all_map, List.all_eq_true]
  intro x hx
  have := h x hx
  exact decide_eq_true (show 0 < x by omega)
section
variable {P : Program} {w : World} {K : PySem.W.Frag} {mg : Str → Option Value} {base : Heap}
abbrev s_asopt := top 62
abbrev NA : List Str := ["raw", "heap", "thing", "one"]
theorem sc_asopt : FnScope NA ["raw", "heap", "thing"] (defScope s_asopt) := ⟨rfl, rfl, rfl, by decide +kernel, rfl, by decide +kernel, by decide +kernel⟩
def spAsopt : Sp := fun vs H Q _ => ∃ (b : Addr) (qs : List (Addr × Rl)) (n : Int) (v : V) (d : PyData), vs = [.ref b, .int n, v] ∧ RsAt H b qs ∧ qs.length ≤ 100 ∧ RsGood qs ∧ D H v d ∧ (items d).length ≤ 1000 ∧
  ((isRow d = false ∨ ¬ ∃ os, TwoP d os ∧ ∃ r ∈ qs.map (·.2), Way r n os) → ∀ H', Ex H H' → Q .non H') ∧
  ∀ (os os' : List Int) (L : Addr) (H' : Hp), isRow d = true → TwoP d os → (∃ r ∈ qs.map (·.2), Way r n os) → Ex H H' → H L = none → H' L = some (.lst (os'.map V.int)) → os'.Perm os → os'.Pairwise (· ≤ ·) → Q (.ref L) H'
theorem ok_asopt {f f1 : Addr} {fd fd1 : FuncData} (F : FD K mg "_law_b_as_option" "_law_b_as_option" s_asopt f fd) (T : Bl mg) (hsorted : mg "sorted" = none)
    (F_ways : FD K mg "_law_b_ways" "_law_b_ways" s_ways f1 fd1) (G_ways : FnOk P w K mg base CX0 4 f1 fd1 ["raw", "heap", "option"] spWays) : FnOk P w K mg base CX0 5 f fd ["raw", "heap", "thing"] spAsopt := by
  have b_ways : Binds K fd1 ["raw", "heap", "option"] [] := F_ways.F.binds fun _ _ _ _ _ _ us hl => match us, hl with | [_, _, _], _ => rfl
  refine F.F.ok sc_asopt (fun vs H Q E h => ?_) (fun cdv A outer s H vs Q E hr h => ?_)
  · obtain ⟨b, qs, n, v, d, rfl, _⟩ := h
    rfl
  · obtain ⟨b, qs, n, v, d, rfl, hb, hz, good, hd, dz, k1, k2⟩ := h
    have nd := sc_asopt.nd
    have hu64 := Nat.lt_of_le_of_lt (Nat.add_le_add_left (by decide : 64 ≤ 64) _) hr.units
    refine ⟨_, (pss_cons (ps_if (PW.pt (pw_or (pt_not (pt_val (pe_callB call_isiT (by rfl) T.isinstance (by decide +kernel) (pa_cons (pv 2) (pa_cons (pe_tup (pa_cons (pe_bltn (v := .ty "list") (by rfl) T.list PyProof.Rows.boot_list rfl) (pa_cons (pe_bltn (v := .ty "tuple") (by rfl) T.tuple PyProof.Rows.boot_tuple rfl) pa_nil))) pa_nil))))) (pw_or1 (pt_cmpR op_gt (pe_callB (r := rLenS K) call_len_seq (by rfl) T.len PySem.boot_len (pa_cons (pv 2) pa_nil)) pe_int (nomark _))))) (pss_one (ps_ret pe_non)) pss_nil)
      (pss_cons (ps_if (pt_not (pt_val (pe_callB (cr_all rfl) (by rfl) T.all (by decide +kernel) (pa_cons (pe_lc (own := [("one", 3)]) (g := gName 3) (tt := tYes) rfl nd (pi_or (pi_list (pv 2)) (pi_tup (pv 2))) (blkOk_by (N := NA) (sc := defScope s_asopt) (by decide +kernel)) (fun _ _ _ _ _ => pg_name (i := 3) nd rfl (Or.inl rfl)) (fun _ _ _ _ _ => pts_nil)
          (fun _ _ _ _ _ => pe_and (pe_callB (r := rIsi K) call_isi (by rfl) T.isinstance (by decide +kernel) (pa_cons (pv 3) (pa_cons (pe_bltn (v := .ty "int") (by rfl) T.int PyProof.Rows.boot_int rfl) pa_nil))) (pe_and (pe_not (pe_callB (r := rIsi K) call_isi (by rfl) T.isinstance (by decide +kernel) (pa_cons (pv 3) (pa_cons (pe_bltn (v := .ty "bool") (by rfl) T.bool (by decide +kernel) rfl) pa_nil)))) (pe_one (pe_cmpR op_gt (pv 3) pe_int (nomark _)))))) pa_nil)))) (pss_one (ps_ret pe_non)) pss_nil)
      (pss_one (ps_ret (pe_ifExp (pt_cmpR (op_neD hu64) (pe_call G_ways (hr.mono (by decide)) (by rfl) F_ways.g F_ways.F.kp b_ways .nil pass0 (pa_cons (pv 0) (pa_cons (pv 1) (pa_cons (pv 2) pa_nil)))) (pe_lst pa_nil) (nomark _)) (pe_callB (r := rSortRow K) cr_sortedRow (by rfl) hsorted (by decide +kernel) (pa_cons (pv 2) pa_nil)) pe_non))))), ?_⟩
    refine seq1 ⟨_, rfl, by show 2 ≤ sizeLine; decide, fun p np => ⟨_, p, _, _, _, _, rfl, upd_same, .cons (.ty "list") (.cons (.ty "tuple") .nil), (hd.ex (Ex.new np)).ty, kit_row d, _, rfl, ?_⟩⟩
    have ep := Ex.new (o := .tup [.ty "list", .ty "tuple"]) np
    generalize upd H p (.tup [.ty "list", .ty "tuple"]) = H0 at ep ⊢
    by_cases hrow : isRow d = true
    case neg =>
      have hf : isRow d = false := by simpa using hrow
      rw [hf]
      exact ite_tt rfl (k1 (.inl hf) _ ep)
    obtain ⟨l, xs, rfl, hl, hall⟩ := hd.row hrow
    rw [hrow]
    refine iteF ⟨_, rfl, l, xs, rfl, (hl.ex ep).imp (fun h => SqL.of h) (fun h => SqT.of h), _, _, rfl, rfl, _, rfl, ?_⟩
    by_cases c1 : (items d).length ≤ 2
    · refine ite_ff (decide_eq_false (by rw [hall.len]; omega)) (next1 ?_)
      dsimp only
      refine seq1 ?_
      refine tcb1 (r := rAll K) ?_
      refine lc_row (out := fun j => V.bl (isPos ((items d).getD j .none))) (by rfl) (hl.ex ep) (by rw [hall.len]; exact Nat.le_trans c1 (by decide)) (fun j x H2 hx e2 => ?_) (fun x H q q' z => g_name_mono z) (fun Dd Hf _ e3 hD => ?_)
      · refine ⟨rfl, Ex.refl _, fun q hq => ?_⟩
        obtain ⟨dx, hdx, hx'⟩ := hall.get hx
        have Dx := hx'.ex (ep.trans e2)
        have z := hq H2 (Ex.refl _)
        rw [getD_of hdx] at z
        refine ⟨_, rfl, _, _, _, _, _, rfl, .ty "int", Dx.ty, kit_int dx, _, rfl, ?_⟩
        cases dx with
        | int i =>
          obtain rfl : x = .int i := by cases Dx; rfl
          exact iteT ⟨_, rfl, _, _, _, _, _, rfl, .ty "bool", Dx.ty, kit_bool _, _, rfl, _, rfl, iteT ⟨_, rfl, _, _, rfl, rfl, z⟩⟩
        | bool c => exact iteT ⟨_, rfl, _, _, _, _, _, rfl, .ty "bool", Dx.ty, kit_bool _, _, rfl, _, rfl, iteF z⟩
        | _ => exact iteF z
      · refine ⟨Dd, (items d).map isPos, rfl, SqL.of ?_, _, rfl, ?_⟩
        · rw [hD, hall.len, List.map_map, ← map_getD (V.bl ∘ isPos) PyData.none (items d)]
          rfl
        rw [all_id]
        have e03 := ep.trans e3
        by_cases c2 : (items d).all isPos = true
        · rw [c2]
          obtain ⟨os, he, hp⟩ := pos_all c2
          have tw : TwoP d os := ⟨he, by rw [he, List.length_map] at c1; exact c1, hp⟩
          have hxs : xs = os.map V.int := dall_ints (by have h2 := hall; rw [he] at h2; exact h2)
          subst hxs
          refine iteF (next1 ?_)
          dsimp only
          have hl3 := hl.ex e03
          refine ⟨_, rfl, _, rfl, _, rfl, b, l, qs, n, os, rfl, ⟨e03 _ _ hb.1, fun q m => e03 _ _ (hb.2 q m)⟩, hz, good, hl3, tw.2.1, fun M H4 ts nM e4 hM hW lts hG hne _ => ⟨Nat.zero_le _, fun z nz => ?_⟩⟩
          have e5 := Ex.new (o := .lst []) nz
          refine ⟨.list (ts.map (wayD (n - os.sum))), .list [], .lst (SqL.of (e5 _ _ hM)) (ways_dp fun u hu => ⟨e5 _ _ (hW u hu).1, e5 _ _ (hW u hu).2⟩), .lst (SqL.of upd_same) .nil, ways_shaped _ _ hG, by decide +kernel, _, rfl, ?_⟩
          have ev : (!PyData.eqv (.list (ts.map (wayD (n - os.sum)))) (.list [])) = decide (ts ≠ []) := by
            cases ts with
            | nil => rfl
            | cons u ts => rfl
          rw [ev]
          by_cases c3 : ts = []
          · refine ite_ff (decide_eq_false fun z => z c3) (k1 (.inr fun ⟨os', tw', hr'⟩ => ?_) _ ((e03.trans e4).trans e5))
            have eo : os' = os := ints_inj (tw'.1.symm.trans he)
            rw [eo] at hr'
            exact hne.mpr hr' c3
          · refine ite_tt (decide_eq_true c3) ⟨_, rfl, l, os, rfl, ((hl3.ex e4).ex e5).imp (fun h => SqL.of h) (fun h => SqT.of h), fun os' p2 pm asc np => ?_⟩
            exact k2 os os' p2 _ hrow tw (hne.mp c3) (((e03.trans e4).trans e5).trans (Ex.new np)) (Evl.fresh_back ((e03.trans e4).trans e5) np) upd_same pm asc
        · have hf : (items d).all isPos = false := by simpa using c2
          rw [hf]
          refine iteT (k1 (.inr fun ⟨os, ⟨he, _, hp⟩, _⟩ => ?_) _ e03)
          rw [he, all_pos hp] at hf
          cases hf
    · refine ite_tt (decide_eq_true (by rw [hall.len]; omega)) ?_
      exact k1 (.inr fun ⟨os, ⟨e, h2, _⟩, _⟩ => c1 (by rw [e, List.length_map]; exact h2)) _ ep
end
end Ts


set_option Elab.async false
set_option linter.all false
set_option maxRecDepth 100000
set_option maxHeartbeats 4000000
namespace Ts
open PySem PySem.Spec L2
open Evl (Ex)
/-- at most two heaps, however they stand, that the rules leave -/
def IsO (rs : List Rl) (n : Int) (d : PyData) : Prop := isHps d = true ∧ ∀ os os' : List Int, items d = os.map .int → os'.Perm os → os'.Pairwise (· ≤ ·) → AOpt rs n os'
theorem hps_two {d : PyData} (h : isHps d = true) : isRow d = true ∧ (items d).length ≤ 2 ∧ ∃ os : List Int, items d = os.map .int ∧ ∀ x ∈ os, 1 ≤ x := by
  unfold isHps at h
  rw [Bool.and_eq_true, Bool.and_eq_true] at h
  obtain ⟨h1, h2, h3⟩ := h
  refine ⟨h1, of_decide_eq_true h2, pos_all ?_⟩
  rw [List.all_eq_true] at h3 ⊢
  intro x hx
  have z := h3 x hx
  cases x <;> first
    | (cases z; done)
    | skip
  rename_i i
  have z : (decide (1 ≤ i) && decide (i ≤ 1000000000000000000)) = true := z
  rw [Bool.and_eq_true] at z
  have := of_decide_eq_true z.1
  exact decide_eq_true (by omega)
section
variable {P : Program} {w : World} {K : PySem.W.Frag} {mg : Str → Option Value} {base : Heap}
abbrev s_lof := top 38
abbrev s_isopt := top 39
theorem sc_lof : FnScope ["book", "heap"] ["book", "heap"] (defScope s_lof) := ⟨rfl, rfl, rfl, by decide +kernel, rfl, by decide +kernel, by decide +kernel⟩
theorem sc_isopt : FnScope ["book", "heap", "thing", "left"] ["book", "heap", "thing"] (defScope s_isopt) := ⟨rfl, rfl, rfl, by decide +kernel, rfl, by decide +kernel, by decide +kernel⟩
/-- a book and a heap, or which is none -/
def BkHp (CK CB CH : Addr) (v u : V) (H : Hp) (E : XK) (k : List Rl → Int → Prop) : Prop :=
  (((∃ d, D H v d) ∨ ExAt CB H v) ∧ ∀ H', Ex H H' → Raised H' "thing" v CB E) ∨ ∃ (b : Addr) (rs : List Rl) (d : PyData), v = .ref b ∧ BookAt CK H b rs ∧ rs.length ≤ 1000 ∧ (∀ r ∈ rs, 0 < r.mod) ∧ D H u d ∧ (isHp d = false → ∀ H', Ex H H' → Raised H' "thing" u CH E) ∧ ∀ n, d = .int n → isHp d = true → k rs n
def spLof (C CK CB CH : Addr) : Sp := fun vs H Q E => ∃ v u, vs = [v, u] ∧ BkHp CK CB CH v u H E fun rs n => ∀ p H', H p = none → Ex H H' → LvAt C H' p rs n → Q (.ref p) H'
theorem ok_lof {f f1 f2 fI fL fH C CK CB CH fBI fBR : Addr} {fd fd1 fd2 fdI : FuncData} (F : FD K mg "leavings_of" "leavings_of" s_lof f fd) (LC : LvC K mg C fI fL fH) (F_nb : FD K mg "need_book" "need_book" s_need_book f1 fd1) (G_nb : FnOk P w K mg base (L2.CX P w) 3 f1 fd1 ["thing"] (spNeedB CK CB))
    (F_nh : FD K mg "need_heap" "need_heap" s_need_heap f2 fd2) (G_nh : FnOk P w K mg base (L2.CX P w) 3 f2 fd2 ["thing"] (spNeed isHp CH)) (F_I : Fun K "__init__" "Leavings.__init__" s_linit fI fdI) (G_I : FnOk P w K mg base CX0 4 fI fdI ["self", "book", "heap"] (spLinit C CK)) :
    FnOk P w K mg base (L2.CX P w) 6 f fd ["book", "heap"] (spLof C CK CB CH) := by
  have b_nb : Binds K fd1 ["thing"] [] := F_nb.F.binds fun _ _ _ _ _ _ us hl => match us, hl with | [_], _ => rfl
  have b_nh : Binds K fd2 ["thing"] [] := F_nh.F.binds fun _ _ _ _ _ _ us hl => match us, hl with | [_], _ => rfl
  have b_I : Binds K fdI ["self", "book", "heap"] [] := F_I.binds fun _ _ _ _ _ _ us hl => match us, hl with | [_, _, _], _ => rfl
  refine F.F.okX sc_lof (fun vs H Q E h => ?_) (fun cdv A outer s H vs Q E hr h => ?_)
  · obtain ⟨v, u, rfl, _⟩ := h
    rfl
  · obtain ⟨v, u, rfl, h⟩ := h
    refine ⟨_, (pss_cons (ps_expr (pe_call G_nb (hr.mono (by decide)) (by rfl) F_nb.g F_nb.F.kp b_nb .nil (passes_call (takes_of rfl rfl rfl rfl) (fun _ _ _ _ h => h)) (pa_cons (pv 0) pa_nil)))
      (pss_cons (ps_expr (pe_call G_nh (hr.mono (by decide)) (by rfl) F_nh.g F_nh.F.kp b_nh .nil (passes_call (takes_of rfl rfl rfl rfl) (fun _ _ _ _ h => h)) (pa_cons (pv 1) pa_nil)))
      (pss_one (ps_ret (pe_make LC.made G_I (hr.mono (by decide)) (by rfl) LC.gC b_I .nil pass0 (pa_cons (pv 0) (pa_cons (pv 1) pa_nil))))))), ?_⟩
    rcases h with ⟨hd, k1⟩ | ⟨b, rs, d, rfl, hb, hz, hm, hd, k2, k3⟩
    · exact seq1 ⟨_, rfl, v, rfl, .inr ⟨hd, k1⟩⟩
    · obtain ⟨dx, L, qs, hb1, _⟩ := id hb
      refine seq1 ⟨_, rfl, _, rfl, .inl ⟨b, dx, _, rfl, hb1, fun H1 e1 => ?_⟩⟩
      dsimp only
      refine seq1 ⟨_, rfl, u, d, rfl, hd.ex e1, fun hp H2 e2 => ?_, fun hp H2 e2 => k2 hp H2 (e1.trans e2)⟩
      dsimp only
      obtain ⟨n, rfl⟩ : ∃ n, d = .int n := by
        cases d <;> first
          | exact ⟨_, rfl⟩
          | cases hp
      obtain rfl := hd.int_of
      refine ⟨_, rfl, _, rfl, fun p dp np ndp hne => ?_⟩
      have np' : upd H2 dp (.own p) p = none := by rw [upd_ne hne.symm]; exact np
      have e3 := (Ex.new (o := .own p) ndp).trans (Ex.new (o := .ins C dp []) np')
      have hdel : Ex H2 (del (upd (upd H2 dp (.own p)) p (.ins C dp [])) p) := fun z o hz => by
        have n1 : z ≠ p := fun w => by
          rw [w, np] at hz
          cases hz
        rw [del_ne n1]
        exact e3 _ _ hz
      refine ⟨p, dp, b, rs, n, rfl, upd_same, (hb.ex (e1.trans e2)).ex hdel, hz, hm, fun H4 e4 hLv => ⟨rfl, ?_⟩⟩
      exact k3 n rfl hp p H4 (Evl.fresh_back (e1.trans e2) np) ((e1.trans e2).trans (hdel.trans e4)) hLv
def spIsopt (CK CB CH : Addr) : Sp := fun vs H Q E => ∃ v u x dx, vs = [v, u, x] ∧ D H x dx ∧ BkHp CK CB CH v u H E fun rs n => ∀ (b : Bool) H', Ex H H' → (b = true ↔ IsO rs n dx) → Q (.bl b) H'
theorem ok_isopt {f f1 f2 fI fL fH C CK CB CH : Addr} {fd fd1 fd2 fdH : FuncData} (F : FD K mg "is_option" "is_option" s_isopt f fd) (LC : LvC K mg C fI fL fH) (hsorted : mg "sorted" = none) (F_lof : FD K mg "leavings_of" "leavings_of" s_lof f1 fd1) (G_lof : FnOk P w K mg base (L2.CX P w) 6 f1 fd1 ["book", "heap"] (spLof C CK CB CH))
    (F_hps : FD K mg "is_heaps" "is_heaps" s_is_heaps f2 fd2) (G_hps : FnOk P w K mg base CX0 3 f2 fd2 ["thing"] (spAsk isHps)) (F_H : Fun K "has" "Leavings.has" s_has fH fdH) (G_H : FnOk P w K mg base CX0 2 fH fdH ["self", "option"] (spHas C)) : FnOk P w K mg base (L2.CX P w) 7 f fd ["book", "heap", "thing"] (spIsopt CK CB CH) := by
  have b_lof : Binds K fd1 ["book", "heap"] [] := F_lof.F.binds fun _ _ _ _ _ _ us hl => match us, hl with | [_, _], _ => rfl
  have b_hps : Binds K fd2 ["thing"] [] := F_hps.F.binds fun _ _ _ _ _ _ us hl => match us, hl with | [_], _ => rfl
  have b_H : Binds K fdH ["self", "option"] [] := F_H.binds fun _ _ _ _ _ _ us hl => match us, hl with | [_, _], _ => rfl
  refine F.F.okX sc_isopt (fun vs H Q E h => ?_) (fun cdv A outer s H vs Q E hr h => ?_)
  · obtain ⟨v, u, x, dx, rfl, _⟩ := h
    rfl
  · obtain ⟨v, u, x, dx, rfl, hx, h⟩ := h
    have nd := sc_isopt.nd
    refine ⟨_, (pss_cons (ps_set (i := 3) nd rfl (Or.inl rfl) (pe_call G_lof (hr.mono (by decide)) (by rfl) F_lof.g F_lof.F.kp b_lof .nil (passes_call (takes_of rfl rfl rfl rfl) (fun _ _ _ _ h => h)) (pa_cons (pv 0) (pa_cons (pv 1) pa_nil))))
      (pss_one (ps_ret (pe_and (pe_call G_hps (hr.mono (by decide)) (by rfl) F_hps.g F_hps.F.kp b_hps .nil pass0 (pa_cons (pv 2) pa_nil)) (pe_one (pe_meth (pv 3) LC.cl LC.mH G_H (hr.mono (by decide)) b_H .nil pass0 (pa_cons (pe_callB (r := rSortRow K) cr_sortedRow (by rfl) hsorted (by decide +kernel) (pa_cons (pv 2) pa_nil)) pa_nil))))))), ?_⟩
    refine seq1 (asg1 ⟨_, rfl, _, rfl, v, u, rfl, ?_⟩)
    rcases h with h | ⟨b, rs, d, hv, hb, hz, hm, hd, k2, k3⟩
    · exact .inl h
    · refine .inr ⟨b, rs, d, hv, hb, hz, hm, hd, k2, fun n e hp p H' np e' hLv => ?_⟩
      have k := k3 n e hp
      refine gn1 ?_
      dsimp only
      refine ⟨_, rfl, x, dx, rfl, hx.ex e', fun H2 e2 => ⟨_, rfl, ?_⟩⟩
      by_cases c : isHps dx = true
      · rw [c]
        obtain ⟨hrow, h2, os, ho, hpos⟩ := hps_two c
        obtain ⟨l, xs, rfl, hl, hall⟩ := hx.row hrow
        have hxs : xs = os.map V.int := dall_ints (by rw [ho] at hall; exact hall)
        subst hxs
        have hLv2 := hLv.ex e2
        obtain ⟨dx', S, T, g, ss, tt, h1, _⟩ := id hLv2
        refine iteT ⟨_, rfl, p, dx', _, rfl, h1, rfl, _, rfl, l, os, rfl, ((hl.ex e').ex e2).imp (fun h => SqL.of h) (fun h => SqT.of h), fun os' p2 pm asc np2 => ?_⟩
        have e3 := Ex.new (o := .lst (os'.map V.int)) np2
        refine ⟨p, p2, rs, n, os', rfl, hLv2.ex e3, hz, upd_same, ⟨?_, fun y hy => hpos y (pm.mem_iff.mp hy), asc⟩, fun b' H4 e4 hb' => k b' H4 ((e'.trans e2).trans (e3.trans e4)) (hb'.trans ⟨fun z => ⟨c, fun o1 o2 h3 h4 h5 => ?_⟩, fun z => z.2 os os' ho pm asc⟩)⟩
        · rw [ho, List.length_map] at h2
          rw [pm.length_eq]
          exact h2
        · have eo : o1 = os := ints_inj (h3.symm.trans ho)
          subst eo
          have e5 : o2 = os' := List.Perm.eq_of_pairwise (fun a b _ _ h1 h2 => Int.le_antisymm h1 h2) h5 asc (h4.trans pm.symm)
          rw [e5]
          exact z
      · have hf : isHps dx = false := by simpa using c
        rw [hf]
        exact iteF (k false H2 (e'.trans e2) ⟨(fun z => by cases z), fun z => absurd z.1 c⟩)
end
end Ts


set_option Elab.async false
set_option linter.all false
set_option maxRecDepth 100000
set_option maxHeartbeats 4000000
namespace Ts
open PySem PySem.Spec L2
open Evl (Ex)
/-! ## what is written down: a value with its data, in a region that grows by what is new -/
structure Rg (G G' H H' : Hp) : Prop where
  e : Ex G G'
  i : Ex G' H'
  f : ∀ b, G' b ≠ none → G b ≠ none ∨ H b = none
  h : Ex H H'
theorem Rg.refl {G H : Hp} (e : Ex G H) : Rg G G H H := ⟨Ex.refl _, e, fun _ h => .inl h, Ex.refl _⟩
theorem Rg.trans {G G1 G2 H H1 H2 : Hp} (a : Rg G G1 H H1) (b : Rg G1 G2 H1 H2) : Rg G G2 H H2 :=
  ⟨a.e.trans b.e, b.i, fun z h => by
    rcases b.f z h with h | h
    · exact a.f z h
    · exact .inr (Evl.fresh_back a.h h), a.h.trans b.h⟩
theorem Rg.new {G H : Hp} {z : Addr} {o : HO} (e : Ex G H) (nz : H z = none) : Rg G (upd G z o) H (upd H z o) := by
  have gz : G z = none := Evl.fresh_back e nz
  refine ⟨Ex.new gz, fun b u hb => ?_, fun b hb => ?_, Ex.new nz⟩
  · by_cases c : b = z
    · rw [c, upd_same] at hb ⊢
      exact hb
    · rw [upd_ne c] at hb ⊢
      exact e _ _ hb
  · by_cases c : b = z
    · exact .inr (c ▸ nz)
    · rw [upd_ne c] at hb
      exact .inl hb
/-- te tells the data d, whatever stands -/
def Gv (σ : L2.St) (R : Hp) (te : TE) (d : PyData) : Prop := ∀ (G H : Hp) (Q : VK), Ex R G → Ex G H → (∀ v G' H', Rg G G' H H' → D G' v d → Q v H') → te σ H Q
def GvA (σ : L2.St) (R : Hp) (ta : TA) (ds : List PyData) : Prop := ∀ (G H : Hp) (Q : List V → Hp → Prop), Ex R G → Ex G H → (∀ vs G' H', Rg G G' H H' → DAll G' vs ds → Q vs H') → ta σ H Q
section
variable {σ : L2.St} {R : Hp} {te ta tb : TE} {tr : TA} {d : PyData} {ds : List PyData}
theorem DAll.len2 {H : Hp} : ∀ {vs : List V} {ds : List PyData}, DAll H vs ds → vs.length = ds.length
  | _, _, .nil => rfl
  | _, _, .cons _ r => by rw [List.length_cons, List.length_cons, DAll.len2 r]
theorem GvA.use {H G : Hp} {Q : List V → Hp → Prop} (h : GvA σ R tr ds) (eR : Ex R G) (e : Ex G H) (k : ∀ vs G' H', Rg G G' H H' → DAll G' vs ds → Q vs H') : tr σ H Q := h G H Q eR e k
theorem GvA.nil : GvA σ R tNil [] := fun G H Q _ e k => k [] G H (Rg.refl e) .nil
theorem GvA.cons (h : Gv σ R te d) (r : GvA σ R tr ds) : GvA σ R (tCons te tr) (d :: ds) := fun G H Q eR e k =>
  h G H _ eR e fun v G1 H1 r1 hv => r G1 H1 _ (eR.trans r1.e) r1.i fun vs G2 H2 r2 hvs => k _ G2 H2 (r1.trans r2) (.cons (hv.ex r2.e) hvs)
theorem Gv.lst (h : GvA σ R tr ds) (hl : ds.length ≤ 100000 := by exact Nat.le_of_ble_eq_true rfl) : Gv σ R (tLst tr) (.list ds) := fun G H Q eR e k =>
  h G H _ eR e fun vs G1 H1 r1 hvs => ⟨by rw [hvs.len2]; exact Nat.le_trans hl (by decide), fun p np => k _ (upd G1 p (.lst vs)) _ (r1.trans (Rg.new r1.i np)) (.lst upd_same (hvs.ex (Ex.new (Evl.fresh_back r1.i np))))⟩
theorem Gv.tup (h : GvA σ R tr ds) (hl : ds.length ≤ 100000 := by exact Nat.le_of_ble_eq_true rfl) : Gv σ R (tTup tr) (.tuple ds) := fun G H Q eR e k =>
  h G H _ eR e fun vs G1 H1 r1 hvs => ⟨by rw [hvs.len2]; exact Nat.le_trans hl (by decide), fun p np => k _ (upd G1 p (.tup vs)) _ (r1.trans (Rg.new r1.i np)) (.tup upd_same (hvs.ex (Ex.new (Evl.fresh_back r1.i np))))⟩
theorem Gv.dic : Gv σ R tDNewK (.dict []) := fun G H Q eR e k => fun p np => k _ (upd G p (.dK [])) _ (Rg.new e np) (.dic upd_same .nil)
theorem Gv.int {i : Int} : Gv σ R (tC (.int i)) (.int i) := fun G H Q _ e k => k _ G H (Rg.refl e) (.int i)
theorem Gv.str {x : Str} : Gv σ R (tC (.str x)) (.str x) := fun G H Q _ e k => k _ G H (Rg.refl e) (.str x)
theorem Gv.bl {b : Bool} : Gv σ R (tC (.bl b)) (.bool b) := fun G H Q _ e k => k _ G H (Rg.refl e) (.bl b)
theorem Gv.non : Gv σ R (tC .non) .none := fun G H Q _ e k => k _ G H (Rg.refl e) .non
theorem Gv.var {i : Nat} {v : V} (h : σ[i]? = some (some v)) (hd : D R v d) : Gv σ R (tVar i) d := fun G H Q eR e k => ⟨v, h, k v G H (Rg.refl e) (hd.ex eR)⟩
theorem Gv.op0 {f : Int → Int → Int} {i j : Int} (h1 : Gv σ R ta (.int i)) (h2 : Gv σ R tb (.int j)) : Gv σ R (tOp (rI0 fun i j => .int (f i j)) ta tb) (.int (f i j)) := fun G H Q eR e k =>
  h1 G H _ eR e fun v G1 H1 r1 hv => h2 G1 H1 _ (eR.trans r1.e) r1.i fun u G2 H2 r2 hu => by
    cases hv
    cases hu
    exact ⟨i, j, rfl, rfl, k _ G2 H2 (r1.trans r2) (.int _)⟩
theorem Gv.op1 {C : Int → Int → Prop} {f : Int → Int → Int} {i j : Int} (hC : C i j) (h1 : Gv σ R ta (.int i)) (h2 : Gv σ R tb (.int j)) : Gv σ R (tOp (rI C fun i j => .int (f i j)) ta tb) (.int (f i j)) := fun G H Q eR e k =>
  h1 G H _ eR e fun v G1 H1 r1 hv => h2 G1 H1 _ (eR.trans r1.e) r1.i fun u G2 H2 r2 hu => by
    cases hv
    cases hu
    exact ⟨i, j, rfl, rfl, hC, k _ G2 H2 (r1.trans r2) (.int _)⟩
theorem Gv.neg {i : Int} (h1 : Gv σ R ta (.int i)) : Gv σ R (tUn (rU fun i => .int (-i)) ta) (.int (-i)) := fun G H Q eR e k =>
  h1 G H _ eR e fun v G1 H1 r1 hv => by
    cases hv
    exact ⟨i, rfl, k _ G1 H1 r1 (.int _)⟩
end
end Ts


set_option Elab.async false
set_option linter.all false
set_option maxRecDepth 100000
set_option maxHeartbeats 4000000
namespace Ts
open PySem PySem.Spec L2
open Evl (Ex)
section
variable {P : Program} {w : World} {K : PySem.W.Frag} {mg : Str → Option Value} {base : Heap}
abbrev s_need_number := top 29
theorem sc_need_number : FnScope ["thing"] ["thing"] (defScope s_need_number) := ⟨rfl, rfl, rfl, by decide +kernel, rfl, by decide +kernel, by decide +kernel⟩
theorem ok_need_number {f f1 C g : Addr} {fd fd1 fi : FuncData} (F : FD K mg "need_number" "need_number" s_need_number f fd) (F1 : FD K mg "is_number" "is_number" s_is_number f1 fd1) (G1 : FnOk P w K mg base CX0 2 f1 fd1 ["thing"] (spAsk isNum))
    (X : XC K mg "BadNumber" "thing" C g) (GI : FnOk P w K mg base CX0 1 g fi ["self", "thing"] (spIni C "thing")) (bI : Binds K fi ["self", "thing"] []) : FnOk P w K mg base (L2.CX P w) 3 f fd ["thing"] (spNeed isNum C) := by
  refine F.F.okX sc_need_number (fun vs H Q E h => ?_) (fun cdv A outer s H vs Q E hr h => ?_)
  · obtain ⟨v, d, rfl, _⟩ := h
    rfl
  · obtain ⟨v, d, rfl, hd, k1, k2⟩ := h
    refine ⟨_, pss_one (ps_if (pt_not (pt_val (pe_call G1 hr (by rfl) F1.g F1.F.kp (b_is_number F1) .nil pass0 (pa_cons (pv 0) pa_nil)))) (pss_one (ps_raise1 rfl (takes_of rfl rfl rfl rfl) X GI bI hr (by rfl) (pv 0))) pss_nil), ?_⟩
    refine ⟨_, rfl, v, d, rfl, hd, fun H1 e1 => ⟨_, rfl, ?_⟩⟩
    by_cases hp : isNum d = true
    · rw [hp]
      exact iteF (k1 hp H1 e1)
    · have hf : isNum d = false := by simpa using hp
      rw [hf]
      exact iteT ⟨_, rfl, raise1 (k2 hf H1 e1)⟩
/-! ## is_leaving, rule_takes -/
/-- at most two heaps, the less first -/
def isLv (d : PyData) : Bool := isHps d && (match items d with
  | [.int i, .int j] => decide (i ≤ j)
  | _ => true)
abbrev s_is_leaving := top 15
abbrev s_takes := top 21
theorem sc_is_leaving : FnScope ["thing"] ["thing"] (defScope s_is_leaving) := ⟨rfl, rfl, rfl, by decide +kernel, rfl, by decide +kernel, by decide +kernel⟩
abbrev NTk : List Str := ["rule", "heap", "taken", "many", "low", "high", "left", "rest", "modulus"]
theorem sc_takes : FnScope NTk ["rule", "heap", "taken", "many"] (defScope s_takes) := ⟨rfl, rfl, rfl, by decide +kernel, rfl, by decide +kernel, by decide +kernel⟩
theorem b_is_heaps {f : Addr} {fd : FuncData} (F : FD K mg "is_heaps" "is_heaps" s_is_heaps f fd) : Binds K fd ["thing"] [] := F.F.binds fun _ _ _ _ _ _ us hl => match us, hl with | [_], _ => rfl
theorem ok_is_leaving {f f1 : Addr} {fd fd1 : FuncData} (F : FD K mg "is_leaving" "is_leaving" s_is_leaving f fd) (F1 : FD K mg "is_heaps" "is_heaps" s_is_heaps f1 fd1) (G1 : FnOk P w K mg base CX0 3 f1 fd1 ["thing"] (spAsk isHps)) (T : Bl mg) : FnOk P w K mg base CX0 4 f fd ["thing"] (spAsk isLv) := by
  refine F.F.ok sc_is_leaving (fun vs H Q E h => ?_) (fun cdv A outer s H vs Q E hr h => ?_)
  · obtain ⟨v, d, rfl, _⟩ := h
    rfl
  · obtain ⟨v, d, rfl, hd, k⟩ := h
    refine ⟨_, pss_one (ps_ret (pe_and (pe_call G1 hr (by rfl) F1.g F1.F.kp (b_is_heaps F1) .nil pass0 (pa_cons (pv 0) pa_nil)) (pe_one (pe_or (pe_cmpR op_lt (pe_callB (r := rLenH K) call_len_seq (by rfl) T.len PySem.boot_len (pa_cons (pv 0) pa_nil)) pe_int (nomark _)) (pe_one (pe_cmpR op_le (pe_ix (r := rIx K) ix_seq (pv 0) pe_int (fun _ _ => rfl)) (pe_ix (r := rIx K) ix_seq (pv 0) pe_int (fun _ _ => rfl)) (nomark _))))))), ?_⟩
    refine ⟨_, rfl, v, d, rfl, hd, fun H1 e1 => ⟨_, rfl, ?_⟩⟩
    have kk := k H1 e1
    unfold isLv at kk
    by_cases c : isHps d = true
    · rw [c, Bool.true_and] at kk
      rw [c]
      obtain ⟨hrow, h2, os, ho, hpos⟩ := hps_two c
      obtain ⟨l, xs, rfl, hl, hall⟩ := hd.row hrow
      have hxs : xs = os.map V.int := dall_ints (by rw [ho] at hall; exact hall)
      subst hxs
      have hl1 := hl.ex e1
      rw [ho, List.length_map] at h2
      rw [ho] at kk
      refine iteT ⟨_, rfl, l, _, rfl, hl1.imp (fun h => SqL.of h) (fun h => SqT.of h), _, _, rfl, rfl, _, rfl, ?_⟩
      match os, h2 with
      | [], _ => exact ite_tt rfl kk
      | [x], _ => exact ite_tt rfl kk
      | [x, y], _ => exact ite_ff rfl ⟨_, rfl, ix_row hl1 (atI_nat (j := 0) rfl) ⟨_, rfl, ix_row hl1 (atI_nat (j := 1) rfl) ⟨_, _, rfl, rfl, kk⟩⟩⟩
    · have hf : isHps d = false := by simpa using c
      rw [hf] at kk ⊢
      exact iteF kk
def spTakes : Sp := fun vs H Q _ => ∃ (a : Addr) (r : Rl) (n : Int) (os : List Int), vs = [.ref a, .int n, .int (n - os.sum), .int (os.length : Nat)] ∧ H a = some (.tup r.vs) ∧ os.length ≤ 2 ∧ 0 < r.mod ∧ ∀ H', Ex H H' → Q (.bl (wayB r n os)) H'
theorem ok_takes {f tl : Addr} {fd : FuncData} (F : FD K mg "rule_takes" "rule_takes" s_takes f fd) (hL : mg "LEFTS" = some (.ref tl)) (hT : ∀ H : Hp, SqT K H tl lefts) : FnOk P w K mg base CX0 1 f fd ["rule", "heap", "taken", "many"] spTakes := by
  refine F.F.ok sc_takes (fun vs H Q E h => ?_) (fun cdv A outer s H vs Q E hr h => ?_)
  · obtain ⟨a, r, n, os, rfl, _⟩ := h
    rfl
  · obtain ⟨a, r, n, os, rfl, ha, hz, hm, k⟩ := h
    have nd := sc_takes.nd
    refine ⟨_, (pss_cons (ps_asg (pv 0) (pg_tup rfl (pgs_cons (pg_name (i := 4) nd rfl (Or.inl rfl)) (pgs_cons (pg_name (i := 5) nd rfl (Or.inl rfl)) (pgs_cons (pg_name (i := 6) nd rfl (Or.inl rfl)) (pgs_cons (pg_name (i := 7) nd rfl (Or.inl rfl)) (pgs_cons (pg_name (i := 8) nd rfl (Or.inl rfl)) pgs_nil)))))))
      (pss_cons (ps_if (PW.pt (pw_or (pt_cmpR op_ne (pe_ix (r := rIx K) ix_seq (pe_glob (v := .ref tl) rfl hL rfl) (pv 3) (fun _ _ => rfl)) (pv 6) (nomark _)) (pw_or1 (pt_cmpR op_ne (pe_op op_mod (pv 1) (pv 8)) (pv 7) (nomark _))))) (pss_one (ps_ret pe_bl)) pss_nil)
      (pss_one (ps_ret (pe_and (pe_cmpR op_le (pv 4) (pv 2) (nomark _)) (pe_one (pe_or (pe_cmpR op_isN (pv 5) pe_non (nomark _)) (pe_one (pe_cmpR op_le (pv 2) (pv 5) (nomark _)))))))))), ?_⟩
    refine seq1 ⟨_, rfl, a, _, rfl, SqT.of ha, rfl, _, _, rfl, _, _, rfl, _, _, rfl, _, _, rfl, _, _, rfl, rfl, ?_⟩
    dsimp only
    have kk := k H (Ex.refl _)
    unfold wayB leavesB at kk
    refine seq1 ?_
    have hw : atI lefts (os.length : Nat) = some (.str (wordOf os.length)) := by
      match os, hz with
      | [], _ => rfl
      | [a], _ => rfl
      | [a, b], _ => rfl
    refine ⟨_, rfl, .inr (.inl ⟨tl, lefts, _, .str (wordOf os.length), rfl, rfl, hT H, hw, ⟨_, rfl, rfl, _, rfl, ?_⟩⟩)⟩
    by_cases c1 : V.str r.left = V.str (wordOf os.length)
    · rw [decide_eq_true c1, Bool.true_and] at kk
      refine ite_ff (by rw [c1]; simp) ⟨_, rfl, _, rfl, ⟨_, _, rfl, rfl, hm, ⟨_, rfl, rfl, _, rfl, ?_⟩⟩⟩
      by_cases c2 : n % r.mod = r.rest
      · rw [decide_eq_true c2, Bool.true_and] at kk
        refine ite_ff (by simpa using c2) (next1 ?_)
        dsimp only
        refine ⟨_, rfl, _, rfl, _, _, rfl, rfl, _, rfl, ?_⟩
        by_cases c3 : r.low ≤ n - os.sum
        · rw [decide_eq_true c3, Bool.true_and] at kk
          rw [decide_eq_true c3]
          refine iteT ⟨_, rfl, rfl, _, rfl, ?_⟩
          cases hh : r.high with
          | none =>
            rw [hh] at kk
            exact ite_tt rfl kk
          | some h =>
            rw [hh] at kk
            exact ite_ff rfl ⟨_, rfl, _, rfl, _, _, rfl, rfl, kk⟩
        · rw [decide_eq_false c3, Bool.false_and] at kk
          rw [decide_eq_false c3]
          exact iteF kk
      · rw [decide_eq_false c2, Bool.false_and, Bool.false_and] at kk
        refine ite_tt (by simpa using c2) kk
    · rw [decide_eq_false c1, Bool.false_and] at kk
      exact ite_tt (by simpa using fun z => c1 (congrArg V.str z.symm)) kk
end
end Ts


set_option Elab.async false
set_option linter.all false
set_option maxRecDepth 100000
set_option maxHeartbeats 4000000
namespace Ts
open PySem PySem.Spec L2
open Evl (Ex)
section
variable {P : Program} {w : World} {K : PySem.W.Frag} {mg : Str → Option Value} {base : Heap}
abbrev s_need_option := top 40
abbrev s_ways_to := top 41
theorem sc_need_option : FnScope ["book", "heap", "thing"] ["book", "heap", "thing"] (defScope s_need_option) := ⟨rfl, rfl, rfl, by decide +kernel, rfl, by decide +kernel, by decide +kernel⟩
abbrev NWt : List Str := ["book", "heap", "option", "taken", "rule"]
theorem sc_ways_to : FnScope NWt ["book", "heap", "option"] (defScope s_ways_to) := ⟨rfl, rfl, rfl, by decide +kernel, rfl, by decide +kernel, by decide +kernel⟩
def spNeedO (CK CB CH CO : Addr) : Sp := fun vs H Q E => ∃ v u x dx, vs = [v, u, x] ∧ D H x dx ∧ BkHp CK CB CH v u H E fun rs n => (IsO rs n dx → ∀ H', Ex H H' → Q .non H') ∧ (¬ IsO rs n dx → ∀ H', Ex H H' → Raised H' "thing" x CO E)
theorem ok_need_option {f f1 CK CB CH CO g : Addr} {fd fd1 fi : FuncData} (F : FD K mg "need_option" "need_option" s_need_option f fd) (F1 : FD K mg "is_option" "is_option" s_isopt f1 fd1) (G1 : FnOk P w K mg base (L2.CX P w) 7 f1 fd1 ["book", "heap", "thing"] (spIsopt CK CB CH))
    (X : XC K mg "BadOption" "thing" CO g) (GI : FnOk P w K mg base CX0 1 g fi ["self", "thing"] (spIni CO "thing")) (bI : Binds K fi ["self", "thing"] []) : FnOk P w K mg base (L2.CX P w) 8 f fd ["book", "heap", "thing"] (spNeedO CK CB CH CO) := by
  have b1 : Binds K fd1 ["book", "heap", "thing"] [] := F1.F.binds fun _ _ _ _ _ _ us hl => match us, hl with | [_, _, _], _ => rfl
  refine F.F.okX sc_need_option (fun vs H Q E h => ?_) (fun cdv A outer s H vs Q E hr h => ?_)
  · obtain ⟨v, u, x, dx, rfl, _⟩ := h
    rfl
  · obtain ⟨v, u, x, dx, rfl, hx, h⟩ := h
    refine ⟨_, pss_one (ps_if (pt_not (pt_val (pe_call G1 (hr.mono (by decide)) (by rfl) F1.g F1.F.kp b1 .nil (passes_call (takes_of rfl rfl rfl rfl) (fun _ _ _ _ h => h)) (pa_cons (pv 0) (pa_cons (pv 1) (pa_cons (pv 2) pa_nil)))))) (pss_one (ps_raise1 rfl (takes_of rfl rfl rfl rfl) X GI bI (hr.mono (by decide)) (by rfl) (pv 2))) pss_nil), ?_⟩
    refine ⟨_, rfl, _, rfl, _, rfl, v, u, x, dx, rfl, hx, ?_⟩
    rcases h with h | ⟨b, rs, d, hv, hb, hz, hm, hd, k2, k3⟩
    · exact .inl h
    · refine .inr ⟨b, rs, d, hv, hb, hz, hm, hd, k2, fun n e hp c H1 e1 hc => ⟨_, rfl, ?_⟩⟩
      obtain ⟨k4, k5⟩ := k3 n e hp
      cases c with
      | true => exact iteF (k4 (hc.mp rfl) H1 e1)
      | false => exact iteT ⟨_, rfl, raise1 (k5 (fun z => absurd (hc.mpr z) (by decide)) H1 e1)⟩
/-- what ways_to tells -/
def spWaysTo (CK CB CH CO : Addr) : Sp := fun vs H Q E => ∃ v u x dx, vs = [v, u, x] ∧ D H x dx ∧ BkHp CK CB CH v u H E fun rs n => (¬ IsO rs n dx → ∀ H', Ex H H' → Raised H' "thing" x CO E) ∧
  (IsO rs n dx → ∀ (os : List Int) (M : Addr) H' (ts : List (Addr × (Addr × Rl))), items dx = os.map .int → os.length ≤ 2 → H M = none → Ex H H' → H' M = some (.lst (ts.map fun u => V.ref u.1)) → WaysAt H' (n - os.sum) ts → ts.map (·.2.2) = rs.filter (fun r => wayB r n os) → Q (.ref M) H')
theorem ok_ways_to {f f1 f2 f3 CK CB CH CO fI fR : Addr} {fd fd1 fd2 fdR : FuncData} (F : FD K mg "ways_to" "ways_to" s_ways_to f fd) (hsum : mg "sum" = none) (T : Bl mg)
    (F1 : FD K mg "need_option" "need_option" s_need_option f1 fd1) (G1 : FnOk P w K mg base (L2.CX P w) 8 f1 fd1 ["book", "heap", "thing"] (spNeedO CK CB CH CO))
    (F2 : FD K mg "rule_takes" "rule_takes" s_takes f2 fd2) (G2 : FnOk P w K mg base CX0 1 f2 fd2 ["rule", "heap", "taken", "many"] spTakes)
    (B : BkC K mg CK fI fR) (F_R : Fun K "rules" "Book.rules" s_brules fR fdR) (G_rules : FnOk P w K mg base CX0 1 fR fdR ["self"] (spBrules CK)) : FnOk P w K mg base (L2.CX P w) 9 f fd ["book", "heap", "option"] (spWaysTo CK CB CH CO) := by
  have b1 : Binds K fd1 ["book", "heap", "thing"] [] := F1.F.binds fun _ _ _ _ _ _ us hl => match us, hl with | [_, _, _], _ => rfl
  have b2 : Binds K fd2 ["rule", "heap", "taken", "many"] [] := F2.F.binds fun _ _ _ _ _ _ us hl => match us, hl with | [_, _, _, _], _ => rfl
  have b_rules : Binds K fdR ["self"] [] := F_R.binds fun _ _ _ _ _ _ us hl => match us, hl with | [_], _ => rfl
  refine F.F.okX sc_ways_to (fun vs H Q E h => ?_) (fun cdv A outer s H vs Q E hr h => ?_)
  · obtain ⟨v, u, x, dx, rfl, _⟩ := h
    rfl
  · obtain ⟨v, u, x, dx, rfl, hx, h⟩ := h
    have nd := sc_ways_to.nd
    refine ⟨_, (pss_cons (ps_expr (pe_call G1 (hr.mono (by decide)) (by rfl) F1.g F1.F.kp b1 .nil (passes_call (takes_of rfl rfl rfl rfl) (fun _ _ _ _ h => h)) (pa_cons (pv 0) (pa_cons (pv 1) (pa_cons (pv 2) pa_nil)))))
      (pss_cons (ps_set (i := 3) nd rfl (Or.inr rfl) (pe_op op_sub (pv 1) (pe_callB (r := rSumRow K) (cr_sumRow rfl) (by rfl) hsum (by decide +kernel) (pa_cons (pv 2) pa_nil))))
      (pss_one (ps_ret (pe_lc (own := [("rule", 4)]) (g := gName 4) rfl nd (pi_list (pe_meth0 (pv 0) B.cl B.mR G_rules (hr.mono (by decide)) b_rules .nil pass0)) (blkOk_by (N := NWt) (sc := defScope s_ways_to) (by decide +kernel)) (fun _ _ _ _ _ => pg_name (i := 4) nd rfl (Or.inl rfl))
        (fun _ _ _ _ _ => pts_one (pt_val (pe_call G2 (hr.mono (by decide)) (by rfl) F2.g F2.F.kp b2 .nil pass0 (pa_cons (pv 4) (pa_cons (pv 1) (pa_cons (pv 3) (pa_cons (pe_callB (r := rLenH K) call_len_seq (by rfl) T.len PySem.boot_len (pa_cons (pv 2) pa_nil)) pa_nil))))))) (fun _ _ _ _ _ => pe_tup (pa_cons (pv 4) (pa_cons (pv 3) pa_nil)))))))), ?_⟩
    refine seq1 ⟨_, rfl, _, rfl, _, rfl, v, u, x, dx, rfl, hx, ?_⟩
    rcases h with h | ⟨b, rs, d, hv, hb, hz, hm, hd, k2, k3⟩
    · exact .inl h
    · subst hv
      refine .inr ⟨b, rs, d, rfl, hb, hz, hm, hd, k2, fun n e hp => ?_⟩
      obtain ⟨k4, k5⟩ := k3 n e hp
      refine ⟨fun io H1 e1 => ?_, k4⟩
      have k6 := k5 io
      obtain ⟨hrow, h2, os, ho, hpos⟩ := hps_two io.1
      obtain ⟨l, xs, rfl, hl, hall⟩ := hx.row hrow
      have hxs : xs = os.map V.int := dall_ints (by rw [ho] at hall; exact hall)
      subst hxs
      have hl1 := hl.ex e1
      rw [ho, List.length_map] at h2
      obtain rfl : u = .int n := by rw [e] at hd; exact hd.int_of
      dsimp only
      refine seq1 (asg1 ⟨_, rfl, _, rfl, l, os, rfl, hl1.imp (fun h => SqL.of h) (fun h => SqT.of h), ⟨_, _, rfl, rfl, gn1 ?_⟩⟩)
      obtain ⟨dB, Lb, qb, hb1, hb2, hb3, rfl⟩ := id (hb.ex e1)
      refine ⟨_, rfl, b, dB, _, rfl, hb1, rfl, b, _, rfl, hb.ex e1, fun L H2 qr nL e2 hLr hRr hmm => ⟨L, rfl, ⟨_, SqL.of hLr⟩, fun Dm nD => ?_⟩⟩
      refine lc_it (walk_list (xs := qr.map fun q => V.ref q.1)) (Pv := fun i H' => Ex H2 H' ∧ ∃ ts : List (Addr × (Addr × Rl)), H' Dm = some (.lst (ts.map fun u => V.ref u.1)) ∧ WaysAt H' (n - os.sum) ts ∧ ts.map (·.2) = (qr.take i).filter fun q => wayB q.2 n os)
        ⟨Ex.new nD, [], upd_same, (fun u hu => by cases hu), by rw [List.take_zero]; rfl⟩ (fun i H' _ p => SqL.of (p.1 _ _ hLr)) (fun i y H3 H4 hi p yy => ?_) (fun H3 p => ?_)
      · obtain ⟨e3, ts, hDm, hW, hts⟩ := p
        obtain ⟨rfl, hy⟩ := yy
        rw [List.length_map] at hi
        have hq : qr[i]? = some qr[i] := List.getElem?_eq_getElem hi
        rw [List.getElem?_map, hq] at hy
        cases hy
        have mq : qr[i] ∈ qr := List.getElem_mem hi
        have hqt := e3 _ _ (hRr _ mq)
        have hmod : 0 < (qr[i]).2.mod := hm _ (by rw [← hmm]; exact List.mem_map.mpr ⟨_, mq, rfl⟩)
        have htk : qr.take (i + 1) = qr.take i ++ [qr[i]] := by rw [List.take_add_one, hq]; rfl
        have tsl : ts.length ≤ i := by
          have z := congrArg List.length hts
          rw [List.length_map] at z
          have := List.length_filter_le (fun q => wayB q.2 n os) (qr.take i)
          rw [List.length_take] at this
          omega
        have lqr : qr.length ≤ 1000 := by
          have z := congrArg List.length hmm
          rw [List.length_map] at z
          omega
        generalize qr[i] = q at hqt hmod htk
        have hl4 := (hl1.ex e2).ex e3
        refine gn1 ⟨rfl, _, rfl, _, rfl, _, rfl, _, rfl, l, _, rfl, hl4.imp (fun h => SqL.of h) (fun h => SqT.of h), q.1, q.2, n, os, by rw [List.length_map]; rfl, hqt, h2, hmod, fun H5 e5 => ⟨_, rfl, ?_⟩⟩
        have e35 := e3.trans e5
        by_cases c : wayB q.2 n os = true
        · rw [c]
          refine ite_tt rfl ⟨_, rfl, _, rfl, by show 2 ≤ sizeLine; decide, fun t nt => ?_⟩
          have et := Ex.new (o := .tup [.ref q.1, .int (n - os.sum)]) nt
          have hD5 := et _ _ (e5 _ _ hDm)
          have nDt : t ≠ Dm := fun z => by
            rw [z, e5 _ _ hDm] at nt
            cases nt
          have ne : ∀ {z : Addr} {xs : List V}, upd H5 t (.tup [.ref q.1, .int (n - os.sum)]) z = some (.tup xs) → z ≠ Dm := fun h z => by
            rw [z, hD5] at h
            cases h
          have kp : ∀ {z : Addr} {xs : List V}, upd H5 t (.tup [.ref q.1, .int (n - os.sum)]) z = some (.tup xs) → upd (upd H5 t (.tup [.ref q.1, .int (n - os.sum)])) Dm (.lst ((ts.map fun u => V.ref u.1) ++ [V.ref t])) z = some (.tup xs) := fun h => by
            rw [upd_ne (ne h)]
            exact h
          refine ⟨_, hD5, ?_, (e35.trans et).mut nD, ts ++ [(t, q)], by rw [upd_same, List.map_append]; rfl, fun u hu => ?_, ?_⟩
          · rw [List.length_map]
            exact Nat.lt_of_le_of_lt (show ts.length ≤ 1000 by omega) (by decide)
          · rcases List.mem_append.mp hu with hu | hu
            · exact ⟨kp (et _ _ (e5 _ _ (hW u hu).1)), kp (et _ _ (e5 _ _ (hW u hu).2))⟩
            · rw [List.mem_singleton.mp hu]
              exact ⟨kp upd_same, kp (et _ _ (e5 _ _ hqt))⟩
          · rw [List.map_append, hts, htk, List.filter_append]
            show _ = _ ++ [q].filter _
            rw [List.filter_cons, if_pos c]
            rfl
        · have hf : wayB q.2 n os = false := by simpa using c
          rw [hf]
          refine ite_ff rfl ⟨e35, ts, e5 _ _ hDm, fun u hu => ⟨e5 _ _ (hW u hu).1, e5 _ _ (hW u hu).2⟩, ?_⟩
          rw [hts, htk, List.filter_append]
          show _ = _ ++ [q].filter _
          rw [List.filter_cons, if_neg c]
          exact (List.append_nil _).symm
      · obtain ⟨e3, ts, hDm, hW, hts⟩ := p
        rw [List.length_map, List.take_length] at hts
        refine (k3 n e hp).2 io os Dm H3 ts ho h2 (Evl.fresh_back (e1.trans e2) nD) ((e1.trans e2).trans e3) hDm hW ?_
        have z : ts.map (·.2.2) = (ts.map (·.2)).map (·.2) := by rw [List.map_map]; rfl
        rw [← hmm, z, hts, List.filter_map]
        rfl
end
end Ts


set_option Elab.async false
set_option linter.all false
set_option maxRecDepth 100000
set_option maxHeartbeats 4000000
namespace Ts
open PySem PySem.Spec L2
open Evl (Ex)
/-! ## how many options there are, none -/
theorem quarter {b : Int} (h : 2 ≤ b) : (b - 1) * (b - 1) / 4 + 1 ≤ b * b / 4 := by
  have : b % 2 = 0 ∨ b % 2 = 1 := by omega
  rcases this with h1 | h1
  · obtain ⟨k, rfl⟩ : ∃ k, b = 2 * k := ⟨b / 2, by omega⟩
    have e1 : (2 * k) * (2 * k) = 4 * (k * k) := by grind
    have e2 : (2 * k - 1) * (2 * k - 1) = 4 * (k * k) - 4 * k + 1 := by grind
    rw [e1, e2]
    omega
  · obtain ⟨k, rfl⟩ : ∃ k, b = 2 * k + 1 := ⟨b / 2, by omega⟩
    have e1 : (2 * k + 1) * (2 * k + 1) = 4 * (k * k) + 4 * k + 1 := by grind
    have e2 : (2 * k + 1 - 1) * (2 * k + 1 - 1) = 4 * (k * k) := by grind
    rw [e1, e2]
    omega
theorem quarter_le {b t : Int} (h0 : 0 ≤ b) (h : b ≤ t) : b * b / 4 ≤ t * t / 4 := by
  have : b * b ≤ t * t := Int.mul_le_mul h h h0 (by omega)
  omega
theorem sum_pos {α : Type} (g : α → Int) : ∀ {l : List α}, (∀ a ∈ l, 1 ≤ g a) → 0 ≤ (l.map g).sum ∧ ((l.map g).sum = 0 ↔ l = [])
  | [], _ => ⟨Int.le_refl _, ⟨fun _ => rfl, fun _ => rfl⟩⟩
  | a :: l, h => by
    obtain ⟨h1, _⟩ := sum_pos g (l := l) fun x hx => h x (List.mem_cons_of_mem _ hx)
    have h2 := h a List.mem_cons_self
    rw [List.map_cons, List.sum_cons]
    exact ⟨by omega, ⟨fun z => by omega, fun z => by cases z⟩⟩
section
variable {P : Program} {w : World} {K : PySem.W.Frag} {mg : Str → Option Value} {base : Heap}
abbrev s_pairs := top 35
abbrev s_many_to : Stmt := inClass (top 36) 3
abbrev s_many : Stmt := inClass (top 36) 4
theorem sc_pairs : FnScope ["first", "total", "whole"] ["first", "total"] (defScope s_pairs) := ⟨rfl, rfl, rfl, by decide +kernel, rfl, by decide +kernel, by decide +kernel⟩
abbrev NMt : List Str := ["self", "first", "pairs", "bottom", "top"]
theorem sc_many_to : FnScope NMt ["self", "first"] (defScope s_many_to) := ⟨rfl, rfl, rfl, by decide +kernel, rfl, by decide +kernel, by decide +kernel⟩
theorem sc_many : FnScope ["self"] ["self"] (defScope s_many) := ⟨rfl, rfl, rfl, by decide +kernel, rfl, by decide +kernel, by decide +kernel⟩
def spCount1 : Sp := fun vs H Q _ => ∃ (M : Addr) (ss : List (Addr × (Int × Int))) (n : Int), vs = [.ref M, .int 1, .int n] ∧ H M = some (.lst (ss.map fun q => V.ref q.1)) ∧ PairsAt H ss ∧ (∀ s ∈ ss.map (·.2), 1 ≤ s.1 ∧ s.1 ≤ s.2 ∧ s.2 ≤ n) ∧ ss.length ≤ 1000 ∧
  ∀ (c : Int) H', Ex H H' → 0 ≤ c → (c = 0 ↔ ss = []) → Q (.int c) H'
theorem ok_count1 {f : Addr} {fd : FuncData} (F : FD K mg "count_in" "count_in" s_count f fd) (hmin : mg "min" = none) (hmax : mg "max" = none) (hsum : mg "sum" = none) : FnOk P w K mg base CX0 1 f fd ["spans", "low", "high"] spCount1 := by
  refine F.F.ok sc_count (fun vs H Q E h => ?_) (fun cdv A outer s H vs Q E hr h => ?_)
  · obtain ⟨M, ss, n, rfl, _⟩ := h
    rfl
  · obtain ⟨M, ss, n, rfl, hM, hP, ap, hz, k⟩ := h
    have nd := sc_count.nd
    refine ⟨_, (pss_one (ps_ret (pe_callB (r := rSum K) (cr_sum rfl) (by rfl) hsum (by decide +kernel) (pa_cons (pe_lc (own := [("bottom", 3), ("top", 4)]) (g := gTup K 2 (gCons (gName 3) (gCons (gName 4) gNil))) (tt := tYes) rfl nd (pi_list (pv 0)) (blkOk_by (N := ["spans", "low", "high", "bottom", "top"]) (sc := defScope s_count) (by decide +kernel)) (fun _ _ _ _ _ => pg_tup rfl (pgs_cons (pg_name (i := 3) nd rfl (Or.inl rfl)) (pgs_cons (pg_name (i := 4) nd rfl (Or.inl rfl)) pgs_nil))) (fun _ _ _ _ _ => pts_nil)
      (fun _ _ _ _ _ => pe_callB (call_max2 rfl) (by rfl) hmax (by decide +kernel) (pa_cons pe_int (pa_cons (pe_op op_add (pe_op op_sub (pe_callB (call_min2 rfl) (by rfl) hmin (by decide +kernel) (pa_cons (pv 4) (pa_cons (pv 2) pa_nil))) (pe_callB (call_max2 rfl) (by rfl) hmax (by decide +kernel) (pa_cons (pv 3) (pa_cons (pv 1) pa_nil)))) pe_int) pa_nil)))) pa_nil)))), ?_⟩
    refine tcb1 (r := rSum K) ?_
    refine lc_any (J := Itl K M) (H1 := H) (out := fun i => V.int (((ss.map (·.2)).getD i (0, 0)).2 - ((ss.map (·.2)).getD i (0, 0)).1 + 1)) (walk_list (xs := ss.map fun q => V.ref q.1)) (fun R r => ⟨_, rfl, M, rfl, ⟨_, SqL.of hM⟩, r⟩) (by rw [List.length_map]; exact Nat.le_trans hz (by decide)) (fun H' e => SqL.of (e _ _ hM)) (fun i y H2 H3 hi e yy => ?_) (fun y H2 q q' h zz => ?_) (fun Dd Hf hD e hl' => ?_)
    · obtain ⟨eq, hy⟩ := yy
      subst eq
      rw [List.getElem?_map] at hy
      cases hq : ss[i]? with
      | none => rw [hq] at hy; cases hy
      | some q =>
        rw [hq] at hy
        cases hy
        have hqt := e _ _ (hP q (List.mem_of_getElem? hq))
        have eg : (ss.map (·.2)).getD i (0, 0) = q.2 := getD_of (by rw [List.getElem?_map, hq]; rfl)
        rw [eg]
        refine ⟨Ex.refl _, q.1, _, rfl, SqT.of hqt, rfl, _, _, rfl, _, _, rfl, rfl, rfl, Ex.refl _, fun q' hq' => ?_⟩
        refine ⟨_, rfl, _, rfl, _, _, rfl, _, rfl, _, rfl, _, _, rfl, _, _, rfl, rfl, _, _, rfl, rfl, _, _, rfl, ?_⟩
        have ap2 := ap q.2 (List.mem_map.mpr ⟨q, List.mem_of_getElem? hq, rfl⟩)
        have z := hq' H3 (Ex.refl _)
        have ee : (if (if n < q.2.2 then n else q.2.2) - (if 1 > q.2.1 then 1 else q.2.1) + 1 > 0 then (if n < q.2.2 then n else q.2.2) - (if 1 > q.2.1 then 1 else q.2.1) + 1 else 0) = q.2.2 - q.2.1 + 1 := by
          split <;> split <;> split <;> omega
        rw [← ee] at z
        exact z
    · obtain ⟨a1, xs1, r1, r2, r3, v1, r4, r5, v2, r7, r8, r9, r10⟩ := zz
      exact ⟨a1, xs1, r1, r2, r3, v1, r4, r5, v2, r7, r8, r9, h _ _ r10⟩
    · obtain ⟨g1, g2⟩ := sum_pos (fun s : Int × Int => s.2 - s.1 + 1) (l := ss.map (·.2)) fun s hs => by have := ap s hs; omega
      refine ⟨Dd, (ss.map (·.2)).map (fun s => s.2 - s.1 + 1), rfl, SqL.of ?_, k _ _ e g1 (g2.trans List.map_eq_nil_iff)⟩
      rw [hl', List.map_map, ← map_getD (V.int ∘ fun s : Int × Int => s.2 - s.1 + 1) (0, 0) (ss.map (·.2)), List.length_map, List.length_map]
      rfl
def spPairs : Sp := fun vs H Q _ => ∃ f t : Int, vs = [.int f, .int t] ∧ 0 ≤ t ∧ t ≤ 2 * f + 1 ∧ f ≤ 1000000 ∧ ∀ H', Ex H H' → Q (.int (t * t / 4)) H'
theorem ok_pairs {f : Addr} {fd : FuncData} (F : FD K mg "pairs_to" "pairs_to" s_pairs f fd) (hmin : mg "min" = none) : FnOk P w K mg base CX0 1 f fd ["first", "total"] spPairs := by
  refine F.F.ok sc_pairs (fun vs H Q E h => ?_) (fun cdv A outer s H vs Q E hr h => ?_)
  · obtain ⟨f, t, rfl, _⟩ := h
    rfl
  · obtain ⟨f, t, rfl, t0, t1, f1, k⟩ := h
    have nd := sc_pairs.nd
    refine ⟨_, (pss_cons (ps_set (i := 2) nd rfl (Or.inl rfl) (pe_callB (call_min2 rfl) (by rfl) hmin (by decide +kernel) (pa_cons (pv 1) (pa_cons (pe_op op_add (pe_op op_mul pe_int (pv 0)) pe_int) pa_nil))))
      (pss_one (ps_ret (pe_op op_add (pe_op op_fdiv (pe_op op_mul (pv 2) (pv 2)) pe_int) (pe_op op_mul (pv 0) (pe_op op_sub (pv 1) (pv 2))))))), ?_⟩
    have big : (2 : Int) ^ 64 = 18446744073709551616 := by decide
    refine seq1 (asg1 ⟨_, rfl, _, rfl, ⟨_, _, rfl, rfl, .inl ⟨by omega, by omega⟩, ⟨_, _, rfl, rfl, ⟨_, _, rfl, ?_⟩⟩⟩⟩)
    have em : (if 2 * f + 1 < t then 2 * f + 1 else t) = t := if_neg (by omega)
    rw [em]
    refine gn1 ?_
    refine ⟨_, rfl, _, rfl, ⟨_, _, rfl, rfl, .inl ⟨by omega, by omega⟩, ⟨_, _, rfl, rfl, ⟨by decide, by decide⟩, ⟨_, rfl, _, rfl, _, rfl, ⟨_, _, rfl, rfl, ⟨_, _, rfl, rfl, .inl ⟨by omega, by omega⟩, ⟨_, _, rfl, rfl, ?_⟩⟩⟩⟩⟩⟩⟩
    have z := k H (Ex.refl _)
    rw [show f * (t - t) = 0 by rw [Int.sub_self, Int.mul_zero]]
    show Q (.int (t * t / 4 + 0)) H
    rw [Int.add_zero]
    exact z
end
end Ts


set_option Elab.async false
set_option linter.all false
set_option maxRecDepth 100000
set_option maxHeartbeats 4000000
namespace Ts
open PySem PySem.Spec L2
open Evl (Ex)
section
variable {P : Program} {w : World} {K : PySem.W.Frag} {mg : Str → Option Value} {base : Heap}
def spManyTo (C : Addr) : Sp := fun vs H Q _ => ∃ (p : Addr) (rs : List Rl) (n : Int), vs = [.ref p, .int n] ∧ LvAt C H p rs n ∧ rs.length ≤ 1000 ∧ (∀ r ∈ rs, 0 ≤ r.low) ∧ 1 ≤ n ∧ n ≤ 1000000 ∧ ∀ (m : Int) H', Ex H H' → 0 ≤ m → (m = 0 ↔ ∀ ns, AOpt rs n ns → ns = []) → Q (.int m) H'
def spMany (C : Addr) : Sp := fun vs H Q _ => ∃ (p : Addr) (rs : List Rl) (n : Int), vs = [.ref p] ∧ LvAt C H p rs n ∧ rs.length ≤ 1000 ∧ (∀ r ∈ rs, 0 ≤ r.low) ∧ 1 ≤ n ∧ n ≤ 1000000 ∧ ∀ (m : Int) H', Ex H H' → (m = 0 ↔ ∀ ns, ¬ AOpt rs n ns) → Q (.int m) H'
theorem spans_in {rs : List Rl} {left : Str} {n l : Int} {ss : List (Int × Int)} (h : SpansOf rs left n l ss) (lo : ∀ r ∈ rs, 0 ≤ r.low) : ∀ s ∈ ss, l ≤ s.1 ∧ s.1 ≤ s.2 ∧ s.2 ≤ n := fun s hs => by
  have h1 := h.1.some s hs
  obtain ⟨r1, m1, _, lv1, g1⟩ := (h.2.2 s.1).mp ⟨s, hs, Int.le_refl _, h1⟩
  obtain ⟨r2, m2, _, lv2, g2⟩ := (h.2.2 s.2).mp ⟨s, hs, h1, Int.le_refl _⟩
  have := lv2.2.1
  have := lo r2 m2
  exact ⟨g1, h1, by omega⟩
theorem aopt_only {rs : List Rl} {n : Int} {ss tt : List (Int × Int)} (h1 : SpansOf rs "one" n 1 ss) (h2 : SpansOf rs "two" n 2 tt) : (ss = [] ∧ tt = []) ↔ ∀ ns, AOpt rs n ns → ns = [] := by
  constructor
  · rintro ⟨rfl, rfl⟩ ns (⟨h, _⟩ | ⟨x, _, r, hr, a, b, c⟩ | ⟨t, a, _, ⟨r, hr, a1, b, c⟩, _⟩)
    · exact h
    · obtain ⟨s, hs, _⟩ := (h1.2.2 x).mpr ⟨r, hr, a, b, c⟩
      cases hs
    · obtain ⟨s, hs, _⟩ := (h2.2.2 t).mpr ⟨r, hr, a1, b, c⟩
      cases hs
  · intro h
    refine ⟨?_, ?_⟩
    · cases ss with
      | nil => rfl
      | cons s ss =>
        obtain ⟨r, hr, a, b, c⟩ := (h1.2.2 s.1).mp ⟨s, .head _, Int.le_refl _, h1.1.some s (.head _)⟩
        have z := h [s.1] (.inr (.inl ⟨_, rfl, r, hr, a, b, c⟩))
        cases z
    · cases tt with
      | nil => rfl
      | cons s tt =>
        obtain ⟨r, hr, a, b, c⟩ := (h2.2.2 s.1).mp ⟨s, .head _, Int.le_refl _, h2.1.some s (.head _)⟩
        have z := h [1, s.1 - 1] (.inr (.inr ⟨s.1, 1, rfl, ⟨r, hr, a, b, c⟩, Int.le_refl _, by omega⟩))
        cases z
theorem ok_many_to {f fI fL fH C f1 f2 : Addr} {fd fd1 fd2 : FuncData} (F : Fun K "many_to" "Leavings.many_to" s_many_to f fd) (LC : LvC K mg C fI fL fH) (hsum : mg "sum" = none)
    (F_pairs : FD K mg "pairs_to" "pairs_to" s_pairs f1 fd1) (G_pairs : FnOk P w K mg base CX0 1 f1 fd1 ["first", "total"] spPairs) (F_count : FD K mg "count_in" "count_in" s_count f2 fd2) (G_count : FnOk P w K mg base CX0 1 f2 fd2 ["spans", "low", "high"] spCount1) : FnOk P w K mg base CX0 2 f fd ["self", "first"] (spManyTo C) := by
  have b_count := b_count F_count
  have b_pairs : Binds K fd1 ["first", "total"] [] := F_pairs.F.binds fun _ _ _ _ _ _ us hl => match us, hl with | [_, _], _ => rfl
  refine F.ok sc_many_to (fun vs H Q E h => ?_) (fun cdv A outer s H vs Q E hr h => ?_)
  · obtain ⟨p, rs, n, rfl, _⟩ := h
    rfl
  · obtain ⟨p, rs, n, rfl, hLv, hz, lo, n1, n2, k⟩ := h
    have nd := sc_many_to.nd
    refine ⟨_, (pss_cons (ps_set (i := 2) nd rfl (Or.inl rfl) (pe_callB (r := rSum K) (cr_sum rfl) (by rfl) hsum (by decide +kernel) (pa_cons (pe_lc (own := [("bottom", 3), ("top", 4)]) (g := gTup K 2 (gCons (gName 3) (gCons (gName 4) gNil))) (tt := tYes) rfl nd (pi_list (show PE _ _ (tFld K (tVar 0) "totals") from pe_fld (pv 0) rfl)) (blkOk_by (N := NMt) (sc := defScope s_many_to) (by decide +kernel)) (fun _ _ _ _ _ => pg_tup rfl (pgs_cons (pg_name (i := 3) nd rfl (Or.inl rfl)) (pgs_cons (pg_name (i := 4) nd rfl (Or.inl rfl)) pgs_nil))) (fun _ _ _ _ _ => pts_nil)
      (fun _ _ _ _ _ => pe_op op_sub (pe_call G_pairs (hr.mono (by decide)) (by rfl) F_pairs.g F_pairs.F.kp b_pairs .nil pass0 (pa_cons (pv 1) (pa_cons (pv 4) pa_nil))) (pe_call G_pairs (hr.mono (by decide)) (by rfl) F_pairs.g F_pairs.F.kp b_pairs .nil pass0 (pa_cons (pv 1) (pa_cons (pe_op op_sub (pv 3) pe_int) pa_nil))))) pa_nil)))
      (pss_one (ps_ret (pe_op op_add (pe_call G_count (hr.mono (by decide)) (by rfl) F_count.g F_count.F.kp b_count .nil pass0 (pa_cons (show PE _ _ (tFld K (tVar 0) "singles") from pe_fld (pv 0) rfl) (pa_cons pe_int (pa_cons (pv 1) pa_nil)))) (pv 2))))), ?_⟩
    obtain ⟨dx, S, TT, g, ss, tt, hp, hS, hT, hSP, hTP, sp1, sp2, hg⟩ := id hLv
    have in1 := spans_in sp1 lo
    have in2 := spans_in sp2 lo
    have l1 := sp1.2.1
    have l2 := sp2.2.1
    rw [List.length_map] at l1 l2
    refine seq1 (asg1 ?_)
    refine tcb1 (r := rSum K) ?_
    refine lc_any (J := Itl K TT) (H1 := H) (out := fun i => V.int (((tt.map (·.2)).getD i (0, 0)).2 * ((tt.map (·.2)).getD i (0, 0)).2 / 4 - (((tt.map (·.2)).getD i (0, 0)).1 - 1) * (((tt.map (·.2)).getD i (0, 0)).1 - 1) / 4)) (walk_list (xs := tt.map fun q => V.ref q.1)) (fun R r => ⟨_, rfl, p, C, dx, _, _, rfl, hp, LC.cl, LC.nT, rfl, TT, rfl, ⟨_, SqL.of hT⟩, r⟩) (by rw [List.length_map]; exact Nat.le_trans (Nat.le_trans l2 hz) (by decide)) (fun H' e => SqL.of (e _ _ hT)) (fun i y H2 H3 hi e yy => ?_) (fun y H2 q q' h zz => ?_) (fun Dd Hf hD e hl' => ?_)
    · obtain ⟨eq, hy⟩ := yy
      subst eq
      rw [List.getElem?_map] at hy
      cases hq : tt[i]? with
      | none => rw [hq] at hy; cases hy
      | some q =>
        rw [hq] at hy
        cases hy
        have mq := List.mem_of_getElem? hq
        have hqt := e _ _ (hTP q mq)
        have eg : (tt.map (·.2)).getD i (0, 0) = q.2 := getD_of (by rw [List.getElem?_map, hq]; rfl)
        rw [eg]
        obtain ⟨i1, i2, i3⟩ := in2 q.2 (List.mem_map.mpr ⟨q, mq, rfl⟩)
        refine ⟨Ex.refl _, q.1, _, rfl, SqT.of hqt, rfl, _, _, rfl, _, _, rfl, rfl, rfl, Ex.refl _, fun q' hq' => ?_⟩
        refine ⟨_, rfl, _, rfl, n, q.2.2, rfl, by omega, by omega, n2, fun H5 e5 => ?_⟩
        refine ⟨_, rfl, _, rfl, ⟨_, _, rfl, rfl, n, q.2.1 - 1, rfl, by omega, by omega, n2, fun H6 e6 => ⟨_, _, rfl, rfl, hq' H6 (e5.trans e6)⟩⟩⟩
    · obtain ⟨a1, xs1, r1, r2, r3, v1, r4, r5, v2, r7, r8, r9, r10⟩ := zz
      exact ⟨a1, xs1, r1, r2, r3, v1, r4, r5, v2, r7, r8, r9, h _ _ r10⟩
    · obtain ⟨g1, g2⟩ := sum_pos (fun s : Int × Int => s.2 * s.2 / 4 - (s.1 - 1) * (s.1 - 1) / 4) (l := tt.map (·.2)) fun s hs => by
        obtain ⟨a, b, c⟩ := in2 s hs
        have := quarter a
        have := quarter_le (show 0 ≤ s.1 by omega) b
        omega
      refine ⟨Dd, (tt.map (·.2)).map (fun s : Int × Int => s.2 * s.2 / 4 - (s.1 - 1) * (s.1 - 1) / 4), rfl, SqL.of ?_, gn1 ?_⟩
      · rw [hl', List.map_map, ← map_getD (V.int ∘ fun s : Int × Int => s.2 * s.2 / 4 - (s.1 - 1) * (s.1 - 1) / 4) (0, 0) (tt.map (·.2)), List.length_map, List.length_map]
        rfl
      refine ⟨_, rfl, p, C, dx, _, _, rfl, e _ _ hp, LC.cl, LC.nS, rfl, _, rfl, S, ss, n, rfl, e _ _ hS, fun q hq => e _ _ (hSP q hq), in1, Nat.le_trans l1 hz, fun c H4 e4 c0 hc => ⟨_, rfl, _, _, rfl, rfl, k _ _ (e.trans e4) (by omega) ?_⟩⟩
      rw [← aopt_only sp1 sp2]
      constructor
      · intro z
        exact ⟨List.map_eq_nil_iff.mpr (hc.mp (by omega)), g2.mp (by omega)⟩
      · rintro ⟨z1, z2⟩
        have := hc.mpr (List.map_eq_nil_iff.mp z1)
        have := g2.mpr z2
        omega
theorem ok_many {f fI fL fH fM C : Addr} {fd fdM : FuncData} (F : Fun K "many" "Leavings.many" s_many f fd) (LC : LvC K mg C fI fL fH) (T : Bl mg) (mM : Meth K C "many_to" fM)
    (F_M : Fun K "many_to" "Leavings.many_to" s_many_to fM fdM) (G_M : FnOk P w K mg base CX0 2 fM fdM ["self", "first"] (spManyTo C)) : FnOk P w K mg base CX0 3 f fd ["self"] (spMany C) := by
  have b_M : Binds K fdM ["self", "first"] [] := F_M.binds fun _ _ _ _ _ _ us hl => match us, hl with | [_, _], _ => rfl
  refine F.ok sc_many (fun vs H Q E h => ?_) (fun cdv A outer s H vs Q E hr h => ?_)
  · obtain ⟨p, rs, n, rfl, _⟩ := h
    rfl
  · obtain ⟨p, rs, n, rfl, hLv, hz, lo, n1, n2, k⟩ := h
    have nd := sc_many.nd
    refine ⟨_, pss_one (ps_ret (pe_op op_add (pe_callTy call_int1 (by rfl) T.int (by decide +kernel) (pa_cons (show PE _ _ (tFld K (tVar 0) "nothing") from pe_fld (pv 0) rfl) pa_nil)) (pe_meth (pv 0) LC.cl mM G_M (hr.mono (by decide)) b_M .nil pass0 (pa_cons (show PE _ _ (tFld K (tVar 0) "heap") from pe_fld (pv 0) rfl) pa_nil)))), ?_⟩
    obtain ⟨dx, S, TT, g, ss, tt, hp, hS, hT, hSP, hTP, sp1, sp2, hg⟩ := id hLv
    refine ⟨_, rfl, p, C, dx, _, _, rfl, hp, LC.cl, LC.nN, rfl, .inr ⟨g, rfl, ?_⟩⟩
    refine ⟨_, rfl, p, dx, _, rfl, hp, rfl, _, rfl, p, C, dx, _, _, rfl, hp, LC.cl, LC.nH, rfl, p, rs, n, rfl, hLv, hz, lo, n1, n2, fun m H1 e1 m0 hm => ⟨_, _, rfl, rfl, k _ _ e1 ?_⟩⟩
    constructor
    · intro z ns h
      have g0 : g = false := by
        cases g with
        | false => rfl
        | true =>
          have z : (1 : Int) + m = 0 := z
          omega
      rw [g0] at z
      have z : (0 : Int) + m = 0 := z
      have z2 := hm.mp (by omega) ns h
      rw [z2, aopt_nil] at h
      rw [hg.mpr h] at g0
      cases g0
    · intro z
      have g0 : g = false := by
        cases g with
        | false => rfl
        | true => exact absurd (aopt_nil.mpr (hg.mp rfl)) (z [])
      have := hm.mpr fun ns h => absurd h (z ns)
      rw [g0]
      show (0 : Int) + m = 0
      omega
end
end Ts


set_option Elab.async false
set_option linter.all false
set_option maxRecDepth 100000
set_option maxHeartbeats 4000000
namespace Ts
open PySem PySem.Spec L2
open Evl (Ex)
/-- the ascending list of what S holds of -/
def AscI (S : Int → Prop) (hs : List Int) : Prop := hs.Pairwise (· < ·) ∧ ∀ x, x ∈ hs ↔ S x
theorem AscI.uniq {S : Int → Prop} : ∀ {a b : List Int}, AscI S a → AscI S b → a = b := fun {a b} h g => by
  have nd : ∀ {l : List Int}, l.Pairwise (· < ·) → l.Nodup := fun h => h.imp fun h => by omega
  have p : a.Perm b := (List.perm_ext_iff_of_nodup (nd h.1) (nd g.1)).mpr fun x => (h.2 x).trans (g.2 x).symm
  exact List.Perm.eq_of_pairwise (le := fun x y : Int => x < y) (fun x y _ _ h1 h2 => by omega) h.1 g.1 p
theorem AscI.congr {S T : Int → Prop} {a : List Int} (h : AscI S a) (e : ∀ x, S x ↔ T x) : AscI T a := ⟨h.1, fun x => (h.2 x).trans (e x)⟩
/-- one more turn -/
theorem AscI.step {S : Int → Prop} {a : List Int} {i : Nat} (h : AscI (fun x => 1 ≤ x ∧ x ≤ (i : Int) ∧ S x) a) : (S (1 + (i : Int)) → AscI (fun x => 1 ≤ x ∧ x ≤ ((i + 1 : Nat) : Int) ∧ S x) (a ++ [1 + (i : Int)])) ∧ (¬ S (1 + (i : Int)) → AscI (fun x => 1 ≤ x ∧ x ≤ ((i + 1 : Nat) : Int) ∧ S x) a) := by
  refine ⟨fun s => ⟨List.pairwise_append.mpr ⟨h.1, List.pairwise_singleton .., fun x hx y hy => ?_⟩, fun x => ?_⟩, fun s => ⟨h.1, fun x => ?_⟩⟩
  · have := (h.2 x).mp hx
    rw [List.mem_singleton.mp hy]
    omega
  · rw [List.mem_append, List.mem_singleton, h.2]
    constructor
    · rintro (⟨a, b, c⟩ | rfl)
      · exact ⟨a, by omega, c⟩
      · exact ⟨by omega, by omega, s⟩
    · rintro ⟨a, b, c⟩
      by_cases q : x = 1 + (i : Int)
      · exact .inr q
      · exact .inl ⟨a, by omega, c⟩
  · rw [h.2]
    constructor
    · rintro ⟨a, b, c⟩
      exact ⟨a, by omega, c⟩
    · rintro ⟨a, b, c⟩
      by_cases q : x = 1 + (i : Int)
      · rw [q] at c
        exact absurd c s
      · exact ⟨a, by omega, c⟩
theorem AscI.len {S : Int → Prop} {a : List Int} {i : Nat} (h : AscI (fun x => 1 ≤ x ∧ x ≤ (i : Int) ∧ S x) a) : a.length ≤ i := by
  have z := asc_len (a := 1) (b := (i : Int)) h.1 (fun x hx => ⟨((h.2 x).mp hx).1, ((h.2 x).mp hx).2.1⟩) (by omega)
  omega
section
variable {P : Program} {w : World} {K : PySem.W.Frag} {mg : Str → Option Value} {base : Heap}
/-- has, of a list or a tuple -/
def spHasR (C : Addr) : Sp := fun vs H Q _ => ∃ (p l : Addr) (rs : List Rl) (n : Int) (os : List Int), vs = [.ref p, .ref l] ∧ LvAt C H p rs n ∧ rs.length ≤ 1000 ∧ Row H l (os.map V.int) ∧ Two os ∧ ∀ (b : Bool) H', Ex H H' → (b = true ↔ AOpt rs n os) → Q (.bl b) H'
theorem ok_hasR {f fI fL fH C f1 : Addr} {fd fd1 : FuncData} (F : Fun K "has" "Leavings.has" s_has f fd) (LC : LvC K mg C fI fL fH) (T : Bl mg) (hsum : mg "sum" = none)
    (F_count : FD K mg "count_in" "count_in" s_count f1 fd1) (G_count : FnOk P w K mg base CX0 1 f1 fd1 ["spans", "low", "high"] spCount) : FnOk P w K mg base CX0 2 f fd ["self", "option"] (spHasR C) := by
  have b_count := b_count F_count
  refine F.ok sc_has (fun vs H Q E h => ?_) (fun cdv A outer s H vs Q E hr h => ?_)
  · obtain ⟨p, l, rs, n, os, rfl, _⟩ := h
    rfl
  · obtain ⟨p, l, rs, n, os, rfl, hLv, hz, hl, tw, k⟩ := h
    have nd := sc_has.nd
    have sq : ∀ {xs : List V}, Row H l xs → SqL K H l xs ∨ SqT K H l xs := fun h => h.imp (fun h => SqL.of h) (fun h => SqT.of h)
    refine ⟨_, (pss_cons (ps_if (pt_cmpR op_eq (pe_callB (r := rLenS K) call_len_seq (by rfl) T.len PySem.boot_len (pa_cons (pv 1) pa_nil)) pe_int (nomark _)) (pss_one (ps_ret (pe_fld (pv 0) rfl))) pss_nil)
      (pss_cons (ps_set (i := 2) nd rfl (Or.inl rfl) (pe_callB (r := rSumRow K) (cr_sumRow rfl) (by rfl) hsum (by decide +kernel) (pa_cons (pv 1) pa_nil)))
      (pss_cons (ps_set (i := 3) nd rfl (Or.inl rfl) (pe_ifExp (pt_cmpR op_eq (pe_callB (r := rLenS K) call_len_seq (by rfl) T.len PySem.boot_len (pa_cons (pv 1) pa_nil)) pe_int (nomark _)) (pe_fld (pv 0) rfl) (pe_fld (pv 0) rfl)))
      (pss_one (ps_ret (pe_cmpR op_eq (pe_call G_count (hr.mono (by decide)) (by rfl) F_count.g F_count.F.kp b_count .nil pass0 (pa_cons (pv 3) (pa_cons (pv 2) (pa_cons (pv 2) pa_nil)))) pe_int (nomark _))))))), ?_⟩
    obtain ⟨dx, S, TT, g, ss, tt, hp, hS, hT, hSP, hTP, ⟨ap1, l1, m1⟩, ⟨ap2, l2, m2⟩, hg⟩ := id hLv
    rw [List.length_map] at l1 l2
    refine seq1 ⟨_, rfl, l, _, rfl, sq hl, rfl, _, rfl, ?_⟩
    obtain ⟨tl, tp, ta⟩ := tw
    match os, tl, tp, ta with
    | [], _, _, _ =>
      exact iteT ⟨_, rfl, p, C, dx, _, _, rfl, hp, LC.cl, LC.nN, rfl, k g H (Ex.refl _) (hg.trans aopt_nil.symm)⟩
    | [x], _, tp, _ =>
      refine iteF (next1 ?_)
      dsimp only
      refine seq1 (asg1 ?_)
      refine ⟨_, rfl, l, [x], rfl, sq hl, gn1 ?_⟩
      dsimp only
      refine seq1 (asg1 ?_)
      refine ⟨_, rfl, l, _, rfl, sq hl, rfl, _, rfl, iteT ⟨_, rfl, p, C, dx, _, _, rfl, hp, LC.cl, LC.nS, rfl, gn1 ?_⟩⟩
      have ex : [x].sum = x := by simp
      rw [ex]
      refine ⟨_, rfl, _, rfl, _, rfl, S, ss, x, rfl, hS, hSP, ap1, by omega, fun c H' e hc => ⟨rfl, ?_⟩⟩
      refine k _ _ e ?_
      rw [decide_eq_true_iff, aopt_one, ← m1 x, ← hc]
      exact ⟨fun z => V.int.inj z, fun z => by rw [z]⟩
    | [a, b], _, tp, ta =>
      refine iteF (next1 ?_)
      dsimp only
      refine seq1 (asg1 ?_)
      refine ⟨_, rfl, l, [a, b], rfl, sq hl, gn1 ?_⟩
      dsimp only
      refine seq1 (asg1 ?_)
      refine ⟨_, rfl, l, _, rfl, sq hl, rfl, _, rfl, iteF ⟨_, rfl, p, C, dx, _, _, rfl, hp, LC.cl, LC.nT, rfl, gn1 ?_⟩⟩
      have ex : [a, b].sum = a + b := by simp
      rw [ex]
      refine ⟨_, rfl, _, rfl, _, rfl, TT, tt, a + b, rfl, hT, hTP, ap2, by omega, fun c H' e hc => ⟨rfl, ?_⟩⟩
      refine k _ _ e ?_
      have hab : a ≤ b := (List.pairwise_cons.mp ta).1 b (by simp)
      rw [decide_eq_true_iff, aopt_two (tp a (by simp)) hab, ← m2 (a + b), ← hc]
      exact ⟨fun z => V.int.inj z, fun z => by rw [z]⟩
/-- what a leaving is -/
theorem lv_two {d : PyData} (h : isLv d = true) : isRow d = true ∧ ∃ os : List Int, items d = os.map .int ∧ Two os := by
  obtain ⟨h1, h2⟩ := Bool.and_eq_true_iff.mp h
  obtain ⟨hrow, hl, os, ho, hpos⟩ := hps_two h1
  refine ⟨hrow, os, ho, by rw [ho, List.length_map] at hl; exact hl, hpos, ?_⟩
  rw [ho, List.length_map] at hl
  rw [ho] at h2
  match os, hl, h2 with
  | [], _, _ => exact .nil
  | [x], _, _ => exact List.pairwise_singleton ..
  | [x, y], _, h2 => exact .cons (fun z hz => by rw [List.mem_singleton.mp hz]; exact of_decide_eq_true h2) (List.pairwise_singleton ..)
end
end Ts


set_option Elab.async false
set_option linter.all false
set_option maxRecDepth 100000
set_option maxHeartbeats 4000000
namespace Ts
open PySem PySem.Spec L2
open Evl (Ex)
theorem made_del {H : Hp} {q dq C : Addr} (nq : H q = none) (ndq : H dq = none) (hne : dq ≠ q) : Ex H (del (upd (upd H dq (.own q)) q (.ins C dq [])) q) := fun z o hz => by
  have n1 : z ≠ q := fun w => by
    rw [w, nq] at hz
    cases hz
  have n2 : z ≠ dq := fun w => by
    rw [w, ndq] at hz
    cases hz
  rw [del_ne n1, upd_ne n1, upd_ne n2]
  exact hz
section
variable {P : Program} {w : World} {K : PySem.W.Frag} {mg : Str → Option Value} {base : Heap}
abbrev s_from := top 43
abbrev s_ends := top 44
theorem sc_from : FnScope ["book", "option", "most", "heap"] ["book", "option", "most"] (defScope s_from) := ⟨rfl, rfl, rfl, by decide +kernel, rfl, by decide +kernel, by decide +kernel⟩
theorem sc_ends : FnScope ["book", "most", "heap"] ["book", "most"] (defScope s_ends) := ⟨rfl, rfl, rfl, by decide +kernel, rfl, by decide +kernel, by decide +kernel⟩
/-- a book, or what is none -/
def Bk1 (CK CB : Addr) (v : V) (H : Hp) (E : XK) (k : List Rl → Prop) : Prop :=
  ((∃ d, D H v d) ∧ ∀ H', Ex H H' → Raised H' "thing" v CB E) ∨ ∃ (b : Addr) (rs : List Rl), v = .ref b ∧ BookAt CK H b rs ∧ rs.length ≤ 1000 ∧ (∀ r ∈ rs, 0 < r.mod) ∧ (∀ r ∈ rs, 0 ≤ r.low) ∧ k rs
def spEnds (CK CB CN : Addr) : Sp := fun vs H Q E => ∃ v u, vs = [v, u] ∧ Bk1 CK CB v H E fun rs => ∃ du, D H u du ∧ (isNum du = false → ∀ H', Ex H H' → Raised H' "thing" u CN E) ∧
  ∀ n, du = .int n → 0 ≤ n → n ≤ 100000 ∧ ∀ (L : Addr) H' (hs : List Int), H L = none → Ex H H' → H' L = some (.lst (hs.map V.int)) → AscI (fun h => 1 ≤ h ∧ h ≤ n ∧ ∀ ns, ¬ AOpt rs h ns) hs → Q (.ref L) H'
def spFrom (CK CB CO CN : Addr) : Sp := fun vs H Q E => ∃ v x u, vs = [v, x, u] ∧ Bk1 CK CB v H E fun rs => ∃ dx, D H x dx ∧ (isLv dx = false → ∀ H', Ex H H' → Raised H' "thing" x CO E) ∧ (isLv dx = true → ∃ du, D H u du ∧ (isNum du = false → ∀ H', Ex H H' → Raised H' "thing" u CN E) ∧
  ∀ (os : List Int) n, items dx = os.map .int → du = .int n → 0 ≤ n → n ≤ 100000 ∧ ∀ (L : Addr) H' (hs : List Int), H L = none → Ex H H' → H' L = some (.lst (hs.map V.int)) → AscI (fun h => 1 ≤ h ∧ h ≤ n ∧ AOpt rs h os) hs → Q (.ref L) H')
theorem ok_ends {f f1 f2 fI fL fH fM C CK CB CN fBI fBR : Addr} {fd fd1 fd2 fdI fdM : FuncData} (F : FD K mg "ends" "ends" s_ends f fd) (LC : LvC K mg C fI fL fH) (T : Bl mg)
    (F_nb : FD K mg "need_book" "need_book" s_need_book f1 fd1) (G_nb : FnOk P w K mg base (L2.CX P w) 3 f1 fd1 ["thing"] (spNeedB CK CB))
    (F_nn : FD K mg "need_number" "need_number" s_need_number f2 fd2) (G_nn : FnOk P w K mg base (L2.CX P w) 3 f2 fd2 ["thing"] (spNeed isNum CN))
    (F_I : Fun K "__init__" "Leavings.__init__" s_linit fI fdI) (G_I : FnOk P w K mg base CX0 4 fI fdI ["self", "book", "heap"] (spLinit C CK))
    (mM : Meth K C "many" fM) (F_M : Fun K "many" "Leavings.many" s_many fM fdM) (G_M : FnOk P w K mg base CX0 3 fM fdM ["self"] (spMany C)) : FnOk P w K mg base (L2.CX P w) 6 f fd ["book", "most"] (spEnds CK CB CN) := by
  have b_nb : Binds K fd1 ["thing"] [] := F_nb.F.binds fun _ _ _ _ _ _ us hl => match us, hl with | [_], _ => rfl
  have b_nn : Binds K fd2 ["thing"] [] := F_nn.F.binds fun _ _ _ _ _ _ us hl => match us, hl with | [_], _ => rfl
  have b_I : Binds K fdI ["self", "book", "heap"] [] := F_I.binds fun _ _ _ _ _ _ us hl => match us, hl with | [_, _, _], _ => rfl
  have b_M : Binds K fdM ["self"] [] := F_M.binds fun _ _ _ _ _ _ us hl => match us, hl with | [_], _ => rfl
  refine F.F.okX sc_ends (fun vs H Q E h => ?_) (fun cdv A outer s H vs Q E hr h => ?_)
  · obtain ⟨v, u, rfl, _⟩ := h
    rfl
  · obtain ⟨v, u, rfl, h⟩ := h
    have nd := sc_ends.nd
    refine ⟨_, (pss_cons (ps_expr (pe_call G_nb (hr.mono (by decide)) (by rfl) F_nb.g F_nb.F.kp b_nb .nil (passes_call (takes_of rfl rfl rfl rfl) (fun _ _ _ _ h => h)) (pa_cons (pv 0) pa_nil)))
      (pss_cons (ps_expr (pe_call G_nn (hr.mono (by decide)) (by rfl) F_nn.g F_nn.F.kp b_nn .nil (passes_call (takes_of rfl rfl rfl rfl) (fun _ _ _ _ h => h)) (pa_cons (pv 1) pa_nil)))
      (pss_one (ps_ret (pe_lc (own := [("heap", 2)]) (g := gName 2) rfl nd (pi_range2 (by rfl) T.range (pa_cons pe_int (pa_cons (pe_op op_add (pv 1) pe_int) pa_nil))) (blkOk_by (N := ["book", "most", "heap"]) (sc := defScope s_ends) (by decide +kernel)) (fun _ _ _ _ _ => pg_name (i := 2) nd rfl (Or.inl rfl))
        (fun _ _ _ _ _ => pts_one (pt_cmpR (r := rEq) op_eq (pe_meth0 (pe_make LC.made G_I (hr.mono (by decide)) (by rfl) LC.gC b_I .nil pass0 (pa_cons (pv 0) (pa_cons (pv 2) pa_nil))) LC.cl mM G_M (hr.mono (by decide)) b_M .nil pass0) pe_int (nomark _))) (fun _ _ _ _ _ => pv 2)))))), ?_⟩
    rcases h with ⟨hd, k1⟩ | ⟨b, rs, rfl, hb, hz, hm, lo, du, hu, k2, k3⟩
    · exact seq1 ⟨_, rfl, v, rfl, .inr ⟨.inl hd, k1⟩⟩
    · obtain ⟨dx, L, qs, hb1, _⟩ := id hb
      refine seq1 ⟨_, rfl, _, rfl, .inl ⟨b, dx, _, rfl, hb1, fun H1 e1 => ?_⟩⟩
      dsimp only
      refine seq1 ⟨_, rfl, u, du, rfl, hu.ex e1, fun hp H2 e2 => ?_, fun hp H2 e2 => k2 hp H2 (e1.trans e2)⟩
      dsimp only
      obtain ⟨n, rfl⟩ : ∃ n, du = .int n := by
        cases du <;> first
          | exact ⟨_, rfl⟩
          | cases hp
      obtain rfl := hu.int_of
      have n0 : 0 ≤ n := of_decide_eq_true hp
      obtain ⟨n1, k4⟩ := k3 n rfl n0
      have e12 := e1.trans e2
      refine ⟨_, rfl, _, _, rfl, rfl, _, _, rfl, ⟨by decide, by decide, by omega, by omega⟩, fun Dl nD => ?_⟩
      have hn : (n + 1 - 1).toNat = n.toNat := by omega
      refine lc_it (walk_range (lo := 1) (n := (n + 1 - 1).toNat)) (Pv := fun i H' => Ex H2 H' ∧ ∃ hs : List Int, H' Dl = some (.lst (hs.map V.int)) ∧ AscI (fun h => 1 ≤ h ∧ h ≤ (i : Int) ∧ ∀ ns, ¬ AOpt rs h ns) hs)
        ⟨Ex.new nD, [], upd_same, .nil, fun x => ⟨(fun z => by cases z), fun z => by omega⟩⟩ (fun _ _ _ _ => trivial) (fun i y H3 H4 hi p yy => ?_) (fun H3 p => ?_)
      · obtain ⟨e3, hs, hD, asc⟩ := p
        obtain ⟨rfl, rfl⟩ := yy
        dsimp only
        refine gn1 ⟨rfl, _, rfl, _, rfl, fun q dq nq ndq hne => ?_⟩
        have hdel := made_del (C := C) nq ndq hne
        refine ⟨q, dq, b, rs, _, rfl, upd_same, ((hb.ex e12).ex e3).ex hdel, hz, hm, fun H5 e5 hLv => ⟨rfl, ?_⟩⟩
        obtain ⟨dx', S, T', g, ss, tt, h1, _⟩ := id hLv
        refine ⟨q, dx', _, rfl, h1, rfl, q, rs, _, rfl, hLv, hz, lo, by omega, by omega, fun m H6 e6 hm6 => ⟨rfl, _, rfl, ?_⟩⟩
        have e36 := (hdel.trans e5).trans e6
        have hD6 := e36 _ _ hD
        obtain ⟨st1, st2⟩ := asc.step
        by_cases c : m = 0
        · refine ite_tt (by rw [dec_z]; exact decide_eq_true c) ⟨_, rfl, _, hD6, ?_, (e3.trans e36).mut nD, hs ++ [1 + (i : Int)], by rw [upd_same, List.map_append]; rfl, st1 (hm6.mp c)⟩
          rw [List.length_map]
          exact Nat.lt_of_le_of_lt (show hs.length ≤ 100000 by have := asc.len; omega) (by decide)
        · exact ite_ff (by rw [dec_z]; exact decide_eq_false c) ⟨e3.trans e36, hs, hD6, st2 fun z => c (hm6.mpr z)⟩
      · obtain ⟨e3, hs, hD, asc⟩ := p
        exact k4 Dl H3 hs (Evl.fresh_back e12 nD) (e12.trans e3) hD (asc.congr fun x => by rw [hn, show ((n.toNat : Nat) : Int) = n by omega])
theorem ok_from {f f1 f2 f3 fI fL fH C CK CB CN CO gO : Addr} {fd fd1 fd2 fd3 fdI fdH fdO : FuncData} (F : FD K mg "heaps_from" "heaps_from" s_from f fd) (LC : LvC K mg C fI fL fH) (T : Bl mg)
    (F_nb : FD K mg "need_book" "need_book" s_need_book f1 fd1) (G_nb : FnOk P w K mg base (L2.CX P w) 3 f1 fd1 ["thing"] (spNeedB CK CB))
    (F_nn : FD K mg "need_number" "need_number" s_need_number f2 fd2) (G_nn : FnOk P w K mg base (L2.CX P w) 3 f2 fd2 ["thing"] (spNeed isNum CN))
    (F_lv : FD K mg "is_leaving" "is_leaving" s_is_leaving f3 fd3) (G_lv : FnOk P w K mg base CX0 4 f3 fd3 ["thing"] (spAsk isLv))
    (XO : XC K mg "BadOption" "thing" CO gO) (GO : FnOk P w K mg base CX0 1 gO fdO ["self", "thing"] (spIni CO "thing")) (bO : Binds K fdO ["self", "thing"] [])
    (F_I : Fun K "__init__" "Leavings.__init__" s_linit fI fdI) (G_I : FnOk P w K mg base CX0 4 fI fdI ["self", "book", "heap"] (spLinit C CK))
    (F_H : Fun K "has" "Leavings.has" s_has fH fdH) (G_H : FnOk P w K mg base CX0 2 fH fdH ["self", "option"] (spHasR C)) : FnOk P w K mg base (L2.CX P w) 6 f fd ["book", "option", "most"] (spFrom CK CB CO CN) := by
  have b_nb : Binds K fd1 ["thing"] [] := F_nb.F.binds fun _ _ _ _ _ _ us hl => match us, hl with | [_], _ => rfl
  have b_nn : Binds K fd2 ["thing"] [] := F_nn.F.binds fun _ _ _ _ _ _ us hl => match us, hl with | [_], _ => rfl
  have b_lv : Binds K fd3 ["thing"] [] := F_lv.F.binds fun _ _ _ _ _ _ us hl => match us, hl with | [_], _ => rfl
  have b_I : Binds K fdI ["self", "book", "heap"] [] := F_I.binds fun _ _ _ _ _ _ us hl => match us, hl with | [_, _, _], _ => rfl
  have b_H : Binds K fdH ["self", "option"] [] := F_H.binds fun _ _ _ _ _ _ us hl => match us, hl with | [_, _], _ => rfl
  refine F.F.okX sc_from (fun vs H Q E h => ?_) (fun cdv A outer s H vs Q E hr h => ?_)
  · obtain ⟨v, x, u, rfl, _⟩ := h
    rfl
  · obtain ⟨v, x, u, rfl, h⟩ := h
    have nd := sc_from.nd
    refine ⟨_, (pss_cons (ps_expr (pe_call G_nb (hr.mono (by decide)) (by rfl) F_nb.g F_nb.F.kp b_nb .nil (passes_call (takes_of rfl rfl rfl rfl) (fun _ _ _ _ h => h)) (pa_cons (pv 0) pa_nil)))
      (pss_cons (ps_if (pt_not (pt_val (pe_call G_lv (hr.mono (by decide)) (by rfl) F_lv.g F_lv.F.kp b_lv .nil pass0 (pa_cons (pv 1) pa_nil)))) (pss_one (ps_raise1 rfl (takes_of rfl rfl rfl rfl) XO GO bO (hr.mono (by decide)) (by rfl) (pv 1))) pss_nil)
      (pss_cons (ps_expr (pe_call G_nn (hr.mono (by decide)) (by rfl) F_nn.g F_nn.F.kp b_nn .nil (passes_call (takes_of rfl rfl rfl rfl) (fun _ _ _ _ h => h)) (pa_cons (pv 2) pa_nil)))
      (pss_one (ps_ret (pe_lc (own := [("heap", 3)]) (g := gName 3) rfl nd (pi_range2 (by rfl) T.range (pa_cons pe_int (pa_cons (pe_op op_add (pv 2) pe_int) pa_nil))) (blkOk_by (N := ["book", "option", "most", "heap"]) (sc := defScope s_from) (by decide +kernel)) (fun _ _ _ _ _ => pg_name (i := 3) nd rfl (Or.inl rfl))
        (fun _ _ _ _ _ => pts_one (pt_val (pe_meth (pe_make LC.made G_I (hr.mono (by decide)) (by rfl) LC.gC b_I .nil pass0 (pa_cons (pv 0) (pa_cons (pv 3) pa_nil))) LC.cl LC.mH G_H (hr.mono (by decide)) b_H .nil pass0 (pa_cons (pv 1) pa_nil)))) (fun _ _ _ _ _ => pv 3))))))), ?_⟩
    rcases h with ⟨hd, k1⟩ | ⟨b, rs, rfl, hb, hz, hm, lo, dx, hx, k0, k2⟩
    · exact seq1 ⟨_, rfl, v, rfl, .inr ⟨.inl hd, k1⟩⟩
    · obtain ⟨dxb, L, qs, hb1, _⟩ := id hb
      refine seq1 ⟨_, rfl, _, rfl, .inl ⟨b, dxb, _, rfl, hb1, fun H0 e0 => ?_⟩⟩
      dsimp only
      refine seq1 ⟨_, rfl, x, dx, rfl, hx.ex e0, fun H1 e01 => ⟨_, rfl, ?_⟩⟩
      have e1 := e0.trans e01
      by_cases clv : isLv dx = true
      case neg =>
        have hf : isLv dx = false := by simpa using clv
        rw [hf]
        exact iteT ⟨_, rfl, raise1 (k0 hf H1 e1)⟩
      rw [clv]
      obtain ⟨du, hu, k2, k3⟩ := k2 clv
      obtain ⟨hrow, os, ho, tw⟩ := lv_two clv
      obtain ⟨l, xs, rfl, hl, hall⟩ := hx.row hrow
      have hxs : xs = os.map V.int := dall_ints (by rw [ho] at hall; exact hall)
      subst hxs
      refine iteF (next1 ?_)
      dsimp only
      refine seq1 ⟨_, rfl, u, du, rfl, hu.ex e1, fun hp H2 e2 => ?_, fun hp H2 e2 => k2 hp H2 (e1.trans e2)⟩
      dsimp only
      obtain ⟨n, rfl⟩ : ∃ n, du = .int n := by
        cases du <;> first
          | exact ⟨_, rfl⟩
          | cases hp
      obtain rfl := hu.int_of
      have n0 : 0 ≤ n := of_decide_eq_true hp
      obtain ⟨n1, k4⟩ := k3 os n ho rfl n0
      have e12 := e1.trans e2
      refine ⟨_, rfl, _, _, rfl, rfl, _, _, rfl, ⟨by decide, by decide, by omega, by omega⟩, fun Dl nD => ?_⟩
      have hn : (n + 1 - 1).toNat = n.toNat := by omega
      refine lc_it (walk_range (lo := 1) (n := (n + 1 - 1).toNat)) (Pv := fun i H' => Ex H2 H' ∧ ∃ hs : List Int, H' Dl = some (.lst (hs.map V.int)) ∧ AscI (fun h => 1 ≤ h ∧ h ≤ (i : Int) ∧ AOpt rs h os) hs)
        ⟨Ex.new nD, [], upd_same, .nil, fun x => ⟨(fun z => by cases z), fun z => by omega⟩⟩ (fun _ _ _ _ => trivial) (fun i y H3 H4 hi p yy => ?_) (fun H3 p => ?_)
      · obtain ⟨e3, hs, hD, asc⟩ := p
        obtain ⟨rfl, rfl⟩ := yy
        dsimp only
        refine gn1 ⟨rfl, _, rfl, _, rfl, fun q dq nq ndq hne => ?_⟩
        have hdel := made_del (C := C) nq ndq hne
        refine ⟨q, dq, b, rs, _, rfl, upd_same, ((hb.ex e12).ex e3).ex hdel, hz, hm, fun H5 e5 hLv => ⟨rfl, ?_⟩⟩
        obtain ⟨dx', S, T', g, ss, tt, h1, _⟩ := id hLv
        have e35 := hdel.trans e5
        refine ⟨q, dx', _, rfl, h1, rfl, _, rfl, q, l, rs, _, os, rfl, hLv, hz, ((hl.ex e12).ex e3).ex e35, tw, fun m H6 e6 hm6 => ⟨_, rfl, ?_⟩⟩
        have e36 := e35.trans e6
        have hD6 := e36 _ _ hD
        obtain ⟨st1, st2⟩ := asc.step
        cases m with
        | true =>
          refine ite_tt rfl ⟨_, rfl, _, hD6, ?_, (e3.trans e36).mut nD, hs ++ [1 + (i : Int)], by rw [upd_same, List.map_append]; rfl, st1 (hm6.mp rfl)⟩
          rw [List.length_map]
          exact Nat.lt_of_le_of_lt (show hs.length ≤ 100000 by have := asc.len; omega) (by decide)
        | false => exact ite_ff rfl ⟨e3.trans e36, hs, hD6, st2 fun z => absurd (hm6.mpr z) (by decide)⟩
      · obtain ⟨e3, hs, hD, asc⟩ := p
        exact k4 Dl H3 hs (Evl.fresh_back e12 nD) (e12.trans e3) hD (asc.congr fun x => by rw [hn, show ((n.toNat : Nat) : Int) = n by omega])
end
end Ts


set_option Elab.async false
set_option linter.all false
set_option maxRecDepth 100000
set_option maxHeartbeats 4000000
namespace Ts
open PySem PySem.Spec L2
open PySem.W (dataLe)
/-! ## a rule's line tells the rule -/
abbrev tx (x : Str) : List Nat := x.cps.toList
theorem tx_app (x y : Str) : tx (x ++ y) = tx x ++ tx y := TL.tl_append x y
theorem tx_ext {x y : Str} (h : tx x = tx y) : x = y := TL.ext_tl h
theorem line_aline (r : Rl) : r.line = r.aline := by
  apply tx_ext
  unfold Rl.line Rl.aline Rl.l3 Rl.l2 Rl.l1 Rl.al Rl.hi2 Rl.wh
  have e0 : tx Str.empty = [] := rfl
  have e1 : tx ("" : Str) = [] := rfl
  cases r.high with
  | none =>
    by_cases c : r.mod = 1
    · rw [if_pos c, if_pos c]
      simp only [tx_app, e0, e1, List.nil_append, List.append_nil, List.append_assoc]
    · rw [if_neg c, if_neg c]
      simp only [tx_app, e0, e1, List.nil_append, List.append_nil, List.append_assoc]
  | some h =>
    dsimp only
    by_cases c : r.mod = 1 <;> by_cases d : h = r.low
    · rw [if_pos c, if_pos c, if_pos d, if_pos d]
      simp only [tx_app, e0, e1, List.nil_append, List.append_nil, List.append_assoc]
    · rw [if_pos c, if_pos c, if_neg d, if_neg d]
      simp only [tx_app, e0, e1, List.nil_append, List.append_nil, List.append_assoc]
    · rw [if_neg c, if_neg c, if_pos d, if_pos d]
      simp only [tx_app, e0, e1, List.nil_append, List.append_nil, List.append_assoc]
    · rw [if_neg c, if_neg c, if_neg d, if_neg d]
      simp only [tx_app, e0, e1, List.nil_append, List.append_nil, List.append_assoc]
theorem split_sp : ∀ {a b x y : List Nat}, 32 ∉ a → 32 ∉ b → a ++ 32 :: x = b ++ 32 :: y → a = b ∧ x = y
  | [], [], _, _, _, _, h => ⟨rfl, List.tail_eq_of_cons_eq h⟩
  | [], c :: b, _, _, _, hb, h => absurd (List.mem_cons.mpr (.inl (List.head_eq_of_cons_eq h))) hb
  | c :: a, [], _, _, ha, _, h => absurd (List.mem_cons.mpr (.inl (List.head_eq_of_cons_eq h).symm)) ha
  | c :: a, d :: b, _, _, ha, hb, h => by
    have h1 : c = d := List.head_eq_of_cons_eq h
    obtain ⟨h2, h3⟩ := split_sp (fun z => ha (List.mem_cons_of_mem _ z)) (fun z => hb (List.mem_cons_of_mem _ z)) (List.tail_eq_of_cons_eq h)
    rw [h1, h2]
    exact ⟨rfl, h3⟩
theorem num_free (i : Int) : 32 ∉ tx (num i) := fun z => (PyProof.Rows.intText_free_32 i).mp z
theorem num_inj {i j : Int} (hi : 0 ≤ i) (hj : 0 ≤ j) (h : tx (num i) = tx (num j)) : i = j := by
  obtain ⟨n, rfl⟩ := Int.eq_ofNat_of_zero_le hi
  obtain ⟨m, rfl⟩ := Int.eq_ofNat_of_zero_le hj
  have h1 : TL.numL n = TL.numL m := (TL.tl_num n).symm.trans (h.trans (TL.tl_num m))
  rw [TL.numL_inj h1]
theorem left_free {r : Rl} (h : r.Ok) : 32 ∉ tx r.left := by
  rcases left_of h with z | z | z <;> rw [z] <;> decide
theorem wh_tx (r : Rl) : (r.mod = 1 ∧ tx r.wh = []) ∨ (r.mod ≠ 1 ∧ tx r.wh = 32 :: (tx ("when " : Str) ++ (tx (num r.rest) ++ 32 :: (tx ("of " : Str) ++ tx (num r.mod))))) := by
  unfold Rl.wh
  by_cases c : r.mod = 1
  · rw [if_pos c]
    exact .inl ⟨c, rfl⟩
  · rw [if_neg c]
    refine .inr ⟨c, ?_⟩
    rw [tx_app, tx_app, tx_app, List.append_assoc, List.append_assoc]
    rfl
theorem wh_inj {r r' : Rl} (h : r.Ok) (h' : r'.Ok) (e : tx r.left ++ tx r.wh = tx r'.left ++ tx r'.wh) : r.left = r'.left ∧ r.rest = r'.rest ∧ r.mod = r'.mod := by
  have f1 := left_free h
  have f2 := left_free h'
  have a0 := h.rest0
  have a1 := h.rest1
  have b0 := h'.rest0
  have b1 := h'.rest1
  rcases wh_tx r with ⟨m, w⟩ | ⟨m, w⟩ <;> rcases wh_tx r' with ⟨m', w'⟩ | ⟨m', w'⟩ <;> rw [w, w'] at e
  · rw [List.append_nil, List.append_nil] at e
    exact ⟨tx_ext e, by omega, by omega⟩
  · rw [List.append_nil] at e
    rw [e] at f1
    exact absurd (List.mem_append_right _ (.head _)) f1
  · rw [List.append_nil] at e
    rw [← e] at f2
    exact absurd (List.mem_append_right _ (.head _)) f2
  · obtain ⟨e1, e2⟩ := split_sp f1 f2 e
    obtain ⟨e3, e4⟩ := split_sp (num_free _) (num_free _) (List.append_cancel_left e2)
    exact ⟨tx_ext e1, num_inj a0 b0 e3, num_inj (by omega) (by omega) (List.append_cancel_left e4)⟩
/-- what stands behind the first number -/
theorem hi_tx (r : Rl) (X : List Nat) : (r.high = none ∧ tx r.hi2 ++ (tx (" leave " : Str) ++ X) = 32 :: (111 :: (tx ("r more leave " : Str) ++ X))) ∨ (r.high = some r.low ∧ tx r.hi2 ++ (tx (" leave " : Str) ++ X) = 32 :: (108 :: (tx ("eave " : Str) ++ X))) ∨
    ∃ h, r.high = some h ∧ tx r.hi2 ++ (tx (" leave " : Str) ++ X) = 32 :: (116 :: (tx ("o " : Str) ++ (tx (num h) ++ 32 :: (tx ("leave " : Str) ++ X)))) := by
  unfold Rl.hi2
  cases hh : r.high with
  | none => exact .inl ⟨rfl, rfl⟩
  | some h =>
    by_cases c : h = r.low
    · refine .inr (.inl ⟨by rw [c], ?_⟩)
      show tx (if h = r.low then ("" : Str) else " to " ++ num h) ++ _ = _
      rw [if_pos c]
      rfl
    · refine .inr (.inr ⟨h, rfl, ?_⟩)
      show tx (if h = r.low then ("" : Str) else " to " ++ num h) ++ _ = _
      rw [if_neg c, tx_app, List.append_assoc]
      rfl
theorem aline_tx (r : Rl) : tx r.aline = tx ("take " : Str) ++ (tx (num r.low) ++ (tx r.hi2 ++ (tx (" leave " : Str) ++ (tx r.left ++ tx r.wh)))) := by
  unfold Rl.aline Rl.al
  simp only [tx_app, List.append_assoc]
theorem aline_inj {r r' : Rl} (h : r.Ok) (h' : r'.Ok) (e : r.aline = r'.aline) : r = r' := by
  have e := congrArg tx e
  rw [aline_tx, aline_tx] at e
  have e := List.append_cancel_left e
  have fin : r.low = r'.low → r.high = r'.high → tx r.left ++ tx r.wh = tx r'.left ++ tx r'.wh → r = r' := fun e1 e2 e3 => by
    obtain ⟨e4, e5, e6⟩ := wh_inj h h' e3
    obtain ⟨a, b, c, d, f⟩ := r
    obtain ⟨a', b', c', d', f'⟩ := r'
    cases e1
    cases e2
    cases e4
    cases e5
    cases e6
    rfl
  have low : ∀ {x y : List Nat}, tx (num r.low) ++ 32 :: x = tx (num r'.low) ++ 32 :: y → r.low = r'.low ∧ x = y := fun q => by
    obtain ⟨q1, q2⟩ := split_sp (num_free _) (num_free _) q
    exact ⟨num_inj h.low0 h'.low0 q1, q2⟩
  rcases hi_tx r (tx r.left ++ tx r.wh) with ⟨c, w⟩ | ⟨c, w⟩ | ⟨x, c, w⟩ <;> rcases hi_tx r' (tx r'.left ++ tx r'.wh) with ⟨c', w'⟩ | ⟨c', w'⟩ | ⟨x', c', w'⟩ <;> rw [w, w'] at e <;> obtain ⟨e1, e2⟩ := low e <;> first
    | exact absurd (List.head_eq_of_cons_eq e2) (by decide)
    | exact fin e1 (by simp only [c, c', e1]) (List.append_cancel_left (List.tail_eq_of_cons_eq e2))
    | skip
  obtain ⟨e3, e4⟩ := split_sp (num_free _) (num_free _) (List.append_cancel_left (List.tail_eq_of_cons_eq e2))
  have hx := h.high x c
  have hx' := h'.high x' c'
  have l1 := h.low0
  have l2 := h'.low0
  exact fin e1 (by rw [c, c', num_inj (by omega) (by omega) e3]) (List.append_cancel_left e4)
/-- the book's rules stand as the law sorts them -/
theorem sort_same {qs : List (Addr × Rl)} {rs0 : List Rl} (p : rs0.Perm (qs.map (·.2))) (ok : ∀ q ∈ qs, q.2.Ok) : sortR rs0 = (lawSort qs).map (·.2) := by
  have ok0 : ∀ r ∈ qs.map (·.2), r.Ok := fun r hr => by
    obtain ⟨q, hq, rfl⟩ := List.mem_map.mp hr
    exact ok q hq
  have tot : ∀ (a b : List Nat), (decide (a ≤ b) || decide (b ≤ a)) = true := fun a b => by
    rcases List.le_total a b with h | h
    · rw [decide_eq_true h]
      rfl
    · rw [decide_eq_true h, Bool.or_true]
  have tr : ∀ (a b c : List Nat), decide (a ≤ b) = true → decide (b ≤ c) = true → decide (a ≤ c) = true := fun a b c h1 h2 => decide_eq_true (List.le_trans (of_decide_eq_true h1) (of_decide_eq_true h2))
  have s1 : (sortR rs0).Pairwise fun a b => tx a.aline ≤ tx b.aline := by
    unfold sortR
    have z := List.pairwise_mergeSort (le := dataLe false fun r => PyData.str r.line) (fun a b c h1 h2 => by rw [PySem.W.dataLe_str] at *; exact tr _ _ _ h1 h2) (fun a b => by rw [PySem.W.dataLe_str]; exact tot _ _) rs0
    refine z.imp fun {a b} h => ?_
    rw [PySem.W.dataLe_str] at h
    rw [← line_aline, ← line_aline]
    exact of_decide_eq_true h
  have s2 : ((lawSort qs).map (·.2)).Pairwise fun a b => tx a.aline ≤ tx b.aline := by
    rw [List.pairwise_map]
    unfold lawSort
    have z := List.pairwise_mergeSort (le := dataLe false fun q : Addr × Rl => PyData.str q.2.aline) (fun a b c h1 h2 => by rw [PySem.W.dataLe_str] at *; exact tr _ _ _ h1 h2) (fun a b => by rw [PySem.W.dataLe_str]; exact tot _ _) qs
    refine z.imp fun {a b} h => ?_
    rw [PySem.W.dataLe_str] at h
    exact of_decide_eq_true h
  have p1 : (sortR rs0).Perm rs0 := List.mergeSort_perm _ _
  have p2 := (lawSort_perm qs).map (·.2)
  refine List.Perm.eq_of_pairwise (fun a b ha hb h1 h2 => ?_) s1 s2 ((p1.trans p).trans p2.symm)
  have ha := ok0 a (p.mem_iff.mp (p1.mem_iff.mp ha))
  have hb := ok0 b (p2.mem_iff.mp hb)
  exact aline_inj ha hb (tx_ext (List.le_antisymm h1 h2))
end Ts


set_option Elab.async false
set_option linter.all false
set_option maxRecDepth 100000
set_option maxHeartbeats 4000000
namespace Ts
open PySem PySem.Spec L2
open Evl (Ex)
/-! ## several except clauses, with and without a name; nothing else may come -/
abbrev Suite := Addr → Value → Option Addr → TS
/-- the ends behind a suite whose name is let go -/
def lets (i : Nat) (D : Ends) : Ends := { nx := fun σ H => D.nx (σ.set i none) H, rt := D.rt, bk := fun σ H => D.bk (σ.set i none) H, ct := fun σ H => D.ct (σ.set i none) H }
def wClauses (K : PySem.W.Frag) (i : Nat) (D : Ends) : List (Value × Bool × Suite) → WX
  | [] => fun _ _ _ _ => False
  | (c, true, ts) :: r => fun cls d σ H => ∃ b, PySem.W.exmOne K cls c = some b ∧ (b = true → ∀ a, H a = none → i < σ.length → ts a cls d (lets i D) (σ.set i (some (.ref a))) H) ∧ (b = false → wClauses K i D r cls d σ H)
  | (c, false, ts) :: r => fun cls d σ H => ∃ b, PySem.W.exmOne K cls c = some b ∧ (b = true → ∀ a, H a = none → ts a cls d D σ H) ∧ (b = false → wClauses K i D r cls d σ H)
def SuiteOk (X : Cx) (st : List Stmt) (ts : Suite) : Prop := ∀ (a : Addr) (oe : Obj) (cls : Value) (d : Option Addr) (pn : List (Addr × Obj)), Zc cls d oe → (∃ vs, oe.data = .fields vs) → PSs (X.suite a ((a, oe) :: pn)) st (ts a cls d)
inductive Clauses (X : Cx) (n : Str) : List ExceptHandler → List (Value × Bool × Suite) → Prop
  | nil : Clauses X n [] []
  | as_ {x : Str} {c : Value} {ts : Suite} {b₀ : Stmt} {st : List Stmt} {np p : Pos} {hds : List ExceptHandler} {l : List (Value × Bool × Suite)} (hc : Names X x c) (hs : SuiteOk X (b₀ :: st) ts) (r : Clauses X n hds l) :
      Clauses X n (.ExceptHandler (some (.Name x np)) (some n) (b₀ :: st) p :: hds) ((c, true, ts) :: l)
  | bare {x : Str} {c : Value} {ts : Suite} {b₀ : Stmt} {st : List Stmt} {np p : Pos} {hds : List ExceptHandler} {l : List (Value × Bool × Suite)} (hc : Names X x c) (hs : SuiteOk X (b₀ :: st) ts) (r : Clauses X n hds l) :
      Clauses X n (.ExceptHandler (some (.Name x np)) none (b₀ :: st) p :: hds) ((c, false, ts) :: l)
section
variable {X : Cx} {n : Str} {i : Nat} {body : List Stmt} {h₀ : ExceptHandler} {hds : List ExceptHandler} {l : List (Value × Bool × Suite)} {pos : Pos} {tb : WX → TS}
theorem ps_clauses (hs : X.stack = X.env :: X.outer) (hf : X.env.frame = some X.env.locals) (hN : X.N.Nodup) (hi : X.N[i]? = some n) (hln : X.env.kindOf n = some .local)
    (hb : ∀ (W : WX) (pn : List (Addr × Obj)) (xe : Value → Shared → Prop), Takes (X.tr pn xe) W → PSs (X.tr pn xe) body (tb W))
    (hh : Clauses X n (h₀ :: hds) l) : L2.PS X (.Try body (h₀ :: hds) [] [] pos) (fun D σ H => tb (wClauses X.K i D l) D σ H) := by
  refine ⟨fun pins s σ H D I h => wpAny_Try_except ?_⟩
  have hfr : X.A.frames = some (X.env :: X.outer) := by rw [I.ok.frames, hs]
  have hloc : Loc X.env.scope n := .inl hln
  let now : Value → Shared → Prop := fun e s1 => wpAny (model X.prog X.w) X.A (noteFrame e X.env) (fun _ s2 => wpAny (model X.prog X.w) X.A (setFlight e none) (fun _ s3 => wpAny (model X.prog X.w) X.A (handleBy e X.env (h₀ :: hds)) (SP X pins D) X.xe s3) X.xe s2) X.xe s1
  have got : Takes (X.tr (X.pn ++ pins) now) (wClauses X.K i D l) := by
    intro u s' xx
    obtain ⟨a, B, sI, pins', σ', H', cls, d, rfl, J', nb, up, sky, na, os, ag, w⟩ := xx
    have J : Inv X pins σ' H' sI := J'.ofTry I.ok
    show wpAny (model X.prog X.w) X.A (noteFrame (.ref a) X.env) _ _ _
    refine Sky.land Zc.steady hfr hf (show Sky B (X.env :: X.outer) a (Zc cls d) X.env.locals s'.heap from hs ▸ sky) fun h3 fl up3 => ?_
    have J3 : Inv X pins σ' H' { s' with heap := h3 } := J.landed nb fl.1 (up.trans up3) os ag
    obtain ⟨oe, vs, he, hz, hd⟩ := fl.there
    have aside : a ∉ frs (X.env :: X.outer) := fun hm => by
      obtain ⟨_, o2, g1, g2⟩ := fl.2.2.1.mem hm
      rw [he] at g1
      cases g1
      exact g2 _ hd
    have nL : a ≠ X.env.locals := fun z => aside (List.mem_filterMap.mpr ⟨X.env, .head _, by rw [hf, z]⟩)
    have nF : a ∉ X.fs := fun hm => by
      obtain ⟨e, q1, q2⟩ := List.mem_filterMap.mp hm
      exact aside (List.mem_filterMap.mpr ⟨e, .tail _ q1, q2⟩)
    have S3 := J3.suite he hd na nL nF
    -- a clause's class, looked up
    have named : ∀ {x : Str} {c : Value} {np : Pos} {Q E : Value → Shared → Prop}, Names X x c → Q c { s' with heap := h3 } → wpAny (model X.prog X.w) (X.A.mark (some (.ref a))) (eval (.Name x np) X.env) Q E { s' with heap := h3 } := by
      intro x c np Q E hc q
      rcases hc with ⟨g, gd, g2 | ⟨g2, g3, g4⟩⟩
      · exact ld_glob (X := X.suite a ((a, oe) :: (X.pn ++ pins))) S3 g g2 q gd
      · exact ld_blt (X := X.suite a ((a, oe) :: (X.pn ++ pins))) S3 g g2 g3 q g4 gd
    have asks : ∀ {c : Value} {b : Bool}, PySem.W.exmOne X.K cls c = some b → _ := fun {c b} hb1 =>
      PySem.W.exm_one (M := model X.prog X.w) J3.kIn (fun A Q E s k q => wpAny_typeOf_ref (k _ _ he) (by rw [hz.1]; exact q)) hb1
    have turn : ∀ {hk : List ExceptHandler} {lk : List (Value × Bool × Suite)}, Clauses X n hk lk → wClauses X.K i D lk cls d σ' H' → wpAny (model X.prog X.w) X.A (handleBy (.ref a) X.env hk) (SP X pins D) X.xe { s' with heap := h3 } := by
      intro hk lk hc
      induction hc with
      | nil => exact fun w => w.elim
      | @as_ x c ts b₀ st np p hds2 l2 hc hsu r ih =>
        rintro ⟨b, hb1, yes, no⟩
        refine wpAny_handleBy_cons (codeAny_handlers_test ?_) (fun q => nomatch q)
        refine named hc ((asks hb1).here ?_)
        cases b with
        | false => exact ih (no rfl)
        | true =>
          refine codeAny_handlers_suite_as (HandSPX.lands_againZ fl fun h4 fl4 up4 => ?_)
          have J4 : Inv X pins σ' H' { s' with heap := h4 } := J.landed nb fl4.1 ((up.trans up3).trans up4) os ag
          obtain ⟨oe4, vs4, he4, hz4, hd4⟩ := fl4.there
          refine store_ok (X := X.suite a ((a, oe4) :: (X.pn ++ pins))) (v := .ref a) (J4.suite he4 hd4 na nL nF) hN hi hloc rfl (fun s5 S5 => ?_) (.inr hln)
          refine wpAny_mono ((hsu a oe4 cls d (X.pn ++ pins) hz4 ⟨_, hd4⟩).run [] s5 _ H' _ S5 (yes rfl a na (by rw [J.len]; exact (List.getElem?_eq_some_iff.mp hi).1))) (fun f s6 hsp => ?_) (fun _ _ z => z.elim)
          have fin : ∀ {σ6 : L2.St} {H6 : Hp} {Q : Shared → Prop}, Inv (X.suite a ((a, oe4) :: (X.pn ++ pins))) [] σ6 H6 s6 → (∀ s7, Inv X pins (σ6.set i none) H6 s7 → Q s7) →
              wpAny (model X.prog X.w) X.A (do bindName X.env n .none; unbindBehindTheSuite X.env n p) (fun _ s7 => Q s7) X.xe s6 := fun S6 hq => gone_ok (S6.unsuite I.ok) hN hi hln hq
          cases f <;> first
            | (obtain ⟨σ6, H6, S6, q6⟩ := hsp; exact fin S6 fun s7 J7 => ⟨_, _, J7, q6⟩)
            | (obtain ⟨v6, σ6, H6, S6, r6, q6⟩ := hsp; exact fin S6 fun s7 J7 => ⟨_, _, _, J7, r6, q6⟩)
      | @bare x c ts b₀ st np p hds2 l2 hc hsu r ih =>
        rintro ⟨b, hb1, yes, no⟩
        refine wpAny_handleBy_cons (codeAny_handlers_test ?_) (fun q => nomatch q)
        refine named hc ((asks hb1).here ?_)
        cases b with
        | false => exact ih (no rfl)
        | true =>
          refine codeAny_handlers_suite (HandSPX.lands_againZ fl fun h4 fl4 up4 => ?_)
          have J4 : Inv X pins σ' H' { s' with heap := h4 } := J.landed nb fl4.1 ((up.trans up3).trans up4) os ag
          obtain ⟨oe4, vs4, he4, hz4, hd4⟩ := fl4.there
          refine wpAny_mono ((hsu a oe4 cls d (X.pn ++ pins) hz4 ⟨_, hd4⟩).run [] _ _ H' _ (J4.suite he4 hd4 na nL nF) (yes rfl a na)) (fun f s6 hsp => ?_) (fun _ _ z => z.elim)
          cases f <;> first
            | (obtain ⟨σ6, H6, S6, q6⟩ := hsp; exact ⟨_, _, S6.unsuite I.ok, q6⟩)
            | (obtain ⟨v6, σ6, H6, S6, r6, q6⟩ := hsp; exact ⟨_, _, _, S6.unsuite I.ok, r6, q6⟩)
    exact turn hh w
  refine wpAny_mono ((hb (wClauses X.K i D l) (X.pn ++ pins) now got).run [] s σ H D (I.toTry _) h) (fun f s1 hsp => ?_) (fun e s1 he => he)
  cases f <;> first
    | (obtain ⟨σ', H', J', q⟩ := hsp; exact wpAny_execs_nil ⟨σ', H', J'.ofTry I.ok, q⟩)
    | (obtain ⟨σ', H', J', q⟩ := hsp; exact ⟨σ', H', J'.ofTry I.ok, q⟩)
    | (obtain ⟨v, σ', H', J', r, q⟩ := hsp; exact ⟨v, σ', H', J'.ofTry I.ok, r, q⟩)
end
end Ts


set_option Elab.async false
set_option linter.all false
set_option maxRecDepth 100000
set_option maxHeartbeats 4000000
namespace Ts
open PySem PySem.Spec L2
open Evl (Ex)
/-! ## what is told, or how it is refused -/
/-- the classes of errors that are met here, apart from one another -/
structure Cs where
  b : Addr
  h : Addr
  o : Addr
  n : Addr
structure Errs (K : PySem.W.Frag) (mg : Str → Option Value) (C g : Cs) : Prop where
  b : XC K mg "BadBook" "thing" C.b g.b
  h : XC K mg "BadHeap" "thing" C.h g.h
  o : XC K mg "BadOption" "thing" C.o g.o
  n : XC K mg "BadNumber" "thing" C.n g.n
  bb : PySem.W.exmOne K (.ref C.b) (.ref C.b) = some true
  hb : PySem.W.exmOne K (.ref C.h) (.ref C.b) = some false
  hh : PySem.W.exmOne K (.ref C.h) (.ref C.h) = some true
  ob : PySem.W.exmOne K (.ref C.o) (.ref C.b) = some false
  oh : PySem.W.exmOne K (.ref C.o) (.ref C.h) = some false
  oo : PySem.W.exmOne K (.ref C.o) (.ref C.o) = some true
  nb : PySem.W.exmOne K (.ref C.n) (.ref C.b) = some false
  nh : PySem.W.exmOne K (.ref C.n) (.ref C.h) = some false
  no : PySem.W.exmOne K (.ref C.n) (.ref C.o) = some false
  nn : PySem.W.exmOne K (.ref C.n) (.ref C.n) = some true
/-- a class and its word -/
def Kw (C : Cs) (c : Addr) (w : Str) : Prop := (c = C.b ∧ w = "book") ∨ (c = C.h ∧ w = "heap") ∨ (c = C.o ∧ w = "option") ∨ (c = C.n ∧ w = "number")
def EM (C : Cs) (Q : VK) : XK := fun cls d H' => ∃ (c : Addr) (w : Str), Kw C c w ∧ cls = .ref c ∧
  ∃ dd v, d = some dd ∧ H' dd = some (.xd [(("thing" : Str), v)]) ∧ ∀ p, H' p = none → Q (.ref p) (upd H' p (.tup [.str w, v]))
def TMet (C : Cs) : (XK → Hp → VK → Prop) → Hp → VK → Prop := fun tl H Q => tl (EM C Q) H fun v H' => 2 ≤ sizeLine ∧ ∀ p, H' p = none → Q (.ref p) (upd H' p (.tup [.str "told", v]))
section
variable {X : Cx} {Z gZ : Cs}
abbrev s_met := top 64
theorem sc_met : FnScope ["ask", "e"] ["ask"] (defScope s_met) := ⟨rfl, rfl, rfl, by decide +kernel, rfl, by decide +kernel, by decide +kernel⟩
/-- return (word, e.thing) -/
def tSaid (C : Addr) (w : Str) : Suite := fun a cls d => tRet (tTup (tCons (tC (.str w)) (tCons (tXf a cls d C "thing" (tVar 1)) tNil)))
theorem said {C : Addr} {w : Str} {a dd : Addr} {v : V} {σ : L2.St} {H : Hp} {D : Ends} (hl : 1 < σ.length) (hx : H dd = some (.xd [(("thing" : Str), v)])) (q : ∀ p, H p = none → D.rt (.ref p) (upd H p (.tup [.str w, v]))) :
    tSaid C w a (.ref C) (some dd) (lets 1 D) (σ.set 1 (some (.ref a))) H :=
  ⟨.ref a, List.getElem?_set_self hl, rfl, rfl, dd, _, v, rfl, hx, by simp [List.lookup], by show 2 ≤ sizeLine; decide, q⟩
theorem met_gives (M : Errs X.K X.mg Z gZ) {g : Addr} {cdg : Value} {q : Str} :
    LamX.GivesTo X ["ask", "e"] "_law_met" (defScope s_met) g cdg (defBody s_met) "ask" q (TMet Z) := by
  intro f c' s H Q tl act hc h
  refine ⟨_, pss_one (ps_clauses (X := (cxOf C8.CX0 X.prog X.w X.K X.mg X.base ["ask", "e"] "_law_met" (defScope s_met) g cdg X.A X.stack s H C8.E0).nox) (i := 1) (n := "e")
      (l := [(.ref Z.b, true, tSaid Z.b "book"), (.ref Z.h, true, tSaid Z.h "heap"), (.ref Z.o, true, tSaid Z.o "option"), (.ref Z.n, true, tSaid Z.n "number")])
      (tb := fun W D σ H => ∃ Ech : XK, (∀ cls d σ' H', Ech cls d H' → W cls d σ' H') ∧ σ[0]? = some (some (.ref f)) ∧ H c' = some (LamX.CodeO c' q) ∧ tl Ech H fun v H1 => 2 ≤ sizeLine ∧ ∀ p, H1 p = none → D.rt (.ref p) (upd H1 p (.tup [.str "told", v])))
      rfl rfl sc_met.nd rfl rfl (fun W pn xe tk => ?_) ?_), ?_⟩
  · refine ⟨fun pins s' σ H' D I h' => ?_⟩
    obtain ⟨Ech, hW, h1, h2, h3⟩ := h'
    have hp := fun p1 p2 => act W pn xe Ech p1 p2 tk hW
    exact (pss_one (ps_ret (pe_tup (pa_cons pe_str (pa_cons (hp _ _) pa_nil))))).run pins s' σ H' D I ⟨h1, h2, h3⟩
  · have sd : ∀ {x : Str} {C gg : Addr}, XC X.K X.mg x "thing" C gg → Gl (cxOf C8.CX0 X.prog X.w X.K X.mg X.base ["ask", "e"] "_law_met" (defScope s_met) g cdg X.A X.stack s H C8.E0).nox x → (x == ("__debug__" : Str)) = false → Names (cxOf C8.CX0 X.prog X.w X.K X.mg X.base ["ask", "e"] "_law_met" (defScope s_met) g cdg X.A X.stack s H C8.E0).nox x (.ref C) :=
      fun T hg hd => ⟨hg, hd, .inl T.gC⟩
    refine .as_ (sd M.b rfl rfl) (fun a oe cls d pn hz hf => pss_one (ps_ret (pe_tup (pa_cons pe_str (pa_cons (pe_xf M.b.xf M.b.nF hz hf (pv 1)) pa_nil))))) ?_
    refine .as_ (sd M.h rfl rfl) (fun a oe cls d pn hz hf => pss_one (ps_ret (pe_tup (pa_cons pe_str (pa_cons (pe_xf M.h.xf M.h.nF hz hf (pv 1)) pa_nil))))) ?_
    refine .as_ (sd M.o rfl rfl) (fun a oe cls d pn hz hf => pss_one (ps_ret (pe_tup (pa_cons pe_str (pa_cons (pe_xf M.o.xf M.o.nF hz hf (pv 1)) pa_nil))))) ?_
    refine .as_ (sd M.n rfl rfl) (fun a oe cls d pn hz hf => pss_one (ps_ret (pe_tup (pa_cons pe_str (pa_cons (pe_xf M.n.xf M.n.nF hz hf (pv 1)) pa_nil))))) ?_
    exact .nil
  · refine ⟨EM Z Q, ?_, rfl, hc, ?_⟩
    · rintro cls d σ' H' ⟨C, w, hw, rfl, dd, v, rfl, hx, k⟩
      rcases hw with ⟨rfl, rfl⟩ | ⟨rfl, rfl⟩ | ⟨rfl, rfl⟩ | ⟨rfl, rfl⟩
      · exact ⟨_, M.bb, fun _ a na hl => said hl hx k, fun z => (nomatch z)⟩
      · exact ⟨_, M.hb, fun z => (nomatch z), fun _ => ⟨_, M.hh, fun _ a na hl => said hl hx k, fun z => (nomatch z)⟩⟩
      · exact ⟨_, M.ob, fun z => (nomatch z), fun _ => ⟨_, M.oh, fun z => (nomatch z), fun _ => ⟨_, M.oo, fun _ a na hl => said hl hx k, fun z => (nomatch z)⟩⟩⟩
      · exact ⟨_, M.nb, fun z => (nomatch z), fun _ => ⟨_, M.nh, fun z => (nomatch z), fun _ => ⟨_, M.no, fun z => (nomatch z), fun _ => ⟨_, M.nn, fun _ a na hl => said hl hx k, fun z => (nomatch z)⟩⟩⟩⟩
    · exact h
end
end Ts


set_option Elab.async false
set_option linter.all false
set_option maxRecDepth 100000
set_option maxHeartbeats 4000000
namespace Ts
open PySem PySem.Spec L2 LamX
open Evl (Ex)
section
variable {P : Program} {w : World} {K : PySem.W.Frag} {mg : Str → Option Value} {base : Heap}
/-- a def whose code object is known -/
theorem okC {x q : Str} {st : Stmt} {f c : Addr} {N ps : List Str} {k : Nat} {sp : Sp} {oc kV doc pm ct : Value} {od an : Option Addr} {osl : Array (Option Value)}
    (lk : K.lookup f = some ⟨oc, od, .func (PySem.W.fnOf x q (defArgs st) (defBody st) (defScope st) .none kV doc pm an (.ref c) ct), osl⟩) (hcd : PySem.W.codeIn K (.ref c) q = true) (S : FnScope N ps (defScope st)) (ln : ∀ vs H Q E, sp vs H Q E → vs.length = ps.length)
    (hb : ∀ (A : Around) (outer : List Env) (s : Shared) (H : Hp) (vs : List V) (Q : VK) (E : XK), Room k (A.deeper (PyProof.Rows.envOfC q (defScope st) s.heap.objs.size f (.ref c))) → sp vs H Q E →
      ∃ t, PSs (cxOf CX0 P w K mg base N q (defScope st) f (.ref c) A outer s H E).nox (defBody st) t ∧ t { nx := fun _ H' => Q .non H', rt := Q } (L2.start N vs) H) :
    FnOk P w K mg base CX0 (k + 1) f (PySem.W.fnOf x q (defArgs st) (defBody st) (defScope st) .none kV doc pm an (.ref c) ct) ps sp :=
  fn_of lk hcd S ln fun A outer s H vs Q E hr hsp => by
    obtain ⟨t, h, q⟩ := hb A outer s H vs Q E hr hsp
    exact ⟨t, h.nox, q⟩
end
section
variable {X : Cx} {Z gZ : Cs}
theorem pe_met {TS : List (Addr × Str)} (M : Errs X.K X.mg Z gZ) {g c T : Addr} {fd : FuncData} {k : Nat} {params : Arguments} {body : Expr} {scope : Scope} {t : XK → TE} {p lpos pos : Pos}
    (F : FD X.K X.mg "_law_met" "_law_met" s_met g fd) (hg : Gl X "_law_met") (TB : TabB X.base X.mg c T) (hcode : X.env.code = .ref c) (hmT : (T, X.env.qual ++ "<lambda>") ∈ TS) (hu : ∀ p ∈ TS, p.1 = T → p.2 = X.env.qual ++ "<lambda>") (hr : Room (k + 2) X.A) (L : LamS X.env.scope scope) (hdef : defaultsOf params X.env = ([], []))
    (hbind : ∀ (q : Str) (cl : List (Str × Addr)) (pm cv ctv : Value), bindArgs (PySem.W.kla_fn "<lambda>" q params body scope cl pm cv ctv) ⟨[], []⟩ = pure [])
    (hbody : ∀ (A : Around) (outer : List Env) (s : Shared) (H : Hp) (E : XK) (f c' : Addr), Room k (A.deeper (lamEnv X scope s.heap.objs.size f c')) → PE (lamCx X A outer s H E scope f c') body (t E)) :
    PE X (.Call (.Name "_law_met" p) [.Lambda params body scope lpos] [] pos) (tLam TS (TMet Z) t) := by
  obtain ⟨oc, od, kV, doc, pm, an, cdv, ct, osl, hfd, lk, hcd⟩ := F.F.ex
  subst hfd
  refine pe_lamcall (a := "ask") (Ng := ["ask", "e"]) hg F.g F.F.kp lk hcd (F.F.binds fun _ _ _ _ _ _ us hl => match us, hl with | [_], _ => rfl) sc_met rfl (Or.inl rfl) (met_gives M) TB hcode hmT hu hr L hdef hbind hbody
end
/-! ## what stands where tables grow -/
/-- a heap without its tables -/
def nt (H : Hp) : Hp := fun b => match H b with
  | some (.tbl _) => none
  | o => o
theorem nt_of {H : Hp} {b : Addr} {o : HO} (h : nt H b = some o) : H b = some o ∧ ∀ ps, o ≠ .tbl ps := by
  unfold nt at h
  cases e : H b with
  | none =>
    rw [e] at h
    cases h
  | some u =>
    rw [e] at h
    cases u <;> first
      | (cases h; done)
      | (cases h; exact ⟨rfl, fun ps z => by cases z⟩)
theorem nt_at {H : Hp} {b : Addr} {o : HO} (h : H b = some o) (hn : ∀ ps, o ≠ .tbl ps) : nt H b = some o := by
  unfold nt
  rw [h]
  cases o <;> first
    | rfl
    | exact (hn _ rfl).elim
mutual
theorem D.nt {H : Hp} : ∀ {v : V} {d : PyData}, D H v d → D (Ts.nt H) v d
  | _, _, .non => .non
  | _, _, .bl b => .bl b
  | _, _, .int i => .int i
  | _, _, .str x => .str x
  | _, _, .lst h r => .lst (nt_at h fun _ z => by cases z) (DAll.nt r)
  | _, _, .tup h r => .tup (nt_at h fun _ z => by cases z) (DAll.nt r)
  | _, _, .dic h r => .dic (nt_at h fun _ z => by cases z) (DKv.nt r)
theorem DAll.nt {H : Hp} : ∀ {v : List V} {d : List PyData}, DAll H v d → DAll (Ts.nt H) v d
  | _, _, .nil => .nil
  | _, _, .cons h r => .cons (D.nt h) (DAll.nt r)
theorem DKv.nt {H : Hp} : ∀ {v : List (Key × V)} {d : List (PyData × PyData)}, DKv H v d → DKv (Ts.nt H) v d
  | _, _, .nil => .nil
  | _, _, .cons h r => .cons (D.nt h) (DKv.nt r)
end
/-- what a region holds is no table -/
def NoT (R : Hp) : Prop := ∀ b o, R b = some o → ∀ ps, o ≠ .tbl ps
theorem nt_no (H : Hp) : NoT (nt H) := fun _ _ h => (nt_of h).2
/-- a region held, the tables told -/
structure Tst (T : List (Addr × Str)) (R H : Hp) : Prop where
  n : NoT R
  r : Ex R H
  t : Tabs T H
theorem Tst.ex {T : List (Addr × Str)} {R H H' : Hp} (s : Tst T R H) (e : Ex H H') : Tst T R H' := ⟨s.n, s.r.trans e, s.t.ext e⟩
theorem Tst.extN {T : List (Addr × Str)} {R H H' : Hp} (s : Tst T R H) (e : ExtN H H') (t : Tabs T H') : Tst T R H' := ⟨s.n, fun b o h => e b o (s.r b o h) (s.n b o h), t⟩
/-- what is new is held from now on -/
theorem Tst.add {T : List (Addr × Str)} {R H : Hp} {z : Addr} {o : HO} (s : Tst T R H) (hz : H z = some o) (hn : ∀ ps, o ≠ .tbl ps) (hr : R z = none) : Tst T (upd R z o) H :=
  ⟨fun b u h => by
    by_cases hb : b = z
    · rw [hb, upd_same] at h
      cases h
      exact hn
    · rw [upd_ne hb] at h
      exact s.n b u h, fun b u h => by
    by_cases hb : b = z
    · rw [hb, upd_same] at h
      cases h
      rw [hb]
      exact hz
    · rw [upd_ne hb] at h
      exact s.r b u h, s.t⟩
theorem Tst.no {T : List (Addr × Str)} {R H : Hp} (s : Tst T R H) {z : Addr} (h : H z = none) : R z = none := Evl.fresh_back s.r h
/-- an object that is no table and of no region changes -/
theorem Tst.mut {T : List (Addr × Str)} {R H : Hp} {z : Addr} {xs ys : List V} (s : Tst T R H) (hz : H z = some (.lst xs)) (hr : R z = none) : Tst T R (upd H z (.lst ys)) :=
  ⟨s.n, s.r.mut hr, fun p hp => by
    obtain ⟨ps, h1, h2, h3⟩ := s.t p hp
    have n1 : p.1 ≠ z := fun q => by
      rw [q, hz] at h1
      cases h1
    refine ⟨ps, by rw [upd_ne n1]; exact h1, h2, fun po cv hc => ?_⟩
    obtain ⟨cc, e1, e2⟩ := h3 po cv hc
    refine ⟨cc, e1, ?_⟩
    have n2 : cc ≠ z := fun q => by
      rw [q, hz] at e2
      cases e2
    rw [upd_ne n2]
    exact e2⟩
end Ts


set_option Elab.async false
set_option linter.all false
set_option maxRecDepth 100000
set_option maxHeartbeats 8000000
namespace Ts
open PySem PySem.Spec L2 LamX
open Evl (Ex)
theorem Tst.weak {T : List (Addr × Str)} {R R' H : Hp} (s : Tst T R H) (e : Ex R' R) : Tst T R' H := ⟨fun b o h => s.n b o (e b o h), e.trans s.r, s.t⟩
theorem met_ref {Z : Cs} {C : Addr} {w : Str} {x : V} {T : List (Addr × Str)} {R H : Hp} {Q : VK} {tt : XK → TE} {σ : L2.St} (t : Tst T R H) (hw : Kw Z C w)
    (hc : ∀ (H2 : Hp) (E : XK) (q : VK), Tst T R H2 → (∀ Hc, Ex H2 Hc → Raised Hc "thing" x C E) → tt E σ H2 q)
    (k : ∀ H' p, Tst T (upd R p (.tup [.str w, x])) H' → R p = none → Q (.ref p) H') : tLam T (TMet Z) tt σ H Q :=
  ⟨t.t, fun H2 eN t2 => hc H2 _ _ (t.extN eN t2) fun Hc ec d H3 e3 nd hd => ⟨C, w, hw, rfl, d, x, rfl, hd, fun p np =>
    have t3 : Tst T R H3 := (t.extN eN t2).ex (ec.trans e3)
    k _ p ((t3.ex (Ex.new np)).add upd_same (fun _ z => by cases z) (t3.no np)) (t3.no np)⟩⟩
theorem d_pair {H : Hp} {p : Addr} {w : Str} {x : V} {d : PyData} (h : H p = some (.tup [.str w, x])) (hx : D H x d) : D H (.ref p) (.tuple [.str w, d]) := .tup h (.cons (.str w) (.cons hx .nil))
theorem ok_pair {w : Str} {d : PyData} (h : okD 3 d = true) : okD 4 (.tuple [.str w, d]) = true := by
  refine Bool.and_eq_true_iff.mpr ⟨decide_eq_true (by show 2 ≤ 90000; decide), ?_⟩
  show (true && (okD 3 d && true)) = true
  rw [h]
  rfl
theorem okD_up : ∀ {k : Nat} {d : PyData}, okD k d = true → okD (k + 1) d = true
  | _, .none, _ => rfl
  | _, .bool _, _ => rfl
  | _, .int _, _ => rfl
  | _, .str _, _ => rfl
  | 0, .list _, h => by cases h
  | 0, .tuple _, h => by cases h
  | 0, .dict _, h => by cases h
  | k + 1, .list l, h => by
    obtain ⟨h1, h2⟩ := Bool.and_eq_true_iff.mp h
    exact Bool.and_eq_true_iff.mpr ⟨h1, List.all_eq_true.mpr fun e he => okD_up (List.all_eq_true.mp h2 e he)⟩
  | k + 1, .tuple l, h => by
    obtain ⟨h1, h2⟩ := Bool.and_eq_true_iff.mp h
    exact Bool.and_eq_true_iff.mpr ⟨h1, List.all_eq_true.mpr fun e he => okD_up (List.all_eq_true.mp h2 e he)⟩
  | k + 1, .dict l, h => by
    obtain ⟨h1, h2⟩ := Bool.and_eq_true_iff.mp h
    exact Bool.and_eq_true_iff.mpr ⟨h1, okD_up h2⟩
theorem tabs_off {T : List (Addr × Str)} {H : Hp} {a c : Addr} {n : Int} (S : Strm H a c n) (t : Tabs T H) : Tabs T (off a c H) := fun p hp => by
  obtain ⟨ps, h1, h2, h3⟩ := t p hp
  obtain ⟨⟨cells, s1, s3, g1, g2, _⟩, _, _⟩ := S
  have k : ∀ (z : Addr) (o : HO), H z = some o → (∀ xs, o ≠ .lst xs) → off a c H z = some o := fun z o hz ho => by
    have n1 : z ≠ a := fun q => by
      rw [q, g1] at hz
      cases hz
      exact ho _ rfl
    have n2 : z ≠ c := fun q => by
      rw [q, g2] at hz
      cases hz
      exact ho _ rfl
    rw [off_ne n1 n2]
    exact hz
  refine ⟨ps, k _ _ h1 (fun _ z => by cases z), h2, fun pos cv hc => ?_⟩
  obtain ⟨cc, e1, e2⟩ := h3 pos cv hc
  exact ⟨cc, e1, k _ _ e2 (fun _ z => by unfold CodeO at z; cases z)⟩
theorem tabs_drawn {T : List (Addr × Str)} {H H' : Hp} {a c : Addr} {n : Int} (S : Strm H a c n) (t : Tabs T H) (e : Ex (off a c H) (off a c H')) : Tabs T H' := (tabs_off S t).ext fun b o h => off_of (e b o h)
def wr1 : Rl := ⟨1, some 2, "one", 0, 1⟩
def wr2 : Rl := ⟨2, some 2, "none", 0, 1⟩
def wr3 : Rl := ⟨0, some 0, "two", 1, 3⟩
/-- what Book makes of written rules -/
theorem book_wr {rs : List Rl} (h : rs = [wr1, wr2, wr3] ∨ rs = []) : faultV (.list (rs.map Rl.d)) = .non ∧ (rs.map Rl.d).map rlOf = rs ∧ (rs.map Rl.d).length ≤ 60 ∧ (∀ e ∈ rs.map Rl.d, isRule e = true → (rlOf e).Sml) ∧ ∀ r ∈ rs, r.Ok := by
  have ok1 : wr1.Ok := ⟨by decide, by decide, (fun h => absurd h (by decide)), by decide, by decide, (fun h => absurd h (by decide)), (fun h e => by cases e; decide)⟩
  have ok2 : wr2.Ok := ⟨by decide, by decide, (fun h => absurd h (by decide)), by decide, by decide, (fun h => absurd h (by decide)), (fun h e => by cases e; decide)⟩
  have ok3 : wr3.Ok := ⟨by decide, by decide, (fun _ => rfl), by decide, by decide, (fun h => absurd h (by decide)), (fun h e => by cases e; decide)⟩
  have w : ∀ i : Int, 0 ≤ i → i ≤ 100 → Wr i := fun i h0 h1 => wr_small h0 (by omega)
  have s1 : wr1.Sml := ⟨w _ (by decide) (by decide), w _ (by decide) (by decide), by decide, w _ (by decide) (by decide), w _ (by decide) (by decide)⟩
  have s2 : wr2.Sml := ⟨w _ (by decide) (by decide), w _ (by decide) (by decide), by decide, w _ (by decide) (by decide), w _ (by decide) (by decide)⟩
  have s3 : wr3.Sml := ⟨w _ (by decide) (by decide), w _ (by decide) (by decide), by decide, w _ (by decide) (by decide), w _ (by decide) (by decide)⟩
  have rl : ∀ r : Rl, rlOf r.d = r := fun r => rlOf_mk false r
  have all : ∀ r ∈ rs, r.Ok ∧ r.Sml := by
    rcases h with rfl | rfl
    · intro r hr
      rcases List.mem_cons.mp hr with rfl | hr
      · exact ⟨ok1, s1⟩
      · rcases List.mem_cons.mp hr with rfl | hr
        · exact ⟨ok2, s2⟩
        · obtain rfl := List.mem_singleton.mp hr
          exact ⟨ok3, s3⟩
    · exact fun r hr => absurd hr (by simp)
  have e2 : (rs.map Rl.d).map rlOf = rs := by
    rw [List.map_map]
    exact (List.map_congr_left fun r _ => rl r).trans (List.map_id rs)
  have hm : ∀ e ∈ rs.map Rl.d, ∃ r ∈ rs, e = r.d := fun e he => by
    obtain ⟨r, hr, z⟩ := List.mem_map.mp he
    exact ⟨r, hr, z.symm⟩
  refine ⟨?_, e2, ?_, fun e he _ => ?_, fun r hr => (all r hr).1⟩
  · have z : faultAt (rs.map Rl.d) 0 [] false false = none := by
      refine fault_none (fun e he => ?_) ?_ (fun e _ m => by cases m) ?_
      · obtain ⟨r, hr, rfl⟩ := hm e he
        exact isRule_mk false (all r hr).1
      · rw [e2]
        rcases h with rfl | rfl <;> decide
      · rcases h with rfl | rfl
        · refine .inl ⟨rfl, fun e he => ?_⟩
          obtain ⟨r, hr, rfl⟩ := hm e he
          rw [rl]
          have z : [wr1, wr2, wr3].all (fun r => !decide (r.high = none)) = true := by decide
          have z := List.all_eq_true.mp z r hr
          exact fun w => by rw [w] at z; exact absurd z (by decide)
        · exact .inl ⟨rfl, fun e he => absurd he (by simp)⟩
    unfold faultV
    rw [show isRow (.list (rs.map Rl.d)) = true from rfl, show items (.list (rs.map Rl.d)) = rs.map Rl.d from rfl, z]
    rfl
  · rcases h with rfl | rfl <;> decide
  · obtain ⟨r, hr, rfl⟩ := hm e he
    rw [rl]
    exact (all r hr).2
/-- what the written rules leave -/
theorem aopt_w {n : Int} {ns : List Int} : AOpt [wr1, wr2, wr3] n ns ↔ (ns = [] ∧ n = 2) ∨ (∃ x, ns = [x] ∧ 1 ≤ n - x ∧ n - x ≤ 2 ∧ 1 ≤ x) ∨ ∃ a, ns = [a, n - a] ∧ n % 3 = 1 ∧ 2 ≤ n ∧ 1 ≤ a ∧ a ≤ n / 2 := by
  have c1 : V.str wr1.left ≠ V.str "none" ∧ V.str wr1.left ≠ V.str "two" := by decide
  have c2 : V.str wr2.left ≠ V.str "one" ∧ V.str wr2.left ≠ V.str "two" := by decide
  have c3 : V.str wr3.left ≠ V.str "none" ∧ V.str wr3.left ≠ V.str "one" := by decide
  have m : ∀ {r : Rl}, r ∈ [wr1, wr2, wr3] → r = wr1 ∨ r = wr2 ∨ r = wr3 := fun h => by simpa using h
  constructor
  · rintro (⟨rfl, r, hr, h1, h2⟩ | ⟨x, rfl, r, hr, h1, h2, h3⟩ | ⟨t, a, rfl, ⟨r, hr, h1, h2, h3⟩, h4, h5⟩)
    · rcases m hr with rfl | rfl | rfl
      · exact (c1.1 h1).elim
      · have a : 2 ≤ n - 0 := h2.2.1
        have b : n - 0 ≤ 2 := h2.2.2 2 rfl
        exact .inl ⟨rfl, by omega⟩
      · exact (c3.1 h1).elim
    · rcases m hr with rfl | rfl | rfl
      · have a : 1 ≤ n - x := h2.2.1
        have b : n - x ≤ 2 := h2.2.2 2 rfl
        exact .inr (.inl ⟨x, rfl, a, b, h3⟩)
      · exact (c2.1 h1).elim
      · exact (c3.2 h1).elim
    · rcases m hr with rfl | rfl | rfl
      · exact (c1.2 h1).elim
      · exact (c2.2 h1).elim
      · have a1 : n % 3 = 1 := h2.1
        have a2 : 0 ≤ n - t := h2.2.1
        have a3 : n - t ≤ 0 := h2.2.2 0 rfl
        obtain rfl : t = n := by omega
        exact .inr (.inr ⟨a, rfl, a1, h3, h4, h5⟩)
  · rintro (⟨rfl, rfl⟩ | ⟨x, rfl, h1, h2, h3⟩ | ⟨a, rfl, h1, h2, h3, h4⟩)
    · exact .inl ⟨rfl, wr2, by simp, rfl, rfl, by decide, fun h e => by cases e; decide⟩
    · exact .inr (.inl ⟨x, rfl, wr1, by simp, rfl, ⟨Int.emod_one _, h1, fun h e => by cases e; exact h2⟩, h3⟩)
    · exact .inr (.inr ⟨n, a, rfl, ⟨wr3, by simp, rfl, ⟨h1, by show 0 ≤ n - n; omega, fun h e => by cases e; show n - n ≤ 0; omega⟩, h2⟩, h3, h4⟩)
theorem aopt_none {n : Int} {ns : List Int} : ¬ AOpt [] n ns := by
  rintro (⟨_, r, hr, _⟩ | ⟨x, _, r, hr, _⟩ | ⟨t, a, _, ⟨r, hr, _⟩, _⟩) <;> cases hr
theorem opts_w4 : Opts (AOpt [wr1, wr2, wr3] 4) [[1, 3], [2], [2, 2], [3]] := by
  refine ⟨by decide, by decide, fun ns => ?_⟩
  rw [aopt_w]
  constructor
  · intro h
    simp only [List.mem_cons, List.not_mem_nil, or_false] at h
    rcases h with rfl | rfl | rfl | rfl
    · exact .inr (.inr ⟨1, rfl, by decide, by decide, by decide, by decide⟩)
    · exact .inr (.inl ⟨2, rfl, by decide, by decide, by decide⟩)
    · exact .inr (.inr ⟨2, rfl, by decide, by decide, by decide, by decide⟩)
    · exact .inr (.inl ⟨3, rfl, by decide, by decide, by decide⟩)
  · rintro (⟨rfl, h⟩ | ⟨x, rfl, h1, h2, h3⟩ | ⟨a, rfl, _, _, h3, h4⟩)
    · cases h
    · have : x = 2 ∨ x = 3 := by omega
      rcases this with rfl | rfl <;> decide
    · have : a = 1 ∨ a = 2 := by omega
      rcases this with rfl | rfl <;> decide
theorem opts_w2 : Opts (AOpt [wr1, wr2, wr3] 2) [[], [1]] := by
  refine ⟨by decide, by decide, fun ns => ?_⟩
  rw [aopt_w]
  constructor
  · intro h
    simp only [List.mem_cons, List.not_mem_nil, or_false] at h
    rcases h with rfl | rfl
    · exact .inl ⟨rfl, rfl⟩
    · exact .inr (.inl ⟨1, rfl, by decide, by decide, by decide⟩)
  · rintro (⟨rfl, h⟩ | ⟨x, rfl, h1, h2, h3⟩ | ⟨a, rfl, h, _⟩)
    · decide
    · obtain rfl : x = 1 := by omega
      decide
    · exact absurd h (by decide)
theorem opts_w1 : Opts (AOpt [wr1, wr2, wr3] 1) [] := by
  refine ⟨by decide, by decide, fun ns => ?_⟩
  rw [aopt_w]
  constructor
  · intro h
    cases h
  · rintro (⟨rfl, h⟩ | ⟨x, rfl, h1, h2, h3⟩ | ⟨a, rfl, _, h, _⟩)
    · cases h
    · omega
    · exact absurd h (by decide)
theorem opts_e {n : Int} : Opts (AOpt [] n) [] := ⟨by decide, by decide, fun ns => ⟨fun h => (by cases h), fun h => (aopt_none h).elim⟩⟩
end Ts


set_option Elab.async false
set_option linter.all false
set_option maxRecDepth 100000
set_option maxHeartbeats 4000000
namespace Ts
open PySem PySem.Spec PyProof.Rows L2 LamX
open Evl (Ex)
/-! ## what may be spoiled, and what of the heap is touched then -/
/-- no row, no dict -/
def flatD : PyData → Bool
  | .none => true | .bool _ => true | .int _ => true | .str _ => true | _ => false
mutual
inductive Spl (H : Hp) : Nat → V → List Addr → Prop
  | sc {k : Nat} {x : V} {d : PyData} : D H x d → flatD d = true → Spl H k x []
  | tup {k : Nat} {T : Addr} {xs : List V} {F : List Addr} : H T = some (.tup xs) → SplAll H k xs F → Spl H (k + 1) (.ref T) F
  | lst {k : Nat} {l : Addr} {xs : List V} {F : List Addr} : H l = some (.lst xs) → xs.length ≤ 600000 → SplAll H k xs F → l ∉ F → Spl H (k + 1) (.ref l) (l :: F)
inductive SplAll (H : Hp) : Nat → List V → List Addr → Prop
  | nil {k : Nat} : SplAll H k [] []
  | cons {k : Nat} {x : V} {xs : List V} {F G : List Addr} : Spl H k x F → SplAll H k xs G → (∀ a ∈ F, a ∉ G) → SplAll H k (x :: xs) (F ++ G)
end
theorem D.flat {H H' : Hp} {x : V} {d : PyData} (h : D H x d) (f : flatD d = true) : D H' x d := by
  cases h <;> first
    | (cases f; done)
    | constructor
mutual
theorem Spl.lists {H : Hp} : ∀ {k : Nat} {v : V} {F : List Addr}, Spl H k v F → ∀ a ∈ F, ∃ ys, H a = some (.lst ys)
  | _, _, _, .sc _ _, a, ha => by cases ha
  | _, _, _, .tup _ r, a, ha => SplAll.lists r a ha
  | _, _, _, .lst h _ r _, a, ha => by
    rcases List.mem_cons.mp ha with rfl | ha
    · exact ⟨_, h⟩
    · exact SplAll.lists r a ha
theorem SplAll.lists {H : Hp} : ∀ {k : Nat} {v : List V} {F : List Addr}, SplAll H k v F → ∀ a ∈ F, ∃ ys, H a = some (.lst ys)
  | _, _, _, .nil, a, ha => by cases ha
  | _, _, _, .cons h r _, a, ha => by
    rcases List.mem_append.mp ha with ha | ha
    · exact Spl.lists h a ha
    · exact SplAll.lists r a ha
end
mutual
theorem Spl.keep {H H' : Hp} {S : List Addr} (hS : ∀ a ∈ S, ∃ ys, H a = some (.lst ys)) (e : ∀ b o, b ∉ S → H b = some o → H' b = some o) : ∀ {k : Nat} {v : V} {F : List Addr}, Spl H k v F → (∀ a ∈ F, a ∉ S) → Spl H' k v F
  | _, _, _, .sc h f, _ => .sc (h.flat f) f
  | _, _, _, .tup h r, n => .tup (e _ _ (fun z => by obtain ⟨ys, q⟩ := hS _ z; rw [h] at q; cases q) h) (SplAll.keep hS e r n)
  | _, _, _, .lst h z r m, n => .lst (e _ _ (n _ List.mem_cons_self) h) z (SplAll.keep hS e r fun a ha => n a (List.mem_cons_of_mem _ ha)) m
theorem SplAll.keep {H H' : Hp} {S : List Addr} (hS : ∀ a ∈ S, ∃ ys, H a = some (.lst ys)) (e : ∀ b o, b ∉ S → H b = some o → H' b = some o) : ∀ {k : Nat} {v : List V} {F : List Addr}, SplAll H k v F → (∀ a ∈ F, a ∉ S) → SplAll H' k v F
  | _, _, _, .nil, _ => .nil
  | _, _, _, .cons h r d, n => .cons (Spl.keep hS e h fun a ha => n a (List.mem_append_left _ ha)) (SplAll.keep hS e r fun a ha => n a (List.mem_append_right _ ha)) d
end
theorem Spl.ex {H H' : Hp} (e : Ex H H') {k : Nat} {v : V} {F : List Addr} (h : Spl H k v F) : Spl H' k v F := h.keep (S := []) (fun a ha => by cases ha) (fun b o _ hb => e b o hb) fun a _ hn => by cases hn
theorem SplAll.ex {H H' : Hp} (e : Ex H H') {k : Nat} {v : List V} {F : List Addr} (h : SplAll H k v F) : SplAll H' k v F := h.keep (S := []) (fun a ha => by cases ha) (fun b o _ hb => e b o hb) fun a _ hn => by cases hn
theorem SplAll.head {H : Hp} {k : Nat} {xs : List V} {F : List Addr} {i : Nat} {x : V} (h : SplAll H k (xs.drop i) F) (hx : xs[i]? = some x) : ∃ F1 F2, Spl H k x F1 ∧ SplAll H k (xs.drop (i + 1)) F2 ∧ (∀ a ∈ F1, a ∉ F2) ∧ (∀ a ∈ F1, a ∈ F) ∧ ∀ a ∈ F2, a ∈ F := by
  obtain ⟨q1, q2⟩ := List.getElem?_eq_some_iff.mp hx
  rw [List.drop_eq_getElem_cons q1, q2] at h
  cases h with
  | cons h r d => exact ⟨_, _, h, r, d, fun a ha => List.mem_append_left _ ha, fun a ha => List.mem_append_right _ ha⟩
section
variable {P : Program} {w : World} {K : PySem.W.Frag} {mg : Str → Option Value} {base : Heap}
def spSpoilT : Nat → Sp
  | 0 => fun _ _ _ _ => False
  | k + 1 => fun vs H Q _ => ∃ v F, vs = [v] ∧ Spl H k v F ∧ ∀ H', (∀ b o, b ∉ F → H b = some o → H' b = some o) → Q .non H'
theorem ok_spoilT {f : Addr} {fd : FuncData} (F : FD K mg "_law_a_spoiled" "_law_a_spoiled" s_spoil f fd) (T : Bl mg) : ∀ k, FnOk P w K mg base CX0 k f fd ["thing"] (spSpoilT k)
  | 0 => ⟨fun _ _ _ _ h => h.elim, fun _ _ _ _ _ _ _ _ _ _ _ _ _ h => h.elim⟩
  | k + 1 => by
    have G0 := ok_spoilT F T k
    have b0 : Binds K fd ["thing"] [] := F.F.binds fun _ _ _ _ _ _ us hl => match us, hl with | [_], _ => rfl
    refine F.F.ok sc_spoil (fun vs H Q E h => ?_) (fun cdv A outer s H vs Q E hr h => ?_)
    · obtain ⟨v, F, rfl, _⟩ := h
      rfl
    · have nd := sc_spoil.nd
      refine ⟨_, (pss_cons (ps_if (pt_val (pe_callB call_isiT (by rfl) T.isinstance (by decide +kernel) (pa_cons (pv 0) (pa_cons (pe_tup (pa_cons (pe_bltn (v := .ty "list") (by rfl) T.list (by decide +kernel) rfl) (pa_cons (pe_bltn (v := .ty "tuple") (by rfl) T.tuple (by decide +kernel) rfl) pa_nil))) pa_nil)))) (pss_one (ps_for PassesOwn.never rfl (pi_or (pi_list (pv 0)) (pi_tup (pv 0))) (pg_name (i := 1) nd rfl (Or.inl rfl)) (pss_one (ps_expr (pe_call G0 hr (by rfl) F.g F.F.kp b0 .nil pass0 (pa_cons (pv 1) pa_nil)))))) pss_nil)
      (pss_cons (ps_if (pt_val (pe_callB call_isi (by rfl) T.isinstance (by decide +kernel) (pa_cons (pv 0) (pa_cons (pe_bltn (v := .ty "dict") (by rfl) T.dict (by decide +kernel) rfl) pa_nil)))) pss_dead pss_nil)
      (pss_one (ps_if (pt_val (pe_callB call_isi (by rfl) T.isinstance (by decide +kernel) (pa_cons (pv 0) (pa_cons (pe_bltn (v := .ty "list") (by rfl) T.list (by decide +kernel) rfl) pa_nil)))) (pss_one (ps_expr (pe_bm PySem.F.plainAttrs_list PySem.F.slot_list_append PySem.F.type_list_append mt_append (pv 0) (pa_cons pe_str pa_nil)))) pss_nil)))), ?_⟩
      have fin : ∀ {a : Addr} {xs : List V} {v1 v2 : Option V} {H2 : Hp}, H2 a = some (.lst xs) → xs.length < sizeLine → (upd H2 a (.lst (xs ++ [.str "late9"])) a = some (.lst (xs ++ [.str "late9"])) → Q .non (upd H2 a (.lst (xs ++ [.str "late9"])))) →
          (tSeq (tIfS (tB (tCB (rIsi K) (tCons (tVar 0) (tCons (tC (.ty "dict")) tNil)))) (fun _ _ _ => False) tNext) (tIfS (tB (tCB (rIsi K) (tCons (tVar 0) (tCons (tC (.ty "list")) tNil)))) (tDrop (tBM K "list" rAppend (tVar 0) (tCons (tC (.str "late9")) tNil))) tNext) : TS) { nx := fun _ H' => Q .non H', rt := Q } [some (.ref a), v1, v2] H2 := fun {a xs v1 v2 H2} ha hl hk => by
        have hT : TyX K H2 (.ref a) (.type "list") := lst_ty ha
        refine ⟨_, rfl, _, _, _, _, _, rfl, .ty "dict", hT, kit_dict (.list []), _, rfl, ite_ff rfl ?_⟩
        refine ⟨_, rfl, _, _, _, _, _, rfl, .ty "list", hT, kit_list (.list []), _, rfl, ite_tt rfl ?_⟩
        exact ⟨_, rfl, .inl ⟨rfl, _, SqL.of ha⟩, a, _, _, rfl, rfl, ha, hl, hk upd_same⟩
      obtain ⟨v, S, rfl, hv, kq⟩ := h
      cases hv with
      | @sc _ _ d hd fl =>
        refine ⟨_, rfl, by show 2 ≤ sizeLine; decide, fun p np => ⟨_, p, _, _, _, _, rfl, upd_same, .cons (.ty "list") (.cons (.ty "tuple") .nil), (hd.ex (Ex.new np)).ty, kit_row d, _, rfl, ?_⟩⟩
        have ep := Ex.new (o := .tup [.ty "list", .ty "tuple"]) np
        have hd2 := hd.ex ep
        generalize upd H p (.tup [.ty "list", .ty "tuple"]) = H0 at ep hd2 ⊢
        have r1 : isRow d = false := by cases d <;> first | rfl | (cases fl; done)
        have r2 : isTy "dict" d = false := by cases d <;> first | rfl | (cases fl; done) | decide
        have r3 : isTy "list" d = false := by cases d <;> first | rfl | (cases fl; done) | decide
        refine ite_ff r1 ?_
        refine ⟨_, rfl, _, _, _, _, _, rfl, .ty "dict", hd2.ty, kit_dict d, _, rfl, ite_ff r2 ?_⟩
        refine ⟨_, rfl, _, _, _, _, _, rfl, .ty "list", hd2.ty, kit_list d, _, rfl, ite_ff r3 ?_⟩
        exact kq _ fun b o _ hb => ep _ _ hb
      | @tup k T xs _ hT hx =>
        refine ⟨_, rfl, by show 2 ≤ sizeLine; decide, fun p np => ⟨_, p, _, _, _, _, rfl, upd_same, .cons (.ty "list") (.cons (.ty "tuple") .nil), .base (.tup (Ex.new np _ _ hT)), kit_row (.tuple []), _, rfl, ?_⟩⟩
        have ep := Ex.new (o := .tup [.ty "list", .ty "tuple"]) np
        generalize upd H p (.tup [.ty "list", .ty "tuple"]) = H0 at ep ⊢
        have nT : T ∉ S := fun z => by
          obtain ⟨ys, q⟩ := hx.lists _ z
          rw [hT] at q
          cases q
        refine ite_tt rfl ?_
        refine .inr ⟨_, rfl, T, rfl, ⟨_, SqT.of (ep _ _ hT)⟩, for_tup (a := T) (xs := xs) (fun i σ H' => ∃ v1 v2 G, σ = [some (.ref T), v1, v2] ∧ SplAll H' k (xs.drop i) G ∧ (∀ a ∈ G, a ∈ S) ∧ ∀ b o, b ∉ S → H b = some o → H' b = some o) ⟨none, none, S, rfl, hx.ex ep, fun _ h => h, fun b o _ h => ep _ _ h⟩ (fun i σ H' _ q => ?_) (fun i x σ H' hxi q => ?_) (fun σ H' q => ?_)⟩
        · obtain ⟨v1, v2, G, rfl, _, _, e⟩ := q
          exact SqT.of (e _ _ nT hT)
        · obtain ⟨v1, v2, G, rfl, hG, sub, e⟩ := q
          obtain ⟨F1, F2, h1, h2, dj, s1, s2⟩ := hG.head hxi
          refine gn1 ?_
          exact ⟨_, rfl, x, F1, rfl, h1, fun H2 e2 => ⟨_, _, F2, rfl, h2.keep h1.lists e2 fun a ha hn => dj a hn ha, fun a ha => sub a (s2 a ha), fun b o nb hb => e2 _ _ (fun z => nb (sub b (s1 b z))) (e _ _ nb hb)⟩⟩
        · obtain ⟨v1, v2, G, rfl, _, _, e⟩ := q
          have hT2 : TyX K H' (.ref T) (.type "tuple") := .base (.tup (e _ _ nT hT))
          refine ⟨_, rfl, _, _, _, _, _, rfl, .ty "dict", hT2, kit_dict (.tuple []), _, rfl, ite_ff rfl ?_⟩
          refine ⟨_, rfl, _, _, _, _, _, rfl, .ty "list", hT2, kit_list (.tuple []), _, rfl, ite_ff rfl ?_⟩
          exact kq _ e
      | @lst k l xs G hl hz hx nl =>
        refine ⟨_, rfl, by show 2 ≤ sizeLine; decide, fun p np => ⟨_, p, _, _, _, _, rfl, upd_same, .cons (.ty "list") (.cons (.ty "tuple") .nil), lst_ty (Ex.new np _ _ hl), kit_row (.list []), _, rfl, ?_⟩⟩
        have ep := Ex.new (o := .tup [.ty "list", .ty "tuple"]) np
        generalize upd H p (.tup [.ty "list", .ty "tuple"]) = H0 at ep ⊢
        refine ite_tt rfl ?_
        refine .inl ⟨_, rfl, l, rfl, ⟨_, SqL.of (ep _ _ hl)⟩, for_list (a := l) (xs := xs) (fun i σ H' => ∃ v1 v2 G', σ = [some (.ref l), v1, v2] ∧ SplAll H' k (xs.drop i) G' ∧ (∀ a ∈ G', a ∈ G) ∧ ∀ b o, b ∉ G → H b = some o → H' b = some o) ⟨none, none, G, rfl, hx.ex ep, fun _ h => h, fun b o _ h => ep _ _ h⟩ (fun i σ H' _ q => ?_) (fun i x σ H' hxi q => ?_) (fun σ H' q => ?_)⟩
        · obtain ⟨v1, v2, G', rfl, _, _, e⟩ := q
          exact SqL.of (e _ _ nl hl)
        · obtain ⟨v1, v2, G', rfl, hG, sub, e⟩ := q
          obtain ⟨F1, F2, h1, h2, dj, s1, s2⟩ := hG.head hxi
          refine gn1 ?_
          exact ⟨_, rfl, x, F1, rfl, h1, fun H2 e2 => ⟨_, _, F2, rfl, h2.keep h1.lists e2 fun a ha hn => dj a hn ha, fun a ha => sub a (s2 a ha), fun b o nb hb => e2 _ _ (fun z => nb (sub b (s1 b z))) (e _ _ nb hb)⟩⟩
        · obtain ⟨v1, v2, G', rfl, _, _, e⟩ := q
          refine fin (e _ _ nl hl) (Nat.lt_of_le_of_lt hz (by decide)) fun _ => kq _ fun b o nb hb => ?_
          have n1 : b ≠ l := fun z => nb (z ▸ List.mem_cons_self)
          rw [upd_ne n1]
          exact e _ _ (fun z => nb (List.mem_cons_of_mem _ z)) hb
end
/-- a region that is grown by one -/
theorem Rg.at {G H H' : Hp} {z : Addr} {o : HO} (e : Ex G H) (nz : H z = none) (eH : Ex H H') (hz : H' z = some o) : Rg G (upd G z o) H H' := by
  refine ⟨Ex.new (Evl.fresh_back e nz), fun b u hb => ?_, fun b hb => ?_, eH⟩
  · by_cases c : b = z
    · rw [c, upd_same] at hb
      rw [c, hz]
      exact hb
    · rw [upd_ne c] at hb
      exact eH _ _ (e _ _ hb)
  · by_cases c : b = z
    · exact .inr (c ▸ nz)
    · rw [upd_ne c] at hb
      exact .inl hb
theorem dints {H : Hp} {z : Addr} {os : List Int} (h : H z = some (.lst (os.map V.int))) : D H (.ref z) (.list (os.map .int)) := .lst h (ints_D os)
section
variable {K : PySem.W.Frag} {σ : L2.St} {R : Hp} {i j : Nat} {b : Addr} {os : List Int}
theorem Gv.rev (h : σ[i]? = some (some (.ref b))) (hb : R b = some (.lst (os.map V.int))) : Gv σ R (tRevL K (tVar i)) (.list (os.reverse.map .int)) := fun G H Q eR e k => by
  refine ⟨_, h, b, os.map V.int, rfl, SqL.of (e _ _ (eR _ _ hb)), fun p np => k _ (upd G p (.lst (os.reverse.map V.int))) _ (Rg.at e np (Ex.new np) ?_) (dints upd_same)⟩
  rw [upd_same, List.map_reverse]
theorem Gv.snoc {te : TE} {x : Int} (h : σ[i]? = some (some (.ref b))) (hb : R b = some (.lst (os.map V.int))) (hl : os.length ≤ 1000) (hx : Gv σ R te (.int x)) : Gv σ R (tOp rCat (tVar i) (tLst (tCons te tNil))) (.list ((os ++ [x]).map .int)) := fun G H Q eR e k => by
  refine ⟨_, h, ?_⟩
  refine hx G H _ eR e fun v G1 H1 r1 hv => ?_
  cases hv
  refine ⟨by show 1 ≤ sizeLine; decide, fun z nz => ?_⟩
  have e1 := Ex.new (o := .lst [V.int x]) nz
  refine ⟨b, z, _, _, rfl, rfl, e1 _ _ (r1.h _ _ (e _ _ (eR _ _ hb))), upd_same, by rw [List.length_map]; exact Nat.le_trans (show os.length + 1 ≤ 1001 by omega) (by decide), fun p np => ?_⟩
  refine k _ (upd G1 p (.lst ((os ++ [x]).map V.int))) _ (r1.trans (Rg.at r1.i (Evl.fresh_back e1 np) (e1.trans (Ex.new np)) ?_)) (dints upd_same)
  rw [upd_same, List.map_append]
  rfl
theorem Gv.at {ti : TE} {j x : Int} (h : σ[i]? = some (some (.ref b))) (hb : R b = some (.lst (os.map V.int))) (hi : Gv σ R ti (.int j)) (hx : atI (os.map V.int) j = some (.int x)) : Gv σ R (tOp (rIx K) (tVar i) ti) (.int x) := fun G H Q eR e k => by
  refine ⟨_, h, ?_⟩
  refine hi G H _ eR e fun v G1 H1 r1 hv => ?_
  cases hv
  exact ix_row (.inl (r1.h _ _ (e _ _ (eR _ _ hb)))) hx (k _ G1 H1 r1 (.int x))
end
theorem lst1 {ta : TA} {σ : L2.St} {H : Hp} {Q : VK} (h : ta σ H fun xs H1 => xs.length ≤ sizeLine ∧ ∀ p, H1 p = none → Q (.ref p) (upd H1 p (.lst xs))) : tLst ta σ H Q := h
theorem Rg.off {G G' H H' : Hp} {a c : Addr} {n : Int} (S : Strm H a c n) (eG : Ex G (Ts.off a c H)) (r : Rg G G' H H') : Ex G' (Ts.off a c H') := fun b o hb => by
  obtain ⟨⟨cells, s1, s3, ha, hc, _⟩, _, _⟩ := S
  have no : ∀ {z : Addr} {u : HO}, (z = a ∨ z = c) → H z = some u → G' z = none := fun {z u} hz hu => by
    cases e : G' z with
    | none => rfl
    | some w =>
      rcases r.f z (by rw [e]; exact fun q => by cases q) with h | h
      · cases e2 : G z with
        | none => exact absurd e2 h
        | some x =>
          have y := eG _ _ e2
          unfold Ts.off at y
          rw [if_pos hz] at y
          cases y
      · rw [hu] at h
        cases h
  have n1 : b ≠ a := fun q => by
    rw [q, no (.inl rfl) ha] at hb
    cases hb
  have n2 : b ≠ c := fun q => by
    rw [q, no (.inr rfl) hc] at hb
    cases hb
  rw [off_ne n1 n2]
  exact r.i _ _ hb
theorem Rg.keep {G G' H H' : Hp} {z : Addr} {o : HO} (r : Rg G G' H H') (hG : G z = none) (hH : H z = some o) : G' z = none := by
  cases e : G' z with
  | none => rfl
  | some w =>
    rcases r.f z (by rw [e]; exact fun q => by cases q) with h | h
    · exact absurd hG h
    · rw [hH] at h
      cases h
theorem okL_ints {os : List Int} {k : Nat} (h : os.length ≤ 90) : okL (k + 1) (.list (os.map .int)) = true := by
  show (decide ((os.map PyData.int).length ≤ 90) && (os.map PyData.int).all (okL k)) = true
  rw [decide_eq_true (by rw [List.length_map]; exact h), Bool.true_and, List.all_eq_true]
  intro d hd
  obtain ⟨i, _, rfl⟩ := List.mem_map.mp hd
  cases k <;> rfl
/-! ## repr of what stands alone, of rows, of an empty dict -/
def txt : PyData → Str
  | .none => "None"
  | .bool b => if b then "True" else "False"
  | .int i => toString i
  | .str s => reprText s
  | d => d.shown
def ShowOk (K : PySem.W.Frag) (H : Hp) (x : V) (d : PyData) : Prop :=
  (x = .non ∧ d = .none) ∨ (∃ b, x = .bl b ∧ d = .bool b) ∨ (∃ i : Int, x = .int i ∧ d = .int i ∧ i.natAbs.log2 < 1920) ∨ (∃ s, x = .str s ∧ d = .str s ∧ (reprText s).length ≤ sizeLine) ∨
  (∃ a, x = .ref a ∧ isRow d = true ∧ Dp K H x d ∧ d.showable = true ∧ d.hasDict = false ∧ d.depth ≤ 60 ∧ d.shown.length ≤ sizeLine) ∨ ∃ a, x = .ref a ∧ H a = some (.dK []) ∧ d = .dict []
section
variable {X : Cx}
def rShowD (K : PySem.W.Frag) : List V → Hp → VK → Prop := fun xs H Q => ∃ x d, xs = [x] ∧ ShowOk K H x d ∧ Q (.str (txt d)) H
theorem call_showD (hg : X.A.guards = some []) (hu : X.A.units + 64 < cLine) : CallR X (.builtin "repr") (rShowD X.K) := by
  intro pins s σ H xs us Q I r h
  obtain ⟨x, d, rfl, h, q⟩ := h
  obtain ⟨u, rfl, e⟩ := vals1 r
  rcases h with ⟨rfl, rfl⟩ | ⟨b, rfl, rfl⟩ | ⟨i, rfl, rfl, hi⟩ | ⟨t, rfl, rfl, ht⟩ | ⟨a, rfl, hr, hd, hs, hn, hdp, hz⟩ | ⟨a, rfl, ha, rfl⟩
  · cases (show u = Value.none from e)
    exact PySem.P.repr_of_none ⟨.str _, H, I.tok _, ⟨_, rfl⟩, q⟩
  · cases (show u = Value.bool b from e)
    exact PySem.P.repr_of_bool ⟨.str _, H, I.tok _, ⟨_, rfl⟩, q⟩
  · obtain ⟨t, rfl⟩ := (show ∃ t, u = Value.int i t from e)
    exact PySem.P.repr_of_int hi ⟨.str _, H, I.tok _, ⟨_, rfl⟩, q⟩
  · obtain ⟨t', rfl⟩ := (show ∃ t', u = Value.str t t' from e)
    exact PySem.P.repr_of_str ⟨.str _, H, I.tok _, ⟨_, rfl⟩, q⟩ ht
  · cases (show u = Value.ref a from e)
    obtain ⟨as, rd⟩ := Dp.reads I d _ _ hd rfl
    have ed : txt d = d.shown := by
      cases d <;> first
        | rfl
        | cases hr
    rw [ed] at q
    exact repr_of_reads' rd hs (fun z => by rw [hn] at z; cases z) hg (by omega) (fun b o e => e) (fun h' u tk hk => ⟨.str _, H, I.kept hk, ⟨_, rfl⟩, q⟩) hz
  · cases (show u = Value.ref a from e)
    obtain ⟨z, lo, vs, rel, dd⟩ := dk_of I.hok ha
    cases rel
    obtain ⟨o, es, ep, ho, hx, hd, _, hp, _⟩ := dd
    have e0 : es.toList = [] := by
      cases hes : es.toList with
      | nil => rfl
      | cons y ys =>
        rw [hes] at hp
        cases hp
    have rd : Reads s.heap (.ref a) (.dict []) ([a] ++ []) := .dict (es := es) ho hx.1 hd (by rw [e0]; exact .nil) (by rw [e0]; exact .nil)
    have et : PyData.shown (.dict []) = txt (.dict []) := rfl
    rw [← et] at q
    refine repr_of_reads' rd (by decide +kernel) (fun _ hm => ?_) hg (by show X.A.units + (_ + 1) < cLine; exact Nat.lt_of_le_of_lt (Nat.add_le_add_left (by decide +kernel) _) hu) (fun b o e => e) (fun h' u tk hk => ⟨.str _, H, I.kept hk, ⟨_, rfl⟩, q⟩) (by decide +kernel)
    have hm : sysModules = a := by simpa using hm
    rw [hm] at lo
    simp at lo
end
/-! ## short things: what repr asks of them, however loosely they are passed -/
def nice : Nat → PyData → Bool
  | _, .none => true
  | _, .bool _ => true
  | _, .int i => decide (i.natAbs < 10 ^ 19)
  | _, .str x => decide (x.cps.size ≤ 10) && x.cps.toList.all fun c => decide (c < 16 ^ 8)
  | k + 1, .list l => decide (l.length ≤ 10) && l.all (nice k)
  | k + 1, .tuple l => decide (l.length ≤ 10) && l.all (nice k)
  | _, _ => false
theorem nice_int {i : Int} (h : i.natAbs < 10 ^ 19) : i.natAbs.log2 < 64 := by
  by_cases z : i.natAbs = 0
  · rw [z]
    decide
  · rw [Nat.log2_lt z]
    exact Nat.lt_of_lt_of_le h (by decide)
def wt : Nat → Nat
  | 0 => 100
  | k + 1 => 10 * (wt k + 1)
structure Nc (k : Nat) (d : PyData) : Prop where
  s : d.showable = true
  n : d.hasDict = false
  dp : d.depth ≤ k
  l : d.leavesShort 24 = true
  w : d.weight ≤ wt k
theorem wt_mono : ∀ k, 100 ≤ wt k
  | 0 => Nat.le_refl _
  | k + 1 => by
    have := wt_mono k
    show 100 ≤ 10 * (wt k + 1)
    omega
theorem nc_all {k : Nat} : ∀ {l : List PyData}, (∀ d ∈ l, Nc k d) → PyData.showableAll l = true ∧ PyData.hasDictAll l = false ∧ PyData.depthAll l ≤ k ∧ PyData.leavesShortAll 24 l = true ∧ PyData.weightAll l ≤ l.length * (wt k + 1)
  | [], _ => ⟨rfl, rfl, Nat.zero_le _, rfl, Nat.zero_le _⟩
  | d :: l, h => by
    obtain ⟨h1, h2, h3, h4, h5⟩ := nc_all (l := l) fun x hx => h x (List.mem_cons_of_mem _ hx)
    obtain ⟨g1, g2, g3, g4, g5⟩ := h d List.mem_cons_self
    refine ⟨?_, ?_, ?_, ?_, ?_⟩
    · simp only [PyData.showableAll, g1, h1, Bool.and_self]
    · simp only [PyData.hasDictAll, g2, h2, Bool.or_self]
    · simp only [PyData.depthAll]
      exact Nat.max_le.mpr ⟨g3, h3⟩
    · simp only [PyData.leavesShortAll, g4, h4, Bool.and_self]
    · simp only [PyData.weightAll, List.length_cons]
      have e : (l.length + 1) * (wt k + 1) = l.length * (wt k + 1) + (wt k + 1) := Nat.succ_mul ..
      omega
theorem nice_nc : ∀ (k : Nat) (d : PyData), nice k d = true → Nc k d
  | k, .none, _ => ⟨by simp [PyData.showable], by simp [PyData.hasDict], by simp [PyData.depth], by simp [PyData.leavesShort], by simp [PyData.weight]⟩
  | k, .bool b, _ => ⟨by simp [PyData.showable], by simp [PyData.hasDict], by simp [PyData.depth], by simp [PyData.leavesShort], by simp [PyData.weight]⟩
  | k, .int i, h => by
    have h : decide (i.natAbs < 10 ^ 19) = true := by cases k <;> exact h
    have h := of_decide_eq_true h
    have h2 := nice_int h
    refine ⟨by simp only [PyData.showable]; exact decide_eq_true (by omega), by simp [PyData.hasDict], by simp [PyData.depth], ?_, ?_⟩
    · simp only [PyData.leavesShort]
      refine decide_eq_true ?_
      have e := int_text_length_le10 (a := i) (k := 19) (by decide) h
      show (Str.ofString (toString i)).length ≤ 24
      rw [PySem.ofString_length]
      omega
    · simp only [PyData.weight]
      have := wt_mono k
      split <;> omega
  | k, .str x, h => by
    have h : (decide (x.cps.size ≤ 10) && x.cps.toList.all fun c => decide (c < 16 ^ 8)) = true := by cases k <;> exact h
    rw [Bool.and_eq_true] at h
    have h1 := of_decide_eq_true h.1
    have := wt_mono k
    exact ⟨by simp [PyData.showable], by simp [PyData.hasDict], by simp [PyData.depth], by simp only [PyData.leavesShort]; exact h.2, by simp only [PyData.weight]; omega⟩
  | 0, .list l, h => by cases h
  | 0, .tuple l, h => by cases h
  | 0, .dict l, h => by cases h
  | k + 1, .dict l, h => by cases h
  | k + 1, .list l, h => by
    have h : (decide (l.length ≤ 10) && l.all (nice k)) = true := h
    rw [Bool.and_eq_true] at h
    have hl := of_decide_eq_true h.1
    obtain ⟨h1, h2, h3, h4, h5⟩ := nc_all (l := l) fun d hd => nice_nc k d (List.all_eq_true.mp h.2 d hd)
    refine ⟨by simp only [PyData.showable]; exact h1, by simp only [PyData.hasDict]; exact h2, by simp only [PyData.depth]; omega, by simp only [PyData.leavesShort]; exact h4, ?_⟩
    simp only [PyData.weight]
    exact Nat.le_trans h5 (Nat.mul_le_mul_right _ hl)
  | k + 1, .tuple l, h => by
    have h : (decide (l.length ≤ 10) && l.all (nice k)) = true := h
    rw [Bool.and_eq_true] at h
    have hl := of_decide_eq_true h.1
    obtain ⟨h1, h2, h3, h4, h5⟩ := nc_all (l := l) fun d hd => nice_nc k d (List.all_eq_true.mp h.2 d hd)
    refine ⟨by simp only [PyData.showable]; exact h1, by simp only [PyData.hasDict]; exact h2, by simp only [PyData.depth]; omega, by simp only [PyData.leavesShort]; exact h4, ?_⟩
    simp only [PyData.weight]
    exact Nat.le_trans h5 (Nat.mul_le_mul_right _ hl)
theorem Nc.len {k : Nat} {d : PyData} (h : Nc k d) (hk : k ≤ 3) : d.shown.length ≤ sizeLine := by
  have z := PyData.shown_le 24 (by decide) d h.l
  have w := h.w
  have w3 : wt k ≤ 110000 := by
    have : k = 0 ∨ k = 1 ∨ k = 2 ∨ k = 3 := by omega
    rcases this with rfl | rfl | rfl | rfl <;> decide
  have : (24 + 2) * d.weight ≤ 26 * 110000 := Nat.mul_le_mul_left 26 (Nat.le_trans w w3)
  exact Nat.le_trans z (Nat.le_trans (show _ ≤ 26 * 110000 + 24 by omega) (by decide))
mutual
theorem Loo.nice : ∀ {d e : PyData} {k : Nat}, Loo d e → Ts.nice k d = true → Ts.nice k e = true
  | _, _, _, .same _, h => h
  | d, _, k, .row b hr hl, h => by
    cases k with
    | zero => cases d <;> first | (cases hr; done) | (cases h; done)
    | succ k =>
      have h2 : (decide ((items d).length ≤ 10) && (items d).all (Ts.nice k)) = true := by
        cases d <;> first | (cases hr; done) | exact h
      rw [Bool.and_eq_true] at h2
      obtain ⟨g1, g2⟩ := LooAll.nice hl h2.2
      have h3 := of_decide_eq_true h2.1
      cases b
      · show (decide (_ ≤ 10) && List.all _ (Ts.nice k)) = true
        rw [g1, decide_eq_true (by omega)]
        rfl
      · show (decide (_ ≤ 10) && List.all _ (Ts.nice k)) = true
        rw [g1, decide_eq_true (by omega)]
        rfl
theorem LooAll.nice : ∀ {ds es : List PyData} {k : Nat}, LooAll ds es → ds.all (Ts.nice k) = true → es.all (Ts.nice k) = true ∧ es.length = ds.length
  | _, _, _, .nil, _ => ⟨rfl, rfl⟩
  | _, _, _, .cons h r, hh => by
    rw [List.all_cons, Bool.and_eq_true] at hh
    obtain ⟨g1, g2⟩ := LooAll.nice r hh.2
    refine ⟨?_, by rw [List.length_cons, List.length_cons, g2]⟩
    rw [List.all_cons, Loo.nice h hh.1, g1]
    rfl
end
def Short (d : PyData) : Prop := okL 3 d = true ∧ (nice 3 d = true ∨ d = .dict [])
theorem nice_i {i : Int} (h1 : -1000000000000000001 ≤ i) (h2 : i ≤ 1000000000000000001) : ∀ k, nice k (.int i) = true := fun k => by
  have z : decide (i.natAbs < 10 ^ 19) = true := decide_eq_true (by
    have : (10 : Nat) ^ 19 = 10000000000000000000 := by decide
    omega)
  cases k <;> exact z
theorem nice_l {k : Nat} {l : List PyData} (h : l.length ≤ 10) (hh : ∀ d ∈ l, nice k d = true) : nice (k + 1) (.list l) = true := by
  show (decide (l.length ≤ 10) && l.all (nice k)) = true
  rw [decide_eq_true h, List.all_eq_true.mpr hh]
  rfl
theorem okL_l {k : Nat} {l : List PyData} (h : l.length ≤ 90) (hh : ∀ d ∈ l, okL k d = true) : okL (k + 1) (.list l) = true := by
  show (decide (l.length ≤ 90) && l.all (okL k)) = true
  rw [decide_eq_true h, List.all_eq_true.mpr hh]
  rfl
theorem short_ints {os : List Int} (h : os.length ≤ 10) (hh : ∀ x ∈ os, -1000000000000000001 ≤ x ∧ x ≤ 1000000000000000001) : Short (.list (os.map .int)) :=
  ⟨okL_ints (by omega), .inl (nice_l (by rw [List.length_map]; exact h) fun d hd => by
    obtain ⟨x, hx, rfl⟩ := List.mem_map.mp hd
    exact nice_i (hh x hx).1 (hh x hx).2 _)⟩
/-- what is handed on, however loosely, has its repr -/
theorem nice_items {k : Nat} {ds : List PyData} (h : (decide (ds.length ≤ 10) && ds.all (nice k)) = true) : ds.all (nice k) = true := (Bool.and_eq_true_iff.mp h).2
mutual
theorem D.dp {K : PySem.W.Frag} {H : Hp} : ∀ {k : Nat} {v : V} {d : PyData}, D H v d → nice k d = true → Dp K H v d
  | _, _, _, .non, _ => .non
  | _, _, _, .bl b, _ => .bl b
  | _, _, _, .int i, _ => .int i
  | _, _, _, .str x, _ => .str x
  | 0, _, _, .lst _ _, h => by cases h
  | 0, _, _, .tup _ _, h => by cases h
  | _ + 1, _, _, .lst hh r, h => .lst (SqL.of hh) (DAll.dp r (nice_items h))
  | _ + 1, _, _, .tup hh r, h => .tup (SqT.of hh) (DAll.dp r (nice_items h))
  | 0, _, _, .dic _ _, h => by cases h
  | _ + 1, _, _, .dic _ _, h => by cases h
theorem DAll.dp {K : PySem.W.Frag} {H : Hp} : ∀ {k : Nat} {vs : List V} {ds : List PyData}, DAll H vs ds → ds.all (nice k) = true → DpAll K H vs ds
  | _, _, _, .nil, _ => .nil
  | _, _, _, .cons h r, hh => by
    rw [List.all_cons, Bool.and_eq_true] at hh
    exact .cons (D.dp h hh.1) (DAll.dp r hh.2)
end
theorem show_ok {K : PySem.W.Frag} {H : Hp} {v : V} {d : PyData} (hd : D H v d) (h : nice 3 d = true ∨ d = .dict []) : ShowOk K H v d := by
  rcases h with h | rfl
  · have nc := nice_nc 3 d h
    have hdp : Dp K H v d := D.dp hd h
    cases hd with
    | non => exact .inl ⟨rfl, rfl⟩
    | bl b => exact .inr (.inl ⟨b, rfl, rfl⟩)
    | int i =>
      refine .inr (.inr (.inl ⟨i, rfl, rfl, ?_⟩))
      have := nice_int (of_decide_eq_true (show decide (i.natAbs < 10 ^ 19) = true from h))
      omega
    | str x => exact .inr (.inr (.inr (.inl ⟨x, rfl, rfl, nc.len (by omega)⟩)))
    | lst hh r => exact .inr (.inr (.inr (.inr (.inl ⟨_, rfl, rfl, hdp, nc.s, nc.n, Nat.le_trans nc.dp (by decide), nc.len (by omega)⟩))))
    | tup hh r => exact .inr (.inr (.inr (.inr (.inl ⟨_, rfl, rfl, hdp, nc.s, nc.n, Nat.le_trans nc.dp (by decide), nc.len (by omega)⟩))))
    | dic hh r => cases h
  · cases hd with
    | dic hh r =>
      cases r
      exact .inr (.inr (.inr (.inr (.inr ⟨_, rfl, hh, rfl⟩))))
theorem Short.loo {d e : PyData} (h : Short d) (l : Loo d e) : nice 3 e = true ∨ e = .dict [] := by
  rcases h.2 with h | rfl
  · exact .inl (l.nice h)
  · cases l with
    | same _ => exact .inr rfl
    | row b hr _ => cases hr
theorem new_del {H : Hp} {p dx : Addr} {C : Addr} (np : H p = none) (ndx : H dx = none) : Ex H (del (upd (upd H dx (.own p)) p (.ins C dx [])) p) := fun z o hz => by
  have n1 : z ≠ p := ne_of_none hz np
  have n2 : z ≠ dx := ne_of_none hz ndx
  rw [del_ne n1, upd_ne n1, upd_ne n2]
  exact hz
theorem sort_len {rs : List Rl} : (sortR rs).length = rs.length := (List.mergeSort_perm _ _).length_eq
theorem sort_mem {rs : List Rl} : ∀ r, r ∈ sortR rs ↔ r ∈ rs := fun _ => mem_sortR
theorem rule_D {H : Hp} {p : Addr} {r : Rl} (h : H p = some (.tup r.vs)) : D H (.ref p) r.d := by
  refine .tup h (.cons (.int _) (.cons ?_ (.cons (.str _) (.cons (.int _) (.cons (.int _) .nil)))))
  cases r.high with
  | none => exact .non
  | some i => exact .int _
theorem nt_extN {H H' : Hp} (e : ExtN H H') : Ex (Ts.nt H) H' := fun b o h => by
  obtain ⟨h1, h2⟩ := nt_of h
  exact e b o h1 h2
theorem Strm.extN {H H' : Hp} {a c : Addr} {n : Int} (e : ExtN H H') (h : Strm H a c n) : Strm H' a c n := by
  obtain ⟨⟨cells, s1, s3, h1, h2, h3⟩, h4, h5⟩ := h
  exact ⟨⟨cells, s1, s3, e _ _ h1 (fun _ z => by cases z), e _ _ h2 (fun _ z => by cases z), h3⟩, h4, h5⟩
/-- what is spoiled is new lists: tables stay -/
theorem tabs_spoil {T : List (Addr × Str)} {H H' : Hp} {F : List Addr} (t : Tabs T H) (hF : ∀ a ∈ F, ∃ ys, H a = some (.lst ys)) (k : ∀ b o, b ∉ F → H b = some o → H' b = some o) : Tabs T H' := fun p hp => by
  obtain ⟨ps, h1, h2, h3⟩ := t p hp
  have keep : ∀ (z : Addr) (o : HO), H z = some o → (∀ xs, o ≠ .lst xs) → H' z = some o := fun z o hz ho => k z o (fun m => by
    obtain ⟨ys, e⟩ := hF z m
    rw [hz] at e
    cases e
    exact ho _ rfl) hz
  refine ⟨ps, keep _ _ h1 (fun _ z => by cases z), h2, fun pos cv hc => ?_⟩
  obtain ⟨cc, e1, e2⟩ := h3 pos cv hc
  exact ⟨cc, e1, keep _ _ e2 (fun _ z => by unfold CodeO at z; cases z)⟩
theorem ex_off {a c : Addr} {R H : Hp} (ra : R a = none) (rc : R c = none) (e : Ex R H) : Ex R (off a c H) := fun b o h => by
  rw [off_ne (ne_of_none h ra) (ne_of_none h rc)]
  exact e b o h
theorem Strm.nt {H : Hp} {a c : Addr} {n : Int} (h : Strm H a c n) : Strm (Ts.nt H) a c n := by
  obtain ⟨⟨cells, s1, s3, h1, h2, h3⟩, h4, h5⟩ := h
  exact ⟨⟨cells, s1, s3, nt_at h1 (fun _ z => by cases z), nt_at h2 (fun _ z => by cases z), h3⟩, h4, h5⟩
theorem nt_nt {H H' : Hp} (e : Ex (Ts.nt H) H') : Ex (Ts.nt H) (Ts.nt H') := fun b o h => nt_at (e b o h) (nt_of h).2
section
variable {P : Program} {w : World} {K : PySem.W.Frag} {mg : Str → Option Value} {base : Heap}
theorem okCG {x q : Str} {st : Stmt} {f c : Addr} {N ps : List Str} {k : Nat} {sp : Sp} {oc kV doc pm ct : Value} {od an : Option Addr} {osl : Array (Option Value)}
    (lk : K.lookup f = some ⟨oc, od, .func (PySem.W.fnOf x q (defArgs st) (defBody st) (defScope st) .none kV doc pm an (.ref c) ct), osl⟩) (hcd : PySem.W.codeIn K (.ref c) q = true) (S : FnScope N ps (defScope st)) (ln : ∀ vs H Q E, sp vs H Q E → vs.length = ps.length)
    (hb : ∀ (A : Around) (outer : List Env) (s : Shared) (H : Hp) (vs : List V) (Q : VK) (E : XK), A.guards = some [] → Room k (A.deeper (PyProof.Rows.envOfC q (defScope st) s.heap.objs.size f (.ref c))) → sp vs H Q E →
      ∃ t, PSs (cxOf CX0 P w K mg base N q (defScope st) f (.ref c) A outer s H E).nox (defBody st) t ∧ t { nx := fun _ H' => Q .non H', rt := Q } (L2.start N vs) H) :
    GOk P w K mg base CX0 (k + 1) f (PySem.W.fnOf x q (defArgs st) (defBody st) (defScope st) .none kV doc pm an (.ref c) ct) ps sp :=
  ⟨ln, fun A outer s H args us vs Q E hg hr e0 hbi hv hsp => LamX.run_ofS lk hcd S hr e0 hbi hv (ln _ _ _ _ hsp) fun hr' => by
    obtain ⟨t, ht, q⟩ := hb A outer s H vs Q E hg hr' hsp
    exact ⟨t, ht.nox, q⟩⟩
end
section
variable {X : Cx} {CX : CXT} {k : Nat} {f : Addr} {fd : FuncData} {ps ks : List Str} {sp : Sp} {E : XK} {x : Str} {p pos : Pos} {kws : List Keyword} {tk : TA} {g : List Value → List Value → List Value} {gV : List V → List V → List V}
/-- f(k = v, ..) -/
theorem pe_callN0 (F : FnOk X.prog X.w X.K X.mg X.base CX k f fd ps sp) (hr : Room k X.A) (hg : Gl X x) (hm : X.mg x = some (.ref f)) (hk : PySem.W.keepIn X.K (.ref f) = true) (hb : KBn X.K fd ps 0 ks g gV) (hx : Passes CX X E)
    (hkw : PK X kws tk) (hall : (backToKw pos (keywordEach kws X.env)).all (·.1.isSome) = true := by rfl) (hks : (backToKw pos (keywordEach kws X.env)).filterMap (·.1) = ks := by rfl)
    (hdb : (x == ("__debug__" : Str)) = false := by decide)
    (hpl : ((backTo pos (starEach [] X.env)).any (·.1) || (backToKw pos (keywordEach kws X.env)).any (·.1.isNone)) = false := by rfl) :
    PE X (.Call (.Name x p) [] kws pos) (tCallN 0 ks.length sp gV E tNil tk) := by
  refine ⟨fun pins s σ H Q I h => ?_⟩
  refine wpAny_Call_Name_kw (ld_glob I hg hm ?_ hdb)
  refine PySem.W.callWith_KW0 (h₀ := X.base) I.ok.mod.kin hk hall ?_ hpl
  refine thn (hkw.run pos pins s σ H _ I h) fun ws s2 ⟨zs, H2, I2, rz, l1, l2, q2⟩ => ⟨I2.kIn, ?_⟩
  rw [hks]
  exact run_fnN (us := []) (vs := []) F hr hb hx I2 .nil rz rfl l2 q2
end
def swp {α : Type} (ws : List α) : List α := match ws with
  | [a, b] => [b, a]
  | ws => ws
theorem swp_rel : ∀ {zs : List V} {ws : List Value}, Vals zs ws → Vals (swp zs) (swp ws)
  | [], _, .nil => .nil
  | [_], _, .cons h .nil => .cons h .nil
  | [_, _], _, .cons h (.cons h2 .nil) => .cons h2 (.cons h .nil)
  | _ :: _ :: _ :: _, _, .cons h (.cons h2 (.cons h3 r)) => .cons h (.cons h2 (.cons h3 r))
end Ts


set_option Elab.async false
set_option linter.all false
set_option maxRecDepth 100000
set_option maxHeartbeats 4000000
namespace Ts
open PySem PySem.Spec L2 LamX
open Evl (Ex)
theorem sum_perm {xs ys : List Int} (h : xs.Perm ys) : xs.sum = ys.sum := by
  induction h with
  | nil => rfl
  | cons x _ ih => rw [List.sum_cons, List.sum_cons, ih]
  | swap x y l => rw [List.sum_cons, List.sum_cons, List.sum_cons, List.sum_cons]; omega
  | trans _ _ h1 h2 => exact h1.trans h2
theorem aopt_way {rs : List Rl} {n : Int} {os : List Int} (h : AOpt rs n os) : ∃ r ∈ rs, Way r n os := by
  rcases h with ⟨rfl, r, hr, h1, h2⟩ | ⟨x, rfl, r, hr, h1, h2, _⟩ | ⟨t, a, rfl, ⟨r, hr, h1, h2, _⟩, _, _⟩
  · exact ⟨r, hr, h1, h2⟩
  · refine ⟨r, hr, h1, ?_⟩
    rw [show ([x] : List Int).sum = x by simp]
    exact h2
  · refine ⟨r, hr, h1, ?_⟩
    rw [show ([a, t - a] : List Int).sum = t by simp; omega]
    exact h2
theorem way_perm {r : Rl} {n : Int} {os os' : List Int} (p : os'.Perm os) (h : Way r n os') : Way r n os := by
  unfold Way at h ⊢
  rw [← p.length_eq, ← sum_perm p]
  exact h
theorem sum_one : ∀ {os : List Int}, (∀ x ∈ os, 1 ≤ x) → ∀ x ∈ os, x ≤ os.sum ∧ 0 ≤ os.sum - x
  | [], _ => fun x hx => by cases hx
  | y :: os, h => fun x hx => by
    have nn : ∀ {us : List Int}, (∀ x ∈ us, 1 ≤ x) → 0 ≤ us.sum := fun {us} hu => by
      induction us with
      | nil => exact Int.le_refl _
      | cons u us ih =>
        rw [List.sum_cons]
        have := ih fun x hx => hu x (List.mem_cons_of_mem _ hx)
        have := hu u List.mem_cons_self
        omega
    rw [List.sum_cons]
    have y1 := h y List.mem_cons_self
    have t := fun x hx => h x (List.mem_cons_of_mem y hx)
    have := nn t
    rcases List.mem_cons.mp hx with rfl | hx
    · omega
    · have := sum_one t x hx
      omega
/-- what the law asks of a thing is what an option is -/
theorem iso_iff {rs : List Rl} {n : Int} {d : PyData} (low : ∀ r ∈ rs, 0 ≤ r.low) (n2 : n ≤ 1000000000000000000) : IsO rs n d ↔ isRow d = true ∧ ∃ os, TwoP d os ∧ (∃ r ∈ rs, Way r n os) ∧ ∀ os', os'.Perm os → os'.Pairwise (· ≤ ·) → AOpt rs n os' := by
  constructor
  · rintro ⟨h1, h2⟩
    obtain ⟨hr, hl, os, hi, hp⟩ := hps_two h1
    have l2 : os.length ≤ 2 := by rw [hi, List.length_map] at hl; exact hl
    refine ⟨hr, os, ⟨hi, l2, hp⟩, ?_, fun os' p s => h2 os os' hi p s⟩
    have pm : (os.mergeSort (fun a b => decide (a ≤ b))).Perm os := List.mergeSort_perm _ _
    have so : (os.mergeSort (fun a b => decide (a ≤ b))).Pairwise (· ≤ ·) := by
      refine (List.pairwise_mergeSort (le := fun a b : Int => decide (a ≤ b)) (fun a b c h1 h2 => ?_) (fun a b => ?_) os).imp fun h => of_decide_eq_true h
      · have := of_decide_eq_true h1
        have := of_decide_eq_true h2
        exact decide_eq_true (by omega)
      · rw [Bool.or_eq_true, decide_eq_true_eq, decide_eq_true_eq]
        omega
    obtain ⟨r, hr, w⟩ := aopt_way (h2 os _ hi pm so)
    exact ⟨r, hr, way_perm pm w⟩
  · rintro ⟨hr, os, ⟨hi, l2, hp⟩, ⟨r, hrr, w⟩, k⟩
    refine ⟨?_, fun os2 os' hi2 p s => ?_⟩
    · unfold isHps
      rw [hr, hi, List.length_map, decide_eq_true l2, Bool.true_and, Bool.true_and, List.all_map, List.all_eq_true]
      intro x hx
      have z := hp x hx
      have y := sum_one hp x hx
      have lo := low r hrr
      have q := w.2.2.1
      show (decide (1 ≤ x) && decide (x ≤ 1000000000000000000)) = true
      rw [decide_eq_true z, decide_eq_true (by omega)]
      rfl
    · rw [hi] at hi2
      obtain rfl := ints_inj hi2
      exact k os' p s
theorem loo_ints : ∀ {ds es : List PyData}, LooAll ds es → (∀ os : List Int, ds = os.map .int → es = ds) ∧ ∀ os : List Int, es = os.map .int → es = ds
  | _, _, .nil => ⟨fun _ _ => rfl, fun _ _ => rfl⟩
  | _, _, .cons (d := d) (e := e) (ds := ds) (es := es) h r => by
    obtain ⟨i1, i2⟩ := loo_ints r
    have no : ∀ {x : PyData} {xs : List PyData} {os : List Int}, isRow x = true → x :: xs = os.map .int → False := fun {x xs os} hx e => by
      cases os with
      | nil => cases e
      | cons o os =>
        rw [List.map_cons, List.cons.injEq] at e
        rw [e.1] at hx
        cases hx
    have tl : ∀ {x : PyData} {xs : List PyData} {os : List Int}, x :: xs = os.map .int → ∃ os' : List Int, xs = os'.map .int := fun {x xs os} e => by
      cases os with
      | nil => cases e
      | cons o os =>
        rw [List.map_cons, List.cons.injEq] at e
        exact ⟨os, e.2⟩
    cases h with
    | same hd =>
      exact ⟨fun os z => by obtain ⟨os', z'⟩ := tl z; rw [i1 os' z'], fun os z => by obtain ⟨os', z'⟩ := tl z; rw [i2 os' z']⟩
    | row k hr _ => exact ⟨fun os z => (no hr z).elim, fun os z => (no (mk_row k _) z).elim⟩
theorem iso_items {rs : List Rl} {n : Int} {d e : PyData} (hd : isRow d = true) (h : items e = items d) (he : isRow e = true) (q : IsO rs n d) : IsO rs n e := by
  obtain ⟨q1, q2⟩ := q
  refine ⟨?_, ?_⟩
  · unfold isHps at q1 ⊢
    rw [he, h]
    rw [hd] at q1
    exact q1
  · rw [h]
    exact q2
theorem loo_iso {rs : List Rl} {n : Int} {d e : PyData} (h : Loo d e) : IsO rs n e ↔ IsO rs n d := by
  cases h with
  | same _ => exact Iff.rfl
  | row k hr r =>
    rename_i es
    obtain ⟨i1, i2⟩ := loo_ints r
    constructor
    · intro q
      obtain ⟨_, _, os, hi, _⟩ := hps_two q.1
      rw [mk_items] at hi
      have z := i2 os hi
      exact iso_items (mk_row k es) (by rw [mk_items, z]) hr q
    · intro q
      obtain ⟨_, _, os, hi, _⟩ := hps_two q.1
      have z := i1 os hi
      exact iso_items hr (by rw [mk_items, z]) (mk_row k es) q
theorem okL_items {d : PyData} (h : okL 3 d = true) : (items d).length ≤ 90 := by
  by_cases c : isRow d = true
  · obtain ⟨_, _, z, _⟩ := okL_row c h
    exact z
  · cases d <;> first
      | exact absurd rfl c
      | exact Nat.zero_le _
theorem BookAt.nt {C p : Addr} {H : Hp} {rs : List Rl} (h : BookAt C H p rs) : BookAt C (Ts.nt H) p rs := by
  obtain ⟨dx, L, qs, h1, h2, h3, h4⟩ := h
  exact ⟨dx, L, qs, nt_at h1 (fun _ z => by cases z), nt_at h2 (fun _ z => by cases z), fun q hq => nt_at (h3 q hq) (fun _ z => by cases z), h4⟩
theorem way_aopt {rs : List Rl} {r : Rl} {n : Int} {os : List Int} (hr : r ∈ rs) (w : Way r n os) (hl : os.length ≤ 2) (hp : ∀ x ∈ os, 1 ≤ x) (asc : os.Pairwise (· ≤ ·)) : AOpt rs n os := by
  match os, hl, hp, asc, w with
  | [], _, _, _, w => exact .inl ⟨rfl, r, hr, w.1, w.2⟩
  | [x], _, hp, _, w =>
    have w2 := w.2
    rw [show ([x] : List Int).sum = x by simp] at w2
    exact .inr (.inl ⟨x, rfl, r, hr, w.1, w2, hp x (by simp)⟩)
  | [a, b], _, hp, asc, w =>
    have w2 := w.2
    rw [show ([a, b] : List Int).sum = a + b by simp] at w2
    have h1 := hp a (by simp)
    have h2 := (List.pairwise_cons.mp asc).1 b (by simp)
    exact .inr (.inr ⟨a + b, a, by rw [show a + b - a = b by omega], ⟨r, hr, w.1, w2, by omega⟩, h1, by omega⟩)
/-- what the law asks: two heaps at most, and a way to them -/
def KpO (rs : List Rl) (n : Int) (d : PyData) : Prop := isRow d = true ∧ ∃ os, TwoP d os ∧ ∃ r ∈ rs, Way r n os
theorem iso_kp {rs : List Rl} {n : Int} {d : PyData} (low : ∀ r ∈ rs, 0 ≤ r.low) (n2 : n ≤ 1000000000000000000) : IsO rs n d ↔ KpO rs n d := by
  rw [iso_iff low n2]
  constructor
  · rintro ⟨h, os, tw, hw, _⟩
    exact ⟨h, os, tw, hw⟩
  · rintro ⟨h, os, tw, ⟨r, hr, w⟩⟩
    refine ⟨h, os, tw, ⟨r, hr, w⟩, fun os' p asc => ?_⟩
    exact way_aopt hr (way_perm p.symm w) (by rw [p.length_eq]; exact tw.2.1) (fun x hx => tw.2.2 x (p.mem_iff.mp hx)) asc
theorem wayB_perm {r : Rl} {n : Int} {os os' : List Int} (p : os'.Perm os) : wayB r n os' = wayB r n os := by
  rw [Bool.eq_iff_iff, wayB_iff, wayB_iff]
  exact ⟨way_perm p, way_perm p.symm⟩
/-- the ways as data -/
def waysD (rs : List Rl) (n : Int) (os : List Int) : PyData := .list ((rs.filter fun r => wayB r n os).map fun r => .tuple [r.d, .int (n - os.sum)])
theorem waysD_perm {rs : List Rl} {n : Int} {os os' : List Int} (p : os'.Perm os) : waysD rs n os' = waysD rs n os := by
  unfold waysD
  rw [sum_perm p]
  have e : (fun r => wayB r n os') = fun r => wayB r n os := funext fun r => wayB_perm p
  rw [e]
theorem ways_all {H : Hp} {m : Int} : ∀ {ts : List (Addr × (Addr × Rl))}, WaysAt H m ts → DAll H (ts.map fun u => V.ref u.1) (ts.map fun u => .tuple [u.2.2.d, .int m])
  | [], _ => .nil
  | u :: ts, h => .cons (.tup (h u (.head _)).1 (.cons (rule_D (h u (.head _)).2) (.cons (.int _) .nil))) (ways_all fun v hv => h v (List.mem_cons_of_mem _ hv))
theorem ways_D {H : Hp} {M : Addr} {n : Int} {os : List Int} {rs : List Rl} {ts : List (Addr × (Addr × Rl))} (h : H M = some (.lst (ts.map fun u => V.ref u.1))) (w : WaysAt H (n - os.sum) ts) (e : ts.map (·.2.2) = rs.filter fun r => wayB r n os) : D H (.ref M) (waysD rs n os) := by
  refine .lst h ?_
  rw [← e, List.map_map]
  exact ways_all w
theorem rule_okD (r : Rl) : okD 1 r.d = true := by
  obtain ⟨lo, hi, le, re, mo⟩ := r
  cases hi <;> rfl
theorem waysD_ok {rs : List Rl} {n : Int} {os : List Int} (h : rs.length ≤ 90000) : okD 3 (waysD rs n os) = true := by
  show (decide (((rs.filter fun r => wayB r n os).map _).length ≤ 90000) && _) = true
  rw [Bool.and_eq_true]
  refine ⟨decide_eq_true ?_, List.all_eq_true.mpr fun d hd => ?_⟩
  · rw [List.length_map]
    exact Nat.le_trans (List.length_filter_le _ _) h
  · obtain ⟨r, _, rfl⟩ := List.mem_map.mp hd
    show (true && (okD 1 r.d && true)) = true
    rw [rule_okD]
    rfl
theorem d_vs {H : Hp} {r : Rl} : ∀ x ∈ r.vs, ∃ d, D H x d ∧ flatD d = true := fun x hx => by
  obtain ⟨lo, hi, le, re, mo⟩ := r
  have hx : x ∈ [V.int lo, hiV hi, .str le, .int re, .int mo] := hx
  simp only [List.mem_cons, List.not_mem_nil, or_false] at hx
  rcases hx with rfl | rfl | rfl | rfl | rfl
  · exact ⟨_, .int _, rfl⟩
  · cases hi with
    | none => exact ⟨_, .non, rfl⟩
    | some i => exact ⟨_, .int _, rfl⟩
  · exact ⟨_, .str _, rfl⟩
  · exact ⟨_, .int _, rfl⟩
  · exact ⟨_, .int _, rfl⟩
theorem spl_flat {H : Hp} {k : Nat} : ∀ {xs : List V}, (∀ x ∈ xs, ∃ d, D H x d ∧ flatD d = true) → SplAll H k xs []
  | [], _ => .nil
  | x :: xs, h => by
    obtain ⟨d, hd, hf⟩ := h x (.head _)
    have z := SplAll.cons (.sc (k := k) hd hf) (spl_flat (k := k) fun y hy => h y (List.mem_cons_of_mem _ hy)) fun a ha => by cases ha
    exact z
/-- ways may be spoiled: their list alone changes -/
theorem ways_spl {H : Hp} {M : Addr} {m : Int} {ts : List (Addr × (Addr × Rl))} (h : H M = some (.lst (ts.map fun u => V.ref u.1))) (w : WaysAt H m ts) (hl : ts.length ≤ 1000) : Spl H 3 (.ref M) [M] := by
  have z : ∀ {ts : List (Addr × (Addr × Rl))}, WaysAt H m ts → SplAll H 2 (ts.map fun u => V.ref u.1) [] := fun {ts} => by
    induction ts with
    | nil => exact fun _ => .nil
    | cons u ts ih =>
      intro w
      have h1 : Spl H 2 (.ref u.1) [] := by
        refine .tup (w u (.head _)).1 ?_
        have a1 : Spl H 1 (.ref u.2.1) [] := .tup (w u (.head _)).2 (spl_flat d_vs)
        exact SplAll.cons a1 (SplAll.cons (.sc (.int m) rfl) .nil fun a ha => by cases ha) fun a ha => by cases ha
      exact SplAll.cons h1 (ih fun v hv => w v (List.mem_cons_of_mem _ hv)) fun a ha => by cases ha
  exact .lst h (by rw [List.length_map]; omega) (z w) fun z => by cases z
theorem nice_okD : ∀ {k : Nat} {d : PyData}, nice k d = true → okD k d = true
  | 0, .none, _ => rfl
  | 0, .bool _, _ => rfl
  | 0, .int _, _ => rfl
  | 0, .str _, _ => rfl
  | _ + 1, .none, _ => rfl
  | _ + 1, .bool _, _ => rfl
  | _ + 1, .int _, _ => rfl
  | _ + 1, .str _, _ => rfl
  | 0, .list l, h => by cases h
  | 0, .tuple l, h => by cases h
  | 0, .dict l, h => by cases h
  | _ + 1, .dict l, h => by cases h
  | k + 1, .list l, h => by
    obtain ⟨h1, h2⟩ := Bool.and_eq_true_iff.mp h
    have h1 := of_decide_eq_true h1
    exact Bool.and_eq_true_iff.mpr ⟨decide_eq_true (by omega), List.all_eq_true.mpr fun e he => nice_okD (List.all_eq_true.mp h2 e he)⟩
  | k + 1, .tuple l, h => by
    obtain ⟨h1, h2⟩ := Bool.and_eq_true_iff.mp h
    have h1 := of_decide_eq_true h1
    exact Bool.and_eq_true_iff.mpr ⟨decide_eq_true (by omega), List.all_eq_true.mpr fun e he => nice_okD (List.all_eq_true.mp h2 e he)⟩
theorem WaysAt.ex {H H' : Hp} {m : Int} {ts : List (Addr × (Addr × Rl))} (h : WaysAt H m ts) (e : Ex H H') : WaysAt H' m ts := fun u hu => ⟨e _ _ (h u hu).1, e _ _ (h u hu).2⟩
theorem WaysAt.nt {H : Hp} {m : Int} {ts : List (Addr × (Addr × Rl))} (h : WaysAt H m ts) : WaysAt (Ts.nt H) m ts := fun u hu => ⟨nt_at (h u hu).1 fun _ z => (by cases z), nt_at (h u hu).2 fun _ z => (by cases z)⟩
theorem WaysAt.del {H : Hp} {m : Int} {F : Addr} {xs : List V} {ts : List (Addr × (Addr × Rl))} (h : WaysAt H m ts) (hF : H F = some (.lst xs)) : WaysAt (L2.del H F) m ts := fun u hu => by
  have ne : ∀ {z : Addr} {ys : List V}, H z = some (.tup ys) → z ≠ F := fun h z => by
    rw [z, hF] at h
    cases h
  exact ⟨by rw [del_ne (ne (h u hu).1)]; exact (h u hu).1, by rw [del_ne (ne (h u hu).2)]; exact (h u hu).2⟩
theorem loo_items {d d' : PyData} {os : List Int} (l : Loo d d') (hr : isRow d = true) (h : items d = os.map .int) : items d' = os.map .int := by
  cases l with
  | same z => rw [hr] at z; cases z
  | row k _ r =>
    obtain ⟨i1, _⟩ := loo_ints r
    rw [mk_items, i1 os h]
    exact h
section
variable {Z : Cs} {T : List (Addr × Str)} {R H : Hp} {Q : VK} {tt : XK → TE} {σ : L2.St}
/-- what is told -/
theorem met_told (t : Tst T R H) (hc : ∀ (H2 : Hp) (E : XK) (q : VK), Tst T R H2 → (∀ v H3, (∀ p, H3 p = none → Q (.ref p) (upd H3 p (.tup [.str "told", v]))) → q v H3) → tt E σ H2 q) : tLam T (TMet Z) tt σ H Q :=
  ⟨t.t, fun H2 eN t2 => hc H2 _ _ (t.extN eN t2) fun v H3 k => ⟨by show 2 ≤ sizeLine; decide, k⟩⟩
end
end Ts


set_option Elab.async false
set_option linter.all false
set_option maxRecDepth 100000
set_option maxHeartbeats 1000000
namespace Ts
open PySem PySem.Spec L2 LamX
open Evl (Ex)
section
variable {P : Program} {w : World} {K : PySem.W.Frag} {mg : Str → Option Value} {base : Heap}
abbrev s_wr := top 65
abbrev NR : List Str := ["stream", "raw", "made", "heap", "some", "odds", "option", "handed", "kept", "was", "due", "found", "one", "row"]
theorem sc_wr : FnScope NR ["stream", "raw", "made", "heap", "some"] (defScope s_wr) := ⟨rfl, rfl, rfl, by decide +kernel, rfl, by decide +kernel, by decide +kernel⟩
def lamW : Str := (PyProof.Rows.envOfC "_law_ways_right" (defScope s_wr) 0 0 .none).qual ++ "<lambda>"
theorem kb_wt {f : Addr} {fd : FuncData} (F : FD K mg "ways_to" "ways_to" s_ways_to f fd) : KBn K fd ["book", "heap", "option"] 0 ["option", "heap", "book"] (fun _ ws => ws.reverse) (fun _ zs => zs.reverse) := by
  obtain ⟨oc, od, kV, doc, pm, an, cdv, ct, osl, rfl, lk, hcd⟩ := F.F.ex
  refine ⟨fun s us ws _ l1 l2 => ?_, fun _ r => r.reverse⟩
  match us, ws, l1, l2 with
  | [], [a, b, c], _, _ => exact .of_eq rfl
def odds (n : Int) : List PyData := [.list [.int n], .list [.int n, .int 1], .list [.int 0], .none, .int 5, .str "1", .list [.int 1, .int 1, .int 1], .list [.bool true], .list [.list [.int 1]], .dict []]
theorem odds_ok {n : Int} (n1 : 1 ≤ n) (n2 : n ≤ 1000000000000000000) : ∀ d ∈ odds n, Short d := by
  intro d hd
  unfold odds at hd
  simp only [List.mem_cons, List.not_mem_nil, or_false] at hd
  rcases hd with rfl | rfl | rfl | rfl | rfl | rfl | rfl | rfl | rfl | rfl
  · exact short_ints (os := [n]) (Nat.le_of_ble_eq_true rfl) fun x hx => by simp at hx; omega
  · exact short_ints (os := [n, 1]) (Nat.le_of_ble_eq_true rfl) fun x hx => by simp at hx; omega
  · exact short_ints (os := [0]) (Nat.le_of_ble_eq_true rfl) fun x hx => by simp at hx; omega
  · exact ⟨rfl, .inl rfl⟩
  · exact ⟨rfl, .inl rfl⟩
  · exact ⟨rfl, .inl (by decide +kernel)⟩
  · exact short_ints (os := [1, 1, 1]) (Nat.le_of_ble_eq_true rfl) fun x hx => by simp at hx; omega
  · exact ⟨rfl, .inl rfl⟩
  · exact ⟨rfl, .inl rfl⟩
  · exact ⟨rfl, .inr rfl⟩
def spWaysRight (CK : Addr) (TS : List (Addr × Str)) : Sp := fun vs H Q _ => ∃ (a c L m l : Addr) (n k : Int) (qs : List (Addr × Rl)) (rs : List Rl) (bs : Bs), vs = [.ref a, .ref L, .ref m, .int n, .ref l] ∧ Strm H a c k ∧ RsAt (off a c H) L qs ∧ qs.length ≤ 10 ∧ RsGood qs ∧ BookAt CK (off a c H) m rs ∧ rs = (lawSort qs).map (·.2) ∧
  1 ≤ n ∧ n ≤ 1000000000000000000 ∧ off a c H l = some (.lst bs.vs) ∧ (∀ q ∈ bs, off a c H q.1 = some (.lst (q.2.map V.int)) ∧ q.2.length ≤ 2 ∧ ∀ x ∈ q.2, 0 ≤ x ∧ x ≤ 1000000000000000000) ∧ bs.length ≤ 10 ∧ Tabs TS H ∧ k + 300000 < 2 ^ 39 ∧
  ∀ H' k', Ex (nt (off a c H)) H' → Strm H' a c k' → k' ≤ k + 300000 → Tabs TS H' → Q (.bl true) H'
theorem ok_wr {TS : List (Addr × Str)} {tab f c f0 f1 f2 f3 f4 f5 fw CK : Addr} {Z gZ : Cs} {fd0 fd1 fd2 fd3 fd4 fd5 fdw : FuncData} {oc kV doc pm ct : Value} {od an : Option Addr} {osl : Array (Option Value)}
    (lk : K.lookup f = some ⟨oc, od, .func (PySem.W.fnOf "_law_ways_right" "_law_ways_right" (defArgs s_wr) (defBody s_wr) (defScope s_wr) .none kV doc pm an (.ref c) ct), osl⟩) (hcd : PySem.W.codeIn K (.ref c) "_law_ways_right" = true)
    (M : Errs K mg Z gZ) (TB : TabB base mg c tab) (hmT : (tab, lamW) ∈ TS) (hu : ∀ p ∈ TS, p.1 = tab → p.2 = lamW)
    (F_met : FD K mg "_law_met" "_law_met" s_met f0 fd0) (F_draw : FD K mg "_law_draw" "_law_draw" s_draw f1 fd1) (F_loose : FD K mg "_law_loose" "_law_loose" s_loose f2 fd2)
    (F_asopt : FD K mg "_law_b_as_option" "_law_b_as_option" s_asopt f3 fd3) (G_asopt : FnOk P w K mg base CX0 5 f3 fd3 ["raw", "heap", "thing"] spAsopt)
    (F_ways : FD K mg "_law_b_ways" "_law_b_ways" s_ways f4 fd4) (G_ways : FnOk P w K mg base CX0 4 f4 fd4 ["raw", "heap", "option"] spWays)
    (F_same : FD K mg "_law_same" "_law_same" s_same f5 fd5) (F_spoil : ∃ f fd, FD K mg "_law_a_spoiled" "_law_a_spoiled" s_spoil f fd)
    (F_wt : FD K mg "ways_to" "ways_to" s_ways_to fw fdw) (G_wt : FnOk P w K mg base (L2.CX P w) 9 fw fdw ["book", "heap", "option"] (spWaysTo CK Z.b Z.h Z.o)) (T : Bl mg) :
    GOk P w K mg base CX0 12 f (PySem.W.fnOf "_law_ways_right" "_law_ways_right" (defArgs s_wr) (defBody s_wr) (defScope s_wr) .none kV doc pm an (.ref c) ct) ["stream", "raw", "made", "heap", "some"] (spWaysRight CK TS) := by
  obtain ⟨f6, fd6, F_spoil⟩ := F_spoil
  have G_loose : FnOk P w K mg base CX0 5 f2 fd2 ["stream", "thing"] (spLoose 4) := ok_loose F_loose F_draw T 4
  have G_same : FnOk P w K mg base CX0 6 f5 fd5 ["found", "due"] (spSame 6) := ok_same F_same T 6
  have G_spoil : FnOk P w K mg base CX0 5 f6 fd6 ["thing"] (spSpoilT 5) := ok_spoilT F_spoil T 5
  have b_loose : Binds K fd2 ["stream", "thing"] [] := F_loose.F.binds fun _ _ _ _ _ _ us hl => match us, hl with | [_, _], _ => rfl
  have b_asopt : Binds K fd3 ["raw", "heap", "thing"] [] := F_asopt.F.binds fun _ _ _ _ _ _ us hl => match us, hl with | [_, _, _], _ => rfl
  have b_ways : Binds K fd4 ["raw", "heap", "option"] [] := F_ways.F.binds fun _ _ _ _ _ _ us hl => match us, hl with | [_, _, _], _ => rfl
  have b_same : Binds K fd5 ["found", "due"] [] := F_same.F.binds fun _ _ _ _ _ _ us hl => match us, hl with | [_, _], _ => rfl
  have b_spoil : Binds K fd6 ["thing"] [] := F_spoil.F.binds fun _ _ _ _ _ _ us hl => match us, hl with | [_], _ => rfl
  have b_wt : Binds K fdw ["book", "heap", "option"] [] := F_wt.F.binds fun _ _ _ _ _ _ us hl => match us, hl with | [_, _, _], _ => rfl
  have kb := kb_wt F_wt
  refine okCG lk hcd sc_wr (fun vs H Q E h => ?_) (fun A outer s H vs Q E hA hr h => ?_)
  · obtain ⟨a, c, L, m, l, n, k, qs, rs, bs, rfl, _⟩ := h
    rfl
  · obtain ⟨a, c', L, m, l, n, k, qs, rs, bs, rfl, S, hL, hz, good, bk, hrs, n1, n2, hl, hbs, lb, hT, kz, kq⟩ := h
    have nd := sc_wr.nd
    have hr11 : Room (9 + 2) _ := hr
    have hu64 := Nat.lt_of_le_of_lt (Nat.add_le_add_left (by decide : 64 ≤ 64) _) hr.units
    refine' ⟨_, ?rule, ?rest⟩
    case rule =>
      refine' pss_cons ?s1 (pss_cons (ps_for PassesOwn.never rfl ?it (pg_name (i := 6) nd rfl (Or.inl rfl)) (pss_cons ?b1 (pss_cons ?b2 (pss_cons ?b3 (pss_cons ?b4 (pss_cons ?b5 (pss_cons ?b6 (pss_one ?b7)))))))) (pss_one (ps_ret pe_bl)))
      case s1 =>
        exact (ps_set (i := 5) nd rfl (Or.inl rfl) (pe_lst (pa_cons (pe_lst (pa_cons (pv 3) pa_nil)) (pa_cons (pe_lst (pa_cons (pv 3) (pa_cons pe_int pa_nil))) (pa_cons (pe_lst (pa_cons pe_int pa_nil)) (pa_cons pe_non (pa_cons pe_int (pa_cons pe_str (pa_cons (pe_lst (pa_cons pe_int (pa_cons pe_int (pa_cons pe_int pa_nil)))) (pa_cons (pe_lst (pa_cons pe_bl pa_nil)) (pa_cons (pe_lst (pa_cons (pe_lst (pa_cons pe_int pa_nil)) pa_nil)) (pa_cons pe_dnewK pa_nil))))))))))))
      case it =>
        exact (pi_list (pe_op op_cat (pe_op op_cat (pv 4) (pe_lc (wi := iList K (tVar 4)) (own := [("one", 12)]) (g := gName 12) (tt := tYes) rfl nd (pi_list (pv 4)) (blkOk_by (N := NR) (sc := defScope s_wr) (by decide +kernel)) (fun _ _ _ _ _ => pg_name (i := 12) nd rfl (Or.inl rfl)) (fun _ _ _ _ _ => pts_nil) (fun _ _ _ _ _ => (show PE _ _ (tRevL K (tVar 12)) from pe_revL (pv 12))))) (pv 5)))
      case b1 =>
        exact (ps_set (i := 7) nd rfl (Or.inr rfl) (pe_call G_loose (hr.mono (by decide)) (by rfl) F_loose.g F_loose.F.kp b_loose .nil pass0 (pa_cons (pv 0) (pa_cons (pv 6) pa_nil))))
      case b2 =>
        exact (ps_par (i := 8) (j := 9) (by rfl) nd rfl rfl (by decide) rfl rfl (pa_cons (pe_call G_asopt (hr.mono (by decide)) (by rfl) F_asopt.g F_asopt.F.kp b_asopt .nil pass0 (pa_cons (pv 1) (pa_cons (pv 3) (pa_cons (pv 6) pa_nil)))) (pa_cons (pe_callB (call_showD hA hu64) (by rfl) T.repr (by decide +kernel) (pa_cons (pv 7) pa_nil)) pa_nil)) (by rfl))
      case b3 =>
        exact (ps_set (i := 10) nd rfl (Or.inl rfl) (pe_ifExp (pt_cmpR op_isN (pv 8) pe_non (nomark _)) (pe_tup (pa_cons pe_str (pa_cons (pv 7) pa_nil))) (pe_tup (pa_cons pe_str (pa_cons (pe_call G_ways (hr.mono (by decide)) (by rfl) F_ways.g F_ways.F.kp b_ways .nil pass0 (pa_cons (pv 1) (pa_cons (pv 3) (pa_cons (pv 8) pa_nil)))) pa_nil)))))
      case b4 =>
        exact (ps_set (i := 11) nd rfl (Or.inl rfl) (pe_lst (pa_cons (pe_met M F_met (by rfl) TB rfl hmT hu hr11 (lamS_by (by show lamSB (defScope s_wr) _ = true; decide +kernel)) rfl (fun _ _ _ _ _ => rfl) (fun A outer s H E f c' hr2 => pe_call G_wt hr2 (by rfl) F_wt.g F_wt.F.kp b_wt .nil (passes_call (takes_of rfl rfl rfl rfl) (fun _ _ _ _ h => h)) (pa_cons (pv 2) (pa_cons (pv 3) (pa_cons (pv 7) pa_nil))))) pa_nil)))
      case b5 =>
        exact (ps_expr (pe_bm PySem.F.plainAttrs_list PySem.F.slot_list_append PySem.F.type_list_append mt_append (pv 11) (pa_cons (pe_met M F_met (by rfl) TB rfl hmT hu hr11 (lamS_by (by show lamSB (defScope s_wr) _ = true; decide +kernel)) rfl (fun _ _ _ _ _ => rfl) (fun A outer s H E f c' hr2 => pe_callN0 G_wt hr2 (by rfl) F_wt.g F_wt.F.kp kb (passes_call (takes_of rfl rfl rfl rfl) (fun _ _ _ _ h => h)) (pk_cons (pv 7) (pk_cons (pv 3) (pk_cons (pv 2) pk_nil))))) pa_nil)))
      case b6 =>
        exact (ps_if (PW.pt (pw_or (pt_not (pt_val (pe_call G_same (hr.mono (by decide)) (by rfl) F_same.g F_same.F.kp b_same .nil pass0 (pa_cons (pv 11) (pa_cons (pe_lst (pa_cons (pv 10) (pa_cons (pv 10) pa_nil))) pa_nil))))) (pw_or1 (pt_cmpR op_ne (pe_callB (call_showD hA hu64) (by rfl) T.repr (by decide +kernel) (pa_cons (pv 7) pa_nil)) (pv 9) (nomark _))))) (pss_one (ps_ret pe_bl)) pss_nil)
      case b7 =>
        exact (ps_expr (pe_call G_spoil (hr.mono (by decide)) (by rfl) F_spoil.g F_spoil.F.kp b_spoil .nil pass0 (pa_cons (pe_ifExp (pt_cmpR op_notN (pv 8) pe_non (nomark _)) (pe_lc (wi := iList K (tVar 11)) (own := [("row", 13)]) (g := gName 13) (tt := tYes) rfl nd (pi_list (pv 11)) (blkOk_by (N := NR) (sc := defScope s_wr) (by decide +kernel)) (fun _ _ _ _ _ => pg_name (i := 13) nd rfl (Or.inl rfl)) (fun _ _ _ _ _ => pts_nil) (fun _ _ _ _ _ => pe_ix (r := rIx K) ix_seq (pv 13) pe_int (fun _ _ => rfl))) (pe_lst pa_nil)) pa_nil)))
    case rest =>
      have big : (2 : Int) ^ 39 = 549755813888 := by decide
      refine seq1 (asg1 (GvA.use (ds := odds n) (R := off a c' H) ?_ (Ex.refl _) off_ex fun vs1 G1 H1 r1 hd1 => ⟨by rw [hd1.len2]; show 10 ≤ sizeLine; decide, fun O nO => gn1 ?_⟩))
      · exact .cons (.lst (.cons (.var (i := 3) rfl (.int n)) .nil)) (.cons (.lst (.cons (.var (i := 3) rfl (.int n)) (.cons .int .nil))) (.cons (.lst (.cons .int .nil)) (.cons .non (.cons .int (.cons .str (.cons (.lst (.cons .int (.cons .int (.cons .int .nil)))) (.cons (.lst (.cons .bl .nil)) (.cons (.lst (.cons (.lst (.cons .int .nil)) .nil)) (.cons .dic .nil)))))))))
      dsimp only
      have S1 := S.ex r1.h
      have o1 := r1.off S (Ex.refl _)
      obtain ⟨Oa, Oc⟩ := S1.nea nO
      have eO := Ex.new (o := .lst vs1) nO
      have hO : upd H1 O (.lst vs1) O = some (.lst vs1) := upd_same
      have S2 := S1.ex eO
      have hd2 : DAll (off a c' (upd H1 O (.lst vs1))) vs1 (odds n) := (hd1.ex o1).ex (Ex.offs eO)
      have e02 : Ex H (upd H1 O (.lst vs1)) := r1.h.trans eO
      generalize upd H1 O (.lst vs1) = H2 at hO S2 hd2 e02 ⊢
      clear r1 hd1 o1 eO nO S1
      have l1 : vs1.length = 10 := hd2.len2
      have hl2 := e02 _ _ (off_of hl)
      refine seq1 ?_
      unfold tFor iList
      refine ⟨_, rfl, _, rfl, l, rfl, ⟨_, SqL.of hl2⟩, fun Dm nD => ?_⟩
      refine lc_new (walk_list (xs := bs.vs)) (fun j => ((bs.map (·.2)).getD j []).reverse) (by rw [List.length_map]; omega) nD (fun H' e => SqL.of (e _ _ hl2)) (fun j y H3 H4 A B hj e3 yy => ?_) (fun H3 cs nwc hcs => ?_)
      · obtain ⟨rfl, hy⟩ := yy
        rw [List.length_map] at hj
        rw [List.getElem?_map, List.getElem?_eq_getElem hj] at hy
        cases hy
        have mq : bs[j] ∈ bs := List.getElem_mem hj
        have eo : (bs.map (·.2)).getD j [] = bs[j].2 := by
          rw [List.getD_eq_getElem?_getD, List.getElem?_map, List.getElem?_eq_getElem hj]
          rfl
        rw [eo]
        have hq := e3 _ _ (e02 _ _ (off_of (hbs _ mq).1))
        generalize bs[j] = o at hq
        refine ⟨rfl, fun kz => gn1 ⟨rfl, yes_of ⟨_, rfl, o.1, o.2.map V.int, rfl, SqL.of hq, fun p np => ?_⟩⟩⟩
        have z := kz p np
        rw [List.map_reverse] at z
        exact z
      have hcb : ∀ q ∈ cs, q.2.length ≤ 2 ∧ ∀ x ∈ q.2, 0 ≤ x ∧ x ≤ 1000000000000000000 := fun q hq => by
        have z : q.2 ∈ cs.map (·.2) := List.mem_map.mpr ⟨q, hq, rfl⟩
        rw [hcs] at z
        obtain ⟨j, hj, e⟩ := List.mem_map.mp z
        rw [List.mem_range, List.length_map] at hj
        have eo : (bs.map (·.2)).getD j [] = bs[j].2 := by
          rw [List.getD_eq_getElem?_getD, List.getElem?_map, List.getElem?_eq_getElem hj]
          rfl
        obtain ⟨_, b1, b2⟩ := hbs _ (List.getElem_mem hj)
        rw [← e, eo]
        exact ⟨by rw [List.length_reverse]; exact b1, fun x hx => b2 x (List.mem_reverse.mp hx)⟩
      have lcs : cs.length = bs.length := by
        have z := congrArg List.length hcs
        rw [List.length_map, List.length_map, List.length_range, List.length_map] at z
        exact z
      have S3 := S2.ex nwc.ex
      have e03 := e02.trans nwc.ex
      refine ⟨l, Dm, _, _, rfl, rfl, e03 _ _ (off_of hl), nwc.at_, by rw [List.length_map, List.length_map]; exact Nat.le_trans (show bs.length + cs.length ≤ 100 by omega) (by decide), fun W1 nW1 => ?_⟩
      have eW1 := Ex.new (o := .lst (bs.vs ++ cs.vs)) nW1
      have hW1 : upd H3 W1 (.lst (bs.vs ++ cs.vs)) W1 = some (.lst (bs.vs ++ cs.vs)) := upd_same
      have S4 := S3.ex eW1
      generalize upd H3 W1 (.lst (bs.vs ++ cs.vs)) = H4 at eW1 hW1 S4 ⊢
      refine ⟨_, rfl, W1, O, _, _, rfl, rfl, hW1, eW1 _ _ (nwc.ex _ _ hO), by rw [List.length_append, List.length_map, List.length_map, l1]; exact Nat.le_trans (show bs.length + cs.length + 10 ≤ 100 by omega) (by decide), fun W nW => ⟨W, rfl, ⟨_, SqL.of upd_same⟩, ?_⟩⟩
      have eW := Ex.new (o := .lst (bs.vs ++ cs.vs ++ vs1)) nW
      have hW : upd H4 W (.lst (bs.vs ++ cs.vs ++ vs1)) W = some (.lst (bs.vs ++ cs.vs ++ vs1)) := upd_same
      have S5 := S4.ex eW
      obtain ⟨Wa, Wc⟩ := S4.nea nW
      generalize upd H4 W (.lst (bs.vs ++ cs.vs ++ vs1)) = H5 at eW hW S5 ⊢
      have e35 := eW1.trans eW
      have e05 := e03.trans e35
      have o05 := Ex.offs (a := a) (c := c') e05
      have hall : ∀ x ∈ bs.vs ++ cs.vs ++ vs1, ∃ d, D (nt (off a c' H5)) x d ∧ Short d := fun x hx => by
        rcases List.mem_append.mp hx with hx | hx
        · rcases List.mem_append.mp hx with hx | hx
          · obtain ⟨q, hq, rfl⟩ := List.mem_map.mp hx
            obtain ⟨b0, b1, b2⟩ := hbs q hq
            exact ⟨.list (q.2.map .int), (dints (o05 _ _ b0)).nt, short_ints (by omega) fun x hx => by have := b2 x hx; omega⟩
          · obtain ⟨q, hq, rfl⟩ := List.mem_map.mp hx
            obtain ⟨b1, b2⟩ := hcb q hq
            obtain ⟨_, n1', c1⟩ := nwc.el q hq
            obtain ⟨qa, qc⟩ := S2.nea n1'
            exact ⟨.list (q.2.map .int), (dints (by rw [off_ne qa qc]; exact e35 _ _ c1)).nt, short_ints (by omega) fun x hx => by have := b2 x hx; omega⟩
        · obtain ⟨j, hj⟩ := List.mem_iff_getElem?.mp hx
          obtain ⟨d, hd, Dd⟩ := hd2.get hj
          exact ⟨d, (Dd.ex (Ex.offs (nwc.ex.trans e35))).nt, odds_ok n1 n2 d (List.mem_of_getElem? hd)⟩
      have t5 : Tst TS (nt (off a c' H5)) H5 := ⟨nt_no _, fun b o h => off_of (nt_of h).1, hT.ext e05⟩
      have hWR : nt (off a c' H5) W = some (.lst (bs.vs ++ cs.vs ++ vs1)) := nt_at (by rw [off_ne Wa Wc]; exact hW) fun _ z => by cases z
      have hLR : RsAt (nt (off a c' H5)) L qs := ⟨nt_at (o05 _ _ hL.1) (fun _ z => by cases z), fun q m => nt_at (o05 _ _ (hL.2 q m)) fun _ z => by cases z⟩
      have bkR := (bk.ex o05).nt
      have Ra : nt (off a c' H5) a = none := by
        unfold nt off
        rw [if_pos (.inl rfl)]
      have Rc : nt (off a c' H5) c' = none := by
        unfold nt off
        rw [if_pos (.inr rfl)]
      have eR0 : Ex (nt (off a c' H)) (nt (off a c' H5)) := fun b o h => nt_at (o05 _ _ (nt_of h).1) (nt_of h).2
      have lenx : (bs.vs ++ cs.vs ++ vs1).length ≤ 30 := by
        rw [List.length_append, List.length_append, List.length_map, List.length_map, l1]
        omega
      generalize nt (off a c' H5) = R at hall t5 hWR hLR bkR Ra Rc eR0
      generalize bs.vs ++ cs.vs ++ vs1 = xs at hall hWR lenx ⊢
      clear hcb hcs lcs S3 S4 e03 eW1 hW1 eW hW nW nW1 e35 e05 o05 nwc nD hd2 S2 hO e02 hl2
      refine for_list (K := K) (a := W) (xs := xs) (fun j σ H' => ∃ (k' : Int) (v6 v7 v8 v9 v10 v11 : Option V), σ = [some (.ref a), some (.ref L), some (.ref m), some (.int n), some (.ref l), some (.ref O), v6, v7, v8, v9, v10, v11, none, none] ∧ Strm H' a c' k' ∧ Tst TS R H' ∧ k' ≤ k + 8191 * (j : Nat))
        ⟨k, none, none, none, none, none, none, rfl, S5, t5, by omega⟩ (fun j σ H' _ q => ?_) (fun j x σ H' hx q => ?_) (fun σ H' q => ?_)
      · obtain ⟨k', v6, v7, v8, v9, v10, v11, rfl, S, t, bk⟩ := q
        exact SqL.of (t.r _ _ hWR)
      · obtain ⟨k', v6, v7, v8, v9, v10, v11, rfl, S, t, bk⟩ := q
        have k0 := S.n0
        obtain ⟨d, Dx, sh⟩ := hall x (List.mem_of_getElem? hx)
        have hj : j < xs.length := (List.getElem?_eq_some_iff.mp hx).1
        refine gn1 ?_
        dsimp only
        have dr3 : dr 3 = 8191 := by decide
        refine seq1 (asg1 ⟨_, rfl, _, rfl, a, c', k', x, d, R, rfl, S, ex_off Ra Rc t.r, Dx, sh.1, by rw [dr3]; omega, fun H1 v' d' G1 k1 e1 S1 b1 b2 rg hd1 hl1 => gn1 ?_⟩)
        rw [dr3] at b2
        have t1 : Tst TS (nt (off a c' H1)) H1 := ⟨nt_no _, fun b o h => off_of (nt_of h).1, tabs_drawn S t.t e1⟩
        have eR1 : Ex R (nt (off a c' H1)) := fun b o h => nt_at (rg.i _ _ (rg.e _ _ h)) (t.n b o h)
        have Dv := (hd1.ex rg.i).nt
        generalize nt (off a c' H1) = R1 at t1 eR1 Dv
        dsimp only
        have low : ∀ r ∈ rs, 0 ≤ r.low := fun r hr => by
          rw [hrs] at hr
          obtain ⟨q, hq, rfl⟩ := List.mem_map.mp hr
          exact (good.ok q ((lawSort_perm qs).mem_iff.mp hq)).ok.low0
        have mods : ∀ r ∈ rs, 0 < r.mod := fun r hr => by
          rw [hrs] at hr
          obtain ⟨q, hq, rfl⟩ := List.mem_map.mp hr
          have o := (good.ok q ((lawSort_perm qs).mem_iff.mp hq)).ok
          exact Int.lt_of_le_of_lt o.rest0 o.rest1
        have lrs : rs.length ≤ 10 := by
          rw [hrs, List.length_map, (lawSort_perm qs).length_eq]
          exact hz
        have memr : ∀ r, r ∈ rs ↔ r ∈ qs.map (·.2) := fun r => by
          rw [hrs]
          exact ((lawSort_perm qs).map _).mem_iff
        have iso : IsO rs n d' ↔ KpO rs n d := (loo_iso hl1).trans (iso_kp low n2)
        have shv := sh.loo hl1
        have hp : isHp (.int n) = true := by
          show (decide (1 ≤ n) && decide (n ≤ 1000000000000000000)) = true
          rw [decide_eq_true n1, decide_eq_true n2]
          rfl
        refine seq1 ⟨_, rfl, _, rfl, _, rfl, L, qs, n, x, d, rfl, ⟨t1.r _ _ (eR1 _ _ hLR.1), fun q m => t1.r _ _ (eR1 _ _ (hLR.2 q m))⟩, by omega, good, (Dx.ex eR1).ex t1.r, by have := okL_items sh.1; omega, fun no H2 e2 => ?_, fun os os' M0 H2 hrow tw hw e2 nM0 hM0 pm asc => ?_⟩
        · have nk : ¬ IsO rs n d' := fun z => by
            obtain ⟨h1, os, tw, r, hr, w⟩ := iso.mp z
            rcases no with no | no
            · rw [h1] at no
              cases no
            · exact no ⟨os, tw, r, (memr r).mp hr, w⟩
          have t2 := t1.ex e2
          refine ⟨_, rfl, v', d', rfl, show_ok (Dv.ex t2.r) shv, ⟨_, _, rfl, ?_⟩⟩
          dsimp only
          refine seq1 (asg1 ⟨_, rfl, rfl, _, rfl, ite_tt rfl ⟨_, rfl, by show 2 ≤ sizeLine; decide, fun u nu => gn1 ?_⟩⟩)
          have eu := Ex.new (o := .tup [.str "option", v']) nu
          have hu3 : upd H2 u (.tup [.str "option", v']) u = some (.tup [.str "option", v']) := upd_same
          generalize upd H2 u (.tup [.str "option", v']) = H3 at eu hu3 ⊢
          have e13 := e2.trans eu
          have t3 : Tst TS (nt H3) H3 := ⟨nt_no _, fun b o h => (nt_of h).1, t1.t.ext e13⟩
          have eR3 : Ex R1 (nt H3) := fun b o h => nt_at (e13 _ _ (t1.r _ _ h)) (t1.n b o h)
          have S3 := (S1.ex e13).nt
          have Dv3 := Dv.ex eR3
          have Du3 : D (nt H3) (.ref u) (.tuple [.str "option", d']) := d_pair (nt_at hu3 fun _ z => by cases z) Dv3
          have bk3 := (bkR.ex eR1).ex eR3
          have eR := eR1.trans eR3
          dsimp only
          have ask : ∀ {H4 : Hp} {E : XK} {q : VK}, Ex (nt H3) H4 → (∀ Hc, Ex H4 Hc → Raised Hc "thing" v' Z.o E) → spWaysTo CK Z.b Z.h Z.o [.ref m, .int n, v'] H4 q E := fun {H4 E q} e hr => ⟨_, _, _, d', rfl, Dv3.ex e, .inr ⟨m, rs, .int n, rfl, bk3.ex e, by omega, mods, .int n, fun z => (by rw [hp] at z; cases z), fun n' e' _ => by cases e'; exact ⟨fun _ H' e'' => hr H' e'', fun io => absurd io nk⟩⟩⟩
          refine seq1 (asg1 (lst1 (tcons1 (met_ref (x := v') (C := Z.o) (w := "option") t3 (.inr (.inr (.inl ⟨rfl, rfl⟩))) (fun H4 E q t4 hr => ⟨_, rfl, _, rfl, _, rfl, ask t4.r hr⟩) (fun H4 p1 t4 n1 => ⟨by show 1 ≤ sizeLine; decide, fun F nF => gn1 ?_⟩)))))
          have e34 : Ex (nt H3) (upd (nt H3) p1 (.tup [.str "option", v'])) := Ex.new n1
          have hp1 : H4 p1 = some (.tup [.str "option", v']) := t4.r _ _ upd_same
          have eF := Ex.new (o := .lst [V.ref p1]) nF
          have hF : upd H4 F (.lst [V.ref p1]) F = some (.lst [V.ref p1]) := upd_same
          have F3 : nt H3 F = none := Evl.fresh_back (e34.trans t4.r) nF
          generalize upd H4 F (.lst [V.ref p1]) = H5 at eF hF ⊢
          have t5 : Tst TS (nt H5) H5 := ⟨nt_no _, fun b o h => (nt_of h).1, t4.t.ext eF⟩
          have e35 : Ex (nt H3) (nt H5) := fun b o h => nt_at (eF _ _ (t4.r _ _ (e34 _ _ h))) (nt_of h).2
          have hF5 : nt H5 F = some (.lst [V.ref p1]) := nt_at hF fun _ z => by cases z
          have hp5 : nt H5 p1 = some (.tup [.str "option", v']) := nt_at (eF _ _ hp1) fun _ z => by cases z
          dsimp only
          refine seq1 ⟨_, rfl, .inl ⟨rfl, _, SqL.of hF⟩, tcons1 (met_ref (x := v') (C := Z.o) (w := "option") t5 (.inr (.inr (.inl ⟨rfl, rfl⟩))) (fun H6 E q t6 hr => ⟨_, rfl, _, rfl, _, rfl, rfl, rfl, ask (e35.trans t6.r) hr⟩) (fun H6 p2 t6 n2' => ?_))⟩
          have e56 : Ex (nt H5) (upd (nt H5) p2 (.tup [.str "option", v'])) := Ex.new n2'
          have hF6 := t6.r _ _ (e56 _ _ hF5)
          refine ⟨F, _, _, rfl, rfl, hF6, by show 1 < sizeLine; decide, ?_⟩
          have eD : Ex (nt H3) (del (upd (nt H5) p2 (.tup [.str "option", v'])) F) := fun b o h => by
            have nb : b ≠ F := ne_of_none h F3
            rw [del_ne nb]
            exact e56 _ _ (e35 _ _ h)
          have p1F : p1 ≠ F := fun z => by rw [z, hF5] at hp5; cases hp5
          have p2F : p2 ≠ F := fun z => by rw [z, hF5] at n2'; cases n2'
          have hpD1 : del (upd (nt H5) p2 (.tup [.str "option", v'])) F p1 = some (.tup [.str "option", v']) := by rw [del_ne p1F]; exact e56 _ _ hp5
          have hpD2 : del (upd (nt H5) p2 (.tup [.str "option", v'])) F p2 = some (.tup [.str "option", v']) := by rw [del_ne p2F]; exact upd_same
          have dF : del (upd (nt H5) p2 (.tup [.str "option", v'])) F F = none := if_pos rfl
          have wk : Ex (del (upd (nt H5) p2 (.tup [.str "option", v'])) F) (upd (nt H5) p2 (.tup [.str "option", v'])) := fun b o h => by
            by_cases c : b = F
            · rw [c, dF] at h
              cases h
            · rw [del_ne c] at h
              exact h
          have t7 := (t6.weak wk).mut (ys := [V.ref p1] ++ [V.ref p2]) hF6 dF
          have hF7 : upd H6 F (.lst ([V.ref p1] ++ [V.ref p2])) F = some (.lst [V.ref p1, V.ref p2]) := upd_same
          generalize upd H6 F (.lst ([V.ref p1] ++ [V.ref p2])) = H7 at t7 hF7 ⊢
          generalize del (upd (nt H5) p2 (.tup [.str "option", v'])) F = R7 at t7 eD hpD1 hpD2
          dsimp only
          refine seq1 ⟨_, rfl, _, rfl, _, rfl, by show 2 ≤ sizeLine; decide, fun p np => ?_⟩
          have ep := Ex.new (o := .lst [V.ref u, V.ref u]) np
          have hpp : upd H7 p (.lst [V.ref u, V.ref u]) p = some (.lst [V.ref u, V.ref u]) := upd_same
          generalize upd H7 p (.lst [V.ref u, V.ref u]) = H8 at ep hpp ⊢
          have t8 := t7.ex ep
          have Dv7 := Dv3.ex (eD.trans t7.r)
          have ok3 : okD 3 d' = true := by
            rcases shv with h | rfl
            · exact nice_okD h
            · rfl
          have ok4 : okD 4 (.tuple [.str "option", d']) = true := ok_pair ok3
          refine ⟨_, _, .list [.tuple [.str "option", d'], .tuple [.str "option", d']], rfl, (D.lst hF7 (.cons (d_pair (t7.r _ _ hpD1) Dv7) (.cons (d_pair (t7.r _ _ hpD2) Dv7) .nil))).ex ep, .lst hpp (.cons (Du3.ex (eD.trans t8.r)) (.cons (Du3.ex (eD.trans t8.r)) .nil)), ?_, fun H9 e9 => ⟨_, rfl, ite_ff rfl ?_⟩⟩
          · show (true && (okD 4 _ && (okD 4 _ && true))) = true
            rw [ok4]
            rfl
          have t9 := t8.ex e9
          refine ⟨_, rfl, v', d', rfl, show_ok (Dv3.ex (eD.trans t9.r)) shv, _, rfl, rfl, _, rfl, ite_ff (by simp) (next1 ?_)⟩
          dsimp only
          refine ⟨_, rfl, rfl, _, rfl, ite_ff rfl ⟨Nat.zero_le _, fun z nz => ⟨_, _, rfl, .lst upd_same (Nat.zero_le _) .nil (fun h => by cases h), fun H12 k12 => ?_⟩⟩⟩
          have t12 : Tst TS R7 H12 := ⟨t9.n, fun b o h => k12 b o (fun w => by
              rw [List.mem_singleton.mp w, t9.no nz] at h
              cases h) (Ex.new nz _ _ (t9.r b o h)), tabs_spoil (t9.t.ext (Ex.new nz)) (fun b hb => by rw [List.mem_singleton.mp hb]; exact ⟨_, upd_same⟩) k12⟩
          exact ⟨k1, _, _, _, _, _, _, rfl, S3.ex (eD.trans t12.r), t12.weak (eR.trans eD), by omega⟩
        · obtain ⟨r0, hr0, wy⟩ := hw
          have io : IsO rs n d' := iso.mpr ⟨hrow, os, tw, r0, (memr r0).mpr hr0, wy⟩
          have hit := loo_items hl1 hrow tw.1
          have t2 := t1.ex e2
          refine ⟨_, rfl, v', d', rfl, show_ok (Dv.ex t2.r) shv, ⟨_, _, rfl, ?_⟩⟩
          dsimp only
          refine seq1 (asg1 ⟨_, rfl, rfl, _, rfl, ite_ff (decide_eq_false fun z => by cases z) ⟨_, rfl, _, rfl, _, rfl, L, M0, qs, n, os', rfl, ⟨t2.r _ _ (eR1 _ _ hLR.1), fun q m => t2.r _ _ (eR1 _ _ (hLR.2 q m))⟩, by omega, good, .inl hM0, by rw [pm.length_eq]; exact tw.2.1, fun M1 H3 ts nM1 e3 hM1 hW1 lts hG1 hne1 hts1 => ⟨by show 2 ≤ sizeLine; decide, fun u nu => gn1 ?_⟩⟩⟩)
          have hD1 : D H3 (.ref M1) (waysD rs n os) := by
            rw [← waysD_perm pm]
            refine ways_D hM1 hW1 ?_
            have z : ts.map (·.2.2) = (ts.map (·.2)).map (·.2) := by rw [List.map_map]; rfl
            rw [z, hts1, hrs, List.filter_map]
            rfl
          have eu := Ex.new (o := .tup [.str "told", .ref M1]) nu
          have hu3 : upd H3 u (.tup [.str "told", .ref M1]) u = some (.tup [.str "told", .ref M1]) := upd_same
          generalize upd H3 u (.tup [.str "told", .ref M1]) = H4 at eu hu3 ⊢
          have e14 := (e2.trans e3).trans eu
          have t4 : Tst TS (nt H4) H4 := ⟨nt_no _, fun b o h => (nt_of h).1, t1.t.ext e14⟩
          have eR4 : Ex R1 (nt H4) := fun b o h => nt_at (e14 _ _ (t1.r _ _ h)) (t1.n b o h)
          have S4 := (S1.ex e14).nt
          have Dv4 := Dv.ex eR4
          have Du4 : D (nt H4) (.ref u) (.tuple [.str "told", waysD rs n os]) := d_pair (nt_at hu3 fun _ z => by cases z) (hD1.ex eu).nt
          have bk4 := (bkR.ex eR1).ex eR4
          have eR := eR1.trans eR4
          clear hD1 hts1 hne1 hG1 hW1 hM1 nM1 nu eu hu3 e3 e14 lts
          dsimp only
          have few : ∀ {ts : List (Addr × (Addr × Rl))}, ts.map (·.2.2) = rs.filter (fun r => wayB r n os) → ts.length ≤ 1000 := fun {ts} e => by
            have z := congrArg List.length e
            rw [List.length_map] at z
            have := List.length_filter_le (fun r => wayB r n os) rs
            omega
          have ask : ∀ {H5 : Hp} {E : XK} {q : VK}, Ex (nt H4) H5 → (∀ (M2 : Addr) H6 (ts : List (Addr × (Addr × Rl))), H5 M2 = none → Ex H5 H6 → H6 M2 = some (.lst (ts.map fun u => V.ref u.1)) → WaysAt H6 (n - os.sum) ts → ts.map (·.2.2) = rs.filter (fun r => wayB r n os) → q (.ref M2) H6) → spWaysTo CK Z.b Z.h Z.o [.ref m, .int n, v'] H5 q E := fun {H5 E q} e kk => ⟨_, _, _, d', rfl, Dv4.ex e, .inr ⟨m, rs, .int n, rfl, bk4.ex e, by omega, mods, .int n, fun z => (by rw [hp] at z; cases z), fun n' e' _ => by
            cases e'
            refine ⟨fun no => absurd io no, fun _ os2 M2 H6 ts h1 _ nM2 e6 hM2 hW2 hts2 => ?_⟩
            obtain rfl := ints_inj (h1.symm.trans hit)
            exact kk M2 H6 ts nM2 e6 hM2 hW2 hts2⟩⟩
          refine seq1 (asg1 (lst1 (tcons1 (met_told t4 fun H5 E q t5 kk1 => ⟨_, rfl, _, rfl, _, rfl, ask t5.r fun M2 H6 ts2 nM2 e6 hM2 hW2 hts2 => kk1 _ _ fun p1 np1 => ⟨by show 1 ≤ sizeLine; decide, fun F nF => gn1 ?_⟩⟩))))
          have ep1 := Ex.new (o := .tup [.str "told", .ref M2]) np1
          have hp1 : upd H6 p1 (.tup [.str "told", .ref M2]) p1 = some (.tup [.str "told", .ref M2]) := upd_same
          generalize upd H6 p1 (.tup [.str "told", .ref M2]) = H7 at ep1 hp1 nF ⊢
          clear kk1
          have e47 : Ex (nt H4) H7 := t5.r.trans (e6.trans ep1)
          have T7 := t5.t.ext (e6.trans ep1)
          have D7 : D (nt H7) (.ref p1) (.tuple [.str "told", waysD rs n os]) := (d_pair hp1 (ways_D (ep1 _ _ hM2) (hW2.ex ep1) hts2)).nt
          have hM7 : nt H7 M2 = _ := nt_at (ep1 _ _ hM2) fun _ z => by cases z
          have hW7 := (hW2.ex ep1).nt
          have M24 : nt H4 M2 = none := Evl.fresh_back t5.r nM2
          have p17 : nt H7 p1 = _ := nt_at hp1 fun _ z => by cases z
          clear nM2 e6 hM2 hW2 np1 ep1 hp1
          have F7 : nt H7 F = none := by
            unfold nt
            rw [nF]
          have eF := Ex.new (o := .lst [V.ref p1]) nF
          have hF : upd H7 F (.lst [V.ref p1]) F = some (.lst [V.ref p1]) := upd_same
          generalize upd H7 F (.lst [V.ref p1]) = H8 at eF hF ⊢
          have t8 : Tst TS (nt H8) H8 := ⟨nt_no _, fun b o h => (nt_of h).1, T7.ext eF⟩
          have e78 : Ex (nt H7) (nt H8) := fun b o h => nt_at (eF _ _ (nt_of h).1) (nt_of h).2
          have e48 : Ex (nt H4) (nt H8) := fun b o h => nt_at (eF _ _ (e47 _ _ h)) (nt_of h).2
          have hF8 : nt H8 F = some (.lst [V.ref p1]) := nt_at hF fun _ z => by cases z
          dsimp only
          refine seq1 ⟨_, rfl, .inl ⟨rfl, _, SqL.of hF⟩, tcons1 (met_told t8 fun H9 E q t9 kk2 => ⟨_, rfl, _, rfl, _, rfl, rfl, rfl, ask (e48.trans t9.r) fun M3 H10 ts3 nM3 e10 hM3 hW3 hts3 => kk2 _ _ fun p2 np2 => ?_⟩)⟩
          clear kk2
          have ep2 := Ex.new (o := .tup [.str "told", .ref M3]) np2
          have hp2 : upd H10 p2 (.tup [.str "told", .ref M3]) p2 = some (.tup [.str "told", .ref M3]) := upd_same
          generalize upd H10 p2 (.tup [.str "told", .ref M3]) = H11 at ep2 hp2 ⊢
          have hF9 := t9.r _ _ hF8
          have hF11 := ep2 _ _ (e10 _ _ hF9)
          have t11 : Tst TS (nt H11) H11 := ⟨nt_no _, fun b o h => (nt_of h).1, t9.t.ext (e10.trans ep2)⟩
          have e811 : Ex (nt H8) (nt H11) := fun b o h => nt_at (ep2 _ _ (e10 _ _ (t9.r _ _ h))) (nt_of h).2
          have e7R : Ex (nt H7) (del (nt H11) F) := fun b o h => by
            rw [del_ne (ne_of_none h F7)]
            exact e811 _ _ (e78 _ _ h)
          have e4R : Ex (nt H4) (del (nt H11) F) := fun b o h => e7R b o (nt_at (e47 _ _ h) (nt_of h).2)
          have M3F : M3 ≠ F := fun z => by rw [z, hF9] at nM3; cases nM3
          have M34 : nt H4 M3 = none := Evl.fresh_back (e48.trans t9.r) nM3
          have M23 : M2 ≠ M3 := fun z => by rw [← z, t9.r _ _ (e78 _ _ hM7)] at nM3; cases nM3
          have hF11n : nt H11 F = some (.lst [V.ref p1]) := nt_at hF11 fun _ z => by cases z
          have hM3R : del (nt H11) F M3 = _ := (del_ne M3F).trans (nt_at (ep2 _ _ hM3) fun _ z => by cases z)
          have hW3R := (hW3.ex ep2).nt.del hF11n
          have p2F : p2 ≠ F := fun z => by rw [z, hF11] at hp2; cases hp2
          have hp2R : del (nt H11) F p2 = some (.tup [.str "told", .ref M3]) := (del_ne p2F).trans (nt_at hp2 fun _ z => by cases z)
          have dF : del (nt H11) F F = none := if_pos rfl
          have wk : Ex (del (nt H11) F) (nt H11) := fun b o h => by
            by_cases c : b = F
            · rw [c, dF] at h
              cases h
            · rw [del_ne c] at h
              exact h
          refine ⟨F, _, _, rfl, rfl, hF11, by show 1 < sizeLine; decide, ?_⟩
          have t12 := (t11.weak wk).mut (ys := [V.ref p1] ++ [V.ref p2]) hF11 dF
          have hF12 : upd H11 F (.lst ([V.ref p1] ++ [V.ref p2])) F = some (.lst [V.ref p1, V.ref p2]) := upd_same
          generalize upd H11 F (.lst ([V.ref p1] ++ [V.ref p2])) = H12 at t12 hF12 ⊢
          have hM2R := e7R _ _ hM7
          have hW2R := hW7.ex e7R
          have hp1R := e7R _ _ p17
          have D1R := D7.ex e7R
          have D2R : D (del (nt H11) F) (.ref p2) (.tuple [.str "told", waysD rs n os]) := d_pair hp2R (ways_D hM3R hW3R hts3)
          generalize del (nt H11) F = R9 at t12 e4R hM2R hW2R hM3R hW3R hp1R hp2R D1R D2R dF
          clear wk hF11n e811 e7R t11 hF11 hF9 hp2 ep2 np2 hW3 hM3 e10 nM3 t9 e48 e78 t8 hF8 hF eF F7 p17 hW7 hM7 D7 T7 e47
          dsimp only
          refine seq1 ⟨_, rfl, _, rfl, _, rfl, by show 2 ≤ sizeLine; decide, fun p np => ?_⟩
          have ep := Ex.new (o := .lst [V.ref u, V.ref u]) np
          have hpp : upd H12 p (.lst [V.ref u, V.ref u]) p = some (.lst [V.ref u, V.ref u]) := upd_same
          have hF13 := ep _ _ hF12
          generalize upd H12 p (.lst [V.ref u, V.ref u]) = H13 at ep hpp hF13 ⊢
          have t13 := t12.ex ep
          have ok4 : okD 4 (.tuple [.str "told", waysD rs n os]) = true := ok_pair (waysD_ok (by omega))
          refine ⟨_, _, .list [.tuple [.str "told", waysD rs n os], .tuple [.str "told", waysD rs n os]], rfl, (D.lst hF12 (.cons (D1R.ex t12.r) (.cons (D2R.ex t12.r) .nil))).ex ep, .lst hpp (.cons (Du4.ex (e4R.trans t13.r)) (.cons (Du4.ex (e4R.trans t13.r)) .nil)), ?_, fun H14 e14 => ⟨_, rfl, ite_ff rfl ?_⟩⟩
          · show (true && (okD 4 _ && (okD 4 _ && true))) = true
            rw [ok4]
            rfl
          have t14 := t13.ex e14
          have hF14 := e14 _ _ hF13
          refine ⟨_, rfl, v', d', rfl, show_ok (Dv4.ex (e4R.trans t14.r)) shv, _, rfl, rfl, _, rfl, ite_ff (by simp) (next1 ?_)⟩
          dsimp only
          refine ⟨_, rfl, rfl, _, rfl, ite_tt (by rw [decide_eq_false (fun z => by cases z)]; rfl) ⟨_, rfl, F, rfl, ⟨_, SqL.of hF14⟩, ?_⟩⟩
          refine lc_pureD (g := gName 13) (walk_list (xs := [V.ref p1, V.ref p2])) (out := fun j => ([V.ref M2, V.ref M3]).getD j .non) (by show 2 ≤ sizeLine; decide) (fun H' e => SqL.of (e _ _ hF14)) (fun j y H15 H16 hj e15 yy => ?_) (fun _ _ _ _ h => h _ _) (fun Zl H15 nZ e15 hZ => ?_)
          · obtain ⟨rfl, hy⟩ := yy
            have eR15 := t14.r.trans e15
            have hj : j < 2 := hj
            have : j = 0 ∨ j = 1 := by omega
            rcases this with rfl | rfl
            · cases hy
              exact ⟨Ex.refl _, rfl, Ex.refl _, fun q kq => ⟨_, rfl, ix_row (.inr (eR15 _ _ hp1R)) (atI_nat (j := 1) rfl) (kq _ (Ex.refl _))⟩⟩
            · cases hy
              exact ⟨Ex.refl _, rfl, Ex.refl _, fun q kq => ⟨_, rfl, ix_row (.inr (eR15 _ _ hp2R)) (atI_nat (j := 1) rfl) (kq _ (Ex.refl _))⟩⟩
          · have hZ : H15 Zl = some (.lst [V.ref M2, V.ref M3]) := hZ
            have t15 := t14.ex e15
            have Z9 : R9 Zl = none := t14.no nZ
            have Z2 : Zl ≠ M2 := fun z => by rw [z, hM2R] at Z9; cases Z9
            have Z3 : Zl ≠ M3 := fun z => by rw [z, hM3R] at Z9; cases Z9
            have spl : Spl H15 4 (.ref Zl) (Zl :: ([M2] ++ ([M3] ++ []))) := .lst hZ (by show 2 ≤ 600000; decide) (.cons (ways_spl (t15.r _ _ hM2R) (hW2R.ex t15.r) (few hts2)) (.cons (ways_spl (t15.r _ _ hM3R) (hW3R.ex t15.r) (few hts3)) .nil fun _ _ h => by cases h) fun b h1 h2 => by
              rw [List.mem_singleton.mp h1] at h2
              simp at h2
              exact M23 h2) fun h => by
              simp at h
              exact h.elim Z2 Z3
            refine ⟨_, _, rfl, spl, fun H17 k17 => ?_⟩
            have t17 : Tst TS (nt H4) H17 := ⟨nt_no _, fun b o h => k17 b o (fun w => by
              simp at w
              rcases w with w | w | w
              · rw [w, Evl.fresh_back e4R Z9] at h
                cases h
              · rw [w, M24] at h
                cases h
              · rw [w, M34] at h
                cases h) (t15.r _ _ (e4R _ _ h)), tabs_spoil t15.t (fun b hb => spl.lists b hb) k17⟩
            exact ⟨k1, _, _, _, _, _, _, rfl, S4.ex t17.r, t17.weak eR, by omega⟩
      · obtain ⟨k', v6, v7, v8, v9, v10, v11, rfl, S, t, bk⟩ := q
        exact kq H' k' (eR0.trans t.r) S (by omega) t.t
end
end Ts


set_option Elab.async false
set_option linter.all false
set_option maxRecDepth 100000
set_option maxHeartbeats 2000000
namespace Ts
open PySem PySem.Spec L2 LamX
open Evl (Ex)
theorem tup1 {ta : TA} {σ : L2.St} {H : Hp} {Q : VK} (h : ta σ H fun xs H1 => xs.length ≤ sizeLine ∧ ∀ p, H1 p = none → Q (.ref p) (upd H1 p (.tup xs))) : tTup ta σ H Q := h
/-- what is found so far: refusals, all alike -/
structure Fod (T : List (Addr × Str)) (R H : Hp) (fl : Addr) (w : Str) (x : V) (k : Nat) : Prop where
  h : ∃ (Rc : Hp) (ps : List Addr), Ex R Rc ∧ Tst T Rc H ∧ Rc fl = none ∧ ps.length = k ∧ H fl = some (.lst (ps.map V.ref)) ∧ ∀ p ∈ ps, Rc p = some (.tup [.str w, x])
theorem fod_start {T : List (Addr × Str)} {R H : Hp} {p fl : Addr} {w : Str} {x : V} (t : Tst T (upd R p (.tup [.str w, x])) H) (n : R p = none) (nfl : H fl = none) : Fod T R (upd H fl (.lst [.ref p])) fl w x 1 :=
  ⟨_, [p], Ex.new n, t.ex (Ex.new nfl), t.no nfl, rfl, upd_same, fun q hq => by
    rw [List.mem_singleton] at hq
    rw [hq, upd_same]⟩
theorem fod_add {T : List (Addr × Str)} {R H : Hp} {fl : Addr} {w : Str} {x : V} {k : Nat} (f : Fod T R H fl w x k) : ∃ (Rb : Hp) (ps : List Addr), Tst T Rb H ∧ Ex R Rb ∧ H fl = some (.lst (ps.map V.ref)) ∧
    ∀ H5 p2, Tst T (upd Rb p2 (.tup [.str w, x])) H5 → Rb p2 = none → H5 fl = some (.lst (ps.map V.ref)) ∧ ps.length = k ∧ Fod T R (upd H5 fl (.lst (ps.map V.ref ++ [V.ref p2]))) fl w x (k + 1) := by
  obtain ⟨Rc, ps, e, t, nfl, hl, hf, hp⟩ := f.h
  have eb : Ex Rc (upd Rc fl (.lst (ps.map V.ref))) := Ex.new nfl
  have qb : upd Rc fl (.lst (ps.map V.ref)) fl = some (.lst (ps.map V.ref)) := upd_same
  refine ⟨upd Rc fl (.lst (ps.map V.ref)), ps, t.add hf (fun _ z => by cases z) nfl, e.trans eb, hf, fun H5 p2 t5 n2 => ?_⟩
  have n2fl : fl ≠ p2 := fun z => by
    rw [← z, qb] at n2
    cases n2
  have Rc2 : Rc p2 = none := Evl.fresh_back eb n2
  have f5 : H5 fl = some (.lst (ps.map V.ref)) := t5.r _ _ ((upd_ne n2fl).trans qb)
  refine ⟨f5, hl, upd Rc p2 (.tup [.str w, x]), ps ++ [p2], e.trans (Ex.new Rc2), ?_, (upd_ne n2fl).trans nfl, by rw [List.length_append, hl]; rfl, ?_, fun q hq => ?_⟩
  · refine (t5.weak fun b o h => ?_).mut f5 ((upd_ne n2fl).trans nfl)
    by_cases hb : b = p2
    · rw [hb, upd_same] at h ⊢
      exact h
    · rw [upd_ne hb] at h ⊢
      exact eb _ _ h
  · rw [upd_same, List.map_append]
    rfl
  · rcases List.mem_append.mp hq with h | h
    · have z := hp q h
      have nq : q ≠ p2 := fun y => by
        rw [y, Rc2] at z
        cases z
      rw [upd_ne nq]
      exact z
    · rw [List.mem_singleton] at h
      rw [h, upd_same]
theorem Fod.ex {T : List (Addr × Str)} {R H H' : Hp} {fl : Addr} {w : Str} {x : V} {k : Nat} (f : Fod T R H fl w x k) (e : Ex H H') : Fod T R H' fl w x k := by
  obtain ⟨Rc, ps, e1, t, nfl, hl, hf, hp⟩ := f.h
  exact ⟨Rc, ps, e1, t.ex e, nfl, hl, e _ _ hf, hp⟩
theorem Fod.tst {T : List (Addr × Str)} {R H : Hp} {fl : Addr} {w : Str} {x : V} {k : Nat} (f : Fod T R H fl w x k) : Tst T R H := by
  obtain ⟨Rc, ps, e1, t, nfl, hl, hf, hp⟩ := f.h
  exact t.weak e1

theorem rep_D {H : Hp} {q : Addr} {d : PyData} (h : D H (.ref q) d) : ∀ k : Nat, DAll H ((List.replicate k q).map V.ref) (List.replicate k d)
  | 0 => .nil
  | k + 1 => .cons h (rep_D h k)
theorem Fod.D {T : List (Addr × Str)} {R H : Hp} {fl : Addr} {w : Str} {x : V} {k : Nat} {d : PyData} (f : Fod T R H fl w x k) (h : Ts.D R x d) : Ts.D H (.ref fl) (.list (List.replicate k (.tuple [.str w, d]))) := by
  obtain ⟨Rc, ps, e, t, nfl, lk, hf, hp⟩ := f.h
  refine .lst hf ?_
  rw [← lk]
  have hx := (h.ex e).ex t.r
  clear hf lk
  induction ps with
  | nil => exact .nil
  | cons p ps ih => exact .cons (d_pair (t.r _ _ (hp p (.head _))) hx) (ih fun q hq => hp q (List.mem_cons_of_mem _ hq))
theorem okD_rep {w : Str} {d : PyData} (h : okD 3 d = true) {k : Nat} (hk : k ≤ 90000) : okD 5 (.list (List.replicate k (.tuple [.str w, d]))) = true := by
  show (decide ((List.replicate k _).length ≤ 90000) && (List.replicate k _).all (okD 4)) = true
  rw [decide_eq_true (by rw [List.length_replicate]; exact hk), Bool.true_and, List.all_eq_true]
  intro e he
  rw [List.eq_of_mem_replicate he]
  exact ok_pair h
def oddB : List PyData := [.none, .int 5, .str "book", .list [], .dict []]
def oddH : List PyData := [.none, .int 0, .int (-3), .bool true, .str "3", .list [.int 3], .int (10 ^ (18 : Int).toNat + 1)]
def oddO : List PyData := [.none, .int 5, .str "1", .list [.int 0], .list [.int 2, .int 1], .list [.int 1, .int 1, .int 1], .list [.bool true], .list [.none], .dict [], .list [.list [.int 1]], .list [.int (-1)], .list [.int 1, .str "2"]]
def oddN : List PyData := [.none, .int (-1), .bool true, .str "3", .list [.int 3], .dict []]
theorem odd_all {p : PyData → Bool} {l : List PyData} (h : l.all (fun d => !p d && okD 3 d) = true) : ∀ d ∈ l, p d = false ∧ okD 3 d = true := fun d hd => by
  have := List.all_eq_true.mp h d hd
  simpa using this
section
variable {P : Program} {w : World} {K : PySem.W.Frag} {mg : Str → Option Value} {base : Heap}
abbrev s_refused := top 67
theorem sc_refused : FnScope ["made", "odd", "found"] ["made"] (defScope s_refused) := ⟨rfl, rfl, rfl, by decide +kernel, rfl, by decide +kernel, by decide +kernel⟩
def lamR : Str := (PyProof.Rows.envOfC "_law_refused_right" (defScope s_refused) 0 0 .none).qual ++ "<lambda>"
def spRefused (CK : Addr) (TS : List (Addr × Str)) : Sp := fun vs H Q _ => ∃ (b : Addr) (rs : List Rl), vs = [.ref b] ∧ BookAt CK H b rs ∧ rs.length ≤ 1000 ∧ (∀ r ∈ rs, 0 < r.mod) ∧ (∀ r ∈ rs, 0 ≤ r.low) ∧ Tabs TS H ∧ ∀ H', Q (.bl true) H'
theorem ok_refused {TS : List (Addr × Str)} {tab f c f0 f1 f2 f3 f4 CK : Addr} {Z gZ : Cs} {fd0 fd1 fd2 fd3 fd4 : FuncData} {oc kV doc pm ct : Value} {od an : Option Addr} {osl : Array (Option Value)}
    (lk : K.lookup f = some ⟨oc, od, .func (PySem.W.fnOf "_law_refused_right" "_law_refused_right" (defArgs s_refused) (defBody s_refused) (defScope s_refused) .none kV doc pm an (.ref c) ct), osl⟩) (hcd : PySem.W.codeIn K (.ref c) "_law_refused_right" = true)
    (M : Errs K mg Z gZ) (TB : TabB base mg c tab) (hmT : (tab, lamR) ∈ TS) (hu : ∀ p ∈ TS, p.1 = tab → p.2 = lamR)
    (F_met : FD K mg "_law_met" "_law_met" s_met f0 fd0)
    (F_wt : FD K mg "ways_to" "ways_to" s_ways_to f1 fd1) (G_wt : FnOk P w K mg base (L2.CX P w) 9 f1 fd1 ["book", "heap", "option"] (spWaysTo CK Z.b Z.h Z.o))
    (F_from : FD K mg "heaps_from" "heaps_from" s_from f2 fd2) (G_from : FnOk P w K mg base (L2.CX P w) 6 f2 fd2 ["book", "option", "most"] (spFrom CK Z.b Z.o Z.n))
    (F_ends : FD K mg "ends" "ends" s_ends f3 fd3) (G_ends : FnOk P w K mg base (L2.CX P w) 6 f3 fd3 ["book", "most"] (spEnds CK Z.b Z.n))
    (F_same : FD K mg "_law_same" "_law_same" s_same f4 fd4) (T : Bl mg) :
    FnOk P w K mg base CX0 12 f (PySem.W.fnOf "_law_refused_right" "_law_refused_right" (defArgs s_refused) (defBody s_refused) (defScope s_refused) .none kV doc pm an (.ref c) ct) ["made"] (spRefused CK TS) := by
  have G_same : FnOk P w K mg base CX0 6 f4 fd4 ["found", "due"] (spSame 6) := ok_same F_same T 6
  have b_wt : Binds K fd1 ["book", "heap", "option"] [] := F_wt.F.binds fun _ _ _ _ _ _ us hl => match us, hl with | [_, _, _], _ => rfl
  have b_from : Binds K fd2 ["book", "option", "most"] [] := F_from.F.binds fun _ _ _ _ _ _ us hl => match us, hl with | [_, _, _], _ => rfl
  have b_ends : Binds K fd3 ["book", "most"] [] := F_ends.F.binds fun _ _ _ _ _ _ us hl => match us, hl with | [_, _], _ => rfl
  have b_same : Binds K fd4 ["found", "due"] [] := F_same.F.binds fun _ _ _ _ _ _ us hl => match us, hl with | [_, _], _ => rfl
  refine okC lk hcd sc_refused (fun vs H Q E h => ?_) (fun A outer s H vs Q E hr h => ?_)
  · obtain ⟨b, rs, rfl, _⟩ := h
    rfl
  · obtain ⟨b, rs, rfl, hb, lr, hm, lo, hT, kq⟩ := h
    have nd := sc_refused.nd
    have hr11 : Room (9 + 2) _ := hr
    refine' ⟨_, ?rule, ?rest⟩
    case rule =>
      refine' pss_cons (ps_for PassesOwn.never rfl (pi_tup ?t1) (pg_name (i := 1) nd rfl (Or.inr rfl)) (pss_cons ?a1 (pss_cons ?a2 (pss_cons ?a3 (pss_one ?a4))))) (pss_cons (ps_for PassesOwn.never rfl (pi_tup ?t2) (pg_name (i := 1) nd rfl (Or.inr rfl)) (pss_one ?b1)) (pss_cons (ps_for PassesOwn.never rfl (pi_tup ?t3) (pg_name (i := 1) nd rfl (Or.inr rfl)) (pss_one ?c1)) (pss_cons (ps_for PassesOwn.never rfl (pi_tup ?t4) (pg_name (i := 1) nd rfl (Or.inr rfl)) (pss_cons ?d1 (pss_cons ?d2 (pss_one ?d3)))) (pss_one (ps_ret pe_bl)))))
      case t1 =>
        exact (pe_tup (pa_cons pe_non (pa_cons pe_int (pa_cons pe_str (pa_cons (pe_lst pa_nil) (pa_cons pe_dnewK pa_nil))))))
      case a1 =>
        exact (ps_set (i := 2) nd rfl (Or.inl rfl) (pe_lst (pa_cons (pe_met M F_met (by rfl) TB rfl hmT hu hr11 (lamS_by (by show lamSB (defScope s_refused) _ = true; decide +kernel)) rfl (fun _ _ _ _ _ => rfl) (fun A outer s H E f c' hr2 => pe_call G_wt hr2 (by rfl) F_wt.g F_wt.F.kp b_wt .nil (passes_call (takes_of rfl rfl rfl rfl) (fun _ _ _ _ h => h)) (pa_cons (pv 1) (pa_cons pe_non (pa_cons pe_non pa_nil))))) pa_nil)))
      case a2 =>
        exact (ps_expr (pe_bm PySem.F.plainAttrs_list PySem.F.slot_list_append PySem.F.type_list_append mt_append (pv 2) (pa_cons (pe_met M F_met (by rfl) TB rfl hmT hu hr11 (lamS_by (by show lamSB (defScope s_refused) _ = true; decide +kernel)) rfl (fun _ _ _ _ _ => rfl) (fun A outer s H E f c' hr2 => pe_call G_from (hr2.mono (by decide)) (by rfl) F_from.g F_from.F.kp b_from .nil (passes_call (takes_of rfl rfl rfl rfl) (fun _ _ _ _ h => h)) (pa_cons (pv 1) (pa_cons pe_non (pa_cons pe_non pa_nil))))) pa_nil)))
      case a3 =>
        exact (ps_expr (pe_bm PySem.F.plainAttrs_list PySem.F.slot_list_append PySem.F.type_list_append mt_append (pv 2) (pa_cons (pe_met M F_met (by rfl) TB rfl hmT hu hr11 (lamS_by (by show lamSB (defScope s_refused) _ = true; decide +kernel)) rfl (fun _ _ _ _ _ => rfl) (fun A outer s H E f c' hr2 => pe_call G_ends (hr2.mono (by decide)) (by rfl) F_ends.g F_ends.F.kp b_ends .nil (passes_call (takes_of rfl rfl rfl rfl) (fun _ _ _ _ h => h)) (pa_cons (pv 1) (pa_cons pe_non pa_nil)))) pa_nil)))
      case a4 =>
        exact (ps_if (pt_not (pt_val (pe_call G_same (hr.mono (by decide)) (by rfl) F_same.g F_same.F.kp b_same .nil pass0 (pa_cons (pv 2) (pa_cons (pe_op op_rep (pe_lst (pa_cons (pe_tup (pa_cons pe_str (pa_cons (pv 1) pa_nil))) pa_nil)) pe_int) pa_nil))))) (pss_one (ps_ret pe_bl)) pss_nil)
      case t2 =>
        exact (pe_tup (pa_cons pe_non (pa_cons pe_int (pa_cons (pe_un un_neg pe_int) (pa_cons pe_bl (pa_cons pe_str (pa_cons (pe_lst (pa_cons pe_int pa_nil)) (pa_cons (pe_op op_add (pe_op op_pow pe_int pe_int) pe_int) pa_nil))))))))
      case b1 =>
        exact (ps_if (pt_not (pt_val (pe_call G_same (hr.mono (by decide)) (by rfl) F_same.g F_same.F.kp b_same .nil pass0 (pa_cons (pe_met M F_met (by rfl) TB rfl hmT hu hr11 (lamS_by (by show lamSB (defScope s_refused) _ = true; decide +kernel)) rfl (fun _ _ _ _ _ => rfl) (fun A outer s H E f c' hr2 => pe_call G_wt hr2 (by rfl) F_wt.g F_wt.F.kp b_wt .nil (passes_call (takes_of rfl rfl rfl rfl) (fun _ _ _ _ h => h)) (pa_cons (pv 0) (pa_cons (pv 1) (pa_cons pe_non pa_nil))))) (pa_cons (pe_tup (pa_cons pe_str (pa_cons (pv 1) pa_nil))) pa_nil))))) (pss_one (ps_ret pe_bl)) pss_nil)
      case t3 =>
        exact (pe_tup (pa_cons pe_non (pa_cons pe_int (pa_cons pe_str (pa_cons (pe_lst (pa_cons pe_int pa_nil)) (pa_cons (pe_lst (pa_cons pe_int (pa_cons pe_int pa_nil))) (pa_cons (pe_lst (pa_cons pe_int (pa_cons pe_int (pa_cons pe_int pa_nil)))) (pa_cons (pe_lst (pa_cons pe_bl pa_nil)) (pa_cons (pe_lst (pa_cons pe_non pa_nil)) (pa_cons pe_dnewK (pa_cons (pe_lst (pa_cons (pe_lst (pa_cons pe_int pa_nil)) pa_nil)) (pa_cons (pe_lst (pa_cons (pe_un un_neg pe_int) pa_nil)) (pa_cons (pe_lst (pa_cons pe_int (pa_cons pe_str pa_nil))) pa_nil)))))))))))))
      case c1 =>
        exact (ps_if (pt_not (pt_val (pe_call G_same (hr.mono (by decide)) (by rfl) F_same.g F_same.F.kp b_same .nil pass0 (pa_cons (pe_met M F_met (by rfl) TB rfl hmT hu hr11 (lamS_by (by show lamSB (defScope s_refused) _ = true; decide +kernel)) rfl (fun _ _ _ _ _ => rfl) (fun A outer s H E f c' hr2 => pe_call G_from (hr2.mono (by decide)) (by rfl) F_from.g F_from.F.kp b_from .nil (passes_call (takes_of rfl rfl rfl rfl) (fun _ _ _ _ h => h)) (pa_cons (pv 0) (pa_cons (pv 1) (pa_cons pe_non pa_nil))))) (pa_cons (pe_tup (pa_cons pe_str (pa_cons (pv 1) pa_nil))) pa_nil))))) (pss_one (ps_ret pe_bl)) pss_nil)
      case t4 =>
        exact (pe_tup (pa_cons pe_non (pa_cons (pe_un un_neg pe_int) (pa_cons pe_bl (pa_cons pe_str (pa_cons (pe_lst (pa_cons pe_int pa_nil)) (pa_cons pe_dnewK pa_nil)))))))
      case d1 =>
        exact (ps_set (i := 2) nd rfl (Or.inl rfl) (pe_lst (pa_cons (pe_met M F_met (by rfl) TB rfl hmT hu hr11 (lamS_by (by show lamSB (defScope s_refused) _ = true; decide +kernel)) rfl (fun _ _ _ _ _ => rfl) (fun A outer s H E f c' hr2 => pe_call G_from (hr2.mono (by decide)) (by rfl) F_from.g F_from.F.kp b_from .nil (passes_call (takes_of rfl rfl rfl rfl) (fun _ _ _ _ h => h)) (pa_cons (pv 0) (pa_cons (pe_lst (pa_cons pe_int pa_nil)) (pa_cons (pv 1) pa_nil))))) pa_nil)))
      case d2 =>
        exact (ps_expr (pe_bm PySem.F.plainAttrs_list PySem.F.slot_list_append PySem.F.type_list_append mt_append (pv 2) (pa_cons (pe_met M F_met (by rfl) TB rfl hmT hu hr11 (lamS_by (by show lamSB (defScope s_refused) _ = true; decide +kernel)) rfl (fun _ _ _ _ _ => rfl) (fun A outer s H E f c' hr2 => pe_call G_ends (hr2.mono (by decide)) (by rfl) F_ends.g F_ends.F.kp b_ends .nil (passes_call (takes_of rfl rfl rfl rfl) (fun _ _ _ _ h => h)) (pa_cons (pv 0) (pa_cons (pv 1) pa_nil)))) pa_nil)))
      case d3 =>
        exact (ps_if (pt_not (pt_val (pe_call G_same (hr.mono (by decide)) (by rfl) F_same.g F_same.F.kp b_same .nil pass0 (pa_cons (pv 2) (pa_cons (pe_op op_rep (pe_lst (pa_cons (pe_tup (pa_cons pe_str (pa_cons (pv 1) pa_nil))) pa_nil)) pe_int) pa_nil))))) (pss_one (ps_ret pe_bl)) pss_nil)
    case rest =>
      have T0 := hT
      have b0 := hb
      clear hT hb
      refine seq1 ?_
      unfold tFor iTup
      refine tup1 (GvA.use (ds := oddB) (R := fun _ => none) (G := fun _ => none) (.cons .non (.cons .int (.cons .str (.cons (.lst .nil) (.cons .dic .nil))))) (Ex.refl _) (fun _ _ z => (by cases z)) fun xs G1 H1 r1 hd1 => ⟨by rw [hd1.len2]; show 5 ≤ sizeLine; decide, fun p np => ⟨p, rfl, ⟨_, SqT.of upd_same⟩, ?_⟩⟩)
      have ep := Ex.new (o := .tup xs) np
      have hp : upd H1 p (.tup xs) p = some (.tup xs) := upd_same
      have hds := (hd1.ex r1.i).ex ep
      have eAll := r1.h.trans ep
      generalize upd H1 p (.tup xs) = Hd at hp hds eAll ⊢
      have t1 : Tst TS (nt Hd) Hd := ⟨nt_no Hd, fun b o h => (nt_of h).1, T0.ext eAll⟩
      have hp := nt_at hp fun _ z => by cases z
      have hds := hds.nt
      have bk := (b0.ex eAll).nt
      clear T0 b0 ep np hd1 r1 eAll
      generalize nt Hd = R at t1 hp hds bk
      refine for_tup (K := K) (a := p) (xs := xs) (fun i σ H' => ∃ ov fv, σ = [some (.ref b), ov, fv] ∧ Tst TS R H') ⟨_, _, rfl, t1⟩ (fun i σ H' _ q => ?_) (fun i x σ H' hx q => ?_) (fun σ H' q => ?_)
      · obtain ⟨ov, fv, rfl, t⟩ := q
        exact SqT.of (t.r _ _ hp)
      · obtain ⟨ov, fv, rfl, t⟩ := q
        obtain ⟨dx, hdx, Dx⟩ := hds.get hx
        have ok3 : okD 3 dx = true := List.all_eq_true.mp (show oddB.all (okD 3) = true by decide +kernel) dx (List.mem_of_getElem? hdx)
        refine gn1 ?_
        dsimp only
        have bkd : ∀ {H2 : Hp} {E : XK}, Ex R H2 → (∀ Hc, Ex H2 Hc → Raised Hc "thing" x Z.b E) → (∃ d, D H2 x d) ∧ ∀ Hc, Ex H2 Hc → Raised Hc "thing" x Z.b E := fun e hr => ⟨⟨dx, Dx.ex e⟩, hr⟩
        refine seq1 (asg1 (lst1 (tcons1 (met_ref (x := x) (C := Z.b) (w := "book") t (.inl ⟨rfl, rfl⟩) (fun H2 E q t2 hr => ⟨_, rfl, x, .non, .non, .none, rfl, .non, .inl ⟨.inl ⟨dx, Dx.ex t2.r⟩, hr⟩⟩) (fun H3 p1 t3 n1 => ⟨by show 1 ≤ sizeLine; decide, fun fl nfl => gn1 ?_⟩)))))
        have f1 := fod_start t3 n1 nfl
        generalize upd H3 fl (.lst [.ref p1]) = H4 at f1 ⊢
        obtain ⟨Rb1, ps1, tb1, eb1, h1, more1⟩ := fod_add f1
        dsimp only
        refine seq1 ⟨_, rfl, .inl ⟨rfl, _, SqL.of h1⟩, tcons1 (met_ref (x := x) (C := Z.b) (w := "book") tb1 (.inl ⟨rfl, rfl⟩) (fun H2 E q t2 hr => ⟨_, rfl, x, .non, .non, rfl, .inl (bkd (eb1.trans t2.r) hr)⟩) (fun H5 p2 t5 n2 => ?_))⟩
        obtain ⟨g1, l1, f2⟩ := more1 H5 p2 t5 n2
        refine ⟨fl, _, _, rfl, rfl, g1, by rw [List.length_map, l1]; show 1 < sizeLine; decide, ?_⟩
        generalize upd H5 fl (.lst (ps1.map V.ref ++ [V.ref p2])) = H6 at f2 ⊢
        clear more1 tb1 eb1 h1 g1 f1
        obtain ⟨Rb2, ps2, tb2, eb2, h2, more2⟩ := fod_add f2
        dsimp only
        refine seq1 ⟨_, rfl, .inl ⟨rfl, _, SqL.of h2⟩, tcons1 (met_ref (x := x) (C := Z.b) (w := "book") tb2 (.inl ⟨rfl, rfl⟩) (fun H7 E q t2 hr => ⟨_, rfl, x, .non, rfl, .inl (bkd (eb2.trans t2.r) hr)⟩) (fun H7 p3 t7 n3 => ?_))⟩
        obtain ⟨g2, l2, f3⟩ := more2 H7 p3 t7 n3
        refine ⟨fl, _, _, rfl, rfl, g2, by rw [List.length_map, l2]; show 2 < sizeLine; decide, ?_⟩
        generalize upd H7 fl (.lst (ps2.map V.ref ++ [V.ref p3])) = H8 at f3 ⊢
        clear more2 tb2 eb2 h2 g2 f2
        dsimp only
        refine ⟨_, rfl, _, rfl, by show 2 ≤ sizeLine; decide, fun w1 nw1 => ⟨by show 1 ≤ sizeLine; decide, fun l3 nl3 => ?_⟩⟩
        have e13 := Ex.new (o := .tup [.str "book", x]) nw1
        have h13 : upd H8 w1 (.tup [.str "book", x]) w1 = some (.tup [.str "book", x]) := upd_same
        generalize upd H8 w1 (.tup [.str "book", x]) = H13 at e13 h13 nl3 ⊢
        have e14 := Ex.new (o := .lst [.ref w1]) nl3
        have h14 : upd H13 l3 (.lst [.ref w1]) l3 = some (.lst [.ref w1]) := upd_same
        generalize upd H13 l3 (.lst [.ref w1]) = H14 at e14 h14 ⊢
        refine ⟨l3, 3, _, rfl, rfl, h14, by decide, by decide, by show 3 ≤ sizeLine; decide, fun l4 nl4 => ?_⟩
        have e15 := Ex.new (o := .lst (List.replicate (3 : Int).toNat [V.ref w1]).flatten) nl4
        have h15 : upd H14 l4 (.lst (List.replicate (3 : Int).toNat [V.ref w1]).flatten) l4 = some (.lst ((List.replicate 3 w1).map V.ref)) := upd_same
        generalize upd H14 l4 (.lst (List.replicate (3 : Int).toNat [V.ref w1]).flatten) = H15 at e15 h15 ⊢
        have f7 := f3.ex ((e13.trans e14).trans e15)
        have hw : H15 w1 = some (.tup [.str "book", x]) := e15 _ _ (e14 _ _ h13)
        exact ⟨_, _, _, rfl, f7.D Dx, .lst h15 (rep_D (d_pair hw (Dx.ex f7.tst.r)) 3), okD_rep ok3 (by decide), fun H16 e16 => ⟨_, rfl, ite_ff rfl ⟨_, _, rfl, f7.tst.ex e16⟩⟩⟩
      · obtain ⟨ov, fv, rfl, t⟩ := q
        have T0 := t.t
        have b0 := bk.ex t.r
        clear t t1 hp hds bk
        dsimp only
        refine seq1 ?_
        refine tup1 (GvA.use (ds := oddH) (R := fun _ => none) (G := fun _ => none) (.cons .non (.cons .int (.cons (.neg .int) (.cons .bl (.cons .str (.cons (.lst (.cons .int .nil)) (.cons (.op0 (.op1 ⟨by decide, by decide, by decide⟩ .int .int) .int) .nil))))))) (Ex.refl _) (fun _ _ z => (by cases z)) fun xs G1 H1 r1 hd1 => ⟨by rw [hd1.len2]; show 7 ≤ sizeLine; decide, fun p np => ⟨p, rfl, ⟨_, SqT.of upd_same⟩, ?_⟩⟩)
        have ep := Ex.new (o := .tup xs) np
        have hp : upd H1 p (.tup xs) p = some (.tup xs) := upd_same
        have hds := (hd1.ex r1.i).ex ep
        have eAll := r1.h.trans ep
        generalize upd H1 p (.tup xs) = Hd at hp hds eAll ⊢
        have t1 : Tst TS (nt Hd) Hd := ⟨nt_no Hd, fun b o h => (nt_of h).1, T0.ext eAll⟩
        have hp := nt_at hp fun _ z => by cases z
        have hds := hds.nt
        have bk := (b0.ex eAll).nt
        clear T0 b0 ep np hd1 r1 eAll
        generalize nt Hd = R at t1 hp hds bk
        refine for_tup (K := K) (a := p) (xs := xs) (fun i σ H' => ∃ ov fv, σ = [some (.ref b), ov, fv] ∧ Tst TS R H') ⟨_, _, rfl, t1⟩ (fun i σ H' _ q => ?_) (fun i x σ H' hx q => ?_) (fun σ H' q => ?_)
        · obtain ⟨ov, fv, rfl, t⟩ := q
          exact SqT.of (t.r _ _ hp)
        · obtain ⟨ov, fv, rfl, t⟩ := q
          obtain ⟨dx, hdx, Dx⟩ := hds.get hx
          obtain ⟨nh, ok3⟩ := odd_all (p := isHp) (l := oddH) (by decide +kernel) dx (List.mem_of_getElem? hdx)
          refine gn1 ?_
          dsimp only
          refine met_ref (x := x) (C := Z.h) (w := "heap") t (.inr (.inl ⟨rfl, rfl⟩)) (fun H2 E q t2 hr => ⟨_, rfl, _, rfl, _, x, .non, .none, rfl, .non, .inr ⟨b, rs, dx, rfl, bk.ex t2.r, lr, hm, Dx.ex t2.r, fun _ => hr, fun n e z => by rw [nh] at z; cases z⟩⟩) (fun H3 pm t3 n1 => ?_)
          refine ⟨_, rfl, by show 2 ≤ sizeLine; decide, fun w1 nw1 => ?_⟩
          have e4 := Ex.new (o := .tup [.str "heap", x]) nw1
          have h4 : upd H3 w1 (.tup [.str "heap", x]) w1 = some (.tup [.str "heap", x]) := upd_same
          generalize upd H3 w1 (.tup [.str "heap", x]) = H4 at e4 h4
          have eR : Ex R (upd R pm (.tup [.str "heap", x])) := Ex.new n1
          have t4 := t3.ex e4
          have Dx4 := (Dx.ex eR).ex t4.r
          exact ⟨.ref pm, .ref w1, _, rfl, d_pair (t4.r _ _ upd_same) Dx4, d_pair h4 Dx4, okD_up (ok_pair ok3), fun H5 e5 => ⟨_, rfl, ite_ff rfl ⟨_, _, rfl, (t4.ex e5).weak eR⟩⟩⟩
        · obtain ⟨ov, fv, rfl, t⟩ := q
          have T0 := t.t
          have b0 := bk.ex t.r
          clear t t1 hp hds bk
          dsimp only
          refine seq1 ?_
          refine tup1 (GvA.use (ds := oddO) (R := fun _ => none) (G := fun _ => none) (.cons .non (.cons .int (.cons .str (.cons (.lst (.cons .int .nil)) (.cons (.lst (.cons .int (.cons .int .nil))) (.cons (.lst (.cons .int (.cons .int (.cons .int .nil)))) (.cons (.lst (.cons .bl .nil)) (.cons (.lst (.cons .non .nil)) (.cons .dic (.cons (.lst (.cons (.lst (.cons .int .nil)) .nil)) (.cons (.lst (.cons (.neg .int) .nil)) (.cons (.lst (.cons .int (.cons .str .nil))) .nil)))))))))))) (Ex.refl _) (fun _ _ z => (by cases z)) fun xs G1 H1 r1 hd1 => ⟨by rw [hd1.len2]; show 12 ≤ sizeLine; decide, fun p np => ⟨p, rfl, ⟨_, SqT.of upd_same⟩, ?_⟩⟩)
          have ep := Ex.new (o := .tup xs) np
          have hp : upd H1 p (.tup xs) p = some (.tup xs) := upd_same
          have hds := (hd1.ex r1.i).ex ep
          have eAll := r1.h.trans ep
          generalize upd H1 p (.tup xs) = Hd at hp hds eAll ⊢
          have t1 : Tst TS (nt Hd) Hd := ⟨nt_no Hd, fun b o h => (nt_of h).1, T0.ext eAll⟩
          have hp := nt_at hp fun _ z => by cases z
          have hds := hds.nt
          have bk := (b0.ex eAll).nt
          clear T0 b0 ep np hd1 r1 eAll
          generalize nt Hd = R at t1 hp hds bk
          refine for_tup (K := K) (a := p) (xs := xs) (fun i σ H' => ∃ ov fv, σ = [some (.ref b), ov, fv] ∧ Tst TS R H') ⟨_, _, rfl, t1⟩ (fun i σ H' _ q => ?_) (fun i x σ H' hx q => ?_) (fun σ H' q => ?_)
          · obtain ⟨ov, fv, rfl, t⟩ := q
            exact SqT.of (t.r _ _ hp)
          · obtain ⟨ov, fv, rfl, t⟩ := q
            obtain ⟨dx, hdx, Dx⟩ := hds.get hx
            obtain ⟨nh, ok3⟩ := odd_all (p := isLv) (l := oddO) (by decide +kernel) dx (List.mem_of_getElem? hdx)
            refine gn1 ?_
            dsimp only
            refine met_ref (x := x) (C := Z.o) (w := "option") t (.inr (.inr (.inl ⟨rfl, rfl⟩))) (fun H2 E q t2 hr => ⟨_, rfl, _, rfl, _, x, .non, rfl, .inr ⟨b, rs, rfl, bk.ex t2.r, lr, hm, lo, dx, Dx.ex t2.r, fun _ => hr, fun z => by rw [nh] at z; cases z⟩⟩) (fun H3 pm t3 n1 => ?_)
            refine ⟨_, rfl, by show 2 ≤ sizeLine; decide, fun w1 nw1 => ?_⟩
            have e4 := Ex.new (o := .tup [.str "option", x]) nw1
            have h4 : upd H3 w1 (.tup [.str "option", x]) w1 = some (.tup [.str "option", x]) := upd_same
            generalize upd H3 w1 (.tup [.str "option", x]) = H4 at e4 h4
            have eR : Ex R (upd R pm (.tup [.str "option", x])) := Ex.new n1
            have t4 := t3.ex e4
            have Dx4 := (Dx.ex eR).ex t4.r
            exact ⟨.ref pm, .ref w1, _, rfl, d_pair (t4.r _ _ upd_same) Dx4, d_pair h4 Dx4, okD_up (ok_pair ok3), fun H5 e5 => ⟨_, rfl, ite_ff rfl ⟨_, _, rfl, (t4.ex e5).weak eR⟩⟩⟩
          · obtain ⟨ov, fv, rfl, t⟩ := q
            have T0 := t.t
            have b0 := bk.ex t.r
            clear t t1 hp hds bk
            dsimp only
            refine seq1 ?_
            refine tup1 (GvA.use (ds := oddN) (R := fun _ => none) (G := fun _ => none) (.cons .non (.cons (.neg .int) (.cons .bl (.cons .str (.cons (.lst (.cons .int .nil)) (.cons .dic .nil)))))) (Ex.refl _) (fun _ _ z => (by cases z)) fun xs G1 H1 r1 hd1 => ⟨by rw [hd1.len2]; show 6 ≤ sizeLine; decide, fun p np => ⟨p, rfl, ⟨_, SqT.of upd_same⟩, ?_⟩⟩)
            have ep := Ex.new (o := .tup xs) np
            have hp : upd H1 p (.tup xs) p = some (.tup xs) := upd_same
            have hds := (hd1.ex r1.i).ex ep
            have eAll := r1.h.trans ep
            generalize upd H1 p (.tup xs) = Hd at hp hds eAll ⊢
            have t1 : Tst TS (nt Hd) Hd := ⟨nt_no Hd, fun b o h => (nt_of h).1, T0.ext eAll⟩
            have hp := nt_at hp fun _ z => by cases z
            have hds := hds.nt
            have bk := (b0.ex eAll).nt
            clear T0 b0 ep np hd1 r1 eAll
            generalize nt Hd = R at t1 hp hds bk
            refine for_tup (K := K) (a := p) (xs := xs) (fun i σ H' => ∃ ov fv, σ = [some (.ref b), ov, fv] ∧ Tst TS R H') ⟨_, _, rfl, t1⟩ (fun i σ H' _ q => ?_) (fun i x σ H' hx q => ?_) (fun σ H' q => ?_)
            · obtain ⟨ov, fv, rfl, t⟩ := q
              exact SqT.of (t.r _ _ hp)
            · obtain ⟨ov, fv, rfl, t⟩ := q
              obtain ⟨dx, hdx, Dx⟩ := hds.get hx
              obtain ⟨nh, ok3⟩ := odd_all (p := isNum) (l := oddN) (by decide +kernel) dx (List.mem_of_getElem? hdx)
              refine gn1 ?_
              dsimp only
              refine seq1 (asg1 (lst1 (tcons1 (met_ref (x := x) (C := Z.n) (w := "number") t (.inr (.inr (.inr ⟨rfl, rfl⟩))) (fun H2 E q t2 hr => ⟨_, rfl, by show 1 ≤ sizeLine; decide, fun o1 no1 => ⟨_, rfl, _, _, x, rfl, .inr ⟨b, rs, rfl, (bk.ex t2.r).ex (Ex.new no1), lr, hm, lo, .list [.int 1], .lst upd_same (.cons (.int 1) .nil), fun z => (by cases z), fun _ => ⟨dx, (Dx.ex t2.r).ex (Ex.new no1), fun _ H9 e9 => hr H9 ((Ex.new no1).trans e9), fun os n _ e n0 => by rw [e] at nh; exact absurd (decide_eq_true n0) (by rw [show decide (0 ≤ n) = false from nh]; decide)⟩⟩⟩⟩) (fun H3 p1 t3 n1 => ⟨by show 1 ≤ sizeLine; decide, fun fl nfl => gn1 ?_⟩)))))
              have f1 := fod_start t3 n1 nfl
              generalize upd H3 fl (.lst [.ref p1]) = H4 at f1 ⊢
              obtain ⟨Rb1, ps1, tb1, eb1, h1, more1⟩ := fod_add f1
              dsimp only
              refine seq1 ⟨_, rfl, .inl ⟨rfl, _, SqL.of h1⟩, tcons1 (met_ref (x := x) (C := Z.n) (w := "number") tb1 (.inr (.inr (.inr ⟨rfl, rfl⟩))) (fun H2 E q t2 hr => ⟨_, rfl, _, rfl, _, x, rfl, .inr ⟨b, rs, rfl, (bk.ex eb1).ex t2.r, lr, hm, lo, dx, (Dx.ex eb1).ex t2.r, fun _ => hr, fun n e n0 => by rw [e] at nh; exact absurd (decide_eq_true n0) (by rw [show decide (0 ≤ n) = false from nh]; decide)⟩⟩) (fun H5 p2 t5 n2 => ?_))⟩
              obtain ⟨g1, l1, f2⟩ := more1 H5 p2 t5 n2
              refine ⟨fl, _, _, rfl, rfl, g1, by rw [List.length_map, l1]; show 1 < sizeLine; decide, ?_⟩
              generalize upd H5 fl (.lst (ps1.map V.ref ++ [V.ref p2])) = H6 at f2 ⊢
              clear more1 tb1 eb1 h1 g1 f1
              dsimp only
              refine ⟨_, rfl, _, rfl, by show 2 ≤ sizeLine; decide, fun w1 nw1 => ⟨by show 1 ≤ sizeLine; decide, fun l3 nl3 => ?_⟩⟩
              have e13 := Ex.new (o := .tup [.str "number", x]) nw1
              have h13 : upd H6 w1 (.tup [.str "number", x]) w1 = some (.tup [.str "number", x]) := upd_same
              generalize upd H6 w1 (.tup [.str "number", x]) = H13 at e13 h13 nl3 ⊢
              have e14 := Ex.new (o := .lst [.ref w1]) nl3
              have h14 : upd H13 l3 (.lst [.ref w1]) l3 = some (.lst [.ref w1]) := upd_same
              generalize upd H13 l3 (.lst [.ref w1]) = H14 at e14 h14 ⊢
              refine ⟨l3, 2, _, rfl, rfl, h14, by decide, by decide, by show 2 ≤ sizeLine; decide, fun l4 nl4 => ?_⟩
              have e15 := Ex.new (o := .lst (List.replicate (2 : Int).toNat [V.ref w1]).flatten) nl4
              have h15 : upd H14 l4 (.lst (List.replicate (2 : Int).toNat [V.ref w1]).flatten) l4 = some (.lst ((List.replicate 2 w1).map V.ref)) := upd_same
              generalize upd H14 l4 (.lst (List.replicate (2 : Int).toNat [V.ref w1]).flatten) = H15 at e15 h15 ⊢
              have f7 := f2.ex ((e13.trans e14).trans e15)
              have hw : H15 w1 = some (.tup [.str "number", x]) := e15 _ _ (e14 _ _ h13)
              exact ⟨_, _, _, rfl, f7.D Dx, .lst h15 (rep_D (d_pair hw (Dx.ex f7.tst.r)) 2), okD_rep ok3 (by decide), fun H16 e16 => ⟨_, rfl, ite_ff rfl ⟨_, _, rfl, f7.tst.ex e16⟩⟩⟩
            · obtain ⟨ov, fv, rfl, t⟩ := q
              have T0 := t.t
              have b0 := bk.ex t.r
              clear t t1 hp hds bk
              dsimp only
              exact kq _
end
end Ts


set_option Elab.async false
set_option linter.all false
set_option maxRecDepth 100000
set_option maxHeartbeats 2000000
namespace Ts
open PySem PySem.Spec L2 LamX
open Evl (Ex)
theorem opts_dp {K : PySem.W.Frag} {H : Hp} : ∀ {bs : Bs}, (∀ q ∈ bs, H q.1 = some (.lst (q.2.map V.int))) → DpAll K H bs.vs (bs.map encI)
  | [], _ => .nil
  | q :: bs, h => .cons (.lst (SqL.of (h q List.mem_cons_self)) (dp_ints q.2)) (opts_dp fun x hx => h x (List.mem_cons_of_mem _ hx))
theorem opts_shaped (bs : Bs) : SeqAt.shaped (.list (bs.map encI)) = true := by
  have z : ∀ bs : Bs, PyData.canLayAll0 (bs.map encI) = true ∧ PyData.depthAll (bs.map encI) ≤ 5 := by
    intro bs
    induction bs with
    | nil => exact ⟨rfl, by show 0 ≤ 5; decide⟩
    | cons q bs ih =>
      obtain ⟨h1, h2⟩ := ih
      refine ⟨?_, ?_⟩
      · show (PyData.canLayAll0 (q.2.map .int) && PyData.canLayAll0 (bs.map encI)) = true
        rw [lay_ints, h1]
        rfl
      · have := depth_ints q.2
        show max (PyData.depthAll (q.2.map .int) + 1) (PyData.depthAll (bs.map encI)) ≤ 5
        omega
  obtain ⟨h1, h2⟩ := z bs
  unfold SeqAt.shaped
  rw [Bool.and_eq_true]
  refine ⟨h1, decide_eq_true ?_⟩
  show PyData.depthAll (bs.map encI) + 1 ≤ 64
  omega
theorem eqv_ints (xs ys : List Int) : PyData.eqv (.list (xs.map PyData.int)) (.list (ys.map .int)) = decide (xs = ys) := by
  have z : ∀ xs ys : List Int, PyData.eqvAll (xs.map PyData.int) (ys.map .int) = decide (xs = ys) := by
    intro xs
    induction xs with
    | nil => intro ys; cases ys with
      | nil => rfl
      | cons y ys => rfl
    | cons x xs ih => intro ys; cases ys with
      | nil => rfl
      | cons y ys =>
        rw [List.map_cons, List.map_cons, PyData.eqvAll, ih]
        show (decide (x = y) && _) = _
        rw [Bool.eq_iff_iff]
        simp
  rw [PyData.eqv]
  exact z xs ys
theorem any_opts (bs : Bs) (os : List Int) : ((bs.map encI).any fun z => PyData.eqv z (.list (os.map PyData.int))) = decide (os ∈ bs.map (·.2)) := by
  rw [Bool.eq_iff_iff, List.any_eq_true, decide_eq_true_eq]
  constructor
  · rintro ⟨z, hz, e⟩
    obtain ⟨q, hq, rfl⟩ := List.mem_map.mp hz
    rw [show encI q = .list (q.2.map .int) from rfl, eqv_ints, decide_eq_true_eq] at e
    exact List.mem_map.mpr ⟨q, hq, e⟩
  · intro h
    obtain ⟨q, hq, e⟩ := List.mem_map.mp h
    refine ⟨encI q, List.mem_map.mpr ⟨q, hq, rfl⟩, ?_⟩
    rw [show encI q = .list (q.2.map .int) from rfl, eqv_ints, decide_eq_true_eq]
    exact e
/-- the options of the heaps from 1 on, each heap's by itself -/
abbrev Es := List (Addr × Bs)
def EvAt (H : Hp) (E : Addr) (es : Es) : Prop := H E = some (.lst (es.map fun e => V.ref e.1)) ∧ ∀ e ∈ es, H e.1 = some (.lst e.2.vs) ∧ ∀ q ∈ e.2, H q.1 = some (.lst (q.2.map V.int))
theorem EvAt.ex {H H' : Hp} {E : Addr} {es : Es} (h : EvAt H E es) (e : Ex H H') : EvAt H' E es := ⟨e _ _ h.1, fun x hx => ⟨e _ _ (h.2 x hx).1, fun q hq => e _ _ ((h.2 x hx).2 q hq)⟩⟩
def EvOk (rs : List Rl) (es : Es) : Prop := ∀ (i : Nat) e, es[i]? = some e → Opts (AOpt rs (1 + (i : Int))) (e.2.map (·.2)) ∧ e.2.length ≤ 600000
theorem lc_ev {K : PySem.W.Frag} {Ev D : Addr} {es : Es} {i j : Nat} {tt : TT} {vs : List Nat} {σ : L2.St} {H1 : Hp} {Qd : Hp → Prop} (S : Int → Prop) (hE : EvAt H1 Ev es) (le : es.length ≤ 1000) (nD : H1 D = none)
    (hg : ∀ u w, (((wipe σ vs).set i (some u)).set j (some w))[i]? = some (some u)) (hw : ∀ u w, wipe (((wipe σ vs).set i (some u)).set j (some w)) vs = wipe σ vs)
    (test : ∀ (m : Nat) e H' (A B : Hp → Prop), es[m]? = some e → Ex H1 H' → (∀ H4, Ex H' H4 → S (1 + (m : Int)) → A H4) → (∀ H4, Ex H' H4 → ¬ S (1 + (m : Int)) → B H4) → tt (((wipe σ vs).set i (some (.int (m : Nat)))).set j (some (.ref e.1))) H' fun b H3 => if b = true then A H3 else B H3)
    (fin : ∀ Hf hs, Ex H1 Hf → Hf D = some (.lst (hs.map V.int)) → AscI (fun h => 1 ≤ h ∧ h ≤ (es.length : Int) ∧ S h) hs → Qd Hf) :
    ∃ W : Nat → Nat → Hp → Prop, (∃ m, W 0 m (upd H1 D (.lst []))) ∧ ∀ i' m H, W i' m H →
      ((Ite K Ev).stop i' H ∧ Qd H) ∨ ((Ite K Ev).go i' H ∧ ∃ Nx : Hp → Prop, (∀ H', Nx H' → ∃ m', m' < m ∧ W (i' + 1) m' H') ∧ ∀ x H', (Ite K Ev).yld i' H x H' → gTup K 2 (gCons (gName i) (gCons (gName j) gNil)) x (wipe σ vs) H' fun σ2 H2 => wipe σ2 vs = wipe σ vs ∧ tt σ2 H2 fun b H3 =>
        if b = true then tOp (rI0 fun i j => .int (i + j)) (tVar i) (tC (.int 1)) σ2 H3 fun y H4 => ∃ acc, H4 D = some (.lst acc) ∧ acc.length < sizeLine ∧ Nx (upd H4 D (.lst (acc ++ [y]))) else Nx H3) := by
  refine lc_it (walk_enum (xs := es.map fun e => V.ref e.1)) (Pv := fun m H' => Ex H1 H' ∧ ∃ hs : List Int, H' D = some (.lst (hs.map V.int)) ∧ AscI (fun h => 1 ≤ h ∧ h ≤ (m : Int) ∧ S h) hs)
    ⟨Ex.new nD, [], upd_same, .nil, fun x => ⟨(fun z => by cases z), fun z => by omega⟩⟩ (fun m H' _ p => SqL.of (p.1 _ _ hE.1)) (fun m y H3 H4 hm p yy => ?_) (fun H3 p => ?_)
  · obtain ⟨e3, hs, hD, asc⟩ := p
    obtain ⟨T, x1, x2, rfl, nT, rfl, h1, h2⟩ := yy
    cases h1
    dsimp only at h2
    rw [List.getElem?_map] at h2
    cases he : es[m]? with
    | none => rw [he] at h2; cases h2
    | some e =>
      rw [he] at h2
      cases h2
      have eT := Ex.new (o := .tup [V.int (m : Nat), V.ref e.1]) nT
      have hl := asc.len
      have hm : m < es.length := by rw [List.length_map] at hm; exact hm
      refine ⟨T, _, rfl, SqT.of upd_same, rfl, _, _, rfl, _, _, rfl, rfl, hw _ _, ?_⟩
      obtain ⟨st1, st2⟩ := asc.step
      refine test m e _ _ _ he (e3.trans eT) (fun H5 e5 s => ⟨_, hg _ _, _, _, rfl, rfl, _, (eT.trans e5) _ _ hD, ?_, (e3.trans (eT.trans e5)).mut nD, hs ++ [1 + (m : Int)], ?_, st1 s⟩) (fun H5 e5 s => ⟨e3.trans (eT.trans e5), hs, (eT.trans e5) _ _ hD, st2 s⟩)
      · rw [List.length_map]
        exact Nat.lt_of_le_of_lt (show hs.length ≤ 1000 by omega) (by decide)
      · rw [upd_same, List.map_append, Int.add_comm]
        rfl
  · obtain ⟨e3, hs, hD, asc⟩ := p
    rw [List.length_map] at asc
    exact fin H3 hs e3 hD asc
theorem aopt_congr {rs rs' : List Rl} {n : Int} {ns : List Int} (h : ∀ r, r ∈ rs ↔ r ∈ rs') : AOpt rs n ns ↔ AOpt rs' n ns := by
  have z : ∀ p : Rl → Prop, (∃ r ∈ rs, p r) ↔ ∃ r ∈ rs', p r := fun p => ⟨fun ⟨r, hr, h2⟩ => ⟨r, (h r).mp hr, h2⟩, fun ⟨r, hr, h2⟩ => ⟨r, (h r).mpr hr, h2⟩⟩
  unfold AOpt
  rw [z]
  refine or_congr Iff.rfl (or_congr (exists_congr fun x => and_congr_right fun _ => z _) (exists_congr fun t => exists_congr fun a => and_congr_right fun _ => and_congr_left fun _ => z _))
theorem aopt_len {rs : List Rl} {n : Int} {ns : List Int} (h : AOpt rs n ns) : ns.length ≤ 2 := by
  rcases h with ⟨rfl, _⟩ | ⟨x, rfl, _⟩ | ⟨t, a, rfl, _⟩
  · exact Nat.zero_le _
  · exact Nat.le_succ _
  · exact Nat.le_refl _
theorem aopt_bd {rs : List Rl} (lo : ∀ r ∈ rs, r.Ok) {n : Int} {ns : List Int} (h : AOpt rs n ns) : ∀ x ∈ ns, 1 ≤ x ∧ x < n := by
  rcases h with ⟨rfl, _⟩ | ⟨x, rfl, r, hr, h4, ⟨_, h5, _⟩, h6⟩ | ⟨t, a, rfl, ⟨r, hr, h4, ⟨_, h5, _⟩, h6⟩, a1, a2⟩
  · exact fun x hx => absurd hx (by simp)
  · intro y hy
    obtain rfl := List.mem_singleton.mp hy
    have z0 := (lo r hr).low0
    have z1 : r.low ≠ 0 := fun z => by
      have z2 := (lo r hr).low1 z
      rw [h4] at z2
      exact absurd z2 (by decide)
    omega
  · intro y hy
    have z0 := (lo r hr).low0
    rcases List.mem_cons.mp hy with rfl | hy
    · omega
    · obtain rfl := List.mem_singleton.mp hy
      omega
/-- a leaving, of no great heaps -/
structure Opt1 (os : List Int) : Prop where
  two : Two os
  le : ∀ x ∈ os, x ≤ 1000000000000000000
theorem opt1_of {rs : List Rl} (ok : ∀ r ∈ rs, r.Ok) {n : Int} {os : List Int} (hn : n ≤ 1000000000000000000) (h : AOpt rs n os) : Opt1 os := by
  have bd := aopt_bd ok h
  refine ⟨⟨aopt_len h, fun x hx => (bd x hx).1, ?_⟩, fun x hx => by have := bd x hx; omega⟩
  rcases h with ⟨rfl, _⟩ | ⟨x, rfl, _⟩ | ⟨t, a, rfl, _, h1, h2⟩
  · exact .nil
  · exact List.pairwise_singleton ..
  · exact .cons (fun z hz => by rw [List.mem_singleton.mp hz]; omega) (List.pairwise_singleton ..)
theorem Opt1.short {os : List Int} (h : Opt1 os) : Short (.list (os.map .int)) := short_ints (by have := h.two.len; omega) fun x hx => by
  have := h.two.pos x hx
  have := h.le x hx
  omega
theorem loo_lv {d' : PyData} {os : List Int} (h : Opt1 os) (l : Loo (.list (os.map .int)) d') : isLv d' = true ∧ items d' = os.map .int := by
  have hi : items d' = os.map .int := loo_items l rfl rfl
  have hr : isRow d' = true := by
    cases l with
    | same z => cases z
    | row k _ _ => exact mk_row k _
  refine ⟨?_, hi⟩
  have hh : (os.map PyData.int).all isHp = true := by
    rw [List.all_map, List.all_eq_true]
    intro x hx
    have h1 := h.two.pos x hx
    have h2 := h.le x hx
    show (decide (1 ≤ x) && decide (x ≤ 1000000000000000000)) = true
    rw [decide_eq_true h1, decide_eq_true h2]
    rfl
  unfold isLv isHps
  rw [hi, hr, hh, List.length_map, decide_eq_true h.two.len]
  match os, h.two.len, h.two.asc with
  | [], _, _ => rfl
  | [x], _, _ => rfl
  | [x, y], _, asc => exact decide_eq_true ((List.pairwise_cons.mp asc).1 y (by simp))
theorem AscI.few {S : Int → Prop} {n m : Int} {hs : List Int} (h : AscI (fun x => 1 ≤ x ∧ x ≤ n ∧ S x) hs) (hm : m ≤ n) : AscI (fun x => 1 ≤ x ∧ x ≤ m ∧ S x) (hs.filter fun x => decide (x ≤ m)) := by
  refine ⟨h.1.filter _, fun x => ?_⟩
  rw [List.mem_filter, h.2, decide_eq_true_eq]
  constructor
  · rintro ⟨⟨a, b, c⟩, d⟩
    exact ⟨a, d, c⟩
  · rintro ⟨a, b, c⟩
    exact ⟨⟨a, by omega, c⟩, b⟩
section
variable {P : Program} {w : World} {K : PySem.W.Frag} {mg : Str → Option Value} {base : Heap}
abbrev s_back := top 66
abbrev NB : List Str := ["stream", "raw", "made", "most", "every", "due", "found", "some", "turn", "here", "option", "handed", "few", "heap", "at"]
theorem sc_back : FnScope NB ["stream", "raw", "made", "most"] (defScope s_back) := ⟨rfl, rfl, rfl, by decide +kernel, rfl, by decide +kernel, by decide +kernel⟩
theorem kb_ends {f : Addr} {fd : FuncData} (F : FD K mg "ends" "ends" s_ends f fd) : KBn K fd ["book", "most"] 0 ["most", "book"] (fun _ ws => ws.reverse) (fun _ zs => zs.reverse) := by
  obtain ⟨oc, od, kV, doc, pm, an, cdv, ct, osl, rfl, lk, hcd⟩ := F.F.ex
  refine ⟨fun s us ws _ l1 l2 => ?_, fun _ r => r.reverse⟩
  match us, ws, l1, l2 with
  | [], [a, b], _, _ => exact .of_eq rfl
theorem kb_from {f : Addr} {fd : FuncData} (F : FD K mg "heaps_from" "heaps_from" s_from f fd) : KBn K fd ["book", "option", "most"] 0 ["most", "option", "book"] (fun _ ws => ws.reverse) (fun _ zs => zs.reverse) := by
  obtain ⟨oc, od, kV, doc, pm, an, cdv, ct, osl, rfl, lk, hcd⟩ := F.F.ex
  refine ⟨fun s us ws _ l1 l2 => ?_, fun _ r => r.reverse⟩
  match us, ws, l1, l2 with
  | [], [a, b, c], _, _ => exact .of_eq rfl
def spBack (CK : Addr) : Sp := fun vs H Q _ => ∃ (a c L m : Addr) (n k : Int) (qs : List (Addr × Rl)) (rs : List Rl), vs = [.ref a, .ref L, .ref m, .int n] ∧ Strm H a c k ∧ RsAt (off a c H) L qs ∧ qs.length ≤ 10 ∧ RsGood qs ∧ BookAt CK (off a c H) m rs ∧ (∀ r, r ∈ rs ↔ r ∈ qs.map (·.2)) ∧ rs.length ≤ 10 ∧
  6 ≤ n ∧ n ≤ 400 ∧ k + 300000 < 2 ^ 39 ∧ ∀ H' k', Ex (off a c H) (off a c H') → Strm H' a c k' → k' ≤ k + 300000 → Q (.bl true) H'
theorem ok_back {f f1 f2 f3 f4 f5 fe ff CK CB CO CN : Addr} {fd fd1 fd2 fd3 fd4 fd5 fde fdf : FuncData} (F : FD K mg "_law_back_right" "_law_back_right" s_back f fd) (T : Bl mg) (henum : mg "enumerate" = none)
    (F_draw : FD K mg "_law_draw" "_law_draw" s_draw f1 fd1) (F_pick : FD K mg "_law_pick" "_law_pick" s_pick f2 fd2) (F_loose : FD K mg "_law_loose" "_law_loose" s_loose f3 fd3)
    (F_aopts : FD K mg "_law_a_options" "_law_a_options" s_aopts f4 fd4) (G_aopts : FnOk P w K mg base CX0 2 f4 fd4 ["raw", "heap"] spAopts)
    (F_same : FD K mg "_law_same" "_law_same" s_same f5 fd5) (F_spoil : ∃ f fd, FD K mg "_law_a_spoiled" "_law_a_spoiled" s_spoil f fd)
    (F_ends : FD K mg "ends" "ends" s_ends fe fde) (G_ends : FnOk P w K mg base (L2.CX P w) 6 fe fde ["book", "most"] (spEnds CK CB CN))
    (F_from : FD K mg "heaps_from" "heaps_from" s_from ff fdf) (G_from : FnOk P w K mg base (L2.CX P w) 6 ff fdf ["book", "option", "most"] (spFrom CK CB CO CN)) :
    FnOk P w K mg base CX0 8 f fd ["stream", "raw", "made", "most"] (spBack CK) := by
  obtain ⟨f6, fd6, F_spoil⟩ := F_spoil
  have G_draw : FnOk P w K mg base CX0 1 f1 fd1 ["stream", "many"] spDraw := ok_draw F_draw T
  have G_pick : FnOk P w K mg base CX0 2 f2 fd2 ["stream", "some"] spPick := ok_pick F_pick F_draw T
  have G_loose : FnOk P w K mg base CX0 5 f3 fd3 ["stream", "thing"] (spLoose 4) := ok_loose F_loose F_draw T 4
  have G_same : FnOk P w K mg base CX0 6 f5 fd5 ["found", "due"] (spSame 6) := ok_same F_same T 6
  have G_spoil : FnOk P w K mg base CX0 3 f6 fd6 ["thing"] (spSpoilT 3) := ok_spoilT F_spoil T 3
  have b_draw := b_draw F_draw
  have b_pick : Binds K fd2 ["stream", "some"] [] := F_pick.F.binds fun _ _ _ _ _ _ us hl => match us, hl with | [_, _], _ => rfl
  have b_loose : Binds K fd3 ["stream", "thing"] [] := F_loose.F.binds fun _ _ _ _ _ _ us hl => match us, hl with | [_, _], _ => rfl
  have b_aopts : Binds K fd4 ["raw", "heap"] [] := F_aopts.F.binds fun _ _ _ _ _ _ us hl => match us, hl with | [_, _], _ => rfl
  have b_same : Binds K fd5 ["found", "due"] [] := F_same.F.binds fun _ _ _ _ _ _ us hl => match us, hl with | [_, _], _ => rfl
  have b_spoil : Binds K fd6 ["thing"] [] := F_spoil.F.binds fun _ _ _ _ _ _ us hl => match us, hl with | [_], _ => rfl
  have b_ends : Binds K fde ["book", "most"] [] := F_ends.F.binds fun _ _ _ _ _ _ us hl => match us, hl with | [_, _], _ => rfl
  have b_from : Binds K fdf ["book", "option", "most"] [] := F_from.F.binds fun _ _ _ _ _ _ us hl => match us, hl with | [_, _, _], _ => rfl
  have kb_e := kb_ends F_ends
  have kb_f := kb_from F_from
  refine F.F.ok sc_back (fun vs H Q E h => ?_) (fun cdv A outer s H vs Q E hr h => ?_)
  · obtain ⟨a, c, L, m, n, k, qs, rs, rfl, _⟩ := h
    rfl
  · obtain ⟨a, c, L, m, n, k, qs, rs, rfl, S, hL, hz, good, bk, mem, lr, n1, n2, kz, kq⟩ := h
    have nd := sc_back.nd
    have hu64 := Nat.lt_of_le_of_lt (Nat.add_le_add_left (by decide : 64 ≤ 64) _) hr.units
    have hu65 : (A.deeper (PyProof.Rows.envOfC "_law_back_right" (defScope s_back) s.heap.objs.size f cdv)).units + 65 < cLine := by have := hr.un; omega
    refine' ⟨_, ?rule, ?rest⟩
    case rule =>
      refine' pss_cons ?s1 (pss_cons ?s2 (pss_cons ?s3 (pss_cons ?s4 (pss_cons ?s5 (pss_cons ?s6 (pss_cons (ps_for PassesOwn.never rfl (pi_range1 (by rfl) T.range (pa_cons pe_int pa_nil)) (pg_name (i := 8) nd rfl (Or.inl rfl)) (pss_cons ?a1 (pss_one ?a2))) (pss_cons (ps_for PassesOwn.never rfl (pi_list (pv 7)) (pg_name (i := 10) nd rfl (Or.inr rfl)) (pss_cons ?b1 (pss_cons ?b2 (pss_cons ?b3 (pss_cons ?b4 (pss_cons ?b5 (pss_one ?b6))))))) (pss_one (ps_ret pe_bl)))))))))
      case s1 =>
        exact (ps_setLc (i := 4) (own := [("heap", 13)]) (g := gName 13) (tt := tYes) rfl nd rfl rfl (sw_true rfl rfl rfl (by decide +kernel)) (pi_range2 (by rfl) T.range (pa_cons pe_int (pa_cons (pe_op op_add (pv 3) pe_int) pa_nil))) (blkOk_by (N := NB) (sc := defScope s_back) (by decide +kernel)) (fun _ _ _ _ _ => pg_name (i := 13) nd rfl (Or.inl rfl)) (fun _ _ _ _ _ => pts_nil) (fun _ _ _ _ _ => (pe_call G_aopts (hr.mono (by decide)) (by rfl) F_aopts.g F_aopts.F.kp b_aopts .nil pass0 (pa_cons (pv 1) (pa_cons (pv 13) pa_nil)))))
      case s2 =>
        exact (ps_setLc (i := 5) (own := [("heap", 13), ("some", 7)]) (g := gTup K 2 (gCons (gName 13) (gCons (gName 7) gNil))) rfl nd rfl rfl (sw_true rfl rfl rfl (by decide +kernel)) (pi_enum (by rfl) henum (pa_cons (pv 4) pa_nil)) (blkOk_by (N := NB) (sc := defScope s_back) (by decide +kernel)) (fun _ _ _ _ _ => pg_tup rfl (pgs_cons (pg_name (i := 13) nd rfl (Or.inl rfl)) (pgs_cons (pg_name (i := 7) nd rfl (Or.inl rfl)) pgs_nil))) (fun _ _ _ _ _ => pts_one (pt_cmpR (r := rEqD K) (op_eqD hu64) (pv 7) (pe_lst pa_nil) (nomark _))) (fun _ _ _ _ _ => (pe_op op_add (pv 13) pe_int)))
      case s3 =>
        exact (ps_set (i := 6) nd rfl (Or.inl rfl) (pe_lst (pa_cons (pe_call G_ends (hr.mono (by decide)) (by rfl) F_ends.g F_ends.F.kp b_ends .nil (passF rfl rfl) (pa_cons (pv 2) (pa_cons (pv 3) pa_nil))) (pa_cons (pe_callN0 G_ends (hr.mono (by decide)) (by rfl) F_ends.g F_ends.F.kp kb_e (passF rfl rfl) (pk_cons (pv 3) (pk_cons (pv 2) pk_nil))) (pa_cons (pe_call G_ends (hr.mono (by decide)) (by rfl) F_ends.g F_ends.F.kp b_ends .nil (passF rfl rfl) (pa_cons (pv 2) (pa_cons pe_int pa_nil))) pa_nil)))))
      case s4 =>
        exact (ps_if (pt_not (pt_val (pe_call G_same (hr.mono (by decide)) (by rfl) F_same.g F_same.F.kp b_same .nil pass0 (pa_cons (pv 6) (pa_cons (pe_lst (pa_cons (pv 5) (pa_cons (pv 5) (pa_cons (pe_lst pa_nil) pa_nil)))) pa_nil))))) (pss_one (ps_ret pe_bl)) pss_nil)
      case s5 =>
        exact (ps_expr (pe_call G_spoil (hr.mono (by decide)) (by rfl) F_spoil.g F_spoil.F.kp b_spoil .nil pass0 (pa_cons (pv 6) pa_nil)))
      case s6 =>
        exact (ps_set (i := 7) nd rfl (Or.inl rfl) (pe_lst (pa_cons (pe_lst pa_nil) (pa_cons (pe_lst (pa_cons pe_int pa_nil)) (pa_cons (pe_lst (pa_cons (pe_op op_add pe_int (pe_call G_draw (hr.mono (by decide)) (by rfl) F_draw.g F_draw.F.kp b_draw .nil pass0 (pa_cons (pv 0) (pa_cons (pe_op op_add (pv 3) pe_int) pa_nil)))) pa_nil)) (pa_cons (pe_lst (pa_cons pe_int (pa_cons pe_int pa_nil))) (pa_cons (pe_lst (pa_cons pe_int (pa_cons (pe_op op_add (pe_op op_add pe_int (pe_call G_draw (hr.mono (by decide)) (by rfl) F_draw.g F_draw.F.kp b_draw .nil pass0 (pa_cons (pv 0) (pa_cons (pe_op op_add (pv 3) pe_int) pa_nil)))) pe_int) pa_nil))) (pa_cons (pe_lst (pa_cons (pe_op op_pow pe_int pe_int) pa_nil)) pa_nil))))))))
      case a1 =>
        exact (ps_set (i := 9) nd rfl (Or.inl rfl) (pe_ix (r := rIx K) ix_seq (pv 4) (pe_call G_draw (hr.mono (by decide)) (by rfl) F_draw.g F_draw.F.kp b_draw .nil pass0 (pa_cons (pv 0) (pa_cons (pv 3) pa_nil))) (fun _ _ => rfl)))
      case a2 =>
        exact (ps_expr (pe_bm PySem.F.plainAttrs_list PySem.F.slot_list_extend PySem.F.type_list_extend mt_extend (pv 7) (pa_cons (pe_ifExp (pt_cmpR (op_neD hu64) (pv 9) (pe_lst pa_nil) (nomark _)) (pe_lst (pa_cons (pe_call G_pick (hr.mono (by decide)) (by rfl) F_pick.g F_pick.F.kp b_pick .nil pass0 (pa_cons (pv 0) (pa_cons (pv 9) pa_nil))) pa_nil)) (pe_lst pa_nil)) pa_nil)))
      case b1 =>
        exact (ps_par (i := 11) (j := 5) (by rfl) nd rfl rfl (by decide) rfl rfl (pa_cons (pe_call G_loose (hr.mono (by decide)) (by rfl) F_loose.g F_loose.F.kp b_loose .nil pass0 (pa_cons (pv 0) (pa_cons (pv 10) pa_nil))) (pa_cons (pe_lc (own := [("at", 14), ("here", 9)]) (g := gTup K 2 (gCons (gName 14) (gCons (gName 9) gNil))) rfl nd (pi_enum (by rfl) henum (pa_cons (pv 4) pa_nil)) (blkOk_by (N := NB) (sc := defScope s_back) (by decide +kernel)) (fun _ _ _ _ _ => pg_tup rfl (pgs_cons (pg_name (i := 14) nd rfl (Or.inl rfl)) (pgs_cons (pg_name (i := 9) nd rfl (Or.inl rfl)) pgs_nil))) (fun _ _ _ _ _ => pts_one (pt_cmpR (r := rInD K) (op_inD hu65) (pv 10) (pv 9) (by rfl))) (fun _ _ _ _ _ => (pe_op op_add (pv 14) pe_int))) pa_nil)) (by rfl))
      case b2 =>
        exact (ps_set (i := 6) nd rfl (Or.inl rfl) (pe_lst (pa_cons (pe_call G_from (hr.mono (by decide)) (by rfl) F_from.g F_from.F.kp b_from .nil (passF rfl rfl) (pa_cons (pv 2) (pa_cons (pv 11) (pa_cons (pv 3) pa_nil)))) (pa_cons (pe_callN0 G_from (hr.mono (by decide)) (by rfl) F_from.g F_from.F.kp kb_f (passF rfl rfl) (pk_cons (pv 3) (pk_cons (pv 11) (pk_cons (pv 2) pk_nil)))) pa_nil))))
      case b3 =>
        exact (ps_if (pt_not (pt_val (pe_call G_same (hr.mono (by decide)) (by rfl) F_same.g F_same.F.kp b_same .nil pass0 (pa_cons (pv 6) (pa_cons (pe_lst (pa_cons (pv 5) (pa_cons (pv 5) pa_nil))) pa_nil))))) (pss_one (ps_ret pe_bl)) pss_nil)
      case b4 =>
        exact (ps_expr (pe_call G_spoil (hr.mono (by decide)) (by rfl) F_spoil.g F_spoil.F.kp b_spoil .nil pass0 (pa_cons (pv 6) pa_nil)))
      case b5 =>
        exact (ps_set (i := 12) nd rfl (Or.inr rfl) (pe_call G_draw (hr.mono (by decide)) (by rfl) F_draw.g F_draw.F.kp b_draw .nil pass0 (pa_cons (pv 0) (pa_cons (pe_op op_add (pv 3) pe_int) pa_nil))))
      case b6 =>
        exact (ps_if (pt_not (pt_val (pe_call G_same (hr.mono (by decide)) (by rfl) F_same.g F_same.F.kp b_same .nil pass0 (pa_cons (pe_call G_from (hr.mono (by decide)) (by rfl) F_from.g F_from.F.kp b_from .nil (passF rfl rfl) (pa_cons (pv 2) (pa_cons (pv 11) (pa_cons (pv 12) pa_nil)))) (pa_cons (pe_lc (own := [("heap", 13)]) (g := gName 13) rfl nd (pi_list (pv 5)) (blkOk_by (N := NB) (sc := defScope s_back) (by decide +kernel)) (fun _ _ _ _ _ => pg_name (i := 13) nd rfl (Or.inl rfl)) (fun _ _ _ _ _ => pts_one (pt_cmpR op_le (pv 13) (pv 12) (nomark _))) (fun _ _ _ _ _ => (pv 13))) pa_nil))))) (pss_one (ps_ret pe_bl)) pss_nil)
    case rest =>
      have big : (2 : Int) ^ 39 = 549755813888 := by decide
      have big3 : (2 : Int) ^ 40 = 1099511627776 := by decide
      have oks : ∀ q ∈ qs, q.2.Ok := fun q m => (good.ok q m).ok
      have lows : ∀ q ∈ qs, q.2.low ≤ 1000 := fun q m => by have := (good.ok q m).low; omega
      refine seq1 (asg1 ?_)
      refine ⟨_, rfl, _, _, rfl, rfl, _, _, rfl, ⟨by decide, by decide, by omega, by omega⟩, fun Ev nE => ?_⟩
      have hn : (n + 1 - 1).toNat = n.toNat := by omega
      refine lc_it (walk_range (lo := 1) (n := (n + 1 - 1).toNat)) (Pv := fun i H' => Ex H H' ∧ ∃ es : Es, es.length = i ∧ H' Ev = some (.lst (es.map fun e => V.ref e.1)) ∧ (∀ e ∈ es, e.1 ≠ Ev ∧ H' e.1 = some (.lst e.2.vs) ∧ H e.1 = none ∧ ∀ q ∈ e.2, q.1 ≠ Ev ∧ H' q.1 = some (.lst (q.2.map V.int)) ∧ H q.1 = none) ∧ EvOk (qs.map (·.2)) es)
        ⟨Ex.new nE, [], rfl, upd_same, (fun e he => by cases he), fun i e h => by cases h⟩ (fun _ _ _ _ => trivial) (fun i y H3 H4 hi p yy => ?_) (fun H3 p => ?_)
      · obtain ⟨e3, es, hl, hD, hel, hok⟩ := p
        obtain ⟨rfl, rfl⟩ := yy
        dsimp only
        refine gn1 ⟨rfl, yes_of ⟨_, rfl, _, rfl, L, qs, 1 + (i : Int), rfl, ⟨e3 _ _ (off_of hL.1), fun q m => e3 _ _ (off_of (hL.2 q m))⟩, by omega, oks, lows, by omega, by omega, fun l H5 bs nl nw lb ho => ⟨_, nw.ex _ _ hD, ?_, (e3.trans nw.ex).mut nE, es ++ [(l, bs)], by rw [List.length_append, hl]; rfl, by rw [upd_same, List.map_append]; rfl, fun e he => ?_, fun j e hj => ?_⟩⟩⟩
        · rw [List.length_map, hl]
          exact Nat.lt_of_le_of_lt (show i ≤ 400 by omega) (by decide)
        · rcases List.mem_append.mp he with he | he
          · obtain ⟨h1, h2, h4, h3⟩ := hel e he
            exact ⟨h1, by rw [upd_ne h1]; exact nw.ex _ _ h2, h4, fun q hq => ⟨(h3 q hq).1, by rw [upd_ne (h3 q hq).1]; exact nw.ex _ _ (h3 q hq).2.1, (h3 q hq).2.2⟩⟩
          · rw [List.mem_singleton.mp he]
            have lE : l ≠ Ev := fun z => by rw [z, hD] at nl; cases nl
            refine ⟨lE, by rw [upd_ne lE]; exact nw.at_, Evl.fresh_back e3 nl, fun q hq => ?_⟩
            obtain ⟨_, q2, q3⟩ := nw.el q hq
            have qE : q.1 ≠ Ev := fun z => by rw [z, hD] at q2; cases q2
            exact ⟨qE, by rw [upd_ne qE]; exact q3, Evl.fresh_back e3 q2⟩
        · by_cases c : j < es.length
          · rw [List.getElem?_append_left c] at hj
            exact hok j e hj
          · rw [List.getElem?_append_right (by omega)] at hj
            have c2 : j - es.length = 0 := by
              have := (List.getElem?_eq_some_iff.mp hj).1
              simp at this
              omega
            rw [c2] at hj
            cases hj
            have e2 : j = i := by omega
            rw [e2]
            exact ⟨ho, lb⟩
      obtain ⟨e03, es, hl, hD, hel, hok⟩ := p
      have hE : EvAt H3 Ev es := ⟨hD, fun e he => ⟨(hel e he).2.1, fun q hq => ((hel e he).2.2.2 q hq).2.1⟩⟩
      have hEo : EvAt (off a c H3) Ev es := by
        have ne : ∀ {z : Addr} {o : HO}, H z = none → H3 z = some o → off a c H3 z = some o := fun h1 h2 => by
          obtain ⟨za, zc⟩ := S.nea h1
          rw [off_ne za zc]
          exact h2
        exact ⟨ne nE hD, fun e he => ⟨ne (hel e he).2.2.1 (hel e he).2.1, fun q hq => ne ((hel e he).2.2.2 q hq).2.2 ((hel e he).2.2.2 q hq).2.1⟩⟩
      have les : (es.length : Int) = n := by omega
      clear hD hel hl
      refine gn1 ?_
      dsimp only
      refine seq1 (asg1 ?_)
      refine ⟨_, rfl, Ev, _, rfl, SqL.of hE.1, fun Du nD => ?_⟩
      refine lc_ev (fun h => ∀ ns, ¬ AOpt (qs.map (·.2)) h ns) hE (by omega) nD (fun _ _ => rfl) (fun _ _ => rfl) (fun j e H5 A B he e5 kA kB => ?_) (fun H5 hs e5 hDu asc => ?_)
      · obtain ⟨h1, h2⟩ := hE.2 e (List.mem_of_getElem? he)
        obtain ⟨ho, lb⟩ := hok j e he
        refine ⟨_, rfl, Nat.zero_le _, fun z nz => ⟨.list (e.2.map encI), .list [], .lst (SqL.of (Ex.new nz _ _ (e5 _ _ h1))) (opts_dp fun q hq => Ex.new nz _ _ (e5 _ _ (h2 q hq))), .lst (SqL.of upd_same) .nil, opts_shaped e.2, by decide +kernel, _, rfl, ?_⟩⟩
        cases hc : e.2 with
        | nil =>
          refine ite_tt rfl (kA _ (Ex.new nz) fun ns h => ?_)
          have z := (ho.mem ns).mpr h
          rw [hc] at z
          cases z
        | cons q r =>
          refine ite_ff rfl (kB _ (Ex.new nz) fun h => h q.2 ((ho.mem q.2).mp ?_))
          rw [hc]
          exact .head _
      have lowr : ∀ r ∈ rs, 0 ≤ r.low := fun r hr => by
        obtain ⟨q, hq, rfl⟩ := List.mem_map.mp ((mem r).mp hr)
        exact (good.ok q hq).ok.low0
      have modr : ∀ r ∈ rs, 0 < r.mod := fun r hr => by
        obtain ⟨q, hq, rfl⟩ := List.mem_map.mp ((mem r).mp hr)
        have o := (good.ok q hq).ok
        exact Int.lt_of_le_of_lt o.rest0 o.rest1
      have e05 := e03.trans e5
      have bkH : ∀ {H' : Hp}, Ex H H' → BookAt CK H' m rs := fun e => (bk.ex off_ex).ex e
      have noNum : ∀ {x : Int} {A : Prop}, 0 ≤ x → isNum (.int x) = false → A := fun {x A} h0 z => by
        rw [show isNum (.int x) = true from decide_eq_true h0] at z
        cases z
      refine gn1 ?_
      dsimp only
      refine seq1 (asg1 ?_)
      refine ⟨_, rfl, _, rfl, _, _, rfl, .inr ⟨m, rs, rfl, bkH e05, by omega, modr, lowr, .int n, .int n, fun z => noNum (by omega) z, fun n' e' _ => ?_⟩⟩
      cases e'
      refine ⟨by omega, fun L1 H6 hs1 nL1 e6 hL1 a1 => ?_⟩
      refine ⟨_, rfl, _, rfl, rfl, rfl, _, _, rfl, .inr ⟨m, rs, rfl, bkH (e05.trans e6), by omega, modr, lowr, .int n, .int n, fun z => noNum (by omega) z, fun n' e' _ => ?_⟩⟩
      cases e'
      refine ⟨by omega, fun L2 H7 hs2 nL2 e7 hL2 a2 => ?_⟩
      refine ⟨_, rfl, _, _, rfl, .inr ⟨m, rs, rfl, bkH ((e05.trans e6).trans e7), by omega, modr, lowr, .int 0, .int 0, fun z => noNum (by omega) z, fun n' e' _ => ?_⟩⟩
      cases e'
      refine ⟨by omega, fun L3 H8 hs3 nL3 e8 hL3 a3 => ?_⟩
      have u1 : hs1 = hs := a1.uniq (asc.congr fun x => by rw [les]; exact and_congr Iff.rfl (and_congr Iff.rfl (forall_congr' fun ns => not_congr (aopt_congr fun r => (mem r).symm))))
      have u2 : hs2 = hs := a2.uniq (asc.congr fun x => by rw [les]; exact and_congr Iff.rfl (and_congr Iff.rfl (forall_congr' fun ns => not_congr (aopt_congr fun r => (mem r).symm))))
      have u3 : hs3 = [] := by
        cases hs3 with
        | nil => rfl
        | cons x r =>
          have := (a3.2 x).mp (.head _)
          omega
      subst u1
      subst u2
      subst u3
      refine ⟨by show 3 ≤ sizeLine; decide, fun F nF => gn1 ?_⟩
      have eF := Ex.new (o := .lst [V.ref L1, .ref L2, .ref L3]) nF
      have hF : upd H8 F (.lst [V.ref L1, .ref L2, .ref L3]) F = some (.lst [V.ref L1, .ref L2, .ref L3]) := upd_same
      have g1 := (e7.trans e8) _ _ hL1
      have g2 := e8 _ _ hL2
      have n12 : L1 ≠ L2 := fun z => by rw [← z, hL1] at nL2; cases nL2
      have n13 : L1 ≠ L3 := fun z => by rw [← z, e7 _ _ hL1] at nL3; cases nL3
      have n23 : L2 ≠ L3 := fun z => by rw [← z, hL2] at nL3; cases nL3
      have nF1 : F ≠ L1 := fun z => by rw [z, g1] at nF; cases nF
      have nF2 : F ≠ L2 := fun z => by rw [z, g2] at nF; cases nF
      have nF3 : F ≠ L3 := fun z => by rw [z, hL3] at nF; cases nF
      have w1 : H5 L1 = none := nL1
      have w2 : H5 L2 = none := Evl.fresh_back e6 nL2
      have w3 : H5 L3 = none := Evl.fresh_back (e6.trans e7) nL3
      have w4 : H5 F = none := Evl.fresh_back ((e6.trans e7).trans e8) nF
      have e58 := ((e6.trans e7).trans e8).trans eF
      have g1 := eF _ _ g1
      have g2 := eF _ _ g2
      have g3 := eF _ _ hL3
      generalize upd H8 F (.lst [V.ref L1, .ref L2, .ref L3]) = H9 at hF e58 g1 g2 g3 ⊢
      clear eF nL1 nL2 nL3 hL1 hL2 hL3 e6 e7 e8 nF a1 a2 a3
      have lhs : hs2.length ≤ 400 := by have := asc.len; omega
      have dl : ∀ {H' : Hp} {z : Addr} {l : List Int}, H' z = some (.lst (l.map V.int)) → D H' (.ref z) (.list (l.map .int)) := fun h => .lst h (ints_D _)
      dsimp only
      refine seq1 ⟨_, rfl, _, rfl, _, rfl, Nat.zero_le _, fun z0 nz0 => ⟨by show 3 ≤ sizeLine; decide, fun p np => ?_⟩⟩
      have ez0 := Ex.new (o := .lst []) nz0
      have hz0 : upd H9 z0 (.lst []) z0 = some (.lst []) := upd_same
      generalize upd H9 z0 (.lst []) = H10 at ez0 hz0 np ⊢
      have ep := Ex.new (o := .lst [V.ref Du, .ref Du, .ref z0]) np
      have hp : upd H10 p (.lst [V.ref Du, .ref Du, .ref z0]) p = some (.lst [V.ref Du, .ref Du, .ref z0]) := upd_same
      generalize upd H10 p (.lst [V.ref Du, .ref Du, .ref z0]) = H11 at ep hp ⊢
      have e911 := ez0.trans ep
      have hDu11 := e911 _ _ (e58 _ _ hDu)
      refine ⟨_, _, .list [.list (hs2.map .int), .list (hs2.map .int), .list []], rfl, .lst (e911 _ _ hF) (.cons (dl (e911 _ _ g1)) (.cons (dl (e911 _ _ g2)) (.cons (.lst (e911 _ _ g3) .nil) .nil))), .lst hp (.cons (dl hDu11) (.cons (dl hDu11) (.cons (.lst (ep _ _ hz0) .nil) .nil))), ?_, fun H12 e12 => ⟨_, rfl, ite_ff rfl (next1 ?_)⟩⟩
      · have z : ∀ l : List Int, l.length ≤ 400 → okD 4 (.list (l.map .int)) = true := fun l hl => by
          show (decide ((l.map PyData.int).length ≤ 90000) && (l.map PyData.int).all (okD 3)) = true
          rw [decide_eq_true (by rw [List.length_map]; omega), Bool.true_and, List.all_eq_true]
          intro d hd
          obtain ⟨i, _, rfl⟩ := List.mem_map.mp hd
          rfl
        show (true && (okD 4 _ && (okD 4 _ && (okD 4 (.list []) && true)))) = true
        rw [z _ lhs]
        rfl
      have e912 := e911.trans e12
      have fl : ∀ {H' : Hp} {l : List Int}, SplAll H' 0 (l.map V.int) [] := fun {H' l} => spl_flat fun x hx => by
        obtain ⟨i, _, rfl⟩ := List.mem_map.mp hx
        exact ⟨_, .int i, rfl⟩
      have one : ∀ {H' : Hp} {z : Addr} {l : List Int}, l.length ≤ 1000 → H' z = some (.lst (l.map V.int)) → Spl H' 1 (.ref z) [z] := fun {H' z l} hl h => .lst h (by rw [List.length_map]; omega) fl fun w => by cases w
      have spl : Spl H12 2 (.ref F) (F :: ([L1] ++ ([L2] ++ ([L3] ++ [])))) := .lst (e912 _ _ hF) (by show 3 ≤ 600000; decide) (.cons (one (by omega) (e912 _ _ g1)) (.cons (one (by omega) (e912 _ _ g2)) (.cons (one (l := []) (by show 0 ≤ 1000; decide) (e912 _ _ g3)) .nil fun _ _ h => by cases h) (fun b h1 h2 => by simp at h1 h2; exact n23 (h1.symm.trans h2))) (fun b h1 h2 => by simp at h1 h2; rcases h2 with h2 | h2; exact n12 (h1.symm.trans h2); exact n13 (h1.symm.trans h2))) (fun h => by simp at h; rcases h with h | h | h; exact nF1 h; exact nF2 h; exact nF3 h)
      dsimp only
      refine seq1 ⟨_, rfl, _, _, rfl, spl, fun H13 k13 => ?_⟩
      have e513 : Ex H5 H13 := fun b o h => k13 b o (fun w => by
        simp at w
        rcases w with w | w | w | w
        · rw [w, w4] at h; cases h
        · rw [w, w1] at h; cases h
        · rw [w, w2] at h; cases h
        · rw [w, w3] at h; cases h) ((e58.trans e912) _ _ h)
      have S13 := S.ex (e05.trans e513)
      have e013 := e05.trans e513
      have hE13 : EvAt (off a c H13) Ev es := hEo.ex (Ex.offs (e5.trans e513))
      clear hEo spl k13 e912 e911 ez0 ep hz0 hp e12 e58 g1 g2 g3 hF w1 w2 w3 w4 nF1 nF2 nF3 n12 n13 n23 nz0 np hDu11 e513 hDu asc lhs e05 e5 hE e03 nE nD
      dsimp only
      have n0 := S13.n0
      have step : ∀ {Hk : Hp} {kk : Int} {z : Addr} {o : HO}, Ex (off a c H13) (off a c Hk) → Strm Hk a c kk → Hk z = none → Ex (off a c H13) (off a c (upd Hk z o)) ∧ Ex (off a c Hk) (off a c (upd Hk z o)) ∧ Strm (upd Hk z o) a c kk ∧ off a c (upd Hk z o) z = some o := fun {Hk kk z o} e s nz => by
        obtain ⟨za, zc⟩ := s.nea nz
        have e2 := Ex.offs (a := a) (c := c) (Ex.new (o := o) nz)
        exact ⟨e.trans e2, e2, s.ex (Ex.new nz), by rw [off_ne za zc]; exact upd_same⟩
      refine seq1 (asg1 ?_)
      refine ⟨Nat.zero_le _, fun z1 nz1 => ?_⟩
      obtain ⟨x1, y1, s1, q1⟩ := step (o := .lst []) (Ex.refl _) S13 nz1
      generalize upd H13 z1 (.lst []) = K1 at x1 y1 s1 q1 ⊢
      refine ⟨by show 1 ≤ sizeLine; decide, fun z2 nz2 => ?_⟩
      obtain ⟨x2, y2, s2, q2⟩ := step (o := .lst [V.int 1]) x1 s1 nz2
      generalize upd K1 z2 (.lst [V.int 1]) = K2 at x2 y2 s2 q2 ⊢
      refine ⟨_, rfl, _, rfl, _, _, rfl, rfl, a, c, k, n + 1, rfl, s2, by omega, by omega, by omega, fun K3 r3 e3 s3 r30 r31 => ⟨_, _, rfl, rfl, ⟨by show 1 ≤ sizeLine; decide, fun z3 nz3 => ?_⟩⟩⟩
      obtain ⟨x4, y4, s4, q4⟩ := step (o := .lst [V.int (1 + r3)]) (x2.trans e3) s3 nz3
      generalize upd K3 z3 (.lst [V.int (1 + r3)]) = K4 at x4 y4 s4 q4 ⊢
      refine ⟨by show 2 ≤ sizeLine; decide, fun z4 nz4 => ?_⟩
      obtain ⟨x5, y5, s5, q5⟩ := step (o := .lst [V.int 1, .int 1]) x4 s4 nz4
      generalize upd K4 z4 (.lst [V.int 1, .int 1]) = K5 at x5 y5 s5 q5 ⊢
      refine ⟨_, rfl, _, rfl, _, _, rfl, rfl, a, c, k + 1, n + 1, rfl, s5, by omega, by omega, by omega, fun K6 r6 e6 s6 r60 r61 => ⟨_, _, rfl, rfl, ⟨_, _, rfl, rfl, ⟨by show 2 ≤ sizeLine; decide, fun z5 nz5 => ?_⟩⟩⟩⟩
      obtain ⟨x7, y7, s7, q7⟩ := step (o := .lst [V.int 2, .int (1 + r6 + 1)]) (x5.trans e6) s6 nz5
      generalize upd K6 z5 (.lst [V.int 2, .int (1 + r6 + 1)]) = K7 at x7 y7 s7 q7 ⊢
      refine ⟨_, _, rfl, rfl, ⟨by decide, by decide, by decide⟩, ⟨by show 1 ≤ sizeLine; decide, fun z6 nz6 => ?_⟩⟩
      obtain ⟨x8, y8, s8, q8⟩ := step (o := .lst [V.int (10 ^ (18 : Int).toNat)]) x7 s7 nz6
      generalize upd K7 z6 (.lst [V.int (10 ^ (18 : Int).toNat)]) = K8 at x8 y8 s8 q8 ⊢
      refine ⟨by show 6 ≤ sizeLine; decide, fun F1 nF1 => gn1 ?_⟩
      obtain ⟨x9, y9, s9, q9⟩ := step (o := .lst [V.ref z1, .ref z2, .ref z3, .ref z4, .ref z5, .ref z6]) x8 s8 nF1
      obtain ⟨Fa, Fc⟩ := s8.nea nF1
      have nF13 : off a c H13 F1 = none := Evl.fresh_back x8 (off_none nF1)
      have old : ∀ {z : Addr} {o : HO}, off a c K8 z = some o → z ≠ F1 := fun {z o} h w => by rw [w, off_none nF1] at h; cases h
      generalize upd K8 F1 (.lst [V.ref z1, .ref z2, .ref z3, .ref z4, .ref z5, .ref z6]) = K9 at x9 y9 s9 q9 ⊢
      have o58 := e6.trans (y7.trans y8)
      have o28 := e3.trans (y4.trans (y5.trans o58))
      have els : ∀ q ∈ ([(z1, []), (z2, [1]), (z3, [1 + r3]), (z4, [1, 1]), (z5, [2, 1 + r6 + 1]), (z6, [10 ^ (18 : Int).toNat])] : Bs), off a c K9 q.1 = some (.lst (q.2.map V.int)) ∧ q.1 ≠ F1 ∧ Opt1 q.2 := fun q hq => by
        have fin : ∀ {z : Addr} {os : List Int}, off a c K8 z = some (.lst (os.map V.int)) → Opt1 os → off a c K9 z = some (.lst (os.map V.int)) ∧ z ≠ F1 ∧ Opt1 os := fun h o => ⟨y9 _ _ h, old h, o⟩
        simp only [List.mem_cons, List.not_mem_nil, or_false] at hq
        rcases hq with rfl | rfl | rfl | rfl | rfl | rfl
        · exact fin ((y2.trans o28) _ _ q1) ⟨⟨by show 0 ≤ 2; decide, (fun x hx => by cases hx), .nil⟩, fun x hx => by cases hx⟩
        · exact fin (o28 _ _ q2) ⟨⟨by show 1 ≤ 2; decide, (fun x hx => by simp at hx; omega), List.pairwise_singleton ..⟩, fun x hx => by simp at hx; omega⟩
        · exact fin ((y5.trans o58) _ _ q4) ⟨⟨by show 1 ≤ 2; decide, (fun x hx => by simp at hx; omega), List.pairwise_singleton ..⟩, fun x hx => by simp at hx; omega⟩
        · exact fin (o58 _ _ q5) ⟨⟨by show 2 ≤ 2; decide, (fun x hx => by simp at hx; omega), .cons (fun z hz => by simp at hz; omega) (List.pairwise_singleton ..)⟩, fun x hx => by simp at hx; omega⟩
        · exact fin (y8 _ _ q7) ⟨⟨by show 2 ≤ 2; decide, (fun x hx => by simp at hx; omega), .cons (fun z hz => by simp at hz; omega) (List.pairwise_singleton ..)⟩, fun x hx => by simp at hx; omega⟩
        · exact fin q8 ⟨⟨by show 1 ≤ 2; decide, (fun x hx => by simp at hx; rw [hx]; decide), List.pairwise_singleton ..⟩, fun x hx => by simp at hx; rw [hx]; decide⟩
      have hF9 : K9 F1 = some (.lst (List.map (fun q : Addr × List Int => V.ref q.1) [(z1, []), (z2, [1]), (z3, [1 + r3]), (z4, [1, 1]), (z5, [2, 1 + r6 + 1]), (z6, [10 ^ (18 : Int).toNat])])) := off_of q9
      have l6 : ([(z1, []), (z2, [1]), (z3, [1 + r3]), (z4, [1, 1]), (z5, [2, 1 + r6 + 1]), (z6, [10 ^ (18 : Int).toNat])] : Bs).length = 6 := rfl
      generalize ([(z1, []), (z2, [1]), (z3, [1 + r3]), (z4, [1, 1]), (z5, [2, 1 + r6 + 1]), (z6, [10 ^ (18 : Int).toNat])] : Bs) = bs0 at els hF9 l6
      clear o28 o58 old q1 q2 q4 q5 q7 q8 q9 y1 y2 y4 y5 y7 y8 y9 x1 x2 x4 x5 x7 x8 s1 s2 s3 s4 s5 s6 s7 s8 nz1 nz2 nz3 nz4 nz5 nz6 nF1 e3 e6 r30 r31 r60 r61
      dsimp only
      have hev : ∀ {H' : Hp}, Ex (off a c H13) (off a c H') → EvAt H' Ev es := fun e => (hE13.ex e).ex off_ex
      refine seq1 ⟨4, rfl, by decide, by decide, for_range (lo := 0) (n := (4 : Int).toNat) (fun i σ H' => ∃ (k' : Int) (bs : Bs) (v8 v9 : Option V), σ = [some (.ref a), some (.ref L), some (.ref m), some (.int n), some (.ref Ev), some (.ref Du), some (.ref F), some (.ref F1), v8, v9, none, none, none, none, none] ∧ Strm H' a c k' ∧ Ex (off a c H13) (off a c H') ∧ H' F1 = some (.lst bs.vs) ∧ (∀ q ∈ bs, off a c H' q.1 = some (.lst (q.2.map V.int)) ∧ q.1 ≠ F1 ∧ Opt1 q.2) ∧ bs.length ≤ 6 + i ∧ k' ≤ k + 2 + 2 * (i : Nat))
        ⟨k + 1 + 1, bs0, none, none, rfl, s9, x9, hF9, els, by omega, by omega⟩ (fun i σ H' hi q => ?_) (fun σ H' q => ?_)⟩
      · obtain ⟨k', bs, v8, v9, rfl, S', e', hF', els, lb, kb⟩ := q
        have hi : i < 4 := hi
        have k0 := S'.n0
        refine gn1 ?_
        dsimp only
        refine seq1 (asg1 ⟨_, rfl, _, rfl, _, rfl, a, c, k', n, rfl, S', by omega, by omega, by omega, fun H5 r e5 S5 r0 r1 => ?_⟩)
        obtain ⟨r, rfl⟩ := Int.eq_ofNat_of_zero_le r0
        have hr' : r < es.length := by omega
        have hes : es[r]? = some es[r] := List.getElem?_eq_getElem hr'
        have me : es[r] ∈ es := List.getElem_mem hr'
        have hE5 := hE13.ex (e'.trans e5)
        obtain ⟨ho, lbe⟩ := hok r _ hes
        obtain ⟨h1, h2⟩ := hE5.2 _ me
        have h3 := (hE13.2 _ me).2
        refine ix_row (v := .ref es[r].1) (.inl (off_of hE5.1)) (atI_nat (by rw [List.getElem?_map, hes]; rfl)) (gn1 ?_)
        generalize es[r] = e at ho lbe h1 h2 h3
        have hF5 : H5 F1 = some (.lst bs.vs) := off_of (e5 _ _ (by rw [off_ne Fa Fc]; exact hF'))
        have els5 : ∀ q ∈ bs, off a c H5 q.1 = some (.lst (q.2.map V.int)) ∧ q.1 ≠ F1 ∧ Opt1 q.2 := fun q hq => ⟨e5 _ _ (els q hq).1, (els q hq).2⟩
        have x5 := e'.trans e5
        dsimp only
        refine ⟨_, rfl, .inl ⟨rfl, _, SqL.of hF5⟩, tcons1 ⟨_, rfl, Nat.zero_le _, fun z nz => ?_⟩⟩
        obtain ⟨xz, yz, sz, qz⟩ := step (o := .lst []) x5 S5 nz
        have zF : z ≠ F1 := fun w => by rw [w, hF5] at nz; cases nz
        have hF6 : upd H5 z (.lst []) F1 = some (.lst bs.vs) := by rw [upd_ne (Ne.symm zF)]; exact hF5
        generalize upd H5 z (.lst []) = H6 at xz yz sz qz hF6 ⊢
        refine ⟨.list (e.2.map encI), .list [], .lst (SqL.of (off_of (yz _ _ h1))) (opts_dp fun q hq => off_of (yz _ _ (h2 q hq))), .lst (SqL.of (off_of qz)) .nil, opts_shaped e.2, by decide +kernel, _, rfl, ?_⟩
        have fin : ∀ {H7 : Hp} {kk : Int} {D : Addr} {cs : Bs}, Ex (off a c H6) (off a c H7) → Strm H7 a c kk → kk ≤ k' + 2 → H7 D = none → H7 F1 = some (.lst bs.vs) → (∀ q ∈ cs, off a c H7 q.1 = some (.lst (q.2.map V.int)) ∧ q.1 ≠ F1 ∧ Opt1 q.2) → cs.length ≤ 1 →
            ∃ (k' : Int) (bs2 : Bs) (v8 v9 : Option V), [some (V.ref a), some (.ref L), some (.ref m), some (.int n), some (.ref Ev), some (.ref Du), some (.ref F), some (.ref F1), some (.int (0 + (i : Nat))), some (.ref e.1), none, none, none, none, none] = [some (V.ref a), some (.ref L), some (.ref m), some (.int n), some (.ref Ev), some (.ref Du), some (.ref F), some (.ref F1), v8, v9, none, none, none, none, none] ∧ Strm (upd (upd H7 D (.lst cs.vs)) F1 (.lst (bs.vs ++ cs.vs))) a c k' ∧ Ex (off a c H13) (off a c (upd (upd H7 D (.lst cs.vs)) F1 (.lst (bs.vs ++ cs.vs)))) ∧ (upd (upd H7 D (.lst cs.vs)) F1 (.lst (bs.vs ++ cs.vs))) F1 = some (.lst bs2.vs) ∧ (∀ q ∈ bs2, off a c (upd (upd H7 D (.lst cs.vs)) F1 (.lst (bs.vs ++ cs.vs))) q.1 = some (.lst (q.2.map V.int)) ∧ q.1 ≠ F1 ∧ Opt1 q.2) ∧ bs2.length ≤ 6 + (i + 1) ∧ k' ≤ k + 2 + 2 * ((i + 1 : Nat) : Int) := fun {H7 kk D cs} e7 S7 k7 nD hF7 hcs lc => by
          obtain ⟨xd, yd, sd, qd⟩ := step (o := .lst cs.vs) (xz.trans e7) S7 nD
          generalize upd H7 D (.lst cs.vs) = H8 at xd yd sd ⊢
          have eq : off a c (upd H8 F1 (.lst (bs.vs ++ cs.vs))) = upd (off a c H8) F1 (.lst (bs.vs ++ cs.vs)) := off_upd_ne Fa Fc
          refine ⟨kk, bs ++ cs, _, _, rfl, sd.upd Fa Fc, ?_, ?_, fun q hq => ?_, ?_, ?_⟩
          · rw [eq]
            exact xd.mut nF13
          · rw [upd_same]
            exact congrArg (fun z => some (HO.lst z)) (List.map_append ..).symm
          · rw [eq]
            rcases List.mem_append.mp hq with hq | hq
            · obtain ⟨b1, b2, b3⟩ := els5 q hq
              exact ⟨by rw [upd_ne b2]; exact yd _ _ (e7 _ _ (yz _ _ b1)), b2, b3⟩
            · obtain ⟨b1, b2, b3⟩ := hcs q hq
              exact ⟨by rw [upd_ne b2]; exact yd _ _ b1, b2, b3⟩
          · rw [List.length_append]
            omega
          · omega
        have szz : ∀ {x : Nat}, x ≤ 1 → bs.vs.length + x ≤ sizeLine := fun {x} hx => by
          rw [List.length_map]
          exact Nat.le_trans (show bs.length + x ≤ 20 by omega) (by decide)
        cases hc : e.2 with
        | nil =>
          refine ite_ff rfl ⟨Nat.zero_le _, fun D nD => ?_⟩
          have DF : F1 ≠ D := fun w => by rw [w, nD] at hF6; cases hF6
          exact ⟨F1, D, _, _, rfl, rfl, (by rw [upd_ne DF]; exact hF6), upd_same, szz (Nat.zero_le _), fin (cs := []) (Ex.refl _) sz (by omega) nD hF6 (fun q hq => by cases hq) (Nat.zero_le _)⟩
        | cons q0 rr =>
          have l0 : 1 ≤ e.2.vs.length := by rw [hc]; show 1 ≤ _ + 1; omega
          rw [← hc]
          refine ite_tt (by rw [hc]; rfl) ⟨_, rfl, _, rfl, a, c, e.1, k' + 1, e.2.vs, rfl, sz, yz _ _ h1, l0, by rw [List.length_map]; omega, by omega, fun H7 x e7 S7 hx => ⟨by show 1 ≤ sizeLine; decide, fun D nD => ?_⟩⟩
          obtain ⟨q, hq, rfl⟩ := List.mem_map.mp hx
          have hF7 : H7 F1 = some (.lst bs.vs) := off_of (e7 _ _ (by rw [off_ne Fa Fc]; exact hF6))
          have DF : F1 ≠ D := fun w => by rw [w, nD] at hF7; cases hF7
          have qF : q.1 ≠ F1 := fun w => by
            have z := h3 q hq
            rw [w, nF13] at z
            cases z
          exact ⟨F1, D, _, _, rfl, rfl, (by rw [upd_ne DF]; exact hF7), upd_same, szz (by show 1 ≤ 1; decide), fin (cs := [q]) e7 S7 (by omega) nD hF7 (fun q' hq' => by
            rw [List.mem_singleton.mp hq']
            exact ⟨e7 _ _ (yz _ _ (h2 q hq)), qF, opt1_of (fun r hr => by
              obtain ⟨q, hq, rfl⟩ := List.mem_map.mp hr
              exact oks q hq) (by omega) ((ho.mem _).mp (List.mem_map.mpr ⟨q, hq, rfl⟩))⟩) (by show 1 ≤ 1; decide)⟩
      · obtain ⟨k', bs, v8, v9, rfl, S', e', hF', elsn, lb, kb⟩ := q
        have kb : k' ≤ k + 10 := by
          have z : ((4 : Int).toNat : Int) = 4 := by decide
          omega
        have lb : bs.length ≤ 10 := lb
        clear step els hF9 s9 x9
        dsimp only
        have lhs' : ∀ {l : List Int}, l.length ≤ 400 → okD 4 (.list (l.map .int)) = true := fun {l} hl => by
          show (decide ((l.map PyData.int).length ≤ 90000) && (l.map PyData.int).all (okD 3)) = true
          rw [decide_eq_true (by rw [List.length_map]; omega), Bool.true_and, List.all_eq_true]
          intro d hd
          obtain ⟨i, _, rfl⟩ := List.mem_map.mp hd
          rfl
        have dr3 : dr 3 = 8191 := by decide
        refine seq1 ⟨_, rfl, F1, rfl, ⟨_, SqL.of hF'⟩, for_list (K := K) (a := F1) (xs := bs.vs) (fun j σ H2 => ∃ (k2 : Int) (v5 v6 v10 v11 v12 : Option V), σ = [some (.ref a), some (.ref L), some (.ref m), some (.int n), some (.ref Ev), v5, v6, some (.ref F1), v8, v9, v10, v11, v12, none, none] ∧ Strm H2 a c k2 ∧ Ex (off a c H') (off a c H2) ∧ k2 ≤ k' + 8300 * (j : Nat))
          ⟨k', _, _, _, _, _, rfl, S', Ex.refl _, by omega⟩ (fun j σ H2 _ q => ?_) (fun j x σ H2 hx q => ?_) (fun σ H2 q => ?_)⟩
        · obtain ⟨k2, v5, v6, v10, v11, v12, rfl, S2, e2, kb2⟩ := q
          exact SqL.of (off_of (e2 _ _ (by rw [off_ne Fa Fc]; exact hF')))
        · obtain ⟨k2, v5, v6, v10, v11, v12, rfl, S2, e2, kb2⟩ := q
          have hj : j < bs.length := by
            have z := (List.getElem?_eq_some_iff.mp hx).1
            rw [List.length_map] at z
            exact z
          obtain ⟨q, hq, rfl⟩ := List.mem_map.mp (List.mem_of_getElem? hx)
          obtain ⟨b1, b2, b3⟩ := elsn q hq
          have k20 := S2.n0
          refine gn1 ?_
          dsimp only
          refine seq1 ⟨_, rfl, _, rfl, a, c, k2, .ref q.1, .list (q.2.map .int), off a c H', rfl, S2, e2, dints b1, b3.short.1, by rw [dr3]; omega, fun H4 v' d' G4 k4 e4 S4 c1 c2 rg hd4 hl4 => ?_⟩
          rw [dr3] at c2
          have x4 := (e'.trans e2).trans e4
          have Dv := hd4.ex rg.i
          obtain ⟨lv, hit⟩ := loo_lv b3 hl4
          have hv4 := hev x4
          refine ⟨_, rfl, Ev, _, rfl, SqL.of hv4.1, fun Dd nDd => ?_⟩
          refine lc_ev (fun h => AOpt (qs.map (·.2)) h q.2) hv4 (by omega) nDd (fun _ _ => rfl) (fun _ _ => rfl) (fun t e H5 A B he e5 kA kB => ?_) (fun H5 hs e5 hDd asc => ⟨_, _, rfl, ?_⟩)
          · obtain ⟨h1, h2⟩ := hv4.2 e (List.mem_of_getElem? he)
            obtain ⟨ho, lb⟩ := hok t e he
            have hq5 : H5 q.1 = some (.lst (q.2.map V.int)) := e5 _ _ (off_of ((e2.trans e4) _ _ b1))
            refine ⟨_, rfl, _, rfl, .list (q.2.map .int), e.2.map encI, .lst (SqL.of hq5) (dp_ints q.2), .lst (SqL.of (e5 _ _ h1)) (opts_dp fun q hq => e5 _ _ (h2 q hq)), shaped_ints q.2, opts_shaped e.2, _, rfl, ?_⟩
            rw [any_opts]
            by_cases w : q.2 ∈ e.2.map (·.2)
            · exact ite_tt (decide_eq_true w) (kA _ (Ex.refl _) ((ho.mem _).mp w))
            · exact ite_ff (decide_eq_false w) (kB _ (Ex.refl _) fun h => w ((ho.mem _).mpr h))
          obtain ⟨da, dc⟩ := S4.nea nDd
          have ask : ∀ {H6 : Hp} {Q2 : VK} {E2 : XK} {t : Int}, Ex (off a c H4) (off a c H6) → 0 ≤ t → t ≤ n → (∀ (L1 : Addr) H7 (hs1 : List Int), H6 L1 = none → Ex H6 H7 → H7 L1 = some (.lst (hs1.map V.int)) → AscI (fun h => 1 ≤ h ∧ h ≤ t ∧ AOpt (qs.map (·.2)) h q.2) hs1 → Q2 (.ref L1) H7) → spFrom CK CB CO CN [.ref m, v', .int t] H6 Q2 E2 := fun {H6 Q2 E2 t} e6 t0 t1 kk =>
            ⟨_, _, _, rfl, .inr ⟨m, rs, rfl, ((bk.ex (Ex.offs e013)).ex (x4.trans e6)).ex off_ex, by omega, modr, lowr, d', (Dv.ex e6).ex off_ex, fun z => (by rw [lv] at z; cases z), fun _ => ⟨.int t, .int t, fun z => noNum t0 z, fun os n' ho e' _ => by
              cases e'
              obtain rfl := ints_inj (ho.symm.trans hit)
              exact ⟨by omega, fun L1 H7 hs1 nL1 e7 hL1 a1 => kk L1 H7 hs1 nL1 e7 hL1 (a1.congr fun x => and_congr Iff.rfl (and_congr Iff.rfl (aopt_congr mem)))⟩⟩⟩⟩
          dsimp only
          refine seq1 (asg1 ?_)
          refine ⟨_, rfl, _, rfl, _, rfl, ?_⟩
          dsimp only [tNil]
          refine ask (Ex.offs e5) (by omega) (Int.le_refl _) fun L1 H6 hs1 nL1 e6 hL1 a1 => ?_
          refine ⟨_, rfl, _, rfl, _, rfl, rfl, rfl, ?_⟩
          dsimp only [tNil]
          refine ask (Ex.offs (e5.trans e6)) (by omega) (Int.le_refl _) fun L2 H7 hs2' nL2 e7 hL2 a2 => ?_
          have u1 : hs1 = hs := a1.uniq (asc.congr fun x => by rw [les])
          have u2 : hs2' = hs := a2.uniq (asc.congr fun x => by rw [les])
          subst u1
          subst u2
          refine ⟨by show 2 ≤ sizeLine; decide, fun F2 nF2 => gn1 ?_⟩
          have lhs : hs2'.length ≤ 400 := by have := asc.len; omega
          have eF := Ex.new (o := .lst [V.ref L1, .ref L2]) nF2
          have hF2 : upd H7 F2 (.lst [V.ref L1, .ref L2]) F2 = some (.lst [V.ref L1, .ref L2]) := upd_same
          have g1 := e7 _ _ hL1
          have n12 : L1 ≠ L2 := fun z => by rw [← z, hL1] at nL2; cases nL2
          have nFa : F2 ≠ L1 := fun z => by rw [z, g1] at nF2; cases nF2
          have nFb : F2 ≠ L2 := fun z => by rw [z, hL2] at nF2; cases nF2
          have w1 : H5 L1 = none := nL1
          have w2 : H5 L2 = none := Evl.fresh_back e6 nL2
          have w3 : H5 F2 = none := Evl.fresh_back (e6.trans e7) nF2
          have e58 := (e6.trans e7).trans eF
          have g1 := eF _ _ g1
          have g2 := eF _ _ hL2
          generalize upd H7 F2 (.lst [V.ref L1, .ref L2]) = H8 at hF2 e58 g1 g2 ⊢
          clear eF nL1 nL2 hL1 hL2 e6 e7 nF2 a1 a2
          refine seq1 ⟨_, rfl, _, rfl, _, rfl, by show 2 ≤ sizeLine; decide, fun p np => ?_⟩
          have ep := Ex.new (o := .lst [V.ref Dd, .ref Dd]) np
          have hp : upd H8 p (.lst [V.ref Dd, .ref Dd]) p = some (.lst [V.ref Dd, .ref Dd]) := upd_same
          generalize upd H8 p (.lst [V.ref Dd, .ref Dd]) = H9 at ep hp ⊢
          have hDd9 := ep _ _ (e58 _ _ hDd)
          refine ⟨_, _, .list [.list (hs2'.map .int), .list (hs2'.map .int)], rfl, .lst (ep _ _ hF2) (.cons (dl (ep _ _ g1)) (.cons (dl (ep _ _ g2)) .nil)), .lst hp (.cons (dl hDd9) (.cons (dl hDd9) .nil)), ?_, fun H10 e10 => ⟨_, rfl, ite_ff rfl (next1 ?_)⟩⟩
          · show (true && (okD 4 _ && (okD 4 _ && true))) = true
            rw [lhs' lhs]
            rfl
          have e810 := ep.trans e10
          have fl : ∀ {H' : Hp} {l : List Int}, SplAll H' 0 (l.map V.int) [] := fun {H' l} => spl_flat fun x hx => by
            obtain ⟨i, _, rfl⟩ := List.mem_map.mp hx
            exact ⟨_, .int i, rfl⟩
          have one : ∀ {H' : Hp} {z : Addr} {l : List Int}, l.length ≤ 1000 → H' z = some (.lst (l.map V.int)) → Spl H' 1 (.ref z) [z] := fun {H' z l} hl h => .lst h (by rw [List.length_map]; omega) fl fun w => by cases w
          have spl : Spl H10 2 (.ref F2) (F2 :: ([L1] ++ ([L2] ++ []))) := .lst (e810 _ _ hF2) (by show 2 ≤ 600000; decide) (.cons (one (by omega) (e810 _ _ g1)) (.cons (one (by omega) (e810 _ _ g2)) .nil fun _ _ h => by cases h) (fun b h1 h2 => by simp at h1 h2; exact n12 (h1.symm.trans h2))) (fun h => by simp at h; rcases h with h | h; exact nFa h; exact nFb h)
          dsimp only
          refine seq1 ⟨_, rfl, _, _, rfl, spl, fun H11 k11 => ?_⟩
          have e511 : Ex H5 H11 := fun b o h => k11 b o (fun w => by
            simp at w
            rcases w with w | w | w
            · rw [w, w3] at h; cases h
            · rw [w, w1] at h; cases h
            · rw [w, w2] at h; cases h) ((e58.trans e810) _ _ h)
          have S11 := S4.ex (e5.trans e511)
          have e411 := e5.trans e511
          have hDd11 := e511 _ _ hDd
          clear spl k11 e810 ep hp e10 e58 g1 g2 hF2 w1 w2 w3 nFa nFb n12 np hDd9
          dsimp only
          have k40 := S4.n0
          refine seq1 (asg1 ⟨_, rfl, _, rfl, _, _, rfl, rfl, a, c, k4, n + 1, rfl, S11, by omega, by omega, by omega, fun H12 few e12 S12 f0 f1 => gn1 ?_⟩)
          have hDd12 : H12 Dd = some (.lst (hs2'.map V.int)) := off_of (e12 _ _ (by rw [off_ne da dc]; exact hDd11))
          dsimp only
          refine ⟨_, rfl, _, rfl, _, rfl, ?_⟩
          dsimp only [tNil]
          refine ask ((Ex.offs e411).trans e12) f0 (by omega) fun L3 H13' hs3 nL3 e13 hL3 a3 => ?_
          refine lc_sel (i := 5) (j := 13) V.int (fun x => decide (x ≤ few)) hs2' rfl (e13 _ _ hDd12) (by omega) (fun x H14 A B hx e14 kA kB => gn1 ⟨rfl, _, rfl, _, rfl, _, _, rfl, rfl, _, rfl, ?_⟩) (fun D9 H15 nD9 e15 hD9 => ?_)
          · by_cases w : x ≤ few
            · exact ite_tt (decide_eq_true w) ⟨_, rfl, kA _ (Ex.refl _) (decide_eq_true w)⟩
            · exact ite_ff (decide_eq_false w) (kB _ (Ex.refl _) (decide_eq_false w))
          have u3 : hs3 = hs2'.filter (fun x => decide (x ≤ few)) := a3.uniq ((asc.congr fun x => by rw [les]).few (by omega))
          rw [← u3] at hD9
          have l3 : hs3.length ≤ 400 := by
            have z := asc_len (a := 1) (b := few) a3.1 (fun x hx => ⟨((a3.2 x).mp hx).1, ((a3.2 x).mp hx).2.1⟩) (by omega)
            omega
          refine ⟨_, _, .list (hs3.map .int), rfl, dl (e15 _ _ hL3), dl hD9, okD_up (lhs' l3), fun H16 e16 => ⟨_, rfl, ite_ff rfl ?_⟩⟩
          exact ⟨k4 + 1, _, _, _, _, _, rfl, S12.ex ((e13.trans e15).trans e16), (e2.trans e4).trans (((Ex.offs e411).trans e12).trans (Ex.offs ((e13.trans e15).trans e16))), by omega⟩
        · obtain ⟨k2, v5, v6, v10, v11, v12, rfl, S2, e2, kb2⟩ := q
          rw [List.length_map] at kb2
          exact kq H2 k2 ((Ex.offs e013).trans (e'.trans e2)) S2 (by omega)
end
end Ts


set_option Elab.async false
set_option linter.all false
set_option maxRecDepth 100000
set_option maxHeartbeats 4000000
namespace Ts
open PySem PySem.Spec L2
open Evl (Ex)
section
variable {P : Program} {w : World} {K : PySem.W.Frag} {mg : Str → Option Value} {base : Heap}
abbrev s_wide := top 63
theorem sc_wide : FnScope ["stream", "way"] ["stream"] (defScope s_wide) := ⟨rfl, rfl, rfl, by decide +kernel, rfl, by decide +kernel, by decide +kernel⟩
theorem ok_wide {f f1 f3 : Addr} {fd fd1 fd3 : FuncData} (F : FD K mg "_law_b_wide" "_law_b_wide" s_wide f fd) (T : Bl mg) (F_draw : FD K mg "_law_draw" "_law_draw" s_draw f1 fd1)
    (F_arules : FD K mg "_law_a_rules" "_law_a_rules" s_arules f3 fd3) (G_arules : FnOk P w K mg base CX0 4 f3 fd3 ["stream", "way", "many", "far", "turns"] spArules) : FnOk P w K mg base CX0 5 f fd ["stream"] spAbook := by
  have G_draw : FnOk P w K mg base CX0 1 f1 fd1 ["stream", "many"] spDraw := ok_draw F_draw T
  have b_draw := b_draw F_draw
  have b_arules : Binds K fd3 ["stream", "way", "many", "far", "turns"] [] := F_arules.F.binds fun _ _ _ _ _ _ us hl => match us, hl with | [_, _, _, _, _], _ => rfl
  refine F.F.ok sc_wide (fun vs H Q E h => ?_) (fun cdv A outer s H vs Q E hr h => ?_)
  · obtain ⟨a, c, n, rfl, _⟩ := h
    rfl
  · obtain ⟨a, c, n, rfl, S, nz, k⟩ := h
    have nd := sc_wide.nd
    have big : (2 : Int) ^ 39 + 1100 < 2 ^ 40 := by decide
    refine ⟨_, (pss_cons (ps_set (i := 1) nd rfl (Or.inl rfl) (pe_call G_draw (hr.mono (by decide)) (by rfl) F_draw.g F_draw.F.kp b_draw .nil pass0 (pa_cons (pv 0) (pa_cons pe_int pa_nil))))
      (pss_one (ps_ret (pe_call G_arules (hr.mono (by decide)) (by rfl) F_arules.g F_arules.F.kp b_arules .nil pass0 (pa_cons (pv 0) (pa_cons (pv 1) (pa_cons (pe_ifExp (pt_cmpR op_eq (pv 1) pe_int (nomark _)) pe_int pe_int) (pa_cons pe_int (pa_cons pe_int pa_nil))))))))), ?_⟩
    refine seq1 (asg1 ⟨_, rfl, a, c, n, 3, rfl, S, by decide, by decide, by omega, fun H1 r e1 S1 r0 r1 => gn1 ?_⟩)
    dsimp only
    have fin : ∀ many : Int, 0 ≤ many → many ≤ 6 → spArules [.ref a, .int r, .int many, .int 6, .int 6] H1 Q E0 := fun many m0 m1 =>
      ⟨a, c, n + 1, r, many, 6, 6, rfl, S1, r0, by omega, m0, m1, by decide, by decide, by decide, by decide, by omega, fun H4 n4 L qs e4 S4 b1 b2 nL hL hz good => k H4 n4 L qs (e1.trans e4) S4 (by omega) (by omega) (off_back e1 S1 nL) hL hz good⟩
    refine ⟨_, rfl, _, rfl, _, rfl, rfl, _, rfl, ?_⟩
    by_cases c1 : r = 2
    · exact ite_tt (by rw [dec_z]; exact decide_eq_true c1) (fin 5 (by decide) (by decide))
    · exact ite_ff (by rw [dec_z]; exact decide_eq_false c1) (fin 6 (by decide) (by decide))
end
end Ts


set_option Elab.async false
set_option linter.all false
set_option maxRecDepth 100000
set_option maxHeartbeats 2000000
namespace Ts
open PySem PySem.Spec L2 LamX
open Evl (Ex)

/-! ## how many options there are at most -/
def code : List Int → Int
  | [] => 0
  | [x] => x
  | a :: b :: _ => 31 * a + b
/-- a short list of small numbers -/
def Small (n : Int) (ns : List Int) : Prop := ns = [] ∨ (∃ x, ns = [x] ∧ 1 ≤ x ∧ x ≤ n) ∨ ∃ a b, ns = [a, b] ∧ 1 ≤ a ∧ a ≤ n ∧ 1 ≤ b ∧ b ≤ n
theorem aopt_small {rs : List Rl} {n : Int} {ns : List Int} (low : ∀ r ∈ rs, 0 ≤ r.low) (h : AOpt rs n ns) : Small n ns := by
  rcases h with ⟨h, _⟩ | ⟨x, h, r, hr, _, hl, h1⟩ | ⟨t, a, h, ⟨r, hr, _, hl, h2⟩, a1, a2⟩
  · exact .inl h
  · have := low r hr
    have := hl.2.1
    exact .inr (.inl ⟨x, h, h1, by omega⟩)
  · have := low r hr
    have := hl.2.1
    exact .inr (.inr ⟨a, t - a, h, a1, by omega, by omega, by omega⟩)
theorem code_inj {n : Int} (hn : n ≤ 30) {x y : List Int} (hx : Small n x) (hy : Small n y) (e : code x = code y) : x = y := by
  rcases hx with rfl | ⟨u, rfl, u1, u2⟩ | ⟨a, b, rfl, a1, a2, b1, b2⟩ <;> rcases hy with rfl | ⟨v, rfl, v1, v2⟩ | ⟨c, d, rfl, c1, c2, d1, d2⟩
  · rfl
  · have e : 0 = v := e
    omega
  · have e : 0 = 31 * c + d := e
    omega
  · have e : u = 0 := e
    omega
  · have e : u = v := e
    rw [e]
  · have e : u = 31 * c + d := e
    omega
  · have e : 31 * a + b = 0 := e
    omega
  · have e : 31 * a + b = v := e
    omega
  · have e : 31 * a + b = 31 * c + d := e
    have h1 : a = c := by omega
    have h2 : b = d := by omega
    rw [h1, h2]
theorem code_le {n : Int} (hn : n ≤ 30) {x : List Int} (hx : Small n x) : 0 ≤ code x ∧ code x < ((961 : Nat) : Int) := by
  rcases hx with rfl | ⟨u, rfl, u1, u2⟩ | ⟨a, b, rfl, a1, a2, b1, b2⟩
  · exact ⟨by decide, by decide⟩
  · show 0 ≤ u ∧ u < _
    omega
  · show 0 ≤ 31 * a + b ∧ 31 * a + b < _
    omega
theorem opts_len {rs : List Rl} {n : Int} {l : List (List Int)} (h : Opts (AOpt rs n) l) (low : ∀ r ∈ rs, 0 ≤ r.low) (hn : n ≤ 30) : l.length ≤ 961 := by
  have sm : ∀ x ∈ l, Small n x := fun x hx => aopt_small low ((h.mem x).mp hx)
  have nd : (l.map code).Nodup := List.pairwise_map.mpr (h.nd.imp_of_mem fun {x y} hx hy ne e => ne (code_inj hn (sm x hx) (sm y hy) e))
  have z := nodup_len 961 (l.map code) nd fun c hc => by
    obtain ⟨x, hx, rfl⟩ := List.mem_map.mp hc
    exact code_le hn (sm x hx)
  rw [List.length_map] at z
  exact z
/-- lists of ints, told as data -/
theorem dall_bs {H : Hp} : ∀ {vs : List V} {ls : List (List Int)}, DAll H vs (ls.map fun l => .list (l.map .int)) → ∃ bs : Bs, vs = bs.vs ∧ bs.map (·.2) = ls ∧ ∀ q ∈ bs, H q.1 = some (.lst (q.2.map V.int))
  | [], [], _ => ⟨[], rfl, rfl, fun q hq => by cases hq⟩
  | [], _ :: _, h => by cases h
  | _ :: _, [], h => by cases h
  | v :: vs, l :: ls, h => by
    cases h with
    | cons h r =>
      obtain ⟨bs, e1, e2, e3⟩ := dall_bs r
      cases h with
      | lst hz ha =>
        rename_i z xs
        have hx := dall_ints ha
        subst hx
        exact ⟨(z, l) :: bs, by rw [e1]; rfl, by rw [List.map_cons, e2], fun q hq => by
          rcases List.mem_cons.mp hq with rfl | hq
          · exact hz
          · exact e3 q hq⟩
theorem asc_from2 : AscI (fun h => 1 ≤ h ∧ h ≤ 9 ∧ AOpt [wr1, wr2, wr3] h [2]) [3, 4] := by
  refine ⟨by decide, fun x => ?_⟩
  dsimp only
  rw [aopt_w]
  constructor
  · intro h
    simp at h
    refine ⟨by omega, by omega, .inr (.inl ⟨2, rfl, by omega, by omega, by decide⟩)⟩
  · rintro ⟨h1, h2, ⟨h, _⟩ | ⟨y, e, h3, h4, h5⟩ | ⟨y, e, _⟩⟩
    · cases h
    · cases e
      have : x = 3 ∨ x = 4 := by omega
      rcases this with rfl | rfl <;> decide
    · cases e
theorem asc_from0 : AscI (fun h => 1 ≤ h ∧ h ≤ 400 ∧ AOpt [wr1, wr2, wr3] h []) [2] := by
  refine ⟨by decide, fun x => ?_⟩
  dsimp only
  rw [aopt_w]
  constructor
  · intro h
    simp at h
    exact ⟨by omega, by omega, .inl ⟨rfl, h⟩⟩
  · rintro ⟨h1, h2, ⟨_, h⟩ | ⟨y, e, _⟩ | ⟨y, e, _⟩⟩
    · rw [h]
      decide
    · cases e
    · cases e
theorem asc_from400 : AscI (fun h => 1 ≤ h ∧ h ≤ 400 ∧ AOpt [wr1, wr2, wr3] h [3, 397]) [400] := by
  refine ⟨by decide, fun x => ?_⟩
  dsimp only
  rw [aopt_w]
  constructor
  · intro h
    simp at h
    subst h
    exact ⟨by decide, by decide, .inr (.inr ⟨3, rfl, by decide, by decide, by decide, by decide⟩)⟩
  · rintro ⟨h1, h2, ⟨e, h⟩ | ⟨y, e, _⟩ | ⟨y, e, h3, h4, h5, h6⟩⟩
    · cases e
    · cases e
    · simp at e
      have : x = 400 := by omega
      rw [this]
      decide
theorem asc_ends : AscI (fun h => 1 ≤ h ∧ h ≤ 9 ∧ ∀ ns, ¬ AOpt [wr1, wr2, wr3] h ns) [1] := by
  refine ⟨by decide, fun x => ?_⟩
  constructor
  · intro h
    simp at h
    subst h
    refine ⟨by decide, by decide, fun ns h => ?_⟩
    rw [aopt_w] at h
    rcases h with ⟨_, h⟩ | ⟨y, _, h1, h2, h3⟩ | ⟨y, _, _, h, _⟩
    · cases h
    · omega
    · omega
  · rintro ⟨h1, h2, h3⟩
    by_cases c : x = 1
    · rw [c]
      decide
    · exact absurd (aopt_w.mpr (.inr (.inl ⟨x - 1, rfl, by omega, by omega, by omega⟩))) (h3 [x - 1])
theorem asc_none : AscI (fun h => 1 ≤ h ∧ h ≤ 3 ∧ ∀ ns, ¬ AOpt [] h ns) [1, 2, 3] := by
  refine ⟨by decide, fun x => ?_⟩
  constructor
  · intro h
    simp at h
    exact ⟨by omega, by omega, fun ns h => aopt_none h⟩
  · rintro ⟨h1, h2, _⟩
    have : x = 1 ∨ x = 2 ∨ x = 3 := by omega
    rcases this with rfl | rfl | rfl <;> decide
theorem ways_w : waysD (sortR [wr1, wr2, wr3]) 4 [2] = .list [.tuple [wr1.d, .int 2]] := by
  have p : (sortR [wr1, wr2, wr3]).Perm [wr1, wr2, wr3] := List.mergeSort_perm _ _
  have z := (p.filter fun r => wayB r 4 [2])
  rw [show [wr1, wr2, wr3].filter (fun r => wayB r 4 [2]) = [wr1] by decide +kernel] at z
  have e := List.perm_singleton.mp z
  unfold waysD
  rw [e]
  rfl
theorem to_off {a c : Addr} {H H' : Hp} (e : Ex (nt (off a c H)) H') : Ex (nt (off a c H)) (off a c H') := fun b o h => by
  have z := (nt_of h).1
  by_cases c1 : b = a ∨ b = c
  · unfold off at z
    rw [if_pos c1] at z
    cases z
  · show off a c H' b = _
    unfold off
    rw [if_neg c1]
    exact e b o h
theorem ite_both {c : Bool} {A : Prop} (h : A) : if c = true then A else A := by
  split <;> exact h
section
variable {P : Program} {w : World} {K : PySem.W.Frag} {mg : Str → Option Value} {base : Heap}
abbrev s_law := top 68
abbrev NL : List Str := ["script", "stream", "turn", "raw", "made", "heap", "some", "great", "found", "due"]
theorem sc_law : FnScope NL ["script"] (defScope s_law) := ⟨rfl, rfl, rfl, by decide +kernel, rfl, by decide +kernel, by decide +kernel⟩
def spLaw (K : PySem.W.Frag) (TS : List (Addr × Str)) : Sp := fun vs H Q _ => ∃ (s : Addr) (ns : List Int), vs = [.ref s] ∧ SqL K H s (ns.map V.int) ∧ Tabs TS H ∧ ∀ H', Q (.bl true) H'
/-- Book(raw), raw the written rules -/
theorem made_wr {CK CR p dx rw : Addr} {rs : List Rl} (h : rs = [wr1, wr2, wr3] ∨ rs = []) {H : Hp} (np : H p = none) (ndx : H dx = none) (Dr : D H (.ref rw) (.list (rs.map Rl.d))) {Q : VK} {E : XK}
    (k : ∀ H', Ex H H' → BookAt CK H' p (sortR rs) → Q .non H') : spBook CK CR [.ref p, .ref rw] (upd (upd H dx (.own p)) p (.ins CK dx [])) Q E := by
  have bw := book_wr h
  have eb := new_del (C := CK) np ndx
  refine ⟨p, dx, .ref rw, _, rfl, upd_same, Dr.ex eb, bw.2.2.1, bw.2.2.2.1, fun z => absurd bw.1 z, fun _ J ec bk _ => k J (eb.trans ec) ?_⟩
  have z : (items (.list (rs.map Rl.d))).map rlOf = rs := bw.2.1
  rw [z] at bk
  exact bk
theorem ok_law {TS : List (Addr × Str)} {f f1 f2 f3 f4 f5 f6 f7 f8 f9 f10 f11 f12 f13 f14 fI CK CR : Addr} {Z gZ : Cs} {fd fd1 fd2 fd3 fd4 fd5 fd6 fd7 fd8 fd9 fd10 fd11 fd12 fd13 fd14 fdI : FuncData} (F : FD K mg "law" "law" s_law f fd)
    (F_start : FD K mg "_law_start" "_law_start" s_start f1 fd1) (G_start : FnOk P w K mg base CX0 1 f1 fd1 ["script"] (spStart K))
    (F_draw : FD K mg "_law_draw" "_law_draw" s_draw f2 fd2)
    (F_abook : FD K mg "_law_a_book" "_law_a_book" s_abook f3 fd3) (G_abook : FnOk P w K mg base CX0 5 f3 fd3 ["stream"] spAbook)
    (F_wide : FD K mg "_law_b_wide" "_law_b_wide" s_wide f4 fd4) (G_wide : FnOk P w K mg base CX0 5 f4 fd4 ["stream"] spAbook)
    (F_amade : FD K mg "_law_a_made" "_law_a_made" s_amade f5 fd5) (G_amade : FnOk P w K mg base CX0 7 f5 fd5 ["stream", "raw"] (spAmade CK))
    (F_mixed : FD K mg "_law_mixed" "_law_mixed" s_mixed f6 fd6) (F_aopts : FD K mg "_law_a_options" "_law_a_options" s_aopts f7 fd7) (G_aopts : FnOk P w K mg base CX0 2 f7 fd7 ["raw", "heap"] spAopts)
    (F_wr : FD K mg "_law_ways_right" "_law_ways_right" s_wr f8 fd8) (G_wr : GOk P w K mg base CX0 12 f8 fd8 ["stream", "raw", "made", "heap", "some"] (spWaysRight CK TS))
    (F_back : FD K mg "_law_back_right" "_law_back_right" s_back f9 fd9) (G_back : FnOk P w K mg base CX0 8 f9 fd9 ["stream", "raw", "made", "most"] (spBack CK))
    (F_wt : FD K mg "ways_to" "ways_to" s_ways_to f10 fd10) (G_wt : FnOk P w K mg base (L2.CX P w) 9 f10 fd10 ["book", "heap", "option"] (spWaysTo CK Z.b Z.h Z.o))
    (F_from : FD K mg "heaps_from" "heaps_from" s_from f11 fd11) (G_from : FnOk P w K mg base (L2.CX P w) 6 f11 fd11 ["book", "option", "most"] (spFrom CK Z.b Z.o Z.n))
    (F_ends : FD K mg "ends" "ends" s_ends f12 fd12) (G_ends : FnOk P w K mg base (L2.CX P w) 6 f12 fd12 ["book", "most"] (spEnds CK Z.b Z.n))
    (F_same : FD K mg "_law_same" "_law_same" s_same f13 fd13)
    (F_ref : FD K mg "_law_refused_right" "_law_refused_right" s_refused f14 fd14) (G_ref : FnOk P w K mg base CX0 12 f14 fd14 ["made"] (spRefused CK TS))
    (BC : BkMade K mg CK fI) (F_I : Fun K "__init__" "Book.__init__" s_binit fI fdI) (G_binit : FnOk P w K mg base (L2.CX P w) 5 fI fdI ["self", "rules"] (spBook CK CR)) (T : Bl mg) :
    GOk P w K mg base CX0 13 f fd ["script"] (spLaw K TS) := by
  have G_draw : FnOk P w K mg base CX0 1 f2 fd2 ["stream", "many"] spDraw := ok_draw F_draw T
  have G_mixed : FnOk P w K mg base CX0 2 f6 fd6 ["stream", "some"] spMixed := ok_mixed F_mixed F_draw T
  have G_same : FnOk P w K mg base CX0 6 f13 fd13 ["found", "due"] (spSame 6) := ok_same F_same T 6
  have b_start : Binds K fd1 ["script"] [] := F_start.F.binds fun _ _ _ _ _ _ us hl => match us, hl with | [_], _ => rfl
  have b_draw := b_draw F_draw
  have b_abook : Binds K fd3 ["stream"] [] := F_abook.F.binds fun _ _ _ _ _ _ us hl => match us, hl with | [_], _ => rfl
  have b_wide : Binds K fd4 ["stream"] [] := F_wide.F.binds fun _ _ _ _ _ _ us hl => match us, hl with | [_], _ => rfl
  have b_amade : Binds K fd5 ["stream", "raw"] [] := F_amade.F.binds fun _ _ _ _ _ _ us hl => match us, hl with | [_, _], _ => rfl
  have b_mixed : Binds K fd6 ["stream", "some"] [] := F_mixed.F.binds fun _ _ _ _ _ _ us hl => match us, hl with | [_, _], _ => rfl
  have b_aopts : Binds K fd7 ["raw", "heap"] [] := F_aopts.F.binds fun _ _ _ _ _ _ us hl => match us, hl with | [_, _], _ => rfl
  have b_wr : Binds K fd8 ["stream", "raw", "made", "heap", "some"] [] := F_wr.F.binds fun _ _ _ _ _ _ us hl => match us, hl with | [_, _, _, _, _], _ => rfl
  have b_back : Binds K fd9 ["stream", "raw", "made", "most"] [] := F_back.F.binds fun _ _ _ _ _ _ us hl => match us, hl with | [_, _, _, _], _ => rfl
  have b_wt : Binds K fd10 ["book", "heap", "option"] [] := F_wt.F.binds fun _ _ _ _ _ _ us hl => match us, hl with | [_, _, _], _ => rfl
  have b_from : Binds K fd11 ["book", "option", "most"] [] := F_from.F.binds fun _ _ _ _ _ _ us hl => match us, hl with | [_, _, _], _ => rfl
  have b_ends : Binds K fd12 ["book", "most"] [] := F_ends.F.binds fun _ _ _ _ _ _ us hl => match us, hl with | [_, _], _ => rfl
  have b_same : Binds K fd13 ["found", "due"] [] := F_same.F.binds fun _ _ _ _ _ _ us hl => match us, hl with | [_, _], _ => rfl
  have b_ref : Binds K fd14 ["made"] [] := F_ref.F.binds fun _ _ _ _ _ _ us hl => match us, hl with | [_], _ => rfl
  have b_binit : Binds K fdI ["self", "rules"] [] := F_I.binds fun _ _ _ _ _ _ us hl => match us, hl with | [_, _], _ => rfl
  refine okG F.F sc_law (fun vs H Q E h => ?_) (fun cdv A outer s H vs Q E hA hr h => ?_)
  · obtain ⟨s, ns, rfl, _⟩ := h
    rfl
  · obtain ⟨sc, ns, rfl, hs, hT, kq⟩ := h
    have nd := sc_law.nd
    refine' ⟨_, ?rule, ?rest⟩
    case rule =>
      refine' pss_cons ?s1 (pss_cons (ps_for PassesOwn.never rfl (pi_range1 (by rfl) T.range (pa_cons pe_int pa_nil)) (pg_name (i := 2) nd rfl (Or.inl rfl)) (pss_cons ?a1 (pss_cons ?a2 (pss_cons (ps_for PassesOwn.never rfl (pi_tup ?it) (pg_name (i := 5) nd rfl (Or.inl rfl)) (pss_cons ?b1 (pss_one ?b2))) (pss_cons ?a4 (pss_cons ?a5 (pss_cons ?a6 (pss_one ?a7)))))))) (pss_cons ?c1 (pss_cons ?c2 (pss_cons ?c3 (pss_cons ?c4 (pss_one ?c5))))))
      case s1 =>
        exact (ps_set (i := 1) nd rfl (Or.inl rfl) (pe_call G_start (hr.mono (by decide)) (by rfl) F_start.g F_start.F.kp b_start .nil pass0 (pa_cons (pv 0) pa_nil)))
      case a1 =>
        exact (ps_set (i := 3) nd rfl (Or.inl rfl) (pe_ifExp (pt_cmpR op_lt (pv 2) pe_int (nomark _)) (pe_call G_abook (hr.mono (by decide)) (by rfl) F_abook.g F_abook.F.kp b_abook .nil pass0 (pa_cons (pv 1) pa_nil)) (pe_call G_wide (hr.mono (by decide)) (by rfl) F_wide.g F_wide.F.kp b_wide .nil pass0 (pa_cons (pv 1) pa_nil))))
      case a2 =>
        exact (ps_set (i := 4) nd rfl (Or.inl rfl) (pe_call G_amade (hr.mono (by decide)) (by rfl) F_amade.g F_amade.F.kp b_amade .nil pass0 (pa_cons (pv 1) (pa_cons (pv 3) pa_nil))))
      case it =>
        exact (pe_tup (pa_cons (pe_op op_add pe_int (pe_call G_draw (hr.mono (by decide)) (by rfl) F_draw.g F_draw.F.kp b_draw .nil pass0 (pa_cons (pv 1) (pa_cons pe_int pa_nil)))) (pa_cons (pe_op op_add pe_int (pe_call G_draw (hr.mono (by decide)) (by rfl) F_draw.g F_draw.F.kp b_draw .nil pass0 (pa_cons (pv 1) (pa_cons pe_int pa_nil)))) pa_nil)))
      case b1 =>
        exact (ps_set (i := 6) nd rfl (Or.inl rfl) (pe_slice (r := rSlL K) sl_list (pe_call G_mixed (hr.mono (by decide)) (by rfl) F_mixed.g F_mixed.F.kp b_mixed .nil pass0 (pa_cons (pv 1) (pa_cons (pe_call G_aopts (hr.mono (by decide)) (by rfl) F_aopts.g F_aopts.F.kp b_aopts .nil pass0 (pa_cons (pv 3) (pa_cons (pv 5) pa_nil))) pa_nil))) po_none (po_some pe_int)))
      case b2 =>
        exact (ps_if (pt_not (pt_val (pe_callG (E := fun _ _ _ => False) G_wr hA (hr.mono (by decide)) (by rfl) F_wr.g F_wr.F.kp b_wr (pa_cons (pv 1) (pa_cons (pv 3) (pa_cons (pv 4) (pa_cons (pv 5) (pa_cons (pv 6) pa_nil)))))))) (pss_one (ps_ret pe_bl)) pss_nil)
      case a4 =>
        exact (ps_set (i := 7) nd rfl (Or.inl rfl) (pe_op op_sub (pe_op op_pow pe_int pe_int) (pe_call G_draw (hr.mono (by decide)) (by rfl) F_draw.g F_draw.F.kp b_draw .nil pass0 (pa_cons (pv 1) (pa_cons pe_int pa_nil)))))
      case a5 =>
        exact (ps_set (i := 6) nd rfl (Or.inl rfl) (pe_lst (pa_cons (pe_lst (pa_cons (pe_op op_sub (pv 7) pe_int) pa_nil)) (pa_cons (pe_lst (pa_cons (pe_op op_sub (pv 7) pe_int) pa_nil)) (pa_cons (pe_lst (pa_cons pe_int (pa_cons (pe_op op_sub (pv 7) pe_int) pa_nil))) (pa_cons (pe_lst (pa_cons pe_int (pa_cons (pe_op op_sub (pv 7) pe_int) pa_nil))) (pa_cons (pe_lst (pa_cons (pe_op op_fdiv (pv 7) pe_int) (pa_cons (pe_op op_sub (pv 7) (pe_op op_fdiv (pv 7) pe_int)) pa_nil))) (pa_cons (pe_lst (pa_cons pe_int pa_nil)) pa_nil))))))))
      case a6 =>
        exact (ps_if (pt_not (pt_val (pe_callG (E := fun _ _ _ => False) G_wr hA (hr.mono (by decide)) (by rfl) F_wr.g F_wr.F.kp b_wr (pa_cons (pv 1) (pa_cons (pv 3) (pa_cons (pv 4) (pa_cons (pv 7) (pa_cons (pv 6) pa_nil)))))))) (pss_one (ps_ret pe_bl)) pss_nil)
      case a7 =>
        exact (ps_if (pt_not (pt_val (pe_call G_back (hr.mono (by decide)) (by rfl) F_back.g F_back.F.kp b_back .nil pass0 (pa_cons (pv 1) (pa_cons (pv 3) (pa_cons (pv 4) (pa_cons (pe_op op_add pe_int (pe_call G_draw (hr.mono (by decide)) (by rfl) F_draw.g F_draw.F.kp b_draw .nil pass0 (pa_cons (pv 1) (pa_cons pe_int pa_nil)))) pa_nil))))))) (pss_one (ps_ret pe_bl)) pss_nil)
      case c1 =>
        exact (ps_set (i := 4) nd rfl (Or.inl rfl) (pe_make BC.made G_binit (hr.mono (by decide)) (by rfl) BC.g b_binit .nil (passF rfl rfl) (pa_cons (pe_lst (pa_cons (pe_tup (pa_cons pe_int (pa_cons pe_int (pa_cons pe_str (pa_cons pe_int (pa_cons pe_int pa_nil)))))) (pa_cons (pe_tup (pa_cons pe_int (pa_cons pe_int (pa_cons pe_str (pa_cons pe_int (pa_cons pe_int pa_nil)))))) (pa_cons (pe_tup (pa_cons pe_int (pa_cons pe_int (pa_cons pe_str (pa_cons pe_int (pa_cons pe_int pa_nil)))))) pa_nil)))) pa_nil)))
      case c2 =>
        exact (ps_set (i := 8) nd rfl (Or.inl rfl) (pe_lst (pa_cons (pe_call G_wt (hr.mono (by decide)) (by rfl) F_wt.g F_wt.F.kp b_wt .nil (passF rfl rfl) (pa_cons (pv 4) (pa_cons pe_int (pa_cons (pe_lst (pa_cons pe_int pa_nil)) pa_nil)))) (pa_cons (pe_call G_from (hr.mono (by decide)) (by rfl) F_from.g F_from.F.kp b_from .nil (passF rfl rfl) (pa_cons (pv 4) (pa_cons (pe_lst (pa_cons pe_int pa_nil)) (pa_cons pe_int pa_nil)))) (pa_cons (pe_call G_ends (hr.mono (by decide)) (by rfl) F_ends.g F_ends.F.kp b_ends .nil (passF rfl rfl) (pa_cons (pv 4) (pa_cons pe_int pa_nil))) (pa_cons (pe_call G_ends (hr.mono (by decide)) (by rfl) F_ends.g F_ends.F.kp b_ends .nil (passF rfl rfl) (pa_cons (pe_make BC.made G_binit (hr.mono (by decide)) (by rfl) BC.g b_binit .nil (passF rfl rfl) (pa_cons (pe_lst pa_nil) pa_nil)) (pa_cons pe_int pa_nil))) pa_nil))))))
      case c3 =>
        exact (ps_expr (pe_bm PySem.F.plainAttrs_list PySem.F.slot_list_extend PySem.F.type_list_extend mt_extend (pv 8) (pa_cons (pe_lst (pa_cons (pe_call G_from (hr.mono (by decide)) (by rfl) F_from.g F_from.F.kp b_from .nil (passF rfl rfl) (pa_cons (pv 4) (pa_cons (pe_lst pa_nil) (pa_cons pe_int pa_nil)))) (pa_cons (pe_call G_from (hr.mono (by decide)) (by rfl) F_from.g F_from.F.kp b_from .nil (passF rfl rfl) (pa_cons (pv 4) (pa_cons (pe_lst (pa_cons pe_int (pa_cons pe_int pa_nil))) (pa_cons pe_int pa_nil)))) pa_nil))) pa_nil)))
      case c4 =>
        exact (ps_set (i := 9) nd rfl (Or.inl rfl) (pe_lst (pa_cons (pe_lst (pa_cons (pe_tup (pa_cons (pe_tup (pa_cons pe_int (pa_cons pe_int (pa_cons pe_str (pa_cons pe_int (pa_cons pe_int pa_nil)))))) (pa_cons pe_int pa_nil))) pa_nil)) (pa_cons (pe_lst (pa_cons pe_int (pa_cons pe_int pa_nil))) (pa_cons (pe_lst (pa_cons pe_int pa_nil)) (pa_cons (pe_lst (pa_cons pe_int (pa_cons pe_int (pa_cons pe_int pa_nil)))) (pa_cons (pe_lst (pa_cons pe_int pa_nil)) (pa_cons (pe_lst (pa_cons pe_int pa_nil)) pa_nil))))))))
      case c5 =>
        exact (ps_ret (pe_and (pe_call G_same (hr.mono (by decide)) (by rfl) F_same.g F_same.F.kp b_same .nil pass0 (pa_cons (pv 8) (pa_cons (pv 9) pa_nil))) (pe_one (pe_call G_ref (hr.mono (by decide)) (by rfl) F_ref.g F_ref.F.kp b_ref .nil pass0 (pa_cons (pv 4) pa_nil)))))
    case rest =>
      have big : (2 : Int) ^ 39 = 549755813888 := by decide
      have big3 : (2 : Int) ^ 40 = 1099511627776 := by decide
      refine ⟨_, rfl, sc, ns, rfl, hs, fun a c' H1 na nc S0 e1 => ?_⟩
      have t0 := hT.ext e1
      refine gn1 ?_
      dsimp only
      refine ⟨_, rfl, by decide, by decide, for_range (lo := 0) (n := (6 : Int).toNat) (fun i σ H' => ∃ (n' : Int) (v2 v3 v4 v5 v6 v7 : Option V), σ = [some (.ref sc), some (.ref a), v2, v3, v4, v5, v6, v7, none, none] ∧ Strm H' a c' n' ∧ Tabs TS H' ∧ n' ≤ 1300000 * (i : Nat))
        ⟨0, none, none, none, none, none, none, rfl, S0, t0, by omega⟩ (fun i σ H' hi q => ?_) (fun σ H' q => ?_)⟩
      · obtain ⟨n', v2, v3, v4, v5, v6, v7, rfl, S, tb, bn⟩ := q
        have n0 := S.n0
        have hi : i < 6 := hi
        refine gn1 ?_
        dsimp only
        refine ⟨_, rfl, _, _, rfl, rfl, _, rfl, ite_both ?_⟩
        refine ⟨_, rfl, a, c', n', rfl, S, by omega, fun H2 n2 L qs e2 S2 b1 b2 nL hL hz good => ?_⟩
        refine gn1 ?_
        dsimp only
        refine ⟨_, rfl, _, rfl, a, c', L, n2, qs, rfl, S2, hL, hz, good, by omega, fun H3 n3 m rs e3 S3 c1 c2 nm bk mem lr srt => ?_⟩
        refine gn1 ?_
        dsimp only
        refine ⟨_, rfl, a, c', n3, 5, rfl, S3, by decide, by decide, by omega, fun H4 r1 e4 S4 r10 r11 => ⟨_, _, rfl, rfl, ⟨_, rfl, a, c', n3 + 1, 30, rfl, S4, by decide, by decide, by omega, fun H5 r2 e5 S5 r20 r21 => ⟨_, _, rfl, rfl, ?_⟩⟩⟩⟩
        refine ⟨by show 2 ≤ sizeLine; decide, fun Tt nT => ?_⟩
        obtain ⟨la, lc⟩ := S5.nea nT
        have eh := Ex.new (o := .tup [V.int (1 + r1), .int (1 + r2)]) nT
        have e35 := (e4.trans e5).trans (Ex.offs (a := a) (c := c') eh)
        have S7 := S5.ex eh
        have hTt : upd H5 Tt (.tup [V.int (1 + r1), .int (1 + r2)]) Tt = some (.tup [V.int (1 + r1), .int (1 + r2)]) := upd_same
        have hTo : off a c' (upd H5 Tt (.tup [V.int (1 + r1), .int (1 + r2)])) Tt = some (.tup [V.int (1 + r1), .int (1 + r2)]) := by
          rw [off_ne la lc]
          exact upd_same
        have vals : ∀ x ∈ [V.int (1 + r1), .int (1 + r2)], ∃ v : Int, x = .int v ∧ 1 ≤ v ∧ v ≤ 30 := by
          intro x hx
          simp only [List.mem_cons, List.not_mem_nil, or_false] at hx
          rcases hx with rfl | rfl
          · exact ⟨_, rfl, by omega, by omega⟩
          · exact ⟨_, rfl, by omega, by omega⟩
        have tb7 := tabs_drawn S tb ((e2.trans e3).trans e35)
        have len : [V.int (1 + r1), .int (1 + r2)].length = 2 := rfl
        generalize upd H5 Tt (.tup [V.int (1 + r1), .int (1 + r2)]) = H7 at e35 S7 hTt hTo tb7 eh ⊢
        generalize [V.int (1 + r1), .int (1 + r2)] = xs at hTt hTo vals len ⊢
        have eR0 : Ex (nt (off a c' H7)) (off a c' H7) := fun b o h => (nt_of h).1
        have hLR : RsAt (nt (off a c' H7)) L qs := ⟨nt_at ((e3.trans e35) _ _ hL.1) (fun _ z => by cases z), fun q hq => nt_at ((e3.trans e35) _ _ (hL.2 q hq)) (fun _ z => by cases z)⟩
        have hTR := nt_at hTo fun _ z => by cases z
        have bkR := (bk.ex e35).nt
        have nR : ∀ {H' : Hp}, Ex (nt (off a c' H7)) (off a c' H') → Ex (nt (off a c' H7)) (nt (off a c' H')) := fun e => nt_nt e
        have toR : ∀ {H' : Hp}, Ex (nt (off a c' H7)) H' → Ex (nt (off a c' H7)) (off a c' H') := fun e => to_off e
        generalize nt (off a c' H7) = R at eR0 hLR hTR bkR nR toR
        have rsR : ∀ {H' : Hp}, Ex R H' → RsAt H' L qs := fun e => ⟨e _ _ hLR.1, fun q hq => e _ _ (hLR.2 q hq)⟩
        have oks : ∀ q ∈ qs, q.2.Ok := fun q m => (good.ok q m).ok
        have lows : ∀ q ∈ qs, q.2.low ≤ 1000 := fun q m => by have := (good.ok q m).low; omega
        have low0 : ∀ r ∈ qs.map (·.2), 0 ≤ r.low := fun r hr => by
          obtain ⟨q, hq, rfl⟩ := List.mem_map.mp hr
          exact (oks q hq).low0
        have srt : rs = (lawSort qs).map (·.2) := by
          obtain ⟨rs0, e0, p0⟩ := srt
          rw [e0]
          exact sort_same p0 oks
        refine ⟨Tt, rfl, ⟨xs, SqT.of hTt⟩, for_tup (K := K) (a := Tt) (xs := xs) (fun j σ H' => ∃ (k' : Int) (w2 v5 v6 : Option V), σ = [some (.ref sc), some (.ref a), w2, some (.ref L), some (.ref m), v5, v6, v7, none, none] ∧ Strm H' a c' k' ∧ Ex R (off a c' H') ∧ Tabs TS H' ∧ k' ≤ n3 + 2 + 310000 * (j : Nat))
          ⟨n3 + 1 + 1, _, v5, v6, rfl, S7, eR0, tb7, by omega⟩ (fun j σ H' _ q => ?_) (fun j x σ H' hx q => ?_) (fun σ H' q => ?_)⟩
        · obtain ⟨k', w2, v5, v6, rfl, S, ek, tb, bk⟩ := q
          exact SqT.of (off_of (ek _ _ hTR))
        · obtain ⟨k', w2, v5, v6, rfl, S, ek, tb, bk⟩ := q
          have k0 := S.n0
          obtain ⟨v, rfl, v1, v2⟩ := vals x (List.mem_of_getElem? hx)
          have hj : j < xs.length := (List.getElem?_eq_some_iff.mp hx).1
          refine gn1 ?_
          dsimp only
          refine seq1 (asg1 ?_)
          refine ⟨_, rfl, _, rfl, _, rfl, L, qs, v, rfl, rsR (fun b o h => off_of (ek b o h)), by omega, oks, lows, by omega, by omega, fun l H8 bs nl nw lb ho => ?_⟩
          obtain ⟨l1, l2⟩ := S.nea nl
          have S8 := S.ex nw.ex
          have e8 := ek.trans (Ex.offs (a := a) (c := c') nw.ex)
          have tb8 := tb.ext nw.ex
          have bl := opts_len ho low0 (by omega)
          rw [List.length_map] at bl
          have hel : ∀ q ∈ bs, off a c' H8 q.1 = some (.lst (q.2.map V.int)) := fun q hq => by
            obtain ⟨_, q2, q3⟩ := nw.el q hq
            obtain ⟨x1, x2⟩ := S.nea q2
            rw [off_ne x1 x2]
            exact q3
          have hl8 : off a c' H8 l = some (.lst (bs.map fun q => V.ref q.1)) := by
            rw [off_ne l1 l2]
            exact nw.at_
          have sm : ∀ q ∈ bs, q.2.length ≤ 2 ∧ ∀ x ∈ q.2, 0 ≤ x ∧ x ≤ 1000000000000000000 := fun q hq => by
            have z := aopt_small low0 ((ho.mem q.2).mp (List.mem_map_of_mem hq))
            rcases z with z | ⟨x, z, z1, z2⟩ | ⟨x, y, z, z1, z2, z3, z4⟩
            · rw [z]
              exact ⟨by decide, fun _ h => by cases h⟩
            · rw [z]
              refine ⟨by show 1 ≤ 2; decide, fun y hy => ?_⟩
              rw [List.mem_singleton.mp hy]
              omega
            · rw [z]
              refine ⟨by show 2 ≤ 2; decide, fun w hw => ?_⟩
              simp only [List.mem_cons, List.not_mem_nil, or_false] at hw
              rcases hw with rfl | rfl <;> omega
          clear nw ho
          refine ⟨a, c', l, k', _, rfl, S8, hl8, by rw [List.length_map]; omega, by omega, fun H9 M ys nM e9 S9 hM perm => ?_⟩
          rw [List.length_map] at S9
          obtain ⟨zs, rfl, pz⟩ := perm_map perm
          obtain ⟨cs, sub, lcs, ec⟩ : ∃ cs : Bs, cs.Sublist zs ∧ cs.length ≤ 8 ∧ cutV (zs.map fun q => V.ref q.1) none (some 8) = cs.map fun q => V.ref q.1 := by
            refine ⟨_, (List.take_sublist _ _).trans (List.drop_sublist _ _), ?_, by unfold cutV; rw [List.map_take, List.map_drop]⟩
            rw [HT.sIx_none, show (8 : Int) = ((8 : Nat) : Int) from rfl, HT.sIx_nat]
            rw [List.length_take]
            omega
          refine ⟨8, rfl, M, _, rfl, SqL.of (off_of hM), fun p np => ?_⟩
          rw [ec]
          have hel9 : ∀ q ∈ cs, off a c' H9 q.1 = some (.lst (q.2.map V.int)) := fun q hq => e9 _ _ (hel q (pz.mem_iff.mp (sub.subset hq)))
          have sm9 : ∀ q ∈ cs, q.2.length ≤ 2 ∧ ∀ x ∈ q.2, 0 ≤ x ∧ x ≤ 1000000000000000000 := fun q hq => sm q (pz.mem_iff.mp (sub.subset hq))
          obtain ⟨p1, p2⟩ := S9.nea np
          have ep := Ex.new (o := .lst (cs.map fun q => V.ref q.1)) np
          have S10 := S9.ex ep
          have e10 := (e8.trans e9).trans (Ex.offs (a := a) (c := c') ep)
          have tb10 := (tabs_drawn S8 tb8 e9).ext ep
          have hp10 : off a c' (upd H9 p (.lst (cs.map fun q => V.ref q.1))) p = some (.lst (cs.map fun q => V.ref q.1)) := by
            rw [off_ne p1 p2]
            exact upd_same
          have hel10 : ∀ q ∈ cs, off a c' (upd H9 p (.lst (cs.map fun q => V.ref q.1))) q.1 = some (.lst (q.2.map V.int)) := fun q hq => Ex.offs (a := a) (c := c') ep _ _ (hel9 q hq)
          generalize upd H9 p (.lst (cs.map fun q => V.ref q.1)) = H10 at S10 e10 tb10 hp10 hel10 ⊢
          refine gn1 ?_
          dsimp only
          refine ⟨_, rfl, _, rfl, _, rfl, _, rfl, _, rfl, a, c', L, m, p, v, k' + bs.length, qs, rs, cs, rfl, S10, rsR e10, hz, good, bkR.ex e10, srt, by omega, by omega, hp10, fun q hq => ⟨hel10 q hq, sm9 q hq⟩, by omega, tb10, by omega, fun H11 k11 e11 S11 d1 tb11 => ⟨_, rfl, ite_ff rfl ?_⟩⟩
          exact ⟨k11, _, _, _, rfl, S11, toR ((nR e10).trans e11), tb11, by omega⟩
        · obtain ⟨k', w2, v5, v6, rfl, S8, ek, tb8, bk8⟩ := q
          have k0 := S8.n0
          rw [len] at bk8
          dsimp only
          refine seq1 (asg1 ?_)
          refine ⟨_, _, rfl, rfl, ⟨by decide, by decide, by decide⟩, _, rfl, a, c', k', 50, rfl, S8, by decide, by decide, by omega, fun H9 r e9 S9 r0 r9 => ⟨_, _, rfl, rfl, gn1 ?_⟩⟩
          obtain ⟨g, hg⟩ : ∃ g : Int, g = 10 ^ (18 : Int).toNat - r := ⟨_, rfl⟩
          dsimp only
          rw [← hg]
          rw [show (10 : Int) ^ (18 : Int).toNat = 1000000000000000000 by decide] at hg
          have ek9 := ek.trans e9
          have tb9 := tabs_drawn S8 tb8 e9
          clear ek e9 tb8 S8
          refine seq1 ?_
          have dg : g / 2 * 2 ≤ g ∧ g ≤ g / 2 * 2 + 1 := by omega
          refine asg1 (lst1 (GvA.use (ds := [[g - 1], [g - 3], [1, g - 1], [7, g - 8], [g / 2, g - g / 2], [5]].map fun l => .list (l.map .int)) (R := off a c' H9) (.cons (.lst (.cons (.op0 (.var rfl (.int _)) .int) .nil)) (.cons (.lst (.cons (.op0 (.var rfl (.int _)) .int) .nil)) (.cons (.lst (.cons .int (.cons (.op0 (.var rfl (.int _)) .int) .nil))) (.cons (.lst (.cons .int (.cons (.op0 (.var rfl (.int _)) .int) .nil))) (.cons (.lst (.cons (.op1 ⟨by decide, by decide⟩ (.var rfl (.int _)) .int) (.cons (.op0 (.var rfl (.int _)) (.op1 ⟨by decide, by decide⟩ (.var rfl (.int _)) .int)) .nil))) (.cons (.lst (.cons .int .nil)) .nil)))))) (Ex.refl _) off_ex fun vs G1 H10 rg hd => ⟨by rw [hd.len2]; show 6 ≤ sizeLine; decide, fun U nU => gn1 ?_⟩))
          obtain ⟨bs, rfl, eb, hbs⟩ := dall_bs hd
          have S10 := S9.ex rg.h
          have o1 := rg.off S9 (Ex.refl _)
          obtain ⟨Ua, Uc⟩ := S10.nea nU
          have eU := Ex.new (o := .lst bs.vs) nU
          have hU : off a c' (upd H10 U (.lst bs.vs)) U = some (.lst bs.vs) := by
            rw [off_ne Ua Uc]
            exact upd_same
          have S11 := S10.ex eU
          have hb11 : ∀ q ∈ bs, off a c' (upd H10 U (.lst bs.vs)) q.1 = some (.lst (q.2.map V.int)) := fun q hq => Ex.offs (a := a) (c := c') eU _ _ (o1 _ _ (hbs q hq))
          have ek11 := ek9.trans (Ex.offs (a := a) (c := c') (rg.h.trans eU))
          have tb11 := tb9.ext (rg.h.trans eU)
          have lb : bs.length = 6 := by
            have z := congrArg List.length eb
            rw [List.length_map] at z
            exact z
          have sm : ∀ q ∈ bs, q.2.length ≤ 2 ∧ ∀ x ∈ q.2, 0 ≤ x ∧ x ≤ 1000000000000000000 := fun q hq => by
            have z : q.2 ∈ bs.map (·.2) := List.mem_map_of_mem hq
            rw [eb] at z
            simp only [List.mem_cons, List.not_mem_nil, or_false] at z
            rcases z with z | z | z | z | z | z <;> rw [z] <;> refine ⟨by first | (show 1 ≤ 2; decide) | (show 2 ≤ 2; decide), fun x hx => ?_⟩ <;> simp only [List.mem_cons, List.not_mem_nil, or_false] at hx <;> omega
          generalize upd H10 U (.lst bs.vs) = H11 at hU S11 hb11 ek11 tb11 ⊢
          dsimp only
          refine seq1 ⟨_, rfl, _, rfl, _, rfl, _, rfl, _, rfl, a, c', L, m, U, g, k' + 1, qs, rs, bs, rfl, S11, rsR ek11, hz, good, bkR.ex ek11, srt, by omega, by omega, hU, fun q hq => ⟨hb11 q hq, sm q hq⟩, by omega, tb11, by omega, fun H12 k12 e12 S12 d1 tb12 => ⟨_, rfl, ite_ff rfl (next1 ?_)⟩⟩
          have ek12 := toR ((nR ek11).trans e12)
          dsimp only
          refine ⟨_, rfl, _, rfl, _, rfl, _, rfl, a, c', k12, 25, rfl, S12, by decide, by decide, by omega, fun H13 r' e13 S13 q0 q1 => ⟨_, _, rfl, rfl, a, c', L, m, 6 + r', k12 + 1, qs, rs, rfl, S13, rsR (ek12.trans e13), hz, good, bkR.ex (ek12.trans e13), mem, lr, by omega, by omega, by omega, fun H14 k14 e14 S14 d2 => ⟨_, rfl, ite_ff rfl ?_⟩⟩⟩
          exact ⟨k14, _, _, _, _, _, _, rfl, S14, tabs_drawn S12 tb12 (e13.trans e14), by omega⟩
      · obtain ⟨n', v2, v3, v4, v5, v6, v7, rfl, S, tb, bn⟩ := q
        clear S bn S0 hT t0
        dsimp only
        refine seq1 (asg1 ?_)
        refine ⟨by show 5 ≤ sizeLine; decide, fun r1 nr1 => ⟨by show 5 ≤ sizeLine; decide, fun r2 nr2 => ⟨by show 5 ≤ sizeLine; decide, fun r3 nr3 => ⟨by show 3 ≤ sizeLine; decide, fun rw nrw => ?_⟩⟩⟩⟩
        have d1 := Ex.new (o := .tup [V.int 1, .int 2, .str "one", .int 0, .int 1]) nr1
        have x1 : upd H' r1 (.tup [V.int 1, .int 2, .str "one", .int 0, .int 1]) r1 = _ := upd_same
        generalize upd H' r1 (.tup [V.int 1, .int 2, .str "one", .int 0, .int 1]) = G1 at d1 x1 nr2 nr3 nrw ⊢
        have d2 := Ex.new (o := .tup [V.int 2, .int 2, .str "none", .int 0, .int 1]) nr2
        have x2 : upd G1 r2 (.tup [V.int 2, .int 2, .str "none", .int 0, .int 1]) r2 = _ := upd_same
        generalize upd G1 r2 (.tup [V.int 2, .int 2, .str "none", .int 0, .int 1]) = G2 at d2 x2 nr3 nrw ⊢
        have d3 := Ex.new (o := .tup [V.int 0, .int 0, .str "two", .int 1, .int 3]) nr3
        have x3 : upd G2 r3 (.tup [V.int 0, .int 0, .str "two", .int 1, .int 3]) r3 = _ := upd_same
        generalize upd G2 r3 (.tup [V.int 0, .int 0, .str "two", .int 1, .int 3]) = G3 at d3 x3 nrw ⊢
        have d4 := Ex.new (o := .lst [V.ref r1, V.ref r2, V.ref r3]) nrw
        have x4 : upd G3 rw (.lst [V.ref r1, V.ref r2, V.ref r3]) rw = _ := upd_same
        generalize upd G3 rw (.lst [V.ref r1, V.ref r2, V.ref r3]) = G4 at d4 x4 ⊢
        have tb4 := tb.ext (((d1.trans d2).trans d3).trans d4)
        have Dr : D G4 (.ref rw) (.list ([wr1, wr2, wr3].map Rl.d)) := .lst x4 (.cons (rule_D (r := wr1) (d4 _ _ (d3 _ _ (d2 _ _ x1)))) (.cons (rule_D (r := wr2) (d4 _ _ (d3 _ _ x2))) (.cons (rule_D (r := wr3) (d4 _ _ x3)) .nil)))
        clear d1 d2 d3 d4 x1 x2 x3 x4 nr1 nr2 nr3 nrw tb
        intro p1 dx1 np1 ndx1 hne1
        refine made_wr (.inl rfl) np1 ndx1 Dr fun J1 ej1 bk1 => ⟨rfl, gn1 ?_⟩
        have tJ := tb4.ext ej1
        have okr : ∀ r ∈ sortR [wr1, wr2, wr3], r.Ok := fun r hr => (book_wr (.inl rfl)).2.2.2.2 r (mem_sortR.mp hr)
        have lowr : ∀ r ∈ sortR [wr1, wr2, wr3], 0 ≤ r.low := fun r hr => (okr r hr).low0
        have modr : ∀ r ∈ sortR [wr1, wr2, wr3], 0 < r.mod := fun r hr => Int.lt_of_le_of_lt (okr r hr).rest0 (okr r hr).rest1
        have few : (sortR [wr1, wr2, wr3]).length ≤ 1000 := by rw [sort_len]; decide
        dsimp only
        refine seq1 (asg1 ?_)
        have noNum : ∀ {x : Int} {A : Prop}, 0 ≤ x → isNum (.int x) = false → A := fun {x A} h0 z => by
          rw [show isNum (.int x) = true from decide_eq_true h0] at z
          cases z
        have toS : ∀ r, r ∈ [wr1, wr2, wr3] ↔ r ∈ sortR [wr1, wr2, wr3] := fun r => mem_sortR.symm
        refine ⟨_, rfl, by show 1 ≤ sizeLine; decide, fun z1 nz1 => ?_⟩
        have ez1 := Ex.new (o := .lst ([2].map V.int)) nz1
        have dz1 : D (upd J1 z1 (.lst ([2].map V.int))) (.ref z1) (.list ([2].map .int)) := dints upd_same
        refine ⟨_, _, _, .list ([2].map .int), rfl, dz1, .inr ⟨p1, _, .int 4, rfl, bk1.ex ez1, few, modr, .int 4, fun z => (by cases z), fun n' e' _ => ?_⟩⟩
        cases e'
        refine ⟨fun hn => absurd ((iso_kp lowr (by decide)).mpr ⟨rfl, [2], ⟨rfl, by decide, by decide⟩, wr1, mem_sortR.mpr (.head _), wayB_iff.mp (by decide +kernel)⟩) hn, fun _ os M J2 ts eo _ nM ex2 hM hw hf => ?_⟩
        obtain rfl := ints_inj eo
        have DM := ways_D hM hw hf
        rw [ways_w] at DM
        have b2 := bk1.ex (ez1.trans ex2)
        have t2 := tJ.ext (ez1.trans ex2)
        clear tJ bk1 hM hw hf nM ez1 dz1 nz1 ex2
        refine ⟨_, rfl, by show 1 ≤ sizeLine; decide, fun z2 nz2 => ?_⟩
        have ez2 := Ex.new (o := .lst ([2].map V.int)) nz2
        have dz2 : D (upd J2 z2 (.lst ([2].map V.int))) (.ref z2) (.list ([2].map .int)) := dints upd_same
        refine ⟨_, _, _, rfl, .inr ⟨p1, _, rfl, b2.ex ez2, few, modr, lowr, .list ([2].map .int), dz2, fun z => (by cases z), fun _ => ⟨.int 9, .int 9, fun z => noNum (by decide) z, fun os n' ho e' _ => ?_⟩⟩⟩
        cases e'
        obtain rfl := ints_inj ho
        refine ⟨by decide, fun L1 J3 hs1 nL1 ex3 hL1 a1 => ?_⟩
        obtain rfl : hs1 = [3, 4] := a1.uniq (asc_from2.congr fun x => and_congr Iff.rfl (and_congr Iff.rfl (aopt_congr toS)))
        have DM := DM.ex (ez2.trans ex3)
        have DL1 := dints hL1
        have b3 := b2.ex (ez2.trans ex3)
        have t3 := t2.ext (ez2.trans ex3)
        clear t2 b2 hL1 ez2 dz2 nz2 ex3 nL1 a1
        refine ⟨_, rfl, _, _, rfl, .inr ⟨p1, _, rfl, b3, few, modr, lowr, .int 9, .int 9, fun z => noNum (by decide) z, fun n' e' _ => ?_⟩⟩
        cases e'
        refine ⟨by decide, fun L2 J4 hs2 nL2 ex4 hL2 a2 => ?_⟩
        obtain rfl : hs2 = [1] := a2.uniq (asc_ends.congr fun x => and_congr Iff.rfl (and_congr Iff.rfl (forall_congr' fun ns => not_congr (aopt_congr toS))))
        have DM := DM.ex ex4
        have DL1 := DL1.ex ex4
        have DL2 := dints hL2
        have b4 := b3.ex ex4
        have t4 := t3.ext ex4
        clear t3 b3 hL2 ex4 nL2 a2
        refine ⟨Nat.zero_le _, fun z5 nz5 => ?_⟩
        have ez5 := Ex.new (o := .lst []) nz5
        have Dr5 : D (upd J4 z5 (.lst [])) (.ref z5) (.list (([] : List Rl).map Rl.d)) := .lst upd_same .nil
        intro p2 dx2 np2 ndx2 hne2
        refine made_wr (.inr rfl) np2 ndx2 Dr5 fun J5 ej5 bk5 => ⟨rfl, ?_⟩
        have okn : ∀ r ∈ sortR [], r.Ok := fun r hr => by
          have z := mem_sortR.mp hr
          cases z
        refine ⟨_, _, rfl, .inr ⟨p2, _, rfl, bk5, by rw [sort_len]; decide, fun r hr => Int.lt_of_le_of_lt (okn r hr).rest0 (okn r hr).rest1, fun r hr => (okn r hr).low0, .int 3, .int 3, fun z => noNum (by decide) z, fun n' e' _ => ?_⟩⟩
        cases e'
        refine ⟨by decide, fun L3 J6 hs3 nL3 ex6 hL3 a3 => ?_⟩
        obtain rfl : hs3 = [1, 2, 3] := a3.uniq (asc_none.congr fun x => and_congr Iff.rfl (and_congr Iff.rfl (forall_congr' fun ns => not_congr (aopt_congr fun r => mem_sortR.symm))))
        have e46 := (ez5.trans ej5).trans ex6
        have DM := DM.ex e46
        have DL1 := DL1.ex e46
        have DL2 := DL2.ex e46
        have DL3 := dints hL3
        have b6 := b4.ex e46
        have t6 := t4.ext e46
        clear t4 b4 hL3 ex6 nL3 a3 ej5 ez5 e46 np2 ndx2 nz5 Dr5 bk5 hne2
        refine ⟨by show 4 ≤ sizeLine; decide, fun F nF => gn1 ?_⟩
        have eF := Ex.new (o := .lst [V.ref M, .ref L1, .ref L2, .ref L3]) nF
        have hF : upd J6 F (.lst [V.ref M, .ref L1, .ref L2, .ref L3]) F = some (.lst [V.ref M, .ref L1, .ref L2, .ref L3]) := upd_same
        generalize upd J6 F (.lst [V.ref M, .ref L1, .ref L2, .ref L3]) = J7 at eF hF ⊢
        dsimp only
        refine seq1 ?_
        refine ⟨_, rfl, .inl ⟨rfl, _, SqL.of hF⟩, ?_⟩
        refine ⟨_, rfl, Nat.zero_le _, fun z6 nz6 => ?_⟩
        have ez6 := Ex.new (o := .lst []) nz6
        have dz6 : D (upd J7 z6 (.lst [])) (.ref z6) (.list (([] : List Int).map .int)) := .lst upd_same .nil
        refine ⟨_, _, _, rfl, .inr ⟨p1, _, rfl, (b6.ex eF).ex ez6, few, modr, lowr, .list (([] : List Int).map .int), dz6, fun z => (by cases z), fun _ => ⟨.int 400, .int 400, fun z => noNum (by decide) z, fun os n' ho e' _ => ?_⟩⟩⟩
        cases e'
        obtain rfl := ints_inj ho
        refine ⟨by decide, fun L4 J8 hs4 nL4 ex8 hL4 a4 => ?_⟩
        obtain rfl : hs4 = [2] := a4.uniq (asc_from0.congr fun x => and_congr Iff.rfl (and_congr Iff.rfl (aopt_congr toS)))
        have nF4 : L4 ≠ F := fun z => by
          rw [z, ez6 _ _ hF] at nL4
          cases nL4
        have x8 := ez6.trans ex8
        clear nL4 a4 ez6 dz6 nz6 ex8
        refine ⟨_, rfl, by show 2 ≤ sizeLine; decide, fun z7 nz7 => ?_⟩
        have ez7 := Ex.new (o := .lst ([3, 397].map V.int)) nz7
        have dz7 : D (upd J8 z7 (.lst ([3, 397].map V.int))) (.ref z7) (.list ([3, 397].map .int)) := dints upd_same
        refine ⟨_, _, _, rfl, .inr ⟨p1, _, rfl, (b6.ex (eF.trans x8)).ex ez7, few, modr, lowr, .list ([3, 397].map .int), dz7, fun z => (by cases z), fun _ => ⟨.int 400, .int 400, fun z => noNum (by decide) z, fun os n' ho e' _ => ?_⟩⟩⟩
        cases e'
        obtain rfl := ints_inj ho
        refine ⟨by decide, fun L5 J9 hs5 nL5 ex9 hL5 a5 => ?_⟩
        obtain rfl : hs5 = [400] := a5.uniq (asc_from400.congr fun x => and_congr Iff.rfl (and_congr Iff.rfl (aopt_congr toS)))
        have nF5 : L5 ≠ F := fun z => by
          rw [z] at nL5
          exact absurd ((ez7 _ _ (x8 _ _ hF)).symm.trans nL5) (fun h => by cases h)
        have x89 := ez7.trans ex9
        have x9 := x8.trans x89
        have hL4 := x89 _ _ hL4
        clear nL5 a5 ez7 dz7 nz7 ex9 x89 x8
        refine ⟨by show 2 ≤ sizeLine; decide, fun X nX => ?_⟩
        have eX := Ex.new (o := .lst [V.ref L4, .ref L5]) nX
        have hX : upd J9 X (.lst [V.ref L4, .ref L5]) X = some (.lst [V.ref L4, .ref L5]) := upd_same
        have hL4 := eX _ _ hL4
        have hL5 := eX _ _ hL5
        have x10 := x9.trans eX
        generalize upd J9 X (.lst [V.ref L4, .ref L5]) = Ja at eX hX hL4 hL5 x10 ⊢
        refine ⟨F, X, _, _, rfl, rfl, x10 _ _ hF, hX, by show 6 ≤ sizeLine; decide, ?_⟩
        have e6 : Ex J6 (upd Ja F (.lst ([V.ref M, .ref L1, .ref L2, .ref L3] ++ [V.ref L4, .ref L5]))) := (eF.trans x10).mut nF
        have hL4 : upd Ja F (.lst ([V.ref M, .ref L1, .ref L2, .ref L3] ++ [V.ref L4, .ref L5])) L4 = some (.lst ([2].map V.int)) := by
          rw [upd_ne nF4]
          exact hL4
        have hL5 : upd Ja F (.lst ([V.ref M, .ref L1, .ref L2, .ref L3] ++ [V.ref L4, .ref L5])) L5 = some (.lst ([400].map V.int)) := by
          rw [upd_ne nF5]
          exact hL5
        have hF : upd Ja F (.lst ([V.ref M, .ref L1, .ref L2, .ref L3] ++ [V.ref L4, .ref L5])) F = some (.lst ([V.ref M, .ref L1, .ref L2, .ref L3] ++ [V.ref L4, .ref L5])) := upd_same
        generalize upd Ja F (.lst ([V.ref M, .ref L1, .ref L2, .ref L3] ++ [V.ref L4, .ref L5])) = Jb at e6 hL4 hL5 hF ⊢
        have Dfound : D Jb (.ref F) (.list [.list [.tuple [wr1.d, .int 2]], .list ([3, 4].map .int), .list ([1].map .int), .list ([1, 2, 3].map .int), .list ([2].map .int), .list ([400].map .int)]) := .lst hF (.cons (DM.ex e6) (.cons (DL1.ex e6) (.cons (DL2.ex e6) (.cons (DL3.ex e6) (.cons (dints hL4) (.cons (dints hL5) .nil))))))
        have tb := t6.ext e6
        have bb := b6.ex e6
        clear eX hX x10 x9 eF nX nF hL4 hL5 hF DM DL1 DL2 DL3 t6 b6 e6
        dsimp only
        refine seq1 (asg1 (lst1 (GvA.use (ds := [.list [.tuple [wr1.d, .int 2]], .list ([3, 4].map .int), .list ([1].map .int), .list ([1, 2, 3].map .int), .list ([2].map .int), .list ([400].map .int)]) (R := fun _ => none) (G := fun _ => none) (.cons (.lst (.cons (.tup (.cons (.tup (.cons .int (.cons .int (.cons .str (.cons .int (.cons .int .nil)))))) (.cons .int .nil))) .nil)) (.cons (.lst (.cons .int (.cons .int .nil))) (.cons (.lst (.cons .int .nil)) (.cons (.lst (.cons .int (.cons .int (.cons .int .nil)))) (.cons (.lst (.cons .int .nil)) (.cons (.lst (.cons .int .nil)) .nil)))))) (Ex.refl _) (fun _ _ z => (by cases z)) fun vs G1 Jc rg hd => ⟨by rw [hd.len2]; show 6 ≤ sizeLine; decide, fun U nU => gn1 ?_⟩)))
        have e8 := rg.h.trans (Ex.new (o := .lst vs) nU)
        have Dd : D (upd Jc U (.lst vs)) (.ref U) _ := .lst upd_same ((hd.ex rg.i).ex (Ex.new nU))
        generalize upd Jc U (.lst vs) = Jd at e8 Dd ⊢
        dsimp only
        refine ⟨_, rfl, _, rfl, _, _, _, rfl, Dfound.ex e8, Dd, by decide +kernel, fun Je e9 => ⟨_, rfl, iteT ?_⟩⟩
        exact ⟨_, rfl, p1, _, rfl, bb.ex (e8.trans e9), few, modr, lowr, tb.ext (e8.trans e9), fun H' => kq _⟩
end
end Ts


set_option Elab.async false
set_option linter.all false
set_option maxRecDepth 100000
set_option maxHeartbeats 4000000
namespace Ts
open PySem PySem.Spec PyProof.Rows L2 LamX
open Evl (Ex)
/-! ## the law's call, its table told -/
/-- what is told when the law starts: its table, and perhaps its script -/
structure Beg (H : Hp) (ts : List Addr) (a : Addr) : Prop where
  t : ∀ t ∈ ts, H t = some (.tbl #[])
  only : ∀ b u, H b = some u → b ∈ ts ∨ (b = a ∧ ∃ o xs, u = .frz o (.lst xs))
section
variable {P : Program} {w : World} {K : PySem.W.Frag} {mg mb : Str → Option Value} {k : Nat} {fa a : Addr} {cs : List (Addr × Addr)} {fd : FuncData} {x : Str} {sp : Sp} {st : Shared} {us : List Value} {zs : List Int}
/-- the ground that a law's call stands on -/
structure Grd (K : PySem.W.Frag) (mg mb : Str → Option Value) (cs : List (Addr × Addr)) (a : Addr) (us : List Value) (st : Shared) : Prop where
  k : K.In st.heap
  m : st.heap.Ns mainGlobals mg
  b : st.heap.Ns builtinsNs mb
  bb : ∀ y : Str, y ≠ "__name__" → mb y = bootBuiltins y
  lim : st.heap.NoLimit
  ng : st.gens = #[]
  t : ∀ q ∈ cs, st.heap.get? q.2 = some { cls := .none, data := .fields #[] }
  kt : ∀ q ∈ cs, K.lookup q.2 = none
  cd : ∀ q ∈ cs, PySem.W.CodeHd st.heap q.1 q.2
  bm : ∃ (q : Addr) (oq : Obj), mg "__builtins__" = some (.ref q) ∧ q ≠ builtinsNs ∧ st.heap.get? q = some oq ∧ oq.cls = .type "module" ∧ oq.dict = some builtinsNs ∧ oq.data = .plain
  a : st.heap.get? a = some { cls := .type "list", data := .seq us.toArray }
theorem Grd.free {H : Hp} (g : Grd K mg mb cs a us st) (B : Beg H (cs.map (·.2)) a) {b : Addr} {o : Obj} (h : st.heap.get? b = some o) (n1 : o.data ≠ .fields #[]) (n2 : ∀ vs n, o.data ≠ .seq vs n) : H b = none := by
  cases e : H b with
  | none => rfl
  | some u =>
    exfalso
    rcases B.only b u e with z | ⟨z, _⟩
    · obtain ⟨q, hq, z⟩ := List.mem_map.mp z
      rw [← z, g.t q hq] at h
      cases h
      exact n1 rfl
    · rw [z, g.a] at h
      cases h
      exact n2 _ _ rfl
theorem Grd.ns {H : Hp} (g : Grd K mg mb cs a us st) (B : Beg H (cs.map (·.2)) a) {b : Addr} {m : Str → Option Value} (h : st.heap.Ns b m) : (hidT st.heap H).Ns b m := by
  obtain ⟨o, es, ep, h1, h2, h3⟩ := h
  have f := g.free B h1 (fun z => by rw [h2] at z; cases z) (fun vs n z => by rw [h2] at z; cases z)
  exact ⟨o, es, ep, hidT_get h1 f, h2, h3⟩
theorem Grd.kin {H : Hp} (g : Grd K mg mb cs a us st) (B : Beg H (cs.map (·.2)) a) (fr : H a ≠ none → K.lookup a = none) : K.In (hidT st.heap H) := fun b o h => by
  refine hidT_get (g.k b o h) ?_
  cases e : H b with
  | none => rfl
  | some u =>
    exfalso
    rcases B.only b u e with z | ⟨z, _⟩
    · obtain ⟨q, hq, z⟩ := List.mem_map.mp z
      rw [← z, g.kt q hq] at h
      cases h
    · rw [z] at h e
      rw [fr (by rw [e]; simp)] at h
      cases h
theorem Grd.tabB {H : Hp} (g : Grd K mg mb cs a us st) (B : Beg H (cs.map (·.2)) a) {p : Addr × Addr} (hp : p ∈ cs) : TabB (hidT st.heap H) mg p.1 p.2 := by
  refine ⟨?_, ?_, fun z => ?_⟩
  · obtain ⟨o, ws, fl, tf, gs, tg, ib, tx, tt, h1, h2, h3, h4, h5, h6, h7, h8, h9, h10⟩ := g.cd p hp
    have f : H p.1 = none := g.free B h1
      (fun z => by
        rw [h3] at z
        cases z
        simp at h4)
      (fun vs n z => by
        rw [h3] at z
        cases z)
    exact ⟨o, ws, fl, tf, gs, tg, ib, tx, tt, hidT_get h1 f, h2, h3, h4, h5, h6, h7, h8, h9, h10⟩
  · obtain ⟨q, oq, h1, h2, h3, h4, h5, h6⟩ := g.bm
    have f : H q = none := g.free B h3 (fun z => by rw [h6] at z; cases z) (fun vs n z => by rw [h6] at z; cases z)
    refine ⟨q, oq, h1, h2, fun z => ?_, fun z => ?_, hidT_get h3 f, h4, h5, h6⟩
    · obtain ⟨o, es, ep, d1, d2, _⟩ := g.m
      rw [z, d1] at h3
      cases h3
      rw [d2] at h6
      cases h6
    · rw [z, g.t p hp] at h3
      cases h3
      cases h6
  · obtain ⟨o, es, ep, d1, d2, _⟩ := g.m
    rw [z, g.t p hp] at d1
    cases d1
    cases d2
/-- the call, from a heap that tells the table and perhaps the script -/
theorem Grd.call {H : Hp} (g : Grd K mg mb cs a us st) (B : Beg H (cs.map (·.2)) a) (fr : H a ≠ none → K.lookup a = none) (hk : HOk P w H st.heap) (rm : Room k callerA)
    (G : ∀ base : Heap, K.In base → base.Ns mainGlobals mg → (∀ q ∈ cs, TabB base mg q.1 q.2) → GOk P w K mg base CX0 k fa fd [x] sp) (bi : ∀ (s : Shared) (u : Value), BindsTo s fd ⟨[u], []⟩ [(x, u)]) (hsp : sp [.ref a] H (fun v _ => v = .bl true) fun _ _ _ => False) :
    codeAny (model P w) callerA (.call (.ref fa) ⟨[.ref a], []⟩) (fun r s' => r = .ok (.ret (.bool true)) ∧ OldK st.heap s'.heap ∧ s'.os = st.os ∧ AllBare s'.gens) st := by
  have kb := g.kin B fr
  have M : L2.Mod K mg (hidT st.heap H) := by
    obtain ⟨mc, l1, l2⟩ := g.lim
    exact ⟨kb, g.ns B g.m, ⟨mb, g.ns B g.b, g.bb⟩, mc, g.ns B l1, l2⟩
  have e0 : Env0 P w K mg (hidT st.heap H) callerA [] st H := {
    frames := rfl
    mod := M
    bs := fun b o e => of_hidT e
    bsz := by rw [hidT_size]; exact Nat.le_refl _
    funs := trivial
    frf := fun b hb => by cases hb
    hok := hk
    bare := .of_eq g.ng }
  have run := (G _ kb (g.ns B g.m) fun q hq => g.tabB B hq).go callerA [] st H ⟨[.ref a], []⟩ [.ref a] [.ref a] _ _ rfl rm e0 (bi st (.ref a)) (.cons rfl .nil) hsp
  refine codeAny_mono run fun r s' h => ?_
  rcases r with e | (_ | _ | _ | u) <;> first
    | exact (show False from h).elim
    | skip
  obtain ⟨v, H', ho, hb, un, hk', rv, rfl⟩ := h
  obtain rfl : u = Value.bool true := rv
  have tk : ∀ q ∈ cs, ∃ more : Array Value, s'.heap.get? q.2 = some { cls := .none, data := .fields more } := fun q hq => by
    obtain ⟨more, z⟩ := un.tbls q.2 #[] (B.t _ (List.mem_map.mpr ⟨q, hq, rfl⟩))
    exact ⟨_, hk' q.2 _ z⟩
  have kp : ∀ b o, b ∉ cs.map (·.2) → st.heap.get? b = some o → s'.heap.get? b = some o := fun b o nb e => by
    cases q : H b with
    | none => exact un.keep b o e q (fun z => by cases z) (fun z => by cases z)
    | some u =>
      rcases B.only b u q with z | ⟨_, ob, xs, rfl⟩
      · exact absurd z nb
      · have h1 := (hk b _ q).1
        rw [e] at h1
        cases h1
        exact (hk' b _ (un.frzs b _ _ q)).1
  refine ⟨rfl, ⟨fun b o e => ?_, fun b o e => ?_⟩, ho, hb⟩
  · by_cases z : b ∈ cs.map (·.2)
    · obtain ⟨q, hq, rfl⟩ := List.mem_map.mp z
      obtain ⟨more, hm⟩ := tk q hq
      rw [g.t q hq] at e
      cases e
      exact .inr (.inl ⟨((g.cd q hq).tab (g.t q hq)).isCodeTable, rfl, #[], more, rfl, by rw [Array.empty_append]; exact hm⟩)
    · exact .inl (kp b o z e)
  · by_cases z : b ∈ cs.map (·.2)
    · obtain ⟨q, hq, rfl⟩ := List.mem_map.mp z
      exact (tk q hq).elim fun m q => ⟨_, q⟩
    · exact ⟨o, kp b o z e⟩
/-- the call of a law whose table is told -/
theorem Grd.law (g : Grd K mg mb cs a us st) (hi : IntsAre us zs) (hl : zs.length ≤ sizeLine) (rm : Room k callerA)
    (G : ∀ base : Heap, K.In base → base.Ns mainGlobals mg → (∀ q ∈ cs, TabB base mg q.1 q.2) → GOk P w K mg base CX0 k fa fd [x] sp) (bi : ∀ (s : Shared) (u : Value), BindsTo s fd ⟨[u], []⟩ [(x, u)])
    (hsp : ∀ H : Hp, (∀ t ∈ cs.map (·.2), H t = some (.tbl #[])) → SqL K H a (zs.map V.int) → sp [.ref a] H (fun v _ => v = .bl true) fun _ _ _ => False) :
    codeAny (model P w) callerA (.call (.ref fa) ⟨[.ref a], []⟩) (fun r s' => r = .ok (.ret (.bool true)) ∧ OldK st.heap s'.heap ∧ s'.os = st.os ∧ AllBare s'.gens) st := by
  have rv := vals_ints hi
  have hu := hi.length
  have na : a ∉ cs.map (·.2) := fun z => by
    obtain ⟨p, hp, z⟩ := List.mem_map.mp z
    have q := g.a
    rw [← z, g.t p hp] at q
    cases q
  let H0 : Hp := fun b => if b ∈ cs.map (·.2) then some (.tbl #[]) else none
  have h0 : ∀ t ∈ cs.map (·.2), H0 t = some (.tbl #[]) := fun t ht => if_pos ht
  have h0n : ∀ b, b ∉ cs.map (·.2) → H0 b = none := fun b nb => if_neg nb
  have tb : ∀ (b : Addr) (u : HO), b ∈ cs.map (·.2) → H0 b = some u → u = .tbl #[] ∧ st.heap.get? b = some { cls := .none, data := .fields #[] } := fun b u hb h => by
    rw [h0 b hb] at h
    cases h
    obtain ⟨q, hq, rfl⟩ := List.mem_map.mp hb
    exact ⟨rfl, g.t q hq⟩
  cases lk : K.lookup a with
  | some o =>
    have e := g.k a o lk
    rw [g.a] at e
    cases e
    have B : Beg H0 (cs.map (·.2)) a := ⟨h0, fun b u h => by
      by_cases z : b ∈ cs.map (·.2)
      · exact .inl z
      · rw [h0n b z] at h
        cases h⟩
    refine g.call B (fun z => absurd (h0n a na) z) (fun b u h => ?_) rm G bi (hsp H0 h0 (.inr ⟨_, us.toArray, _, lk, rfl, rfl, rfl, by rw [List.size_toArray, hu]; exact hl, by simpa using rv⟩))
    by_cases z : b ∈ cs.map (·.2)
    · obtain ⟨rfl, q⟩ := tb b u z h
      exact q
    · rw [h0n b z] at h
      cases h
  | none =>
    let ob : Obj := { cls := .type "list", data := .seq us.toArray }
    let H1 : Hp := upd H0 a (.frz ob (.lst (zs.map V.int)))
    have h1 : H1 a = some (.frz ob (.lst (zs.map V.int))) := upd_same
    have h1t : ∀ t ∈ cs.map (·.2), H1 t = some (.tbl #[]) := fun t ht => (upd_ne (show t ≠ a from fun z => na (by rw [← z]; exact ht))).trans (h0 t ht)
    have B : Beg H1 (cs.map (·.2)) a := ⟨h1t, fun b u h => by
      by_cases z : b = a
      · rw [z, h1] at h
        cases h
        exact .inr ⟨z, _, _, rfl⟩
      · have h' : H0 b = some u := (upd_ne z).symm.trans h
        by_cases z2 : b ∈ cs.map (·.2)
        · exact .inl z2
        · rw [h0n b z2] at h'
          cases h'⟩
    refine g.call B (fun _ => lk) (fun b u h => ?_) rm G bi (hsp H1 h1t (.inl (.inr ⟨ob, h1⟩)))
    by_cases z : b = a
    · rw [z, h1] at h
      cases h
      rw [z]
      exact ⟨g.a, by rw [List.length_map]; exact hl, us, _, rv, g.a⟩
    · have h' : H0 b = some u := (upd_ne z).symm.trans h
      by_cases z2 : b ∈ cs.map (·.2)
      · obtain ⟨rfl, q⟩ := tb b u z2 h'
        exact q
      · rw [h0n b z2] at h'
        cases h'
end
end Ts


set_option Elab.async false
set_option linter.all false
set_option maxRecDepth 100000
set_option maxHeartbeats 4000000
namespace Ts
open PySem PySem.Spec PyProof.Rows L2 LamX
open Evl (Ex)
section
variable {P : Program} {w : World} {K : PySem.W.Frag} {mg : Str → Option Value} {h : Heap}
theorem fd_mk (X : K.In h) (G : h.Ns mainGlobals mg) {x q : Str} {st : Stmt} {f : Addr} {oc : Value} {od an : Option Addr} {sl : Array (Option Value)} {kV doc pm cd ct : Value} (a : PySem.W.nsIn K mainGlobals x = some (some (.ref f)))
    (l : K.lookup f = some ⟨oc, od, .func (PySem.W.fnOf x q (defArgs st) (defBody st) (defScope st) .none kV doc pm an cd ct), sl⟩) (c : PySem.W.codeIn K cd q = true) (k : PySem.W.keepIn K (.ref f) = true) :
    ∃ f fd, FD K mg x q st f fd := ⟨_, _, fun_mk l c k, PySem.W.mg_of X G a⟩
theorem xc_mk (X : K.In h) (G : h.Ns mainGlobals mg) {x fl : Str} {C g : Addr} {nm q : Str} {N : Addr} {bs bm : List Value} {sn : List Str} {sub : List Value} {ab : Bool} {col : Option Bool} {dd : Option Addr} {m0 m1 m2 m3 m5 : Option Value}
    (a : PySem.W.nsIn K mainGlobals x = some (some (.ref C))) (l : K.lookup C = some (excClassObj nm q C N bs bm true sn sub ab col dd m0 m1 m2 m3 m5 "ValueError.__new__")) (rv : PySem.HandSPX.refsVE bm = true)
    (sa : PySem.W.findIn K (.ref C) "__setattr__" = some (some (.builtin "object.__setattr__"))) (eC : PySem.W.subIn K (.ref C) (.type "BaseException") = some true) (tC : PySem.W.typeIn K (.ref C) = some (.type "type")) (kC : PySem.W.keepIn K (.ref C) = true)
    (iC : PySem.W.findIn K (.ref C) "__init__" = some (some (.ref g))) (tI : PySem.W.typeIn K (.ref g) = some (.type "function")) (nF : PySem.W.findIn K (.ref C) fl = some none)
    (ga : PySem.W.findIn K (.ref C) "__getattribute__" = some (some (.builtin "BaseException.__getattribute__"))) (gg : PySem.W.findIn K (.ref C) "__getattr__" = some none) (hC : PySem.W.hasDictIn K C = true) : XC K mg x fl C g :=
  ⟨⟨⟨_, _, _, _, _, _, _, _, _, _, _, _, _, _, _, l, rv⟩, sa, eC, tC, kC⟩, PySem.W.mg_of X G a, iC, tI, nF, ⟨ga, gg, eC, hC⟩⟩
theorem bi_mk {q : Str} {i : Nat} {g : Addr} {oc : Value} {od an : Option Addr} {sl : Array (Option Value)} {kV doc pm cd ct : Value} (l : K.lookup g = some ⟨oc, od, .func (PySem.W.fnOf "__init__" q (defArgs (i_thing i)) (defBody (i_thing i)) (defScope (i_thing i)) .none kV doc pm an cd ct), sl⟩)
    (c : PySem.W.codeIn K cd q = true) (k : PySem.W.keepIn K (.ref g) = true) : ∃ fd, Fun K "__init__" q (i_thing i) g fd := ⟨_, fun_mk l c k⟩
theorem me_mk {C : Addr} {m q : Str} {st : Stmt} {g : Addr} {oc : Value} {od an : Option Addr} {sl : Array (Option Value)} {kV doc pm cd ct : Value} (a : PySem.W.findIn K (.ref C) m = some (some (.ref g))) (i : PySem.W.isFn K (.ref g) = true)
    (l : K.lookup g = some ⟨oc, od, .func (PySem.W.fnOf m q (defArgs st) (defBody st) (defScope st) .none kV doc pm an cd ct), sl⟩) (c : PySem.W.codeIn K cd q = true) (k : PySem.W.keepIn K (.ref g) = true) : Meth K C m g ∧ ∃ fd, Fun K m q st g fd := ⟨⟨a, i, k⟩, _, fun_mk l c k⟩
/-- one class met by another -/
theorem exm_mk {C : Value} {S : Addr} {b : Bool} (h1 : PySem.W.subIn K (.ref S) (.type "BaseException") = some true) (h2 : PySem.W.isClsIn K S = true) (h3 : PySem.W.typeIn K (.ref S) = some (.type "type")) (h4 : PySem.W.subIn K C (.ref S) = some b) : PySem.W.exmOne K C (.ref S) = some b := by
  unfold PySem.W.exmOne
  rw [h1]
  refine (if_pos (by rfl)).trans ?_
  have e : ((PySem.W.clsIn K S).isSome && PySem.W.typeIn K (.ref S) == some (.type "type")) = true := by
    have h2 : (PySem.W.clsIn K S).isSome = true := h2
    rw [h2, h3]
    rfl
  show (if ((PySem.W.clsIn K S).isSome && PySem.W.typeIn K (.ref S) == some (.type "type")) = true then PySem.W.subIn K C (.ref S) else none) = some b
  rw [if_pos e]
  exact h4
/-- a method, its def not asked for -/
theorem mt_mk {C : Addr} {m : Str} {g : Addr} (a : PySem.W.findIn K (.ref C) m = some (some (.ref g))) (i : PySem.W.isFn K (.ref g) = true) (k : PySem.W.keepIn K (.ref g) = true) : Meth K C m g := ⟨a, i, k⟩
/-- what the law's call needs: its tables, one of each def with a lambda -/
def Ready (l : PySem.W.OpenLaw) (w : World) (K : PySem.W.Frag) (k : Nat) (x : Str) (mg : Str → Option Value) (fa : Addr) (h : Heap) : Prop :=
  ∃ (fd : FuncData) (cs : List (Addr × Addr)) (TS : List (Addr × Str)), (∀ q ∈ cs, h.get? q.2 = some { cls := .none, data := .fields #[] }) ∧ (∀ q ∈ cs, K.lookup q.2 = none) ∧ (∀ q ∈ cs, PySem.W.CodeHd h q.1 q.2) ∧ (∀ p ∈ TS, p.1 ∈ cs.map (·.2)) ∧ (∀ (s : Shared) (u : Value), BindsTo s fd ⟨[u], []⟩ [(x, u)]) ∧
    ∀ base : Heap, K.In base → base.Ns mainGlobals mg → (∀ q ∈ cs, TabB base mg q.1 q.2) → GOk l.prog w K mg base CX0 k fa fd [x] (spLaw K TS)
theorem walk_tab {l : PySem.W.OpenLaw} {n k : Nat} {p : Program} {loose : List Str} {XP : (Str → Option Value) → Heap → Prop} {YP : World → Heap → Prop} {d : DefRec} {F : Params → PySem.W.Frag} {x : Str}
    (hn : l.most = some n) (hz : n ≤ sizeLine) (hdf : d.params.defaults = []) (hr : Room k callerA) (hY : ∀ (w : World) (h : Heap), YP w h → (F w.params).In h)
    (hF : ∀ (w : World) (mg : Str → Option Value) (fa : Addr) (h : Heap), YP w h → (F w.params).In h → h.Ns mainGlobals mg → mg d.name = some (.ref fa) → Ready l w (F w.params) k x mg fa h) :
    PySem.W.WalkO p loose XP YP l.row.toRowW d [] (fun f vs => PySem.call f vs) := by
  refine Att.attach_callB hn hdf fun w sh st mg mb fa o pm cd doc a us zs g y _ _ _ hm hl hi hlen _ ng => ?_
  obtain ⟨fd, cs, TS, ht, kt, hc, hts, bi, G⟩ := hF w mg fa _ y (hY w _ y) g.T.g hm
  refine Grd.law (mb := mb) (cs := cs) ⟨hY w _ y, g.T.g, g.T.b, g.T.builtins, g.T.nolimit, ng, ht, kt, hc, g.T.bmain, hl⟩ hi (Nat.le_trans hlen hz) hr G bi fun H h1 h2 => ⟨a, zs, rfl, h2, fun p hp => ?_, fun H' => rfl⟩
  exact TabS.nil (h1 _ (hts p hp))
theorem lef_mk (X : K.In h) (G : h.Ns mainGlobals mg) {tl : Addr} {dd : Option Addr} {t1 t2 t3 : Tok} {n : Nat} {sl : Array (Option Value)} (a : PySem.W.nsIn K mainGlobals "LEFTS" = some (some (.ref tl)))
    (l : K.lookup tl = some ⟨.type "tuple", dd, .seq #[.str "none" t1, .str "one" t2, .str "two" t3] n, sl⟩) : ∃ tl, mg "LEFTS" = some (.ref tl) ∧ ∀ H : Hp, SqT K H tl lefts :=
  ⟨tl, PySem.W.mg_of X G a, fun H => .inr ⟨_, _, _, l, rfl, rfl, by show 3 ≤ sizeLine; decide, .cons ⟨_, rfl⟩ (.cons ⟨_, rfl⟩ (.cons ⟨_, rfl⟩ .nil))⟩⟩

theorem ready {l : PySem.W.OpenLaw} {w : World} {fa cW tabW cZ tabZ CB CH CN CO CR gB gH gN gO gR CK CL fBI fBR fLI fLH fLT fLM fLL : Addr} (X : K.In h) (G : h.Ns mainGlobals mg) (hfa : mg "law" = some (.ref fa)) (hne : tabW ≠ tabZ) (T : Bl mg) {tm : Tok} (hMH : mg "MOST_HEAP" = some (.int 1000000000000000000 tm)) (hLE : ∃ tl, mg "LEFTS" = some (.ref tl) ∧ ∀ H : Hp, SqT K H tl lefts)
    (F_is_row : ∃ f fd, FD K mg "is_row" "is_row" s_is_row f fd)
    (F_is_integer : ∃ f fd, FD K mg "is_integer" "is_integer" s_is_integer f fd)
    (F_is_number : ∃ f fd, FD K mg "is_number" "is_number" s_is_number f fd)
    (F_is_heap : ∃ f fd, FD K mg "is_heap" "is_heap" s_is_heap f fd)
    (F_is_heaps : ∃ f fd, FD K mg "is_heaps" "is_heaps" s_is_heaps f fd)
    (F_lv : ∃ f fd, FD K mg "is_leaving" "is_leaving" s_is_leaving f fd)
    (F_is_rule : ∃ f fd, FD K mg "is_rule" "is_rule" s_is_rule f fd)
    (F_gr : ∃ f fd, FD K mg "is_growing" "is_growing" s_growing f fd)
    (F_sp : ∃ f fd, FD K mg "is_splitting" "is_splitting" s_splitting f fd)
    (F_line : ∃ f fd, FD K mg "rule_line" "rule_line" s_line f fd)
    (F_fault : ∃ f fd, FD K mg "rules_fault" "rules_fault" s_fault f fd)
    (F_nb : ∃ f fd, FD K mg "need_book" "need_book" s_need_book f fd)
    (F_nh : ∃ f fd, FD K mg "need_heap" "need_heap" s_need_heap f fd)
    (F_nn : ∃ f fd, FD K mg "need_number" "need_number" s_need_number f fd)
    (F_span : ∃ f fd, FD K mg "span_left" "span_left" s_span f fd)
    (F_spans : ∃ f fd, FD K mg "spans_left" "spans_left" s_spans f fd)
    (F_lnone : ∃ f fd, FD K mg "leaves_none" "leaves_none" s_lnone f fd)
    (F_count : ∃ f fd, FD K mg "count_in" "count_in" s_count f fd)
    (F_pairs : ∃ f fd, FD K mg "pairs_to" "pairs_to" s_pairs f fd)
    (F_lof : ∃ f fd, FD K mg "leavings_of" "leavings_of" s_lof f fd)
    (F_iso : ∃ f fd, FD K mg "is_option" "is_option" s_isopt f fd)
    (F_no : ∃ f fd, FD K mg "need_option" "need_option" s_need_option f fd)
    (F_takes : ∃ f fd, FD K mg "rule_takes" "rule_takes" s_takes f fd)
    (F_wt : ∃ f fd, FD K mg "ways_to" "ways_to" s_ways_to f fd)
    (F_ends : ∃ f fd, FD K mg "ends" "ends" s_ends f fd)
    (F_from : ∃ f fd, FD K mg "heaps_from" "heaps_from" s_from f fd)
    (F_aline : ∃ f fd, FD K mg "_law_a_line" "_law_a_line" s_aline f fd)
    (F_arule : ∃ f fd, FD K mg "_law_a_rule" "_law_a_rule" s_arule f fd)
    (F_arules : ∃ f fd, FD K mg "_law_a_rules" "_law_a_rules" s_arules f fd)
    (F_abook : ∃ f fd, FD K mg "_law_a_book" "_law_a_book" s_abook f fd)
    (F_amade : ∃ f fd, FD K mg "_law_a_made" "_law_a_made" s_amade f fd)
    (F_taken : ∃ f fd, FD K mg "_law_a_taken" "_law_a_taken" s_taken f fd)
    (F_aopts : ∃ f fd, FD K mg "_law_a_options" "_law_a_options" s_aopts f fd)
    (F_spoil : ∃ f fd, FD K mg "_law_a_spoiled" "_law_a_spoiled" s_spoil f fd)
    (F_start : ∃ f fd, FD K mg "_law_start" "_law_start" s_start f fd)
    (F_draw : ∃ f fd, FD K mg "_law_draw" "_law_draw" s_draw f fd)
    (F_pick : ∃ f fd, FD K mg "_law_pick" "_law_pick" s_pick f fd)
    (F_mixed : ∃ f fd, FD K mg "_law_mixed" "_law_mixed" s_mixed f fd)
    (F_same : ∃ f fd, FD K mg "_law_same" "_law_same" s_same f fd)
    (F_loose : ∃ f fd, FD K mg "_law_loose" "_law_loose" s_loose f fd)
    (F_word : ∃ f fd, FD K mg "_law_b_word" "_law_b_word" s_word f fd)
    (F_ways : ∃ f fd, FD K mg "_law_b_ways" "_law_b_ways" s_ways f fd)
    (F_asopt : ∃ f fd, FD K mg "_law_b_as_option" "_law_b_as_option" s_asopt f fd)
    (F_wide : ∃ f fd, FD K mg "_law_b_wide" "_law_b_wide" s_wide f fd)
    (F_met : ∃ f fd, FD K mg "_law_met" "_law_met" s_met f fd)
    (F_back : ∃ f fd, FD K mg "_law_back_right" "_law_back_right" s_back f fd)
    (F_law : ∃ f fd, FD K mg "law" "law" s_law f fd)
    (XB : XC K mg "BadBook" "thing" CB gB) (IB : ∃ fd, Fun K "__init__" "BadBook.__init__" (i_thing 3) gB fd)
    (XH : XC K mg "BadHeap" "thing" CH gH) (IH : ∃ fd, Fun K "__init__" "BadHeap.__init__" (i_thing 4) gH fd)
    (XN : XC K mg "BadNumber" "thing" CN gN) (IN : ∃ fd, Fun K "__init__" "BadNumber.__init__" (i_thing 5) gN fd)
    (XO : XC K mg "BadOption" "thing" CO gO) (IO : ∃ fd, Fun K "__init__" "BadOption.__init__" (i_thing 6) gO fd)
    (XR : XC K mg "BadRules" "index" CR gR) (IR : ∃ fd, Fun K "__init__" "BadRules.__init__" (i_thing 7) gR fd)
    (gK : mg "Book" = some (.ref CK)) (pK : PySem.W.plainGet K CK Str.empty = true) (hK : PySem.W.hasDictIn K CK = true) (oK : PySem.W.plainOver K CK = true) (sK : PySem.W.findIn K (.ref CK) "__setattr__" = some (some (.builtin "object.__setattr__"))) (mK : PySem.W.makesIn K CK = true) (kK : PySem.W.keepIn K (.ref CK) = true)
    (gL : mg "Leavings" = some (.ref CL)) (pL : PySem.W.plainGet K CL Str.empty = true) (hL : PySem.W.hasDictIn K CL = true) (oL : PySem.W.plainOver K CL = true) (sL : PySem.W.findIn K (.ref CL) "__setattr__" = some (some (.builtin "object.__setattr__"))) (mL : PySem.W.makesIn K CL = true) (kL : PySem.W.keepIn K (.ref CL) = true)
    (bha : PySem.W.findIn K (.ref CK) "__class__" = some (some (.builtin "object.__class__"))) (bhn : PySem.W.specialIn K (.builtin "object.__class__") "__get__" = some (some (.builtin "getset_descriptor.__get__"))) (bht : PySem.W.takesIn K (.builtin "object.__class__") = some true)
    (bhm : PySem.W.mroIn K CK (.type "object") = some true) (bme : PySem.W.kitOne K (.ref CK) (.ref CK) = some true) (bno : ∀ d : PyData, PySem.W.kitOne K (.type (tyD d)) (.ref CK) = some false)
    (xha : PySem.W.findIn K (.ref CB) "__class__" = some (some (.builtin "object.__class__"))) (xhm : PySem.W.mroIn K CB (.type "object") = some true) (xeq : PySem.W.findIn K (.ref CB) "__eq__" = some (some (.builtin "object.__eq__")))
    (xk : PySem.W.kitOne K (.ref CB) (.ref CK) = some false) (xl : PySem.W.kitOne K (.ref CB) (.type "list") = some false) (xt : PySem.W.kitOne K (.ref CB) (.type "tuple") = some false) (xd : PySem.W.kitOne K (.ref CB) (.type "dict") = some false) (xi : PySem.W.kitOne K (.ref CB) (.type "int") = some false)
    (qK_rules : PySem.W.findIn K (.ref CK) "_rules" = some none)
    (qLheap : PySem.W.findIn K (.ref CL) "heap" = some none)
    (qLnothing : PySem.W.findIn K (.ref CL) "nothing" = some none)
    (qLsingles : PySem.W.findIn K (.ref CL) "singles" = some none)
    (qLtotals : PySem.W.findIn K (.ref CL) "totals" = some none)
    (mBI : Meth K CK "__init__" fBI ∧ ∃ fd, Fun K "__init__" "Book.__init__" s_binit fBI fd)
    (mBR : Meth K CK "rules" fBR ∧ ∃ fd, Fun K "rules" "Book.rules" s_brules fBR fd)
    (mLI : Meth K CL "__init__" fLI ∧ ∃ fd, Fun K "__init__" "Leavings.__init__" s_linit fLI fd)
    (mLH : Meth K CL "has" fLH ∧ ∃ fd, Fun K "has" "Leavings.has" s_has fLH fd)
    (mLT : Meth K CL "many_to" fLT ∧ ∃ fd, Fun K "many_to" "Leavings.many_to" s_many_to fLT fd)
    (mLM : Meth K CL "many" fLM ∧ ∃ fd, Fun K "many" "Leavings.many" s_many fLM fd)
    (mLL : Meth K CL "listed" fLL)
    (z_str : mg "str" = none)
    (z_enumerate : mg "enumerate" = none)
    (z_sorted : mg "sorted" = none)
    (z_min : mg "min" = none)
    (z_max : mg "max" = none)
    (z_sum : mg "sum" = none)
    (ebb : PySem.W.exmOne K (.ref CB) (.ref CB) = some true)
    (ehb : PySem.W.exmOne K (.ref CH) (.ref CB) = some false)
    (ehh : PySem.W.exmOne K (.ref CH) (.ref CH) = some true)
    (eob : PySem.W.exmOne K (.ref CO) (.ref CB) = some false)
    (eoh : PySem.W.exmOne K (.ref CO) (.ref CH) = some false)
    (eoo : PySem.W.exmOne K (.ref CO) (.ref CO) = some true)
    (enb : PySem.W.exmOne K (.ref CN) (.ref CB) = some false)
    (enh : PySem.W.exmOne K (.ref CN) (.ref CH) = some false)
    (eno : PySem.W.exmOne K (.ref CN) (.ref CO) = some false)
    (enn : PySem.W.exmOne K (.ref CN) (.ref CN) = some true)
    {frW : Addr} {ocW kVW docW pmW ctW : Value} {odW anW : Option Addr} {slW : Array (Option Value)} (arW : PySem.W.nsIn K mainGlobals "_law_ways_right" = some (some (.ref frW)))
    (lrW : K.lookup frW = some ⟨ocW, odW, .func (PySem.W.fnOf "_law_ways_right" "_law_ways_right" (defArgs s_wr) (defBody s_wr) (defScope s_wr) .none kVW docW pmW anW (.ref cW) ctW), slW⟩) (crW : PySem.W.codeIn K (.ref cW) "_law_ways_right" = true) (krW : PySem.W.keepIn K (.ref frW) = true)
    (htW : h.get? tabW = some { cls := .none, data := .fields #[] }) (ktW : K.lookup tabW = none) (hcW : PySem.W.codeHdIn K cW tabW = true)
    {frZ : Addr} {ocZ kVZ docZ pmZ ctZ : Value} {odZ anZ : Option Addr} {slZ : Array (Option Value)} (arZ : PySem.W.nsIn K mainGlobals "_law_refused_right" = some (some (.ref frZ)))
    (lrZ : K.lookup frZ = some ⟨ocZ, odZ, .func (PySem.W.fnOf "_law_refused_right" "_law_refused_right" (defArgs s_refused) (defBody s_refused) (defScope s_refused) .none kVZ docZ pmZ anZ (.ref cZ) ctZ), slZ⟩) (crZ : PySem.W.codeIn K (.ref cZ) "_law_refused_right" = true) (krZ : PySem.W.keepIn K (.ref frZ) = true)
    (htZ : h.get? tabZ = some { cls := .none, data := .fields #[] }) (ktZ : K.lookup tabZ = none) (hcZ : PySem.W.codeHdIn K cZ tabZ = true) : Ready l w K 13 "script" mg fa h := by
  obtain ⟨f_is_row, d_is_row, F_is_row⟩ := F_is_row
  obtain ⟨f_is_integer, d_is_integer, F_is_integer⟩ := F_is_integer
  obtain ⟨f_is_number, d_is_number, F_is_number⟩ := F_is_number
  obtain ⟨f_is_heap, d_is_heap, F_is_heap⟩ := F_is_heap
  obtain ⟨f_is_heaps, d_is_heaps, F_is_heaps⟩ := F_is_heaps
  obtain ⟨f_lv, d_lv, F_lv⟩ := F_lv
  obtain ⟨f_is_rule, d_is_rule, F_is_rule⟩ := F_is_rule
  obtain ⟨f_gr, d_gr, F_gr⟩ := F_gr
  obtain ⟨f_sp, d_sp, F_sp⟩ := F_sp
  obtain ⟨f_line, d_line, F_line⟩ := F_line
  obtain ⟨f_fault, d_fault, F_fault⟩ := F_fault
  obtain ⟨f_nb, d_nb, F_nb⟩ := F_nb
  obtain ⟨f_nh, d_nh, F_nh⟩ := F_nh
  obtain ⟨f_nn, d_nn, F_nn⟩ := F_nn
  obtain ⟨f_span, d_span, F_span⟩ := F_span
  obtain ⟨f_spans, d_spans, F_spans⟩ := F_spans
  obtain ⟨f_lnone, d_lnone, F_lnone⟩ := F_lnone
  obtain ⟨f_count, d_count, F_count⟩ := F_count
  obtain ⟨f_pairs, d_pairs, F_pairs⟩ := F_pairs
  obtain ⟨f_lof, d_lof, F_lof⟩ := F_lof
  obtain ⟨f_iso, d_iso, F_iso⟩ := F_iso
  obtain ⟨f_no, d_no, F_no⟩ := F_no
  obtain ⟨f_takes, d_takes, F_takes⟩ := F_takes
  obtain ⟨f_wt, d_wt, F_wt⟩ := F_wt
  obtain ⟨f_ends, d_ends, F_ends⟩ := F_ends
  obtain ⟨f_from, d_from, F_from⟩ := F_from
  obtain ⟨f_aline, d_aline, F_aline⟩ := F_aline
  obtain ⟨f_arule, d_arule, F_arule⟩ := F_arule
  obtain ⟨f_arules, d_arules, F_arules⟩ := F_arules
  obtain ⟨f_abook, d_abook, F_abook⟩ := F_abook
  obtain ⟨f_amade, d_amade, F_amade⟩ := F_amade
  obtain ⟨f_taken, d_taken, F_taken⟩ := F_taken
  obtain ⟨f_aopts, d_aopts, F_aopts⟩ := F_aopts
  obtain ⟨f_spoil, d_spoil, F_spoil⟩ := F_spoil
  obtain ⟨f_start, d_start, F_start⟩ := F_start
  obtain ⟨f_draw, d_draw, F_draw⟩ := F_draw
  obtain ⟨f_pick, d_pick, F_pick⟩ := F_pick
  obtain ⟨f_mixed, d_mixed, F_mixed⟩ := F_mixed
  obtain ⟨f_same, d_same, F_same⟩ := F_same
  obtain ⟨f_loose, d_loose, F_loose⟩ := F_loose
  obtain ⟨f_word, d_word, F_word⟩ := F_word
  obtain ⟨f_ways, d_ways, F_ways⟩ := F_ways
  obtain ⟨f_asopt, d_asopt, F_asopt⟩ := F_asopt
  obtain ⟨f_wide, d_wide, F_wide⟩ := F_wide
  obtain ⟨f_met, d_met, F_met⟩ := F_met
  obtain ⟨f_back, d_back, F_back⟩ := F_back
  obtain ⟨f_law, d_law, F_law⟩ := F_law
  obtain ⟨d_B, IB⟩ := IB
  have bB : Binds K d_B ["self", "thing"] [] := IB.binds fun _ _ _ _ _ _ us hl => match us, hl with | [_, _], _ => rfl
  obtain ⟨d_H, IH⟩ := IH
  have bH : Binds K d_H ["self", "thing"] [] := IH.binds fun _ _ _ _ _ _ us hl => match us, hl with | [_, _], _ => rfl
  obtain ⟨d_N, IN⟩ := IN
  have bN : Binds K d_N ["self", "thing"] [] := IN.binds fun _ _ _ _ _ _ us hl => match us, hl with | [_, _], _ => rfl
  obtain ⟨d_O, IO⟩ := IO
  have bO : Binds K d_O ["self", "thing"] [] := IO.binds fun _ _ _ _ _ _ us hl => match us, hl with | [_, _], _ => rfl
  obtain ⟨d_R, IR⟩ := IR
  have bR : Binds K d_R ["self", "index"] [] := IR.binds fun _ _ _ _ _ _ us hl => match us, hl with | [_, _], _ => rfl
  obtain ⟨mBI, dBI, F_BI⟩ := mBI
  obtain ⟨mBR, dBR, F_BR⟩ := mBR
  obtain ⟨mLI, dLI, F_LI⟩ := mLI
  obtain ⟨mLH, dLH, F_LH⟩ := mLH
  obtain ⟨mLT, dLT, F_LT⟩ := mLT
  obtain ⟨mLM, dLM, F_LM⟩ := mLM
  obtain ⟨tl, hLE, hTL⟩ := hLE
  have BK : BkC K mg CK fBI fBR := ⟨⟨pK, hK, oK, sK⟩, bha, bhn, bht, bhm, bme, qK_rules, gK, bno, ⟨mK, mBI.at_, mBI.fn, kK⟩, mBR⟩
  have LC : LvC K mg CL fLI fLL fLH := ⟨⟨pL, hL, oL, sL⟩, qLheap, qLnothing, qLsingles, qLtotals, gL, ⟨mL, mLI.at_, mLI.fn, kL⟩, mLL, mLH⟩
  have M : Errs K mg ⟨CB, CH, CO, CN⟩ ⟨gB, gH, gO, gN⟩ := ⟨XB, XH, XO, XN, ebb, ehb, ehh, eob, eoh, eoo, enb, enh, eno, enn⟩
  have TE : ExK K CB := ⟨XB.xf, xha, bhn, bht, xhm, xeq⟩
  have e := hfa.symm.trans F_law.g
  cases e
  have F_wr : FD K mg "_law_ways_right" "_law_ways_right" s_wr frW _ := ⟨fun_mk lrW crW krW, PySem.W.mg_of X G arW⟩
  have F_ref : FD K mg "_law_refused_right" "_law_refused_right" s_refused frZ _ := ⟨fun_mk lrZ crZ krZ, PySem.W.mg_of X G arZ⟩
  have bi : ∀ (s : Shared) (u : Value), BindsTo s d_law ⟨[u], []⟩ [("script", u)] := by
    obtain ⟨_, _, _, _, _, _, _, _, _, e, _, _⟩ := F_law.F.ex
    rw [e]
    exact fun s u => .of_eq rfl
  have two : ∀ {C : Addr × Addr → Prop}, C (cW, tabW) → C (cZ, tabZ) → ∀ q ∈ [(cW, tabW), (cZ, tabZ)], C q := fun {C} h1 h2 q hq => by
    rcases List.mem_cons.mp hq with rfl | hq
    · exact h1
    · rw [List.mem_singleton.mp hq]
      exact h2
  have huv : ∀ p ∈ [(tabW, lamW), (tabZ, lamR)], p.1 = tabW → p.2 = lamW := fun p hp e => by
    rcases List.mem_cons.mp hp with rfl | hp
    · rfl
    · rw [List.mem_singleton.mp hp] at e
      exact absurd e.symm hne
  have hul : ∀ p ∈ [(tabW, lamW), (tabZ, lamR)], p.1 = tabZ → p.2 = lamR := fun p hp e => by
    rcases List.mem_cons.mp hp with rfl | hp
    · exact absurd e hne
    · rw [List.mem_singleton.mp hp]
  refine ⟨_, [(cW, tabW), (cZ, tabZ)], [(tabW, lamW), (tabZ, lamR)], two htW htZ, two ktW ktZ, two (PySem.W.codeHd_of_K X hcW) (PySem.W.codeHd_of_K X hcZ), fun p hp => ?_, bi, fun base KB NB TB => ?_⟩
  · rcases List.mem_cons.mp hp with rfl | hp
    · exact .head _
    · rw [List.mem_singleton.mp hp]
      exact .tail _ (.head _)
  have G_num := ok_is_number (P := l.prog) (w := w) (base := base) F_is_number F_is_integer T
  have G_hp := ok_is_heap (P := l.prog) (w := w) (base := base) F_is_heap F_is_integer T hMH
  have G_hps := ok_is_heaps (P := l.prog) (w := w) (base := base) F_is_heaps F_is_row F_is_heap G_hp T
  have G_lv := ok_is_leaving (P := l.prog) (w := w) (base := base) F_lv F_is_heaps G_hps T
  have J_B := ok_ini (P := l.prog) (w := w) (base := base) 3 "thing" (.inl ⟨rfl, rfl⟩) IB XB
  have J_H := ok_ini (P := l.prog) (w := w) (base := base) 4 "thing" (.inr (.inl ⟨rfl, rfl⟩)) IH XH
  have J_N := ok_ini (P := l.prog) (w := w) (base := base) 5 "thing" (.inr (.inr (.inl ⟨rfl, rfl⟩))) IN XN
  have J_O := ok_ini (P := l.prog) (w := w) (base := base) 6 "thing" (.inr (.inr (.inr (.inl ⟨rfl, rfl⟩)))) IO XO
  have J_R := ok_ini (P := l.prog) (w := w) (base := base) 7 "index" (.inr (.inr (.inr (.inr ⟨rfl, rfl⟩)))) IR XR
  have G_nb := ok_need_book F_nb BK XB J_B bB T TE xk
  have G_nh := ok_need_heap F_nh F_is_heap G_hp XH J_H bH
  have G_nn := ok_need_number F_nn F_is_number G_num XN J_N bN
  have G_rule := ok_is_rule (P := l.prog) (w := w) (base := base) F_is_rule F_is_row F_is_number F_is_integer T z_str hLE hTL
  have G_fault := ok_fault F_fault F_is_row F_is_rule G_rule F_gr F_sp T z_enumerate
  have G_binit := ok_binit F_BI ⟨pK, hK, oK, sK⟩ qK_rules F_fault G_fault F_line XR J_R bR T z_sorted
  have G_brules := ok_brules (P := l.prog) (w := w) (base := base) F_BR BK T
  have G_span := ok_span (P := l.prog) (w := w) (base := base) F_span z_max
  have G_spans := ok_spans F_spans F_span G_span T z_max z_sorted
  have G_lnone := ok_lnone F_lnone F_spans G_spans T
  have G_count := ok_count (P := l.prog) (w := w) (base := base) F_count z_min z_max z_sum
  have G_count1 := ok_count1 (P := l.prog) (w := w) (base := base) F_count z_min z_max z_sum
  have G_pairs := ok_pairs (P := l.prog) (w := w) (base := base) F_pairs z_min
  have G_LI := ok_linit F_LI LC BK F_BR G_brules F_lnone G_lnone F_spans G_spans
  have G_LH := ok_has F_LH LC T z_sum F_count G_count
  have G_LHR := ok_hasR F_LH LC T z_sum F_count G_count
  have G_LT := ok_many_to F_LT LC z_sum F_pairs G_pairs F_count G_count1
  have G_LM := ok_many F_LM LC T mLT F_LT G_LT
  have G_lof := ok_lof (fBI := fBI) (fBR := fBR) F_lof LC F_nb G_nb F_nh G_nh F_LI G_LI
  have G_iso := ok_isopt F_iso LC z_sorted F_lof G_lof F_is_heaps G_hps F_LH G_LH
  have G_no := ok_need_option F_no F_iso G_iso XO J_O bO
  have G_takes := ok_takes (P := l.prog) (w := w) (base := base) F_takes hLE hTL
  have G_wt := ok_ways_to (f3 := fBR) F_wt z_sum T F_no G_no F_takes G_takes BK F_BR G_brules
  have G_ends := ok_ends (fBI := fBI) (fBR := fBR) F_ends LC T F_nb G_nb F_nn G_nn F_LI G_LI mLM F_LM G_LM
  have G_from := ok_from F_from LC T F_nb G_nb F_nn G_nn F_lv G_lv XO J_O bO F_LI G_LI F_LH G_LHR
  have G_start := ok_start (P := l.prog) (w := w) (base := base) F_start T
  have BM : BkMade K mg CK fBI := ⟨gK, ⟨mK, mBI.at_, mBI.fn, kK⟩⟩
  have G_taken := ok_taken (P := l.prog) (w := w) (base := base) F_taken T z_min z_sorted
  have G_aline := ok_aline (P := l.prog) (w := w) (base := base) F_aline z_str
  have G_arule := ok_arule (P := l.prog) (w := w) (base := base) F_arule F_draw F_pick T z_min z_max
  have G_aopts := ok_aopts F_aopts T z_sorted F_taken G_taken
  have G_arules := ok_arules F_arules T z_max T.all z_sorted F_draw F_arule G_arule F_aline G_aline
  have G_abook := ok_abook F_abook T F_draw F_pick F_arules G_arules
  have G_wide := ok_wide F_wide T F_draw F_arules G_arules
  have G_amade := ok_amade F_amade T F_draw F_mixed F_loose BM F_BI G_binit
  have G_ways := ok_ways F_ways T z_sorted z_sum F_word F_aline G_aline
  have G_asopt := ok_asopt F_asopt T z_sorted F_ways G_ways
  have G_wr := ok_wr (TS := [(tabW, lamW), (tabZ, lamR)]) lrW crW M (TB (cW, tabW) (.head _)) (.head _) huv F_met F_draw F_loose F_asopt G_asopt F_ways G_ways F_same ⟨_, _, F_spoil⟩ F_wt G_wt T
  have G_ref := ok_refused (TS := [(tabW, lamW), (tabZ, lamR)]) lrZ crZ M (TB (cZ, tabZ) (.tail _ (.head _))) (.tail _ (.head _)) hul F_met F_wt G_wt F_from G_from F_ends G_ends F_same T
  have G_back := ok_back F_back T z_enumerate F_draw F_pick F_loose F_aopts G_aopts F_same ⟨_, _, F_spoil⟩ F_ends G_ends F_from G_from
  exact ok_law (Z := ⟨CB, CH, CO, CN⟩) (gZ := ⟨gB, gH, gO, gN⟩) F_law F_start G_start F_draw F_abook G_abook F_wide G_wide F_amade G_amade F_mixed F_aopts G_aopts F_wr G_wr F_back G_back F_wt G_wt F_from G_from F_ends G_ends F_same F_ref G_ref BM F_BI G_binit T
end
end Ts


set_option Elab.async false
open PySem PySem.W PyProof.Rows in
set_option maxRecDepth 100000 in
set_option maxHeartbeats 0 in
theorem PySem.Challenge.cw_takeandsplit_k11_whole_ways_and_back_holds : PySem.Challenge.rw_takeandsplit_k11_whole_ways_and_back.Holds := by
  w_on; o_law; k_head; (case hw => w_witness2)
  k_fill
  refine Ts.walk_tab (l := PySem.Challenge.rw_takeandsplit_k11_whole_ways_and_back) (n := 63) (k := 13) (x := "script") rfl (by decide) rfl ⟨rfl, by decide, by decide⟩ (fun w h Y => PySem.W.km_in_of Y) ?F
  case F =>
    intro w mg fa h Y KX G hmg
    refine' Ts.ready (tabW := 517) (tabZ := 527) KX G hmg ?hne ?T ?hMH ?hLE ?F_is_row ?F_is_integer ?F_is_number ?F_is_heap ?F_is_heaps ?F_lv ?F_is_rule ?F_gr ?F_sp ?F_line ?F_fault ?F_nb ?F_nh ?F_nn ?F_span ?F_spans ?F_lnone ?F_count ?F_pairs ?F_lof ?F_iso ?F_no ?F_takes ?F_wt ?F_ends ?F_from ?F_aline ?F_arule ?F_arules ?F_abook ?F_amade ?F_taken ?F_aopts ?F_spoil ?F_start ?F_draw ?F_pick ?F_mixed ?F_same ?F_loose ?F_word ?F_ways ?F_asopt ?F_wide ?F_met ?F_back ?F_law ?XB ?IB ?XH ?IH ?XN ?IN ?XO ?IO ?XR ?IR ?gK ?pK ?hK ?oK ?sK ?mK ?kK ?gL ?pL ?hL ?oL ?sL ?mL ?kL ?bha ?bhn ?bht ?bhm ?bme ?bno ?xha ?xhm ?xeq ?xk ?xl ?xt ?xd ?xi ?qK_rules ?qLheap ?qLnothing ?qLsingles ?qLtotals ?mBI ?mBR ?mLI ?mLH ?mLT ?mLM ?mLL ?z_str ?z_enumerate ?z_sorted ?z_min ?z_max ?z_sum ?ebb ?ehb ?ehh ?eob ?eoh ?eoo ?enb ?enh ?eno ?enn ?y_arW ?y_lrW ?y_crW ?y_krW ?y_htW ?y_ktW ?y_hcW ?y_arZ ?y_lrZ ?y_crZ ?y_krZ ?y_htZ ?y_ktZ ?y_hcZ
    case hne =>
      decide
    case T =>
      refine' ⟨PySem.W.mg_none_of KX G ?b0, PySem.W.mg_none_of KX G ?b1, PySem.W.mg_none_of KX G ?b2, PySem.W.mg_none_of KX G ?b3, PySem.W.mg_none_of KX G ?b4, PySem.W.mg_none_of KX G ?b5, PySem.W.mg_none_of KX G ?b6, PySem.W.mg_none_of KX G ?b7, PySem.W.mg_none_of KX G ?b8, PySem.W.mg_none_of KX G ?b9, PySem.W.mg_none_of KX G ?b10, PySem.W.mg_none_of KX G ?b11⟩
      (case b0 => k_is); (case b1 => k_is); (case b2 => k_is); (case b3 => k_is); (case b4 => k_is); (case b5 => k_is); (case b6 => k_is); (case b7 => k_is); (case b8 => k_is); (case b9 => k_is); (case b10 => k_is); (case b11 => k_is)
    case hMH =>
      refine' PySem.W.mg_of KX G ?a
      (case a => k_is)
    case hLE =>
      refine' Ts.lef_mk KX G ?a ?l
      (case a => k_is); (case l => k_is)
    case F_is_row =>
      refine' Ts.fd_mk KX G ?a ?l ?c ?k
      (case a => k_is); (case l => k_is); (case c => k_is); (case k => k_is)
    case F_is_integer =>
      refine' Ts.fd_mk KX G ?a ?l ?c ?k
      (case a => k_is); (case l => k_is); (case c => k_is); (case k => k_is)
    case F_is_number =>
      refine' Ts.fd_mk KX G ?a ?l ?c ?k
      (case a => k_is); (case l => k_is); (case c => k_is); (case k => k_is)
    case F_is_heap =>
      refine' Ts.fd_mk KX G ?a ?l ?c ?k
      (case a => k_is); (case l => k_is); (case c => k_is); (case k => k_is)
    case F_is_heaps =>
      refine' Ts.fd_mk KX G ?a ?l ?c ?k
      (case a => k_is); (case l => k_is); (case c => k_is); (case k => k_is)
    case F_lv =>
      refine' Ts.fd_mk KX G ?a ?l ?c ?k
      (case a => k_is); (case l => k_is); (case c => k_is); (case k => k_is)
    case F_is_rule =>
      refine' Ts.fd_mk KX G ?a ?l ?c ?k
      (case a => k_is); (case l => k_is); (case c => k_is); (case k => k_is)
    case F_gr =>
      refine' Ts.fd_mk KX G ?a ?l ?c ?k
      (case a => k_is); (case l => k_is); (case c => k_is); (case k => k_is)
    case F_sp =>
      refine' Ts.fd_mk KX G ?a ?l ?c ?k
      (case a => k_is); (case l => k_is); (case c => k_is); (case k => k_is)
    case F_line =>
      refine' Ts.fd_mk KX G ?a ?l ?c ?k
      (case a => k_is); (case l => k_is); (case c => k_is); (case k => k_is)
    case F_fault =>
      refine' Ts.fd_mk KX G ?a ?l ?c ?k
      (case a => k_is); (case l => k_is); (case c => k_is); (case k => k_is)
    case F_nb =>
      refine' Ts.fd_mk KX G ?a ?l ?c ?k
      (case a => k_is); (case l => k_is); (case c => k_is); (case k => k_is)
    case F_nh =>
      refine' Ts.fd_mk KX G ?a ?l ?c ?k
      (case a => k_is); (case l => k_is); (case c => k_is); (case k => k_is)
    case F_nn =>
      refine' Ts.fd_mk KX G ?a ?l ?c ?k
      (case a => k_is); (case l => k_is); (case c => k_is); (case k => k_is)
    case F_span =>
      refine' Ts.fd_mk KX G ?a ?l ?c ?k
      (case a => k_is); (case l => k_is); (case c => k_is); (case k => k_is)
    case F_spans =>
      refine' Ts.fd_mk KX G ?a ?l ?c ?k
      (case a => k_is); (case l => k_is); (case c => k_is); (case k => k_is)
    case F_lnone =>
      refine' Ts.fd_mk KX G ?a ?l ?c ?k
      (case a => k_is); (case l => k_is); (case c => k_is); (case k => k_is)
    case F_count =>
      refine' Ts.fd_mk KX G ?a ?l ?c ?k
      (case a => k_is); (case l => k_is); (case c => k_is); (case k => k_is)
    case F_pairs =>
      refine' Ts.fd_mk KX G ?a ?l ?c ?k
      (case a => k_is); (case l => k_is); (case c => k_is); (case k => k_is)
    case F_lof =>
      refine' Ts.fd_mk KX G ?a ?l ?c ?k
      (case a => k_is); (case l => k_is); (case c => k_is); (case k => k_is)
    case F_iso =>
      refine' Ts.fd_mk KX G ?a ?l ?c ?k
      (case a => k_is); (case l => k_is); (case c => k_is); (case k => k_is)
    case F_no =>
      refine' Ts.fd_mk KX G ?a ?l ?c ?k
      (case a => k_is); (case l => k_is); (case c => k_is); (case k => k_is)
    case F_takes =>
      refine' Ts.fd_mk KX G ?a ?l ?c ?k
      (case a => k_is); (case l => k_is); (case c => k_is); (case k => k_is)
    case F_wt =>
      refine' Ts.fd_mk KX G ?a ?l ?c ?k
      (case a => k_is); (case l => k_is); (case c => k_is); (case k => k_is)
    case F_ends =>
      refine' Ts.fd_mk KX G ?a ?l ?c ?k
      (case a => k_is); (case l => k_is); (case c => k_is); (case k => k_is)
    case F_from =>
      refine' Ts.fd_mk KX G ?a ?l ?c ?k
      (case a => k_is); (case l => k_is); (case c => k_is); (case k => k_is)
    case F_aline =>
      refine' Ts.fd_mk KX G ?a ?l ?c ?k
      (case a => k_is); (case l => k_is); (case c => k_is); (case k => k_is)
    case F_arule =>
      refine' Ts.fd_mk KX G ?a ?l ?c ?k
      (case a => k_is); (case l => k_is); (case c => k_is); (case k => k_is)
    case F_arules =>
      refine' Ts.fd_mk KX G ?a ?l ?c ?k
      (case a => k_is); (case l => k_is); (case c => k_is); (case k => k_is)
    case F_abook =>
      refine' Ts.fd_mk KX G ?a ?l ?c ?k
      (case a => k_is); (case l => k_is); (case c => k_is); (case k => k_is)
    case F_amade =>
      refine' Ts.fd_mk KX G ?a ?l ?c ?k
      (case a => k_is); (case l => k_is); (case c => k_is); (case k => k_is)
    case F_taken =>
      refine' Ts.fd_mk KX G ?a ?l ?c ?k
      (case a => k_is); (case l => k_is); (case c => k_is); (case k => k_is)
    case F_aopts =>
      refine' Ts.fd_mk KX G ?a ?l ?c ?k
      (case a => k_is); (case l => k_is); (case c => k_is); (case k => k_is)
    case F_spoil =>
      refine' Ts.fd_mk KX G ?a ?l ?c ?k
      (case a => k_is); (case l => k_is); (case c => k_is); (case k => k_is)
    case F_start =>
      refine' Ts.fd_mk KX G ?a ?l ?c ?k
      (case a => k_is); (case l => k_is); (case c => k_is); (case k => k_is)
    case F_draw =>
      refine' Ts.fd_mk KX G ?a ?l ?c ?k
      (case a => k_is); (case l => k_is); (case c => k_is); (case k => k_is)
    case F_pick =>
      refine' Ts.fd_mk KX G ?a ?l ?c ?k
      (case a => k_is); (case l => k_is); (case c => k_is); (case k => k_is)
    case F_mixed =>
      refine' Ts.fd_mk KX G ?a ?l ?c ?k
      (case a => k_is); (case l => k_is); (case c => k_is); (case k => k_is)
    case F_same =>
      refine' Ts.fd_mk KX G ?a ?l ?c ?k
      (case a => k_is); (case l => k_is); (case c => k_is); (case k => k_is)
    case F_loose =>
      refine' Ts.fd_mk KX G ?a ?l ?c ?k
      (case a => k_is); (case l => k_is); (case c => k_is); (case k => k_is)
    case F_word =>
      refine' Ts.fd_mk KX G ?a ?l ?c ?k
      (case a => k_is); (case l => k_is); (case c => k_is); (case k => k_is)
    case F_ways =>
      refine' Ts.fd_mk KX G ?a ?l ?c ?k
      (case a => k_is); (case l => k_is); (case c => k_is); (case k => k_is)
    case F_asopt =>
      refine' Ts.fd_mk KX G ?a ?l ?c ?k
      (case a => k_is); (case l => k_is); (case c => k_is); (case k => k_is)
    case F_wide =>
      refine' Ts.fd_mk KX G ?a ?l ?c ?k
      (case a => k_is); (case l => k_is); (case c => k_is); (case k => k_is)
    case F_met =>
      refine' Ts.fd_mk KX G ?a ?l ?c ?k
      (case a => k_is); (case l => k_is); (case c => k_is); (case k => k_is)
    case F_back =>
      refine' Ts.fd_mk KX G ?a ?l ?c ?k
      (case a => k_is); (case l => k_is); (case c => k_is); (case k => k_is)
    case F_law =>
      refine' Ts.fd_mk KX G ?a ?l ?c ?k
      (case a => k_is); (case l => k_is); (case c => k_is); (case k => k_is)
    case XB =>
      refine' Ts.xc_mk KX G ?a ?l ?rv ?sa ?eC ?tC ?kC ?iC ?tI ?nF ?ga ?gg ?hC
      (case a => k_is); (case l => k_is); (case rv => decide +kernel); (case sa => k_is); (case eC => k_is); (case tC => k_is); (case kC => k_is)
      (case iC => k_is); (case tI => k_is); (case nF => k_is); (case ga => k_is); (case gg => k_is); (case hC => k_is)
    case IB =>
      refine' Ts.bi_mk ?l ?c ?k
      (case l => k_is); (case c => k_is); (case k => k_is)
    case XH =>
      refine' Ts.xc_mk KX G ?a ?l ?rv ?sa ?eC ?tC ?kC ?iC ?tI ?nF ?ga ?gg ?hC
      (case a => k_is); (case l => k_is); (case rv => decide +kernel); (case sa => k_is); (case eC => k_is); (case tC => k_is); (case kC => k_is)
      (case iC => k_is); (case tI => k_is); (case nF => k_is); (case ga => k_is); (case gg => k_is); (case hC => k_is)
    case IH =>
      refine' Ts.bi_mk ?l ?c ?k
      (case l => k_is); (case c => k_is); (case k => k_is)
    case XN =>
      refine' Ts.xc_mk KX G ?a ?l ?rv ?sa ?eC ?tC ?kC ?iC ?tI ?nF ?ga ?gg ?hC
      (case a => k_is); (case l => k_is); (case rv => decide +kernel); (case sa => k_is); (case eC => k_is); (case tC => k_is); (case kC => k_is)
      (case iC => k_is); (case tI => k_is); (case nF => k_is); (case ga => k_is); (case gg => k_is); (case hC => k_is)
    case IN =>
      refine' Ts.bi_mk ?l ?c ?k
      (case l => k_is); (case c => k_is); (case k => k_is)
    case XO =>
      refine' Ts.xc_mk KX G ?a ?l ?rv ?sa ?eC ?tC ?kC ?iC ?tI ?nF ?ga ?gg ?hC
      (case a => k_is); (case l => k_is); (case rv => decide +kernel); (case sa => k_is); (case eC => k_is); (case tC => k_is); (case kC => k_is)
      (case iC => k_is); (case tI => k_is); (case nF => k_is); (case ga => k_is); (case gg => k_is); (case hC => k_is)
    case IO =>
      refine' Ts.bi_mk ?l ?c ?k
      (case l => k_is); (case c => k_is); (case k => k_is)
    case XR =>
      refine' Ts.xc_mk KX G ?a ?l ?rv ?sa ?eC ?tC ?kC ?iC ?tI ?nF ?ga ?gg ?hC
      (case a => k_is); (case l => k_is); (case rv => decide +kernel); (case sa => k_is); (case eC => k_is); (case tC => k_is); (case kC => k_is)
      (case iC => k_is); (case tI => k_is); (case nF => k_is); (case ga => k_is); (case gg => k_is); (case hC => k_is)
    case IR =>
      refine' Ts.bi_mk ?l ?c ?k
      (case l => k_is); (case c => k_is); (case k => k_is)
    case gK =>
      refine' PySem.W.mg_of KX G ?a
      (case a => k_is)
    case pK =>
      k_is
    case hK =>
      k_is
    case oK =>
      k_is
    case sK =>
      k_is
    case mK =>
      k_is
    case kK =>
      k_is
    case gL =>
      refine' PySem.W.mg_of KX G ?a
      (case a => k_is)
    case pL =>
      k_is
    case hL =>
      k_is
    case oL =>
      k_is
    case sL =>
      k_is
    case mL =>
      k_is
    case kL =>
      k_is
    case bha =>
      first | rfl | k_is
    case bhn =>
      first | rfl | k_is
    case bht =>
      first | rfl | k_is
    case bhm =>
      first | rfl | k_is
    case bme =>
      first | rfl | k_is | kernel_rfl
    case bno =>
      intro d
      cases d <;> first | rfl | k_is | kernel_rfl
    case xha =>
      first | rfl | k_is | kernel_rfl
    case xhm =>
      first | rfl | k_is | kernel_rfl
    case xeq =>
      first | rfl | k_is | kernel_rfl
    case xk =>
      first | rfl | k_is | kernel_rfl
    case xl =>
      first | rfl | k_is | kernel_rfl
    case xt =>
      first | rfl | k_is | kernel_rfl
    case xd =>
      first | rfl | k_is | kernel_rfl
    case xi =>
      first | rfl | k_is | kernel_rfl
    case qK_rules =>
      k_is
    case qLheap =>
      k_is
    case qLnothing =>
      k_is
    case qLsingles =>
      k_is
    case qLtotals =>
      k_is
    case mBI =>
      refine' Ts.me_mk ?a ?i ?l ?c ?k
      (case a => k_is); (case i => k_is); (case l => k_is); (case c => k_is); (case k => k_is)
    case mBR =>
      refine' Ts.me_mk ?a ?i ?l ?c ?k
      (case a => k_is); (case i => k_is); (case l => k_is); (case c => k_is); (case k => k_is)
    case mLI =>
      refine' Ts.me_mk ?a ?i ?l ?c ?k
      (case a => k_is); (case i => k_is); (case l => k_is); (case c => k_is); (case k => k_is)
    case mLH =>
      refine' Ts.me_mk ?a ?i ?l ?c ?k
      (case a => k_is); (case i => k_is); (case l => k_is); (case c => k_is); (case k => k_is)
    case mLT =>
      refine' Ts.me_mk ?a ?i ?l ?c ?k
      (case a => k_is); (case i => k_is); (case l => k_is); (case c => k_is); (case k => k_is)
    case mLM =>
      refine' Ts.me_mk ?a ?i ?l ?c ?k
      (case a => k_is); (case i => k_is); (case l => k_is); (case c => k_is); (case k => k_is)
    case mLL =>
      refine' Ts.mt_mk ?a ?i ?k
      (case a => k_is); (case i => k_is); (case k => k_is)
    case z_str =>
      refine' PySem.W.mg_none_of KX G ?a
      (case a => k_is)
    case z_enumerate =>
      refine' PySem.W.mg_none_of KX G ?a
      (case a => k_is)
    case z_sorted =>
      refine' PySem.W.mg_none_of KX G ?a
      (case a => k_is)
    case z_min =>
      refine' PySem.W.mg_none_of KX G ?a
      (case a => k_is)
    case z_max =>
      refine' PySem.W.mg_none_of KX G ?a
      (case a => k_is)
    case z_sum =>
      refine' PySem.W.mg_none_of KX G ?a
      (case a => k_is)
    case ebb =>
      refine' Ts.exm_mk ?h1 ?h2 ?h3 ?h4
      (case h1 => k_is); (case h2 => k_is); (case h3 => k_is); (case h4 => first | rfl | k_is)
    case ehb =>
      refine' Ts.exm_mk ?h1 ?h2 ?h3 ?h4
      (case h1 => k_is); (case h2 => k_is); (case h3 => k_is); (case h4 => first | rfl | k_is)
    case ehh =>
      refine' Ts.exm_mk ?h1 ?h2 ?h3 ?h4
      (case h1 => k_is); (case h2 => k_is); (case h3 => k_is); (case h4 => first | rfl | k_is)
    case eob =>
      refine' Ts.exm_mk ?h1 ?h2 ?h3 ?h4
      (case h1 => k_is); (case h2 => k_is); (case h3 => k_is); (case h4 => first | rfl | k_is)
    case eoh =>
      refine' Ts.exm_mk ?h1 ?h2 ?h3 ?h4
      (case h1 => k_is); (case h2 => k_is); (case h3 => k_is); (case h4 => first | rfl | k_is)
    case eoo =>
      refine' Ts.exm_mk ?h1 ?h2 ?h3 ?h4
      (case h1 => k_is); (case h2 => k_is); (case h3 => k_is); (case h4 => first | rfl | k_is)
    case enb =>
      refine' Ts.exm_mk ?h1 ?h2 ?h3 ?h4
      (case h1 => k_is); (case h2 => k_is); (case h3 => k_is); (case h4 => first | rfl | k_is)
    case enh =>
      refine' Ts.exm_mk ?h1 ?h2 ?h3 ?h4
      (case h1 => k_is); (case h2 => k_is); (case h3 => k_is); (case h4 => first | rfl | k_is)
    case eno =>
      refine' Ts.exm_mk ?h1 ?h2 ?h3 ?h4
      (case h1 => k_is); (case h2 => k_is); (case h3 => k_is); (case h4 => first | rfl | k_is)
    case enn =>
      refine' Ts.exm_mk ?h1 ?h2 ?h3 ?h4
      (case h1 => k_is); (case h2 => k_is); (case h3 => k_is); (case h4 => first | rfl | k_is)
    case y_arW =>
      k_is
    case y_lrW =>
      k_is
    case y_crW =>
      k_is
    case y_krW =>
      k_is
    case y_htW =>
      exact PySem.W.km_tabs_of Y 517 (by k_mem)
    case y_ktW =>
      kernel_rfl
    case y_hcW =>
      kernel_rfl
    case y_arZ =>
      k_is
    case y_lrZ =>
      k_is
    case y_crZ =>
      k_is
    case y_krZ =>
      k_is
    case y_htZ =>
      exact PySem.W.km_tabs_of Y 527 (by k_mem)
    case y_ktZ =>
      kernel_rfl
    case y_hcZ =>
      kernel_rfl

