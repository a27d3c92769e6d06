import PyProof.Rows.All
import Wide.All
import OpenK.AllK
import Wide.FinOn
import HandS.ForMost
import HandS.EndTab
import HandS.IsInst
import HandS.Lambda
import HandS.TryMany
import HandS.ExcInit
import HandS.ExcField
import HandS.NoneIn
import HandS.WideBits
import HandS.Walk
import HandS.Flow
import HandS.Conv
import HandS.Evl
import HandS.ForExc
import PySem.Challenge.RW_takeandsplit_k10_whole_values_judged
import KE.KeyNested
import HandS.Dict
import HandS.Small
import HandS.FStr
import KE.GoesMore
import KE.GoesEnum
import HandS.Iter
import KE.SortKeyHeap
import HandS.SortKw
import HandS.DictComp
import HandS.Zip
import HandS.ListItems
import HandS.More
import HandS.SortInts
import HandS.Style
import KE.SortData
import HandS.Deep
import KE.BitLaws
import HandS.RaiseMore
import HandS.Defaults
set_option Elab.async false
set_option linter.all false
set_option maxRecDepth 100000
set_option maxHeartbeats 2000000
namespace Ts
open PySem PySem.Spec PyProof.Rows L2
section
variable {X : Cx}
/-- repr of data at an address -/
def rShow (K : PySem.W.Frag) : List V → Hp → VK → Prop := fun xs H Q =>
  ∃ (a : Addr) (d : PyData), xs = [.ref a] ∧ Dp K H (.ref a) d ∧ d.showable = true ∧ d.hasDict = false ∧ d.depth ≤ 60 ∧ d.shown.length ≤ sizeLine ∧ Q (.str d.shown) H
theorem call_show (hg : X.A.guards = some []) (hu : X.A.units + 64 < cLine) : CallR X (.builtin "repr") (rShow X.K) := by
  intro pins s σ H xs us Q I r h
  obtain ⟨a, d, rfl, hd, hs, hn, hdp, hz, q⟩ := h
  obtain ⟨u, rfl, e⟩ := vals1 r
  cases e
  obtain ⟨as, rd⟩ := Dp.reads I d _ _ hd rfl
  exact repr_of_reads' rd hs (fun z => by rw [hn] at z; cases z) hg (by omega) (fun b o e => e) (fun h' u tk hk => ⟨.str _, H, I.kept hk, ⟨_, rfl⟩, q⟩) hz

/-! a def's promise where no repr is under way -/
structure GOk (P : Program) (w : World) (K : PySem.W.Frag) (mg : Str → Option Value) (base : Heap) (CX : CXT) (k : Nat) (f : Addr) (fd : FuncData) (ps : List Str) (sp : Sp) : Prop where
  ln : ∀ vs H Q E, sp vs H Q E → vs.length = ps.length
  go : ∀ (A : Around) (outer : List Env) (s : Shared) (H : Hp) (args : Args) (us : List Value) (vs : List V) (Q : VK) (E : XK),
    A.guards = some [] → Room k A → Env0 P w K mg base A outer s H → BindsTo s fd args (ps.zip us) → Vals vs us → sp vs H Q E →
      codeAny (model P w) A (.call (.ref f) args) (CR CX outer P w H s Q E) s
end
end Ts


set_option Elab.async false
set_option linter.all false
set_option maxRecDepth 100000
set_option maxHeartbeats 2000000
namespace Ts
open PySem PySem.Spec PyProof.Rows L2
open Evl (Ex)

/-! ## data, with dicts -/
def keyD : Key → PyData
  | .inl n => .int n
  | .inr x => .str x
mutual
inductive D (H : Hp) : V → PyData → Prop
  | non : D H .non .none
  | bl (b : Bool) : D H (.bl b) (.bool b)
  | int (i : Int) : D H (.int i) (.int i)
  | str (x : Str) : D H (.str x) (.str x)
  | lst {a : Addr} {xs : List V} {ds : List PyData} : H a = some (.lst xs) → DAll H xs ds → D H (.ref a) (.list ds)
  | tup {a : Addr} {xs : List V} {ds : List PyData} : H a = some (.tup xs) → DAll H xs ds → D H (.ref a) (.tuple ds)
  | dic {a : Addr} {kvs : List (Key × V)} {ds : List (PyData × PyData)} : H a = some (.dK kvs) → DKv H kvs ds → D H (.ref a) (.dict ds)
inductive DAll (H : Hp) : List V → List PyData → Prop
  | nil : DAll H [] []
  | cons {v : V} {vs : List V} {d : PyData} {ds : List PyData} : D H v d → DAll H vs ds → DAll H (v :: vs) (d :: ds)
inductive DKv (H : Hp) : List (Key × V) → List (PyData × PyData) → Prop
  | nil : DKv H [] []
  | cons {k : Key} {v : V} {vs : List (Key × V)} {d : PyData} {ds : List (PyData × PyData)} : D H v d → DKv H vs ds → DKv H ((k, v) :: vs) ((keyD k, d) :: ds)
end
mutual
theorem D.ex {H H' : Hp} (e : Ex H H') : ∀ {v : V} {d : PyData}, D H v d → D H' v d
  | _, _, .non => .non
  | _, _, .bl b => .bl b
  | _, _, .int i => .int i
  | _, _, .str x => .str x
  | _, _, .lst h r => .lst (e _ _ h) (DAll.ex e r)
  | _, _, .tup h r => .tup (e _ _ h) (DAll.ex e r)
  | _, _, .dic h r => .dic (e _ _ h) (DKv.ex e r)
theorem DAll.ex {H H' : Hp} (e : Ex H H') : ∀ {v : List V} {d : List PyData}, DAll H v d → DAll H' v d
  | _, _, .nil => .nil
  | _, _, .cons h r => .cons (D.ex e h) (DAll.ex e r)
theorem DKv.ex {H H' : Hp} (e : Ex H H') : ∀ {v : List (Key × V)} {d : List (PyData × PyData)}, DKv H v d → DKv H' v d
  | _, _, .nil => .nil
  | _, _, .cons h r => .cons (D.ex e h) (DKv.ex e r)
end
theorem DAll.len {H : Hp} : ∀ {v : List V} {d : List PyData}, DAll H v d → v.length = d.length
  | _, _, .nil => rfl
  | _, _, .cons _ r => by rw [List.length_cons, List.length_cons, DAll.len r]
def tyD : PyData → String
  | .none => "NoneType" | .bool _ => "bool" | .int _ => "int" | .str _ => "str" | .list _ => "list" | .tuple _ => "tuple" | .dict _ => "dict"
theorem D.ty {K : PySem.W.Frag} {H : Hp} {v : V} {d : PyData} (h : D H v d) : TyX K H v (.type (tyD d)) := by
  cases h with
  | non => exact .base .non
  | bl b => exact .base (.bl b)
  | int i => exact .base (.int i)
  | str x => exact .base (.str x)
  | lst h _ => exact .base (.lst h)
  | tup h _ => exact .base (.tup h)
  | dic h _ => exact .base (.dK h)

/-! ## the text -/
def top (i : Nat) : Stmt := PySem.Challenge.pw_takeandsplit_k10_whole_values_judged.main.body.getD i (.Pass ⟨0, 0, 0, 0⟩)
/-- a def of the text that stands behind the top -/
structure FD (K : PySem.W.Frag) (mg : Str → Option Value) (x : Str) (q : Str) (st : Stmt) (f : Addr) (fd : FuncData) : Prop where
  F : Fun K x q st f fd
  g : mg x = some (.ref f)
structure Bl (mg : Str → Option Value) : Prop where
  list : mg "list" = none
  tuple : mg "tuple" = none
  int : mg "int" = none
  bool : mg "bool" = none
  dict : mg "dict" = none
  isinstance : mg "isinstance" = none
  len : mg "len" = none
  all : mg "all" = none
  range : mg "range" = none
  divmod : mg "divmod" = none
  zip : mg "zip" = none
  repr : mg "repr" = none

/-- a question about any data -/
def spAsk (p : PyData → Bool) : Sp := fun vs H Q _ => ∃ v d, vs = [v] ∧ D H v d ∧ ∀ H', Ex H H' → Q (.bl (p d)) H'
def isRow : PyData → Bool
  | .list _ => true | .tuple _ => true | _ => false
def isInt : PyData → Bool
  | .int _ => true | _ => false
def isNum : PyData → Bool
  | .int i => decide (0 ≤ i) | _ => false
def isHp : PyData → Bool
  | .int i => decide (1 ≤ i) && decide (i ≤ 1000000000000000000) | _ => false
def items : PyData → List PyData
  | .list l => l | .tuple l => l | _ => []
def isNums (d : PyData) : Bool := isRow d && (items d).all isNum

section
variable {P : Program} {w : World} {K : PySem.W.Frag} {mg : Str → Option Value} {base : Heap}
abbrev s_is_row := top 6
abbrev s_is_integer := top 7
abbrev s_is_number := top 8
theorem kit_row (d : PyData) : PySem.W.kitAny K (.type (tyD d)) [.type "list", .type "tuple"] = some (isRow d) := by
  cases d <;> first | rfl | decide +kernel
theorem kit_int (d : PyData) : PySem.W.kitOne K (.type (tyD d)) (.type "int") = some (match d with | .int _ => true | .bool _ => true | _ => false) := by
  cases d <;> first | rfl | decide +kernel
theorem kit_bool (d : PyData) : PySem.W.kitOne K (.type (tyD d)) (.type "bool") = some (match d with | .bool _ => true | _ => false) := by
  cases d <;> first | rfl | decide +kernel

theorem sc_is_row : FnScope ["thing"] ["thing"] (defScope s_is_row) := ⟨rfl, rfl, rfl, by decide +kernel, rfl, by decide +kernel, by decide +kernel⟩
theorem ok_is_row {f : Addr} {fd : FuncData} (F : FD K mg "is_row" "is_row" s_is_row f fd) (T : Bl mg) : FnOk P w K mg base CX0 1 f fd ["thing"] (spAsk isRow) := by
  refine F.F.ok sc_is_row (fun vs H Q E h => ?_) (fun cdv A outer s H vs Q E hr h => ?_)
  · obtain ⟨v, d, rfl, _⟩ := h
    rfl
  · obtain ⟨v, d, rfl, hd, k⟩ := h
    refine ⟨_, pss_one (ps_ret (pe_callB call_isiT (by rfl) T.isinstance (by decide +kernel) (pa_cons (pv 0) (pa_cons (pe_tup (pa_cons (pe_bltn (v := .ty "list") (by rfl) T.list PyProof.Rows.boot_list rfl) (pa_cons (pe_bltn (v := .ty "tuple") (by rfl) T.tuple PyProof.Rows.boot_tuple rfl) pa_nil))) pa_nil)))), ?_⟩
    refine ⟨_, rfl, by decide, fun p np => ?_⟩
    exact ⟨_, p, _, _, _, _, rfl, upd_same, .cons (.ty "list") (.cons (.ty "tuple") .nil), (hd.ex (Ex.new np)).ty, kit_row d, k _ (Ex.new np)⟩

theorem sc_is_integer : FnScope ["thing"] ["thing"] (defScope s_is_integer) := ⟨rfl, rfl, rfl, by decide +kernel, rfl, by decide +kernel, by decide +kernel⟩
theorem ok_is_integer {f : Addr} {fd : FuncData} (F : FD K mg "is_integer" "is_integer" s_is_integer f fd) (T : Bl mg) : FnOk P w K mg base CX0 1 f fd ["thing"] (spAsk isInt) := by
  refine F.F.ok sc_is_integer (fun vs H Q E h => ?_) (fun cdv A outer s H vs Q E hr h => ?_)
  · obtain ⟨v, d, rfl, _⟩ := h
    rfl
  · obtain ⟨v, d, rfl, hd, k⟩ := h
    refine ⟨_, pss_one (ps_ret (pe_and (pe_callB call_isi (by rfl) T.isinstance (by decide +kernel) (pa_cons (pv 0) (pa_cons (pe_bltn (v := .ty "int") (by rfl) T.int PyProof.Rows.boot_int rfl) pa_nil))) (pe_one (pe_not (pe_callB call_isi (by rfl) T.isinstance (by decide +kernel) (pa_cons (pv 0) (pa_cons (pe_bltn (v := .ty "bool") (by rfl) T.bool (by decide +kernel) rfl) pa_nil))))))), ?_⟩
    refine ⟨_, rfl, _, _, _, _, _, rfl, .ty "int", hd.ty, kit_int d, _, rfl, ?_⟩
    have k0 := k H (Ex.refl H)
    cases d <;> first
      | exact k0
      | exact ⟨_, rfl, _, _, _, _, _, rfl, .ty "bool", hd.ty, kit_bool _, _, rfl, k0⟩
end
end Ts


set_option Elab.async false
set_option linter.all false
set_option maxRecDepth 100000
set_option maxHeartbeats 2000000
namespace Ts
open PySem PySem.Spec PyProof.Rows L2
open Evl (Ex)
/-! ## errors with one field -/
/-- self.f = e, where a name says what f is -/
def iniSt (f : Str) (q : List Pos) (sc : Scope) : Stmt :=
  let p := fun i => q.getD i ⟨0, 0, 0, 0⟩
  .FunctionDef "__init__" { posonlyargs := [], args := [{ arg := "self", annotation := none, pos := p 0 }, { arg := f, annotation := none, pos := p 1 }], vararg := none, kwonlyargs := [], kw_defaults := [], kwarg := none, defaults := [] }
    [.Assign [.Attribute (.Name "self" (p 2)) f (p 3)] (.Name f (p 4)) (p 5)] [] none [] sc none "__init__" (p 6)
/-- the class x at C with one field f that its __init__ at g stores -/
structure XC (K : PySem.W.Frag) (mg : Str → Option Value) (x f : Str) (C g : Addr) : Prop where
  o : OexC K C
  gC : mg x = some (.ref C)
  iC : PySem.W.findIn K (.ref C) "__init__" = some (some (.ref g))
  tI : PySem.W.typeIn K (.ref g) = some (.type "function")
  nF : PySem.W.findIn K (.ref C) f = some none
  xf : XfC K C
def spIni (C : Addr) (f : Str) : Sp := fun vs H Q _ => ∃ (a : Addr) (y : V), vs = [.ref a, y] ∧ H a = some (exo a C none) ∧
  ∀ dx, H dx = none → dx ≠ a → Q .non (upd (upd H dx (exd dx [(f, y)])) a (exo a C (some dx)))
/-- what a raised error of one field leaves -/
def Raised (H : Hp) (f : Str) (y : V) (C : Addr) (E : XK) : Prop := ∀ d H', Ex H H' → H d = none → H' d = some (.xd [(f, y)]) → E (.ref C) (some d) H'
section
variable {P : Program} {w : World} {K : PySem.W.Frag} {mg : Str → Option Value} {base : Heap}
abbrev i_thing (i : Nat) : Stmt := inClass (top i) 0
def IniOf (i : Nat) (f : Str) : Prop := (i = 3 ∧ f = "thing") ∨ (i = 4 ∧ f = "index")
theorem sc_ini (i : Nat) (f : Str) (h : IniOf i f) : FnScope ["self", f] ["self", f] (defScope (i_thing i)) := by
  rcases h with ⟨rfl, rfl⟩ | ⟨rfl, rfl⟩ <;> exact ⟨rfl, rfl, rfl, by decide +kernel, rfl, by decide +kernel, by decide +kernel⟩
theorem ok_ini (i : Nat) (f : Str) (h : IniOf i f) {q : Str} {x : Str} {C g : Addr} {fd : FuncData} (F : Fun K "__init__" q (i_thing i) g fd) (T : XC K mg x f C g) : FnOk P w K mg base CX0 1 g fd ["self", f] (spIni C f) := by
  refine F.ok (sc_ini i f h) (fun vs H Q E h => ?_) (fun cdv A outer s H vs Q E hr hh => ?_)
  · obtain ⟨a, y, rfl, _⟩ := h
    rfl
  · obtain ⟨a, y, rfl, ha, k⟩ := hh
    rcases h with ⟨rfl, rfl⟩ | ⟨rfl, rfl⟩ <;>
      exact ⟨_, pss_one (ps_ost (pv 0) (pv 1)), _, rfl, _, rfl, a, C, rfl, T.o, T.nF, .inl ⟨ha, fun dx n1 n2 => k dx n1 n2⟩⟩
/-- raise x(e): the reading behind e -/
theorem raise1 {f : Str} {y : V} {C : Addr} {H1 : Hp} {Q : XK} (h : Raised H1 f y C Q) : [y].length ≤ 1000 ∧ ∀ a, H1 a = none → spIni C f (.ref a :: ([y] ++ [])) (upd H1 a (exo a C none))
    (fun v H2 => v = .non ∧ ∃ (d : Addr) (fs : List (Str × V)), H2 a = some (exo a C (some d)) ∧ H2 d = some (exd d fs) ∧ H1 d = none ∧ Q (.ref C) (some d) (upd (del H2 a) d (.xd fs))) (fun _ _ _ => False) := by
  refine ⟨by show 1 ≤ 1000; decide, fun a na => ⟨a, y, rfl, upd_same, fun dx nd ne => ⟨rfl, dx, _, upd_same, (upd_ne ne).trans upd_same, ?_, ?_⟩⟩⟩
  · rw [upd_ne ne] at nd
    exact nd
  · rw [upd_ne ne] at nd
    refine h dx _ (fun b o e => ?_) nd upd_same
    have n1 : b ≠ dx := ne_of_none e nd
    have n2 : b ≠ a := ne_of_none e na
    rw [upd_ne n1, del_ne n2, upd_ne n2, upd_ne n1, upd_ne n2]
    exact e
theorem ps_raise1 {X : Cx} {W : WX} {x f : Str} {C g : Addr} {fd : FuncData} {k : Nat} {e : Expr} {te : TE} {p pos pos2 : Pos} (hc : X.calm = true) (tk : Takes X W) (T : XC X.K X.mg x f C g) (F1 : FnOk X.prog X.w X.K X.mg X.base CX0 k g fd ["self", f] (spIni C f))
    (hb : Binds X.K fd ["self", f] []) (hr : Room (k + 1) X.A) (hg : Gl X x) (he : PE X e te)
    (hdb : (x == ("__debug__" : Str)) = false := by decide) (hs : starEach [e] X.env = (false, eval e X.env) :: starEach [] X.env := by rfl) :
    PS X (.Raise (some (.Call (.Name x p) [e] [] pos)) none pos2) (fun _ σ H => tMkO C (spIni C f) [] (tCons te tNil) σ H fun cls d H' => W cls d σ H') :=
  ps_raise (pos := pos2) hc tk (pmk_oex (p := p) (pos := pos) T.o T.iC T.tI F1 hr hb .nil pass0 hg T.gC (pa_cons he pa_nil hs) hdb hs (by rfl))
end
end Ts


set_option Elab.async false
set_option linter.all false
set_option maxRecDepth 100000
set_option maxHeartbeats 2000000
namespace Ts
open PySem PySem.Spec L2
open Evl (Ex)
/-! ## rows: a list or a tuple -/
def Row (H : Hp) (a : Addr) (xs : List V) : Prop := H a = some (.lst xs) ∨ H a = some (.tup xs)
theorem Row.ex {H H' : Hp} (e : Ex H H') {a : Addr} {xs : List V} (h : Row H a xs) : Row H' a xs := h.imp (e _ _) (e _ _)
theorem Row.ty {K : PySem.W.Frag} {H : Hp} {a : Addr} {xs : List V} (h : Row H a xs) : ∃ s, TyX K H (.ref a) (.type s) ∧ (s = "list" ∨ s = "tuple") := by
  rcases h with h | h
  · exact ⟨_, .base (.lst h), .inl rfl⟩
  · exact ⟨_, .base (.tup h), .inr rfl⟩
theorem Row.sq {K : PySem.W.Frag} {H : Hp} {a : Addr} {xs : List V} (h : Row H a xs) : SqL K H a xs ∨ SqT K H a xs := h.imp SqL.of SqT.of
section
variable {X : Cx}
def gOr (t u : TG) : TG := fun v σ H Q => t v σ H Q ∨ u v σ H Q
theorem pg_or {tg : Expr} {t u : TG} (h1 : PG X tg t) (h2 : PG X tg u) : PG X tg (gOr t u) :=
  ⟨fun pins s σ H v w Q I r h => h.elim (fun h => h1.run pins s σ H v w Q I r h) fun h => h2.run pins s σ H v w Q I r h⟩
def iOr (t u : TI) : TI := fun σ H R => t σ H R ∨ u σ H R
theorem pi_or {tg it : Expr} {t u : TI} (h1 : PI X tg it t) (h2 : PI X tg it u) : PI X tg it (iOr t u) :=
  ⟨fun pins s σ H R I h => h.elim (fun h => h1.run pins s σ H R I h) fun h => h2.run pins s σ H R I h⟩
theorem passF {P : Program} {w : World} (hp : X.prog = P) (hw : X.w = w) : Passes (L2.CX P w) X (fun _ _ _ => False) := fun pins σ H s e s' I h => by
  obtain ⟨_, _, _, _, _, _, _, _, _, _, _, _, z⟩ := h
  exact z.elim
end
/-! ## a comprehension that only makes things -/
theorem lc_pure {J : It} {n : Nat} {G : Hp → Prop} {Y : Nat → Hp → V → Hp → Prop} (w : Walk J n G Y) {g : TG} {te : TE} {vs : List Nat} {σ : St} {H1 : Hp} {out : Nat → V} {Q : VK} (hz : n ≤ sizeLine)
    (hG : ∀ H, Ex H1 H → G H)
    (hs : ∀ i x H H', i < n → Ex H1 H → Y i H x H' → Ex H H' ∧ g x (wipe σ vs) H' fun σ2 H2 => wipe σ2 vs = wipe σ vs ∧ Ex H' H2 ∧ ∀ q : VK, (∀ H4, Ex H2 H4 → q (out i) H4) → te σ2 H2 q)
    (hgm : ∀ (x : V) (H : Hp) (q q' : St → Hp → Prop), (∀ σ2 H2, q σ2 H2 → q' σ2 H2) → g x (wipe σ vs) H q → g x (wipe σ vs) H q')
    (hq : ∀ D Hf, H1 D = none → Ex H1 Hf → Hf D = some (.lst ((List.range n).map out)) → Q (.ref D) Hf) :
    ∀ D, H1 D = none → ∃ W : Nat → Nat → Hp → Prop, (∃ m, W 0 m (upd H1 D (.lst []))) ∧ ∀ i m H, W i m H →
      (J.stop i H ∧ Q (.ref D) H) ∨ (J.go i H ∧ ∃ Nx : Hp → Prop, (∀ H', Nx H' → ∃ m', m' < m ∧ W (i + 1) m' H') ∧ ∀ x H', J.yld i H x H' → g x (wipe σ vs) H' fun σ2 H2 => wipe σ2 vs = wipe σ vs ∧ tYes σ2 H2 fun b H3 =>
        if b = true then te σ2 H3 fun y H4 => ∃ acc, H4 D = some (.lst acc) ∧ acc.length < sizeLine ∧ Nx (upd H4 D (.lst (acc ++ [y]))) else Nx H3) := by
  intro D hD
  refine lc_it w (Pv := fun i H => Ex H1 H ∧ H D = some (.lst ((List.range i).map out))) ⟨Ex.new hD, upd_same⟩ (fun i H _ p => hG H p.1) ?_ (fun H p => hq D H hD p.1 p.2)
  intro i x H H' hi ⟨e, hd⟩ y
  obtain ⟨e2, h⟩ := hs i x H H' hi e y
  refine hgm x H' _ _ (fun σ2 H2 ⟨h1, e3, h3⟩ => ⟨h1, ?_⟩) h
  unfold tYes
  dsimp only
  rw [if_pos rfl]
  refine h3 _ fun H4 e4 => ?_
  have hd4 : H4 D = some (.lst ((List.range i).map out)) := e4 _ _ (e3 _ _ (e2 _ _ hd))
  refine ⟨_, hd4, ?_, ?_, ?_⟩
  · rw [List.length_map, List.length_range]
    omega
  · exact ((e.trans e2).trans (e3.trans e4)).mut hD
  · rw [upd_same, List.range_succ, List.map_append]
    rfl
theorem g_name_mono {j : Nat} {x : V} {σ : St} {H : Hp} {q q' : St → Hp → Prop} (h : ∀ σ2 H2, q σ2 H2 → q' σ2 H2) (z : gName j x σ H q) : gName j x σ H q' := h _ _ z

section
variable {P : Program} {w : World} {K : PySem.W.Frag} {mg : Str → Option Value} {base : Heap}
abbrev F1 {f : Addr} {fd : FuncData} {x q : Str} {st : Stmt} {p : Str} (F : Fun K x q st f fd) (h : ∀ (kV doc pm : Value) (an : Option Addr) (cdv ct : Value) (us : List Value), us.length = [p].length → bindArgs (PySem.W.fnOf x q (defArgs st) (defBody st) (defScope st) .none kV doc pm an cdv ct) ⟨us, []⟩ = pure ([p].zip us)) : Binds K fd [p] [] := F.binds h
theorem b_is_row {f : Addr} {fd : FuncData} (F : FD K mg "is_row" "is_row" s_is_row f fd) : Binds K fd ["thing"] [] := F.F.binds fun _ _ _ _ _ _ us hl => match us, hl with | [_], _ => rfl
theorem b_is_integer {f : Addr} {fd : FuncData} (F : FD K mg "is_integer" "is_integer" s_is_integer f fd) : Binds K fd ["thing"] [] := F.F.binds fun _ _ _ _ _ _ us hl => match us, hl with | [_], _ => rfl
theorem b_is_number {f : Addr} {fd : FuncData} (F : FD K mg "is_number" "is_number" s_is_number f fd) : Binds K fd ["thing"] [] := F.F.binds fun _ _ _ _ _ _ us hl => match us, hl with | [_], _ => rfl

theorem sc_is_number : FnScope ["thing"] ["thing"] (defScope s_is_number) := ⟨rfl, rfl, rfl, by decide +kernel, rfl, by decide +kernel, by decide +kernel⟩
theorem ok_is_number {f f1 : Addr} {fd fd1 : FuncData} (F : FD K mg "is_number" "is_number" s_is_number f fd) (F1 : FD K mg "is_integer" "is_integer" s_is_integer f1 fd1) (T : Bl mg) : FnOk P w K mg base CX0 2 f fd ["thing"] (spAsk isNum) := by
  have G1 : FnOk P w K mg base CX0 1 f1 fd1 ["thing"] (spAsk isInt) := ok_is_integer F1 T
  refine F.F.ok sc_is_number (fun vs H Q E h => ?_) (fun cdv A outer s H vs Q E hr h => ?_)
  · obtain ⟨v, d, rfl, _⟩ := h
    rfl
  · obtain ⟨v, d, rfl, hd, k⟩ := h
    refine ⟨_, pss_one (ps_ret (pe_and (pe_call G1 hr (by rfl) F1.g F1.F.kp (b_is_integer F1) .nil pass0 (pa_cons (pv 0) pa_nil)) (pe_one (pe_cmpR op_ge (pv 0) pe_int (nomark _))))), ?_⟩
    refine ⟨_, rfl, v, d, rfl, hd, fun H' e => ⟨_, rfl, ?_⟩⟩
    have k0 := k H' e
    cases hd <;> first
      | exact k0
      | skip
    rename_i i
    refine iteT ⟨_, rfl, _, _, rfl, rfl, ?_⟩
    exact k0
end
end Ts


set_option Elab.async false
set_option linter.all false
set_option maxRecDepth 100000
set_option maxHeartbeats 2000000
namespace Ts
open PySem PySem.Spec L2
open Evl (Ex)
theorem DAll.get {H : Hp} : ∀ {vs : List V} {ds : List PyData} {i : Nat} {x : V}, DAll H vs ds → vs[i]? = some x → ∃ d, ds[i]? = some d ∧ D H x d
  | _, _, _, _, .nil, e => by simp at e
  | _, _, 0, _, .cons h _, e => by
    have e' : _ = _ := Option.some.inj e
    subst e'
    exact ⟨_, rfl, h⟩
  | _, _, i + 1, _, .cons _ r, e => DAll.get (i := i) r e
/-- a list, or a tuple -/
def mk (k : Bool) (l : List PyData) : PyData := if k = true then .list l else .tuple l
theorem mk_row (k : Bool) (l : List PyData) : isRow (mk k l) = true := by cases k <;> rfl
theorem mk_items (k : Bool) (l : List PyData) : items (mk k l) = l := by cases k <;> rfl
theorem D.row {H : Hp} {v : V} {d : PyData} (h : D H v d) (hr : isRow d = true) : ∃ a xs, v = .ref a ∧ Row H a xs ∧ DAll H xs (items d) := by
  cases h with
  | lst h r => exact ⟨_, _, rfl, .inl h, r⟩
  | tup h r => exact ⟨_, _, rfl, .inr h, r⟩
  | non => cases hr
  | bl b => cases hr
  | int i => cases hr
  | str x => cases hr
  | dic h r => cases hr
theorem g_row {K : PySem.W.Frag} {H : Hp} {a : Addr} {xs : List V} {n : Nat} {t : TGs} {σ : L2.St} {Q : L2.St → Hp → Prop} (h : Row H a xs) (hn : xs.length = n) (q : t xs σ H Q) : gOr (gTup K n t) (gUnl K n t) (.ref a) σ H Q := by
  rcases h with h | h
  · exact .inr ⟨a, xs, rfl, SqL.of h, hn, q⟩
  · exact .inl ⟨a, xs, rfl, SqT.of h, hn, q⟩
theorem ix_row {K : PySem.W.Frag} {H : Hp} {a : Addr} {xs : List V} {i : Int} {v : V} {Q : VK} (h : Row H a xs) (hi : atI xs i = some v) (q : Q v H) : rIx K (.ref a) (.int i) H Q := by
  rcases h with h | h
  · exact .inl ⟨a, xs, i, v, rfl, rfl, SqL.of h, hi, q⟩
  · exact .inr (.inl ⟨a, xs, i, v, rfl, rfl, SqT.of h, hi, q⟩)
/-- a comprehension over the row in slot i, pure -/
theorem lc_row {K : PySem.W.Frag} {i : Nat} {g : TG} {te : TE} {vs : List Nat} {σ : L2.St} {H : Hp} {a : Addr} {xs : List V} {out : Nat → V} {Q : VK} (hσ : σ[i]? = some (some (.ref a))) (hr : Row H a xs) (hz : xs.length ≤ sizeLine)
    (hs : ∀ j x H1, xs[j]? = some x → Ex H H1 → g x (wipe σ vs) H1 fun σ2 H2 => wipe σ2 vs = wipe σ vs ∧ Ex H1 H2 ∧ ∀ q : VK, (∀ H4, Ex H2 H4 → q (out j) H4) → te σ2 H2 q)
    (hgm : ∀ (x : V) (H : Hp) (q q' : L2.St → Hp → Prop), (∀ σ2 H2, q σ2 H2 → q' σ2 H2) → g x (wipe σ vs) H q → g x (wipe σ vs) H q')
    (hq : ∀ D Hf, H D = none → Ex H Hf → Hf D = some (.lst ((List.range xs.length).map out)) → Q (.ref D) Hf) :
    tLc (iOr (iList K (tVar i)) (iTup K (tVar i))) g tYes te vs σ H Q := by
  rcases hr with h | h
  · refine .inl ⟨_, hσ, a, rfl, ⟨xs, SqL.of h⟩, lc_pure (walk_list (xs := xs)) hz (fun H' e => SqL.of (e _ _ h)) (fun j x H1 H2 hj e y => ?_) hgm hq⟩
    obtain ⟨rfl, hx⟩ := y
    exact ⟨Ex.refl _, hs j x H2 hx e⟩
  · refine .inr ⟨_, hσ, a, rfl, ⟨xs, SqT.of h⟩, lc_pure (walk_tup (xs := xs)) hz (fun H' e => SqT.of (e _ _ h)) (fun j x H1 H2 hj e y => ?_) hgm hq⟩
    obtain ⟨rfl, hx⟩ := y
    exact ⟨Ex.refl _, hs j x H2 hx e⟩
theorem map_getD {α β : Type} (f : α → β) (d : α) : ∀ l : List α, (List.range l.length).map (fun i => f (l.getD i d)) = l.map f := by
  intro l
  apply List.ext_getElem?
  intro i
  rw [List.getElem?_map, List.getElem?_map]
  by_cases h : i < l.length
  · rw [List.getElem?_range h]
    simp [List.getD, h]
  · rw [List.getElem?_eq_none (by simpa using h), List.getElem?_eq_none (by omega)]
    rfl
theorem getD_of {α : Type} {l : List α} {i : Nat} {x d : α} (h : l[i]? = some x) : l.getD i d = x := by
  rw [List.getD, h]
  rfl
theorem all_id {α : Type} (f : α → Bool) (l : List α) : (l.map f).all id = l.all f := by
  rw [List.all_map]
  rfl

section
variable {P : Program} {w : World} {K : PySem.W.Frag} {mg : Str → Option Value} {base : Heap}
/-- what is asked of a thing: it is so, or it is refused -/
def spNeed (p : PyData → Bool) (C : Addr) : Sp := fun vs H Q E => ∃ v d, vs = [v] ∧ D H v d ∧ (p d = true → ∀ H', Ex H H' → Q .non H') ∧ (p d = false → ∀ H', Ex H H' → Raised H' "thing" v C E)
end
end Ts


set_option Elab.async false
set_option linter.all false
set_option maxRecDepth 100000
set_option maxHeartbeats 4000000
namespace Ts
open PySem PySem.Spec PyProof.Rows L2
open Evl (Ex)
/-! ## rules -/
/-- a rule -/
structure Rl where
  low : Int
  high : Option Int
  left : Str
  rest : Int
  mod : Int
deriving DecidableEq
def hiV : Option Int → V
  | none => .non
  | some i => .int i
def hiD : Option Int → PyData
  | none => .none
  | some i => .int i
def hiK : Option Int → NestedKey
  | none => .none
  | some i => .num i
def Rl.vs (r : Rl) : List V := [.int r.low, hiV r.high, .str r.left, .int r.rest, .int r.mod]
def Rl.d (r : Rl) : PyData := .tuple [.int r.low, hiD r.high, .str r.left, .int r.rest, .int r.mod]
def Rl.key (r : Rl) : NestedKey := .tup [.num r.low, hiK r.high, .text r.left, .num r.rest, .num r.mod]
theorem Rl.key_inj {r r' : Rl} (h : r.key = r'.key) : r = r' := by
  obtain ⟨a, b, c, d, e⟩ := r
  obtain ⟨a', b', c', d', e'⟩ := r'
  unfold Rl.key at h
  simp only [NestedKey.tup.injEq, List.cons.injEq, NestedKey.num.injEq, NestedKey.text.injEq, and_true] at h
  obtain ⟨rfl, hb, rfl, rfl, rfl⟩ := h
  have : b = b' := by
    cases b <;> cases b' <;> first
      | rfl
      | (simp only [hiK, NestedKey.num.injEq] at hb; rw [hb])
      | (simp only [hiK] at hb; cases hb)
  rw [this]
theorem Rl.depth (r : Rl) : r.key.depth ≤ 8 := by
  obtain ⟨a, b, c, d, e⟩ := r
  cases b <;> simp [Rl.key, hiK, NestedKey.depth, NestedKey.depthAll]
/-! ## the rules that were seen: a dict of their tuples -/
/-- a dict whose keys are rules, at these addresses, all of True -/
def seenP (P : Program) (w : World) (a : Addr) (ks : List (Rl × Addr)) (h : Heap) : Prop :=
  (a == sysModules) = false ∧ ks.length ≤ sizeLine ∧ (ks.map (·.1)).Nodup ∧ ∃ o es ep, h.get? a = some o ∧ o.ExactDict ∧ o.data = .dict es ep ∧ es.toList = ks.map fun p => (⟨p.1.key.hash w, .ref p.2, .bool true⟩ : DictEntry)
def SeenO (P : Program) (w : World) (a : Addr) (ks : List (Rl × Addr)) : HO := .ext (seenP P w a ks)
/-- what its keys stand on -/
def SeenK (H : Hp) (ks : List (Rl × Addr)) : Prop := ∀ p ∈ ks, H p.2 = some (.tup p.1.vs)
section
variable {P : Program} {w : World} {H : Hp} {h : Heap} {a b : Addr} {ks : List (Rl × Addr)}
theorem rule_key {r : Rl} (ok : HOk P w H h) (e : H a = some (.tup r.vs)) : (nestedKind P w).is h r.key a := by
  obtain ⟨_, its, rv, o, h1, h2, n, h3⟩ := (show ObjOk P w H h a (.tup r.vs) from ok a _ e)
  refine ⟨.tup h1 h2 h3 ?_, r.depth⟩
  obtain ⟨lo, hi, le, re, mo⟩ := r
  have rv' : Vals [.int lo, hiV hi, .str le, .int re, .int mo] its := rv
  cases rv' with
  | cons r1 t =>
    cases t with
    | cons r2 t =>
      cases t with
      | cons r3 t =>
        cases t with
        | cons r4 t =>
          cases t with
          | cons r5 t =>
            cases t
            obtain ⟨t1, rfl⟩ := r1
            obtain ⟨t3, rfl⟩ := r3
            obtain ⟨t4, rfl⟩ := r4
            obtain ⟨t5, rfl⟩ := r5
            refine .cons (.int _ _) (.cons ?_ (.cons (.text _ _) (.cons (.int _ _) (.cons (.int _ _) .nil))))
            cases hi with
            | none =>
              cases r2
              exact .none
            | some i =>
              obtain ⟨t2, rfl⟩ := r2
              exact .int _ _
def seenX (ks : List (Rl × Addr)) : List (NestedKey × Addr × Value) := ks.map fun p => (p.1.key, p.2, Value.bool true)
theorem seen_dict (ok : HOk P w H h) (e : H a = some (SeenO P w a ks)) (hk : SeenK H ks) : (a == sysModules) = false ∧ ks.length ≤ sizeLine ∧ (ks.map (·.1)).Nodup ∧ h.DictOfH (nestedKind P w) a (seenX ks) := by
  obtain ⟨⟨h1, h2, h3, o, es, ep, h4, h5, h6, h7⟩, _, _⟩ := (show ObjOk P w H h a (.ext (seenP P w a ks)) from ok a _ e)
  refine ⟨h1, h2, h3, o, es, ep, h4, h5, h6, ?_, fun x hx => ?_, ?_⟩
  · rw [h7]
    unfold seenX
    rw [List.map_map]
    rfl
  · obtain ⟨p, hp, rfl⟩ := List.mem_map.mp hx
    exact rule_key ok (hk p hp)
  · unfold seenX
    rw [List.map_map]
    have : ((fun x : NestedKey × Addr × Value => x.1) ∘ fun p : Rl × Addr => (p.1.key, p.2, Value.bool true)) = Rl.key ∘ fun p : Rl × Addr => p.1 := rfl
    rw [this, ← List.map_map]
    exact List.Pairwise.map _ (fun x y hxy z => hxy (Rl.key_inj z)) h3
theorem seen_at {r : Rl} : ∀ ks : List (Rl × Addr), (atKey (seenX ks) r.key).isSome = decide (r ∈ ks.map (·.1))
  | [] => rfl
  | p :: t => by
    have ih := seen_at t (r := r)
    unfold atKey seenX at ih ⊢
    rw [List.map_cons, List.find?_cons]
    by_cases c : p.1.key = r.key
    · have e : p.1 = r := Rl.key_inj c
      rw [decide_eq_true c]
      symm
      exact decide_eq_true (by rw [List.map_cons, e]; exact List.mem_cons_self)
    · rw [decide_eq_false c]
      have c' : p.1 ≠ r := fun z => c (by rw [z])
      rw [ih]
      rw [List.map_cons]
      by_cases m : r ∈ t.map (·.1)
      · rw [decide_eq_true m, decide_eq_true (List.mem_cons_of_mem _ m)]
      · rw [decide_eq_false m, decide_eq_false fun z => (List.mem_cons.mp z).elim (fun q => c' q.symm) m]
theorem seen_ok {h' : Heap} (h1 : (a == sysModules) = false) (h2 : ks.length ≤ sizeLine) (h3 : (ks.map (·.1)).Nodup) (dd : h'.DictOfH (nestedKind P w) a (seenX ks)) : ObjOk P w H h' a (SeenO P w a ks) := by
  obtain ⟨o, es, ep, k1, k2, k3, k4, _, _⟩ := dd
  have k4' : es.toList = ks.map fun p => (⟨p.1.key.hash w, .ref p.2, .bool true⟩ : DictEntry) := by
    rw [k4]
    unfold seenX
    rw [List.map_map]
    rfl
  refine ⟨⟨h1, h2, h3, o, es, ep, k1, k2, k3, k4'⟩, ⟨o, k1⟩, fun g1 g2 ⟨q1, q2, q3, o', es', ep', q4, q5⟩ hk => ⟨q1, q2, q3, o', es', ep', hk _ q4, q5⟩⟩
end
section
variable {X : Cx} {pos : Pos}
/-- {}, to be a dict of rules -/
def tDNewR (P : Program) (w : World) : TE := fun _ H Q => ∀ p, H p = none → Q (.ref p) (upd H p (SeenO P w p []))
theorem pe_dnewR : PE X (.Dict [] [] pos) (tDNewR X.prog X.w) := ⟨fun pins s σ H Q I h =>
  wpAny_Dict_empty ⟨.ref s.heap.objs.size, _, I.laid (a := s.heap.objs.size) (o := SeenO X.prog X.w s.heap.objs.size []) (t' := s.toks) (fun _ _ q => Heap.get?_push_of_some _ q) (Nat.le_refl _)
    (seen_ok (beq_eq_false_iff_ne.mpr (Ne.symm (Nat.ne_of_lt I.big))) (Nat.zero_le _) List.nodup_nil ⟨_, #[], 0, Heap.get?_push_size _ rfl, ⟨rfl, rfl, rfl⟩, rfl, rfl, (fun x hx => nomatch hx), List.nodup_nil⟩), rfl, h _ (I.hok.fresh (Nat.le_refl _))⟩⟩
/-- a rule's tuple in the dict -/
def rInR (P : Program) (w : World) : R2 := fun x y H Q => ∃ (b a : Addr) (r : Rl) (ks : List (Rl × Addr)), x = .ref b ∧ y = .ref a ∧ H b = some (.tup r.vs) ∧ H a = some (SeenO P w a ks) ∧ SeenK H ks ∧ Q (.bl (decide (r ∈ ks.map (·.1)))) H
theorem op_inR (hu : X.A.units + 16 < cLine) : OpR X (compareOp .In) (rInR X.prog X.w) := by
  intro pins s σ H x y v u Q I rx ry h
  obtain ⟨b, a, r, ks, rfl, rfl, hb, ha, hk, q⟩ := h
  cases (show v = Value.ref b from rx)
  cases (show u = Value.ref a from ry)
  obtain ⟨h1, h2, h3, dd⟩ := seen_dict I.hok ha hk
  refine wpAny_in_heap (knd := nestedKind X.prog X.w) (show X.A.units + 1 + 8 < cLine by omega) (rule_key I.hok hb) h1 dd ?_
  rw [seen_at]
  exact ⟨.bl _, H, I.tok _, rfl, q⟩
/-- seen[rule's tuple] = True, a rule not yet seen -/
def rSetR (P : Program) (w : World) : TSet := fun o i v H Q => ∃ (b a : Addr) (r : Rl) (ks : List (Rl × Addr)), o = .ref a ∧ i = .ref b ∧ v = .bl true ∧ H b = some (.tup r.vs) ∧ H a = some (SeenO P w a ks) ∧ SeenK H ks ∧ r ∉ ks.map (·.1) ∧ ks.length < sizeLine ∧ Q (upd H a (SeenO P w a (ks ++ [(r, b)])))
theorem set_R (hu : X.A.units + 16 < cLine) : PSet X (rSetR X.prog X.w) := by
  intro pins s σ H o i v ov iv u Q I ro ri rv h
  obtain ⟨b, a, r, ks, rfl, rfl, rfl, hb, ha, hk, hn, hl, q⟩ := h
  cases (show ov = Value.ref a from ro)
  cases (show iv = Value.ref b from ri)
  cases (show u = Value.bool true from rv)
  obtain ⟨h1, h2, h3, dd⟩ := seen_dict I.hok ha hk
  have hat : atKey (seenX ks) r.key = none := by
    have z := seen_at ks (r := r)
    rw [decide_eq_false hn] at z
    cases e : atKey (seenX ks) r.key with
    | none => rfl
    | some p =>
      rw [e] at z
      cases z
  refine wpAny_setItem_heap (knd := nestedKind X.prog X.w) (hsz := by unfold seenX; rw [List.length_map]; exact h2) (show X.A.units + 1 + 8 < cLine by omega) (rule_key I.hok hb) dd fun h' dd' hs => ?_
  rw [storedH_new hat] at dd'
  have dd2 : h'.DictOfH (nestedKind X.prog X.w) a (seenX (ks ++ [(r, b)])) := by
    unfold seenX
    rw [List.map_append]
    exact dd'
  obtain ⟨ob, es, ep, k1, _⟩ := id dd2
  refine ⟨_, d_write I (by rw [ha]; exact True.intro) hs ⟨ob, k1⟩ (seen_ok h1 ?_ ?_ dd2), q⟩
  · rw [List.length_append]
    show ks.length + 1 ≤ sizeLine
    omega
  · rw [List.map_append]
    refine List.nodup_append.mpr ⟨h3, by simp, fun x hx y hy => ?_⟩
    simp at hy
    rw [hy]
    exact fun z => hn (by rw [← z]; exact hx)
end
end Ts


set_option Elab.async false
set_option linter.all false
set_option maxRecDepth 100000
set_option maxHeartbeats 4000000
namespace Ts
open PySem PySem.Spec L2
open Evl (Ex)
theorem kit_str {K : PySem.W.Frag} (d : PyData) : PySem.W.kitOne K (.type (tyD d)) (.type "str") = some (match d with | .str _ => true | _ => false) := by cases d <;> first | rfl | decide +kernel
def intOf : PyData → Int
  | .int i => i
  | _ => 0
theorem isNum_int {d : PyData} (h : isNum d = true) : ∃ i, d = .int i ∧ 0 ≤ i := by
  cases d <;> first
    | (exact ⟨_, rfl, of_decide_eq_true h⟩)
    | cases h
theorem ite_ff {c : Bool} {A B : Prop} (h : c = false) (b : B) : if c = true then A else B := by
  rw [h]
  exact iteF b
theorem ite_tt {c : Bool} {A B : Prop} (h : c = true) (a : A) : if c = true then A else B := by
  rw [h]
  exact iteT a
theorem dec_z {i j : Int} : decide (V.int i = V.int j) = decide (i = j) := by
  by_cases c : i = j
  · rw [c]
    rw [decide_eq_true rfl, decide_eq_true rfl]
  · rw [decide_eq_false c, decide_eq_false fun q => c (V.int.inj q)]
def lefts : List V := [.str "none", .str "one", .str "two"]
def isStr : PyData → Bool
  | .str _ => true
  | _ => false
def isLeft : PyData → Bool
  | .str s => inV (.str s) lefts
  | _ => false
def isTwo : PyData → Bool
  | .str s => decide (V.str s = V.str "two")
  | _ => false
def isNon : PyData → Bool
  | .none => true
  | _ => false
/-- the five parts of a rule -/
def rule5 (lo hi le re mo : PyData) : Bool :=
  isLeft le && (isNum lo && (!(decide (intOf lo = 0) && !isTwo le)) && (isNum re && (isNum mo && decide (intOf re < intOf mo)) && (if isNon hi = true then decide (intOf mo = 1) && !isTwo le else isNum hi && decide (intOf lo ≤ intOf hi))))
def isRule (d : PyData) : Bool := isRow d && (match items d with
  | [lo, hi, le, re, mo] => rule5 lo hi le re mo
  | _ => false)
section
variable {P : Program} {w : World} {K : PySem.W.Frag} {mg : Str → Option Value} {base : Heap}
abbrev s_is_rule := top 13
theorem sc_is_rule : FnScope ["thing", "low", "high", "left", "rest", "modulus"] ["thing"] (defScope s_is_rule) := ⟨rfl, rfl, rfl, by decide +kernel, rfl, by decide +kernel, by decide +kernel⟩
theorem DAll.five {H : Hp} {xs : List V} {a b c d e : PyData} (h : DAll H xs [a, b, c, d, e]) : ∃ v1 v2 v3 v4 v5, xs = [v1, v2, v3, v4, v5] ∧ D H v1 a ∧ D H v2 b ∧ D H v3 c ∧ D H v4 d ∧ D H v5 e := by
  cases h with
  | cons h1 h =>
    cases h with
    | cons h2 h =>
      cases h with
      | cons h3 h =>
        cases h with
        | cons h4 h =>
          cases h with
          | cons h5 h =>
            cases h
            exact ⟨_, _, _, _, _, rfl, h1, h2, h3, h4, h5⟩
theorem tand_of {A B : TT} {σ : L2.St} {H : Hp} {Q : Bool → Hp → Prop} {b1 b2 : Bool} (ha : ∀ q : Bool → Hp → Prop, q b1 H → A σ H q) (hb : ∀ q : Bool → Hp → Prop, q b2 H → B σ H q) (h : Q (b1 && b2) H) : tAnd A B σ H Q :=
  ha _ (by
    cases b1 with
    | false => exact iteF h
    | true => exact iteT (hb _ h))
theorem D.int_of {H : Hp} {v : V} {i : Int} (h : D H v (.int i)) : v = .int i := by
  cases h
  rfl
theorem D.non_of {H : Hp} {v : V} {d : PyData} (h : D H v d) : decide (v = .non) = isNon d := by
  cases h <;> first
    | rfl
    | exact decide_eq_false (fun z => by cases z)
theorem ok_is_rule {f f1 f2 f3 tl : Addr} {fd fd1 fd2 fd3 : FuncData} (F : FD K mg "is_rule" "is_rule" s_is_rule f fd) (F_row : FD K mg "is_row" "is_row" s_is_row f1 fd1) (F_num : FD K mg "is_number" "is_number" s_is_number f2 fd2) (F_int : FD K mg "is_integer" "is_integer" s_is_integer f3 fd3) (T : Bl mg)
    (hstr : mg "str" = none) (hL : mg "LEFTS" = some (.ref tl)) (hT : ∀ H : Hp, SqT K H tl lefts) : FnOk P w K mg base CX0 3 f fd ["thing"] (spAsk isRule) := by
  have G_row : FnOk P w K mg base CX0 1 f1 fd1 ["thing"] (spAsk isRow) := ok_is_row F_row T
  have G_num : FnOk P w K mg base CX0 2 f2 fd2 ["thing"] (spAsk isNum) := ok_is_number F_num F_int T
  have b_row := b_is_row F_row
  have b_num := b_is_number F_num
  refine F.F.ok sc_is_rule (fun vs H Q E h => ?_) (fun cdv A outer s H vs Q E hr h => ?_)
  · obtain ⟨v, d, rfl, _⟩ := h
    rfl
  · obtain ⟨v, d, rfl, hd, k⟩ := h
    have nd := sc_is_rule.nd
    refine ⟨_, (pss_cons (ps_if (PW.pt (pw_or (pt_not (pt_val (pe_call G_row (hr.mono (by decide)) (by rfl) F_row.g F_row.F.kp b_row .nil pass0 (pa_cons (pv 0) pa_nil)))) (pw_or1 (pt_cmpR op_ne (pe_callB call_len_seq (by rfl) T.len PySem.boot_len (pa_cons (pv 0) pa_nil)) pe_int (nomark _))))) (pss_one (ps_ret pe_bl)) pss_nil)
      (pss_cons (ps_asg (pv 0) (pg_or (pg_tup rfl (pgs_cons (pg_name (i := 1) nd rfl (Or.inl rfl)) (pgs_cons (pg_name (i := 2) nd rfl (Or.inl rfl)) (pgs_cons (pg_name (i := 3) nd rfl (Or.inl rfl)) (pgs_cons (pg_name (i := 4) nd rfl (Or.inl rfl)) (pgs_cons (pg_name (i := 5) nd rfl (Or.inl rfl)) pgs_nil)))))) (pg_unl rfl (pgs_cons (pg_name (i := 1) nd rfl (Or.inl rfl)) (pgs_cons (pg_name (i := 2) nd rfl (Or.inl rfl)) (pgs_cons (pg_name (i := 3) nd rfl (Or.inl rfl)) (pgs_cons (pg_name (i := 4) nd rfl (Or.inl rfl)) (pgs_cons (pg_name (i := 5) nd rfl (Or.inl rfl)) pgs_nil))))))))
      (pss_cons (ps_if (PW.pt (pw_or (pt_not (pt_val (pe_callB call_isi (by rfl) T.isinstance (by decide +kernel) (pa_cons (pv 3) (pa_cons (pe_bltn (v := .ty "str") (by rfl) hstr PyProof.Rows.boot_str rfl) pa_nil))))) (pw_or1 (pt_cmpR op_notIn_seq (pv 3) (pe_glob (v := .ref tl) rfl hL rfl) (by rfl))))) (pss_one (ps_ret pe_bl)) pss_nil)
      (pss_cons (ps_if (PW.pt (pw_or (pt_not (pt_val (pe_call G_num (hr.mono (by decide)) (by rfl) F_num.g F_num.F.kp b_num .nil pass0 (pa_cons (pv 1) pa_nil)))) (pw_or1 (PW.pt (pw_and (pt_cmpR op_eq (pv 1) pe_int (nomark _)) (pw_and1 (pt_cmpR op_ne (pv 3) pe_str (nomark _)))))))) (pss_one (ps_ret pe_bl)) pss_nil)
      (pss_cons (ps_if (PW.pt (pw_or (pt_not (pt_val (pe_call G_num (hr.mono (by decide)) (by rfl) F_num.g F_num.F.kp b_num .nil pass0 (pa_cons (pv 4) pa_nil)))) (pw_or (pt_not (pt_val (pe_call G_num (hr.mono (by decide)) (by rfl) F_num.g F_num.F.kp b_num .nil pass0 (pa_cons (pv 5) pa_nil)))) (pw_or1 (pt_cmpR op_ge (pv 4) (pv 5) (nomark _)))))) (pss_one (ps_ret pe_bl)) pss_nil)
      (pss_cons (ps_if (pt_cmpR op_isN (pv 2) pe_non (nomark _)) (pss_one (ps_ret (pe_and (pe_cmpR op_eq (pv 5) pe_int (nomark _)) (pe_one (pe_cmpR op_ne (pv 3) pe_str (nomark _)))))) pss_nil)
      (pss_one (ps_ret (pe_and (pe_call G_num (hr.mono (by decide)) (by rfl) F_num.g F_num.F.kp b_num .nil pass0 (pa_cons (pv 2) pa_nil)) (pe_one (pe_cmpR op_ge (pv 2) (pv 1) (nomark _)))))))))))), ?_⟩
    refine ⟨_, rfl, v, d, rfl, hd, fun H1 e1 => ⟨_, rfl, ?_⟩⟩
    by_cases hrw : isRow d = true
    · obtain ⟨a, xs, rfl, hrow, hall⟩ := hd.row hrw
      rw [hrw]
      refine iteF ?_
      refine ⟨_, rfl, a, xs, rfl, (hrow.ex e1).sq, rfl, _, rfl, ?_⟩
      by_cases h5 : (items d).length = 5
      · obtain ⟨lo, hi, le, re, mo, hit⟩ : ∃ lo hi le re mo, items d = [lo, hi, le, re, mo] := by
          match q : items d, h5 with
          | [lo, hi, le, re, mo], _ => exact ⟨lo, hi, le, re, mo, rfl⟩
        have hk : isRule d = rule5 lo hi le re mo := by
          unfold isRule
          rw [hrw, hit]
          rfl
        have hlen := hall.len
        rw [hit] at hall hlen
        obtain ⟨vlo, vhi, vle, vre, vmo, rfl, hlo, hhi, hle, hre, hmo⟩ := hall.five
        have e5 : (!decide (V.int (([vlo, vhi, vle, vre, vmo].length : Nat) : Int) = V.int 5)) = false := rfl
        refine ite_ff e5 ?_
        refine ⟨_, rfl, g_row (hrow.ex e1) rfl ⟨_, _, rfl, _, _, rfl, _, _, rfl, _, _, rfl, _, _, rfl, rfl, ?_⟩⟩
        rw [hk] at k
        clear hk hit h5 hrw hlen
        have no : isLeft le = false → Q (.bl false) H1 := fun z => by
          have q := k H1 e1
          unfold rule5 at q
          rw [z, Bool.false_and] at q
          exact q
        refine ⟨_, rfl, _, _, _, _, _, rfl, .ty "str", (hle.ex e1).ty, kit_str le, _, rfl, ?_⟩
        cases hle with
        | str s =>
          refine iteF ⟨_, rfl, tl, lefts, rfl, .inr (hT _), rfl, rfl, _, rfl, ?_⟩
          by_cases hin : inV (.str s) lefts = true
          · refine ite_ff (by rw [hin]; rfl) ?_
            have hl : isLeft (.str s) = true := hin
            unfold rule5 at k
            rw [hl, Bool.true_and] at k
            refine ⟨_, rfl, vlo, lo, rfl, hlo.ex e1, fun H2 e2 => ⟨_, rfl, ?_⟩⟩
            have e12 := e1.trans e2
            cases nlo : isNum lo with
            | false =>
              refine iteT ?_
              have q := k H2 e12
              rw [nlo, Bool.false_and, Bool.false_and] at q
              exact q
            | true =>
              obtain ⟨ilo, rfl, lo0⟩ := isNum_int nlo
              obtain rfl := hlo.int_of
              rw [nlo, Bool.true_and] at k
              have k : ∀ H', Ex H H' → Q (.bl (!(decide (ilo = 0) && !decide (V.str s = V.str "two")) && (isNum re && (isNum mo && decide (intOf re < intOf mo)) && (if isNon hi = true then decide (intOf mo = 1) && !decide (V.str s = V.str "two") else isNum hi && decide (ilo ≤ intOf hi))))) H' := k
              refine iteF (tand_of (b1 := decide (ilo = 0)) (b2 := !decide (V.str s = V.str "two")) (fun q h => ⟨_, rfl, rfl, _, rfl, by rw [dec_z]; exact h⟩) (fun q h => ⟨_, rfl, rfl, _, rfl, h⟩) ?_)
              generalize htw : decide (V.str s = V.str "two") = tw at k
              cases c1 : (decide (ilo = 0) && !tw) with
              | true =>
                have q := k H2 e12
                rw [c1] at q
                exact iteT q
              | false =>
                rw [c1] at k
                have k : ∀ H', Ex H H' → Q (.bl (isNum re && (isNum mo && decide (intOf re < intOf mo)) && (if isNon hi = true then decide (intOf mo = 1) && !tw else isNum hi && decide (ilo ≤ intOf hi)))) H' := fun H' e => k H' e
                refine iteF ⟨_, rfl, vre, re, rfl, hre.ex e12, fun H3 e3 => ⟨_, rfl, ?_⟩⟩
                have e13 := e12.trans e3
                cases nre : isNum re with
                | false =>
                  refine iteT (iteT ?_)
                  have q := k H3 e13
                  rw [nre] at q
                  exact q
                | true =>
                  obtain ⟨ire, rfl, re0⟩ := isNum_int nre
                  obtain rfl := hre.int_of
                  rw [nre, Bool.true_and] at k
                  refine iteF ⟨_, rfl, vmo, mo, rfl, hmo.ex e13, fun H4 e4 => ⟨_, rfl, ?_⟩⟩
                  have e14 := e13.trans e4
                  cases nmo : isNum mo with
                  | false =>
                    refine iteT (iteT ?_)
                    have q := k H4 e14
                    rw [nmo] at q
                    exact q
                  | true =>
                    obtain ⟨imo, rfl, mo0⟩ := isNum_int nmo
                    obtain rfl := hmo.int_of
                    rw [nmo, Bool.true_and] at k
                    have k : ∀ H', Ex H H' → Q (.bl (decide (ire < imo) && (if isNon hi = true then decide (imo = 1) && !tw else isNum hi && decide (ilo ≤ intOf hi)))) H' := k
                    refine iteF ⟨_, rfl, _, rfl, _, _, rfl, rfl, _, rfl, ?_⟩
                    by_cases c2 : ire < imo
                    · refine ite_ff (decide_eq_false (show ¬ imo ≤ ire by omega)) ?_
                      rw [decide_eq_true c2] at k
                      have k : ∀ H', Ex H H' → Q (.bl (if isNon hi = true then decide (imo = 1) && !tw else isNum hi && decide (ilo ≤ intOf hi))) H' := k
                      refine ⟨_, rfl, rfl, _, rfl, ?_⟩
                      rw [hhi.non_of]
                      cases c3 : isNon hi with
                      | true =>
                        rw [c3, if_pos rfl] at k
                        refine iteT ⟨_, rfl, rfl, _, rfl, ?_⟩
                        rw [dec_z]
                        have q := k H4 e14
                        by_cases c4 : imo = 1
                        · rw [decide_eq_true c4, Bool.true_and] at q
                          refine ite_tt (decide_eq_true c4) ⟨_, rfl, rfl, ?_⟩
                          rw [htw]
                          exact q
                        · rw [decide_eq_false c4, Bool.false_and] at q
                          exact ite_ff (decide_eq_false c4) q
                      | false =>
                        rw [c3, if_neg Bool.false_ne_true] at k
                        refine iteF ⟨_, rfl, vhi, hi, rfl, hhi.ex e14, fun H5 e5 => ⟨_, rfl, ?_⟩⟩
                        have e15 := e14.trans e5
                        cases nhi : isNum hi with
                        | false =>
                          refine iteF ?_
                          have q := k H5 e15
                          rw [nhi] at q
                          exact q
                        | true =>
                          obtain ⟨ihi, rfl, hi0⟩ := isNum_int nhi
                          obtain rfl := hhi.int_of
                          rw [nhi, Bool.true_and] at k
                          exact iteT ⟨_, rfl, _, rfl, _, _, rfl, rfl, k H5 e15⟩
                    · refine ite_tt (decide_eq_true (show imo ≤ ire by omega)) ?_
                      have q := k H4 e14
                      rw [decide_eq_false c2] at q
                      exact q
          · refine ite_tt (by rw [Bool.eq_false_iff.mpr hin]; rfl) (no (Bool.eq_false_iff.mpr hin))
        | _ => exact iteT (no rfl)
      · refine ite_tt ?_ ?_
        · rw [hall.len]
          show (!decide (V.int (((items d).length : Nat) : Int) = V.int 5)) = true
          rw [decide_eq_false fun z => h5 (by have := V.int.inj z; omega)]
          rfl
        · have q := k H1 e1
          have : isRule d = false := by
            unfold isRule
            rw [hrw, Bool.true_and]
            split
            · rename_i e
              rw [e] at h5
              exact absurd rfl h5
            · rfl
          rw [this] at q
          exact q
    · have hf : isRow d = false := by simpa using hrw
      rw [hf]
      have q := k H1 e1
      unfold isRule at q
      rw [hf, Bool.false_and] at q
      exact iteT q
end
end Ts


set_option Elab.async false
set_option linter.all false
set_option maxRecDepth 100000
set_option maxHeartbeats 4000000
namespace Ts
open PySem PySem.Spec L2
open Evl (Ex)
/-- numbers that can be written -/
def Wr (i : Int) : Prop := i.natAbs.log2 < 1920
def hiWr : Option Int → Prop
  | none => True
  | some i => Wr i
structure Rl.Sml (r : Rl) : Prop where
  low : Wr r.low
  high : hiWr r.high
  left : r.left.length ≤ 100
  rest : Wr r.rest
  mod : Wr r.mod
def num (i : Int) : Str := Str.ofString (toString i)
theorem num_len {i : Int} (h : Wr i) : (num i).length ≤ 1921 := PyProof.Rows.int_text_len_1921 h
/-- the line of a rule -/
def Rl.l1 (r : Rl) : Str := Str.empty ++ "take " ++ num r.low
def Rl.l2 (r : Rl) : Str := match r.high with
  | none => r.l1 ++ " or more"
  | some h => if h = r.low then r.l1 else r.l1 ++ (Str.empty ++ " to " ++ num h)
def Rl.l3 (r : Rl) : Str := r.l2 ++ (Str.empty ++ " leave " ++ r.left)
def Rl.line (r : Rl) : Str := if r.mod = 1 then r.l3 else r.l3 ++ (Str.empty ++ " when " ++ num r.rest ++ " of " ++ num r.mod)
theorem Rl.len1 {r : Rl} (h : r.Sml) : r.l1.length ≤ 3000 := by
  have := num_len h.low
  unfold Rl.l1
  rw [Str.length_append, Str.length_append]
  have e1 : Str.empty.length = 0 := rfl
  have e2 : ("take " : Str).length = 5 := rfl
  omega
theorem Rl.len2 {r : Rl} (h : r.Sml) : r.l2.length ≤ 6000 := by
  have h1 := Rl.len1 h
  have hh := h.high
  unfold Rl.l2
  cases e : r.high with
  | none =>
    show (r.l1 ++ " or more").length ≤ 6000
    rw [Str.length_append]
    have e2 : (" or more" : Str).length = 8 := rfl
    omega
  | some i =>
    rw [e] at hh
    show (if i = r.low then r.l1 else r.l1 ++ (Str.empty ++ " to " ++ num i)).length ≤ 6000
    by_cases c : i = r.low
    · rw [if_pos c]
      omega
    · rw [if_neg c, Str.length_append, Str.length_append, Str.length_append]
      have := num_len hh
      have e1 : Str.empty.length = 0 := rfl
      have e2 : (" to " : Str).length = 4 := rfl
      omega
theorem Rl.len3 {r : Rl} (h : r.Sml) : r.l3.length ≤ 7000 := by
  have h2 := Rl.len2 h
  have hl := h.left
  unfold Rl.l3
  rw [Str.length_append, Str.length_append, Str.length_append]
  have e1 : Str.empty.length = 0 := rfl
  have e2 : (" leave " : Str).length = 7 := rfl
  omega
theorem le_sz {n : Nat} (h : n ≤ 16000) : n ≤ sizeLine := Nat.le_trans h (by decide)
section
variable {P : Program} {w : World} {K : PySem.W.Frag} {mg : Str → Option Value} {base : Heap}
abbrev s_growing := top 14
abbrev s_splitting := top 15
abbrev s_line := top 16
theorem sc_growing : FnScope ["rule"] ["rule"] (defScope s_growing) := ⟨rfl, rfl, rfl, by decide +kernel, rfl, by decide +kernel, by decide +kernel⟩
theorem sc_splitting : FnScope ["rule"] ["rule"] (defScope s_splitting) := ⟨rfl, rfl, rfl, by decide +kernel, rfl, by decide +kernel, by decide +kernel⟩
theorem sc_line : FnScope ["rule", "low", "high", "left", "rest", "modulus", "line"] ["rule"] (defScope s_line) := ⟨rfl, rfl, rfl, by decide +kernel, rfl, by decide +kernel, by decide +kernel⟩
def spRl (q : Rl → Bool) : Sp := fun vs H Q _ => ∃ (a : Addr) (r : Rl), vs = [.ref a] ∧ Row H a r.vs ∧ ∀ H', Ex H H' → Q (.bl (q r)) H'
theorem ok_growing {f : Addr} {fd : FuncData} (F : FD K mg "is_growing" "is_growing" s_growing f fd) : FnOk P w K mg base CX0 1 f fd ["rule"] (spRl fun r => r.high.isNone) := by
  refine F.F.ok sc_growing (fun vs H Q E h => ?_) (fun cdv A outer s H vs Q E hr h => ?_)
  · obtain ⟨a, r, rfl, _⟩ := h
    rfl
  · obtain ⟨a, r, rfl, hrow, k⟩ := h
    refine ⟨_, pss_one (ps_ret (pe_cmpR op_isN (pe_ix ix_seq (pv 0) pe_int (fun _ _ => rfl)) pe_non (nomark _))), ?_⟩
    refine ⟨_, rfl, ix_row hrow (atI_nat (j := 1) rfl) ⟨rfl, ?_⟩⟩
    have z := k H (Ex.refl H)
    have e : decide (hiV r.high = .non) = r.high.isNone := by
      cases r.high with
      | none => rfl
      | some i => exact decide_eq_false fun z => by cases z
    rw [e]
    exact z
theorem ok_splitting {f : Addr} {fd : FuncData} (F : FD K mg "is_splitting" "is_splitting" s_splitting f fd) : FnOk P w K mg base CX0 1 f fd ["rule"] (spRl fun r => decide (V.str r.left = V.str "two")) := by
  refine F.F.ok sc_splitting (fun vs H Q E h => ?_) (fun cdv A outer s H vs Q E hr h => ?_)
  · obtain ⟨a, r, rfl, _⟩ := h
    rfl
  · obtain ⟨a, r, rfl, hrow, k⟩ := h
    refine ⟨_, pss_one (ps_ret (pe_cmpR op_eq (pe_ix ix_seq (pv 0) pe_int (fun _ _ => rfl)) pe_str (nomark _))), ?_⟩
    exact ⟨_, rfl, ix_row hrow (atI_nat (j := 2) rfl) ⟨rfl, k H (Ex.refl H)⟩⟩
def spLine : Sp := fun vs H Q _ => ∃ (a : Addr) (r : Rl), vs = [.ref a] ∧ Row H a r.vs ∧ r.Sml ∧ ∀ H', Ex H H' → Q (.str r.line) H'
theorem ok_line {f : Addr} {fd : FuncData} (F : FD K mg "rule_line" "rule_line" s_line f fd) : FnOk P w K mg base CX0 1 f fd ["rule"] spLine := by
  refine F.F.ok sc_line (fun vs H Q E h => ?_) (fun cdv A outer s H vs Q E hr h => ?_)
  · obtain ⟨a, r, rfl, _⟩ := h
    rfl
  · obtain ⟨a, r, rfl, hrow, sm, k⟩ := h
    have nd := sc_line.nd
    have e0 : Str.empty.length = 0 := rfl
    have rest : ∃ t3, PSs (cxOf CX0 P w K mg base ["rule", "low", "high", "left", "rest", "modulus", "line"] "rule_line" (defScope s_line) f cdv A outer s H E).nox ((defBody s_line).drop 3) t3 ∧
        ∀ H', Ex H H' → t3 { nx := fun _ H' => Q .non H', rt := Q } [some (.ref a), some (.int r.low), some (hiV r.high), some (.str r.left), some (.int r.rest), some (.int r.mod), some (.str r.l2)] H' := by
      refine ⟨_, (pss_cons (ps_set (i := 6) nd rfl (Or.inl rfl) (pe_op op_add_str (pv 6) (pe_joined (.cons pe_str (.cons (pe_fmt (pv 3)) .nil)))))
      (pss_cons (ps_if (pt_cmpR op_ne (pv 5) pe_int (nomark _)) (pss_one (ps_set (i := 6) nd rfl (Or.inl rfl) (pe_op op_add_str (pv 6) (pe_joined (.cons pe_str (.cons (pe_fmt (pv 4)) (.cons pe_str (.cons (pe_fmt (pv 5)) .nil)))))))) pss_nil)
      (pss_one (ps_ret (pv 6))))), fun H' e => ?_⟩
      have l2 := Rl.len2 sm
      have l3 := Rl.len3 sm
      have ll := sm.left
      have q1 : (" leave " : Str).length = 7 := rfl
      refine ⟨_, rfl, _, rfl, le_sz (by rw [Str.length_append]; omega), _, rfl, .inl ⟨r.left, rfl, le_sz (by omega), _, rfl, le_sz (by rw [Str.length_append, Str.length_append]; omega), ?_⟩⟩
      refine ⟨_, _, rfl, rfl, le_sz (by rw [Str.length_append, Str.length_append]; omega), ?_⟩
      refine ⟨_, rfl, rfl, _, rfl, ?_⟩
      have z := k H' e
      unfold Rl.line at z
      by_cases c : r.mod = 1
      · rw [if_pos c] at z
        refine ite_ff (by rw [dec_z, decide_eq_true c]; rfl) ?_
        exact ⟨_, rfl, z⟩
      · rw [if_neg c] at z
        refine ite_tt (by rw [dec_z, decide_eq_false c]; rfl) ?_
        have n4 := num_len sm.rest
        have n5 := num_len sm.mod
        have q2 : (" when " : Str).length = 6 := rfl
        have q3 : (" of " : Str).length = 4 := rfl
        have n4' : (Str.ofString (toString r.rest)).length ≤ 1921 := n4
        have n5' : (Str.ofString (toString r.mod)).length ≤ 1921 := n5
        refine ⟨_, rfl, _, rfl, le_sz (by rw [Str.length_append]; omega), _, rfl, .inr ⟨r.rest, rfl, sm.rest, _, rfl, le_sz (by rw [Str.length_append, Str.length_append]; omega), _, rfl, le_sz (by rw [Str.length_append, Str.length_append, Str.length_append]; omega), _, rfl, .inr ⟨r.mod, rfl, sm.mod, _, rfl, le_sz (by rw [Str.length_append, Str.length_append, Str.length_append, Str.length_append]; omega), ?_⟩⟩⟩
        refine ⟨_, _, rfl, rfl, le_sz (by rw [Str.length_append, Str.length_append, Str.length_append, Str.length_append, Str.length_append, Str.length_append, Str.length_append]; omega), ?_⟩
        exact ⟨_, rfl, z⟩
    obtain ⟨t3, h3, fin⟩ := rest
    refine ⟨_, (pss_cons (ps_asg (pv 0) (pg_or (pg_tup rfl (pgs_cons (pg_name (i := 1) nd rfl (Or.inl rfl)) (pgs_cons (pg_name (i := 2) nd rfl (Or.inl rfl)) (pgs_cons (pg_name (i := 3) nd rfl (Or.inl rfl)) (pgs_cons (pg_name (i := 4) nd rfl (Or.inl rfl)) (pgs_cons (pg_name (i := 5) nd rfl (Or.inl rfl)) pgs_nil)))))) (pg_unl rfl (pgs_cons (pg_name (i := 1) nd rfl (Or.inl rfl)) (pgs_cons (pg_name (i := 2) nd rfl (Or.inl rfl)) (pgs_cons (pg_name (i := 3) nd rfl (Or.inl rfl)) (pgs_cons (pg_name (i := 4) nd rfl (Or.inl rfl)) (pgs_cons (pg_name (i := 5) nd rfl (Or.inl rfl)) pgs_nil))))))))
      (pss_cons (ps_set (i := 6) nd rfl (Or.inl rfl) (pe_joined (.cons pe_str (.cons (pe_fmt (pv 1)) .nil))))
      (pss_cons (ps_if (pt_cmpR op_isN (pv 2) pe_non (nomark _)) (pss_one (ps_set (i := 6) nd rfl (Or.inl rfl) (pe_op op_add_str (pv 6) pe_str))) (pss_one (ps_if (pt_cmpR op_ne (pv 2) (pv 1) (nomark _)) (pss_one (ps_set (i := 6) nd rfl (Or.inl rfl) (pe_op op_add_str (pv 6) (pe_joined (.cons pe_str (.cons (pe_fmt (pv 2)) .nil)))))) pss_nil)))
      h3))), ?_⟩
    refine ⟨_, rfl, g_row hrow rfl ⟨_, _, rfl, _, _, rfl, _, _, rfl, _, _, rfl, _, _, rfl, rfl, ?_⟩⟩
    have n1 := num_len sm.low
    have q1 : ("take " : Str).length = 5 := rfl
    refine ⟨_, rfl, le_sz (by rw [Str.length_append]; omega), _, rfl, .inr ⟨r.low, rfl, sm.low, _, rfl, le_sz (Nat.le_trans (Rl.len1 sm) (by decide)), ?_⟩⟩
    have l1 := Rl.len1 sm
    have hh := sm.high
    have fin := fin H (Ex.refl H)
    unfold Rl.l2 at fin
    refine ⟨_, rfl, rfl, _, rfl, ?_⟩
    cases e : r.high with
    | none =>
      rw [e] at fin
      refine ite_tt rfl ?_
      have q2 : (" or more" : Str).length = 8 := rfl
      exact ⟨_, rfl, _, _, rfl, rfl, le_sz (by show r.l1.length + _ ≤ _; omega), fin⟩
    | some i =>
      rw [e] at fin hh
      refine ite_ff rfl ?_
      have fin : t3 { nx := fun _ H' => Q .non H', rt := Q } [some (.ref a), some (.int r.low), some (.int i), some (.str r.left), some (.int r.rest), some (.int r.mod), some (.str (if i = r.low then r.l1 else r.l1 ++ (Str.empty ++ " to " ++ num i)))] H := fin
      refine ⟨_, rfl, _, rfl, rfl, _, rfl, ?_⟩
      by_cases c : i = r.low
      · rw [if_pos c] at fin
        refine ite_ff (by show (!decide (V.int i = V.int r.low)) = false; rw [dec_z, decide_eq_true c]; rfl) ?_
        exact fin
      · rw [if_neg c] at fin
        refine ite_tt (by show (!decide (V.int i = V.int r.low)) = true; rw [dec_z, decide_eq_false c]; rfl) ?_
        have n2 := num_len hh
        have n2' : (Str.ofString (toString i)).length ≤ 1921 := n2
        have q2 : (" to " : Str).length = 4 := rfl
        refine ⟨_, rfl, _, rfl, le_sz (by rw [Str.length_append]; omega), _, rfl, .inr ⟨i, rfl, hh, _, rfl, le_sz (by rw [Str.length_append, Str.length_append]; omega), ?_⟩⟩
        exact ⟨_, _, rfl, rfl, le_sz (by show r.l1.length + _ ≤ _; rw [Str.length_append, Str.length_append]; omega), fin⟩
end
end Ts


set_option Elab.async false
set_option linter.all false
set_option maxRecDepth 100000
set_option maxHeartbeats 4000000
/-! ## enumerate of a tuple -/
namespace PySem
open Sem (wp)
open AutoSeq1 (wpAny_loadPart')
theorem made_enum_tuple (q : Addr) (its : Array Value) (m : Nat) (dct : Option Addr) (sl : Array (Option Value)) :
    Meets (Builtin.«enumerate.__new__» ⟨[.type "enumerate", .ref q], []⟩) (fun _ R s => s.heap.get? q = some { cls := .type "tuple", dict := dct, data := .seq its m, slots := sl } ∧
      R (.ok (.ret (.ref (s.heap.push { cls := .type "tuple_iterator", data := .fields #[.ref q, .int 0 0] }).objs.size)))
        { s with heap := (s.heap.push { cls := .type "tuple_iterator", data := .fields #[.ref q, .int 0 0] }).push { cls := .type "enumerate", data := .fields #[.none, .bool false, .ref s.heap.objs.size, rawInt 0, .none, .none] } }) :=
  .of_wp fun prog w A R s z => by
    obtain ⟨hp, g, d, tk, os⟩ := s
    obtain ⟨hq, z⟩ := z
    have subE := sub_enumerate
    have isT : Heap.IsTuple (Shared.heap ⟨hp, g, d, tk, os⟩) q its := ⟨_, hq, rfl, m, rfl⟩
    wp_walk using wpAny_loadPart' hq
    refine wpAny_stack_any fun st => wpAny_pure ?_
    split
    · rename_i c _ _ _ _ _
      cases (c == Value.type "enumerate")
      · wp_walk using wpAny_loadPart' hq, wpAny_pyIter_tuple isT
        exact ⟨_, rfl, z⟩
      · wp_walk using wpAny_loadPart' hq, wpAny_pyIter_tuple isT
        exact ⟨_, rfl, z⟩
    · wp_walk using wpAny_loadPart' hq, wpAny_pyIter_tuple isT
      exact ⟨_, rfl, z⟩
section
variable {prog : Program} {w : World} {A : Around} {E : Value → Shared → Prop} {s : Shared}
theorem call_enum_tuple {q : Addr} {its : Array Value} {Q : Value → Shared → Prop} (hT : s.heap.IsTuple q its)
    (k : ∀ h', IsEnum h' (s.heap.objs.size + 1) s.heap.objs.size 0 .none → h'.IsTupleIter s.heap.objs.size q 0 → (∀ b o, s.heap.get? b = some o → h'.get? b = some o) → Q (.ref (s.heap.objs.size + 1)) { s with heap := h' }) :
    wpAny (model prog w) A (call (.type "enumerate") [.ref q]) Q E s := by
  obtain ⟨⟨c, dct, dt, sl⟩, hq, hc, m, hd⟩ := hT
  have hc : c = .type "tuple" := hc
  have hd : dt = .seq its m := hd
  subst hc hd
  refine callType_new F.called_enumerate (by decide) (F.typeCall_enumerate_1 _) (F.newCall_enumerate_1 _) (fun ob => F.args_object_init_2 ob _) F.entry_enumerate_new (made_enum_tuple q its m dct sl) ⟨hq, ?_⟩
  have sz : (s.heap.push { cls := .type "tuple_iterator", data := .fields #[.ref q, .int 0 0] }).objs.size = s.heap.objs.size + 1 := Heap.size_push ..
  show _ ∧ _
  rw [sz]
  have ie : IsEnum ((s.heap.push { cls := .type "tuple_iterator", data := .fields #[.ref q, .int 0 0] }).push
      { cls := .type "enumerate", data := .fields #[.none, .bool false, .ref s.heap.objs.size, rawInt 0, .none, .none] }) (s.heap.objs.size + 1) s.heap.objs.size 0 .none := by
    have z := Heap.get?_push_size (s.heap.push { cls := .type "tuple_iterator", data := .fields #[.ref q, .int 0 0] })
      (o := { cls := .type "enumerate", data := .fields #[.none, .bool false, .ref s.heap.objs.size, rawInt 0, .none, .none] }) rfl
    rw [sz] at z
    exact z
  exact ⟨⟨_, ie, rfl⟩, k _ ie ⟨_, Heap.get?_push_of_some _ (Heap.get?_push_size _ rfl), rfl, rfl⟩ fun b o x => Heap.get?_push_of_some _ (Heap.get?_push_of_some _ x)⟩
end
end PySem
namespace Ts
open PySem PySem.Spec PyProof.Rows L2
open Evl (Ex)
/-- the tuple at a: pairs of index and item, in new tuples -/
def ItE (K : PySem.W.Frag) (a : Addr) : It :=
  ⟨fun i H => ∃ (xs : List V) (x : V), SqT K H a xs ∧ xs[i]? = some x, fun i H v H' => ∃ T x, v = .ref T ∧ H T = none ∧ H' = upd H T (.tup [.int (i : Nat), x]) ∧ ∀ xs, SqT K H a xs → xs[i]? = some x,
    fun i H => ∃ xs : List V, SqT K H a xs ∧ xs.length = i⟩
theorem turn_enumE {P : Program} {w : World} {K : PySem.W.Frag} {elts : List Expr} {kk : Nat} {tpos : Pos} (a e it : Addr) :
    Turn P w K (.Tuple elts kk tpos) (ItE K a) [e, it] e (fun i h => (∃ old, IsEnum h e it ((i : Nat) : Int) old) ∧ h.IsTupleIter it a i ∧ e ≠ it) where
  mem := by simp
  obj := fun i h st b hb => by
    obtain ⟨⟨old, ie⟩, ⟨o, ho, hc, hd⟩, _⟩ := st
    have eb : b = e ∨ b = it := by simpa using hb
    rcases eb with rfl | rfl
    · exact ⟨_, ie, fun v q => nomatch q⟩
    · exact ⟨o, ho, fun v q => by rw [hd] at q; cases q⟩
  keep := fun i h h' ⟨⟨old, ie⟩, hi, ne⟩ k => ⟨⟨old, k e (by simp) _ ie⟩, hi.at fun o q => k it (by simp) o q, ne⟩
  item := by
    intro X hP hw hK hc i pins s σ H E I hf st hg
    subst hP hw hK
    obtain ⟨⟨old, ie⟩, hit, ne⟩ := st
    obtain ⟨xs, x, hq, hx⟩ := hg
    obtain ⟨its, rv, pt, hz⟩ := I.tuple hq
    obtain ⟨u, hu, ru⟩ := rv.get hx
    have tup : s.heap.IsTuple a its.toArray := pt
    have lte : e < s.heap.objs.size := Heap.lt_size ie
    have lti : it < s.heap.objs.size := by
      obtain ⟨_, q, _⟩ := hit
      exact Heap.lt_size q
    have nea : e ≠ a := fun z => by
      obtain ⟨o, q1, q2, _⟩ := tup
      rw [← z, ie] at q1
      cases q1
      exact absurd (Value.type.inj q2) (by decide)
    have nia : a ≠ it := fun z => by
      obtain ⟨o, q1, q2, _⟩ := tup
      obtain ⟨o', p1, p2, _⟩ := hit
      rw [z, p1] at q1
      cases q1
      rw [p2] at q2
      exact absurd (Value.type.inj q2) (by decide)
    have hi : i < its.toArray.size := by
      have := (List.getElem?_eq_some_iff.mp hu).1
      simpa using this
    refine wpAny_pyNext_enum_itemD (Draws.tuple (A := X.A.in1) (I.ok.hd hc) it a nia its.toArray) ie ⟨hit, tup⟩ hi ne (by simp [ne, nea]) fun v h' tk hv ho hst hT hsz hk => ?_
    obtain rfl : v = u := by
      have z : its.toArray[i]? = some v := hv
      rw [List.getElem?_toArray, hu] at z
      exact (Option.some.inj z).symm
    refine ⟨_, rfl, wpAny_letOwnedTupleGo_enum (s := { s with heap := h', toks := tk + 1 }) ho fun g he' sb => ?_⟩
    have hT2 : g.get? s.heap.objs.size = some { cls := .type "tuple", data := .seq #[.int i tk, v] } := (sb.2 _ (Nat.ne_of_gt lte)).trans hT
    have new : ObjOk X.prog X.w (upd H s.heap.objs.size (.tup [.int (i : Nat), x])) g s.heap.objs.size (.tup [.int (i : Nat), x]) := ⟨by show 2 ≤ sizeLine; decide, [.int i tk, v], .cons ⟨_, rfl⟩ (.cons ru .nil), ⟨_, hT2, rfl, _, rfl⟩⟩
    have J : Inv X pins σ (upd H s.heap.objs.size (.tup [.int (i : Nat), x])) { s with heap := g, toks := tk + 1 } :=
      I.turnedNew (ch := [e, it]) (fun b ob hb q => by
        have n1 : b ≠ e := fun z => hb (by simp [z])
        have n2 : b ≠ it := fun z => hb (by simp [z])
        exact (sb.2 b n1).trans (hk b ob n1 n2 q)) hf (Nat.le_refl _) new
    refine ⟨.ref s.heap.objs.size, _, J, rfl, ⟨_, x, rfl, I.hok.fresh (Nat.le_refl _), rfl, fun ys hy => by rw [I.tuple_inj hy hq]; exact hx⟩, ⟨⟨v, ?_⟩, hst.1.at fun o q => (sb.2 it (Ne.symm ne)).trans q, ne⟩, fun b hb => ?_⟩
    · have e1 : ((i + 1 : Nat) : Int) = (i : Int) + 1 := by omega
      rw [e1]
      exact he'
    · have hb' : b < s.heap.objs.size := by
        have eb : b = e ∨ b = it := by simpa using hb
        rcases eb with rfl | rfl
        · exact lte
        · exact lti
      rw [upd_ne (Nat.ne_of_lt hb')]
      exact (hf b hb).1
  done := by
    intro X hP hw hK hc i pins s σ H E I hf st hg
    subst hP hw hK
    obtain ⟨⟨old, ie⟩, hit, ne⟩ := st
    obtain ⟨xs, hq, hx⟩ := hg
    obtain ⟨its, rv, pt, hz⟩ := I.tuple hq
    have tup : s.heap.IsTuple a its.toArray := pt
    have nia : a ≠ it := fun z => by
      obtain ⟨o, q1, q2, _⟩ := tup
      obtain ⟨o', p1, p2, _⟩ := hit
      rw [z, p1] at q1
      cases q1
      rw [p2] at q2
      exact absurd (Value.type.inj q2) (by decide)
    obtain ⟨f0, f1, f2, f3, f4, f5⟩ := hf it (by simp)
    have hl := rv.length
    have en : i = its.toArray.size := by
      rw [List.size_toArray]
      omega
    subst en
    exact wpAny_pyNext_enum_endD (Draws.tuple (A := X.A.in1) (I.ok.hd hc) it a nia its.toArray) ie ⟨hit, tup⟩ fun h' eb => ⟨rfl, I.turned (t' := s.toks) (fun b o hb q => eb b o hb q) f0 f1 f3 f4 f5⟩
  self := fun A i s Q E ⟨⟨_, ie⟩, _⟩ k => wpAny_pyIter_enum ie k
def iEnT (K : PySem.W.Frag) (ta : TA) : TI := fun σ H R => ta σ H fun vs H1 => ∃ a xs, vs = [.ref a] ∧ SqT K H1 a xs ∧ R (ItE K a) H1
theorem pi_enumT {X : Cx} {e : Expr} {ta : TA} {p pos tpos : Pos} {elts : List Expr} {kk : Nat} (hg : Gl X "enumerate") (hm : X.mg "enumerate" = none) (ha : PA X [e] ta) (hs : starEach [e] X.env = [(false, eval e X.env)] := by rfl) :
    PI X (.Tuple elts kk tpos) (.Call (.Name "enumerate" p) [e] [] pos) (iEnT X.K ta) := by
  refine ⟨fun pins s σ H R I h => ?_⟩
  refine Call_ (ld_blt I hg hm boot_enumerate (PyProof.Rows.callWith_type1 (thn (ha.run pos pins s σ H _ I h) fun us s1 z => ?_) hs rfl))
  obtain ⟨vs, H1, I1, r1, a, xs, rfl, hq, q⟩ := z
  obtain rfl := Vals.ref1 r1
  obtain ⟨its, rv, pt, hz⟩ := I1.tuple hq
  refine call_enum_tuple (show s1.heap.IsTuple a its.toArray from pt) fun h' ie hit hk => wpAny_pyIter_enum ie ?_
  have I2 : Inv X pins σ H1 { s1 with heap := h' } := I1.kept (t' := s1.toks) hk
  refine ⟨s1.heap.objs.size + 1, [s1.heap.objs.size + 1, s1.heap.objs.size], _, _, H1, rfl, I2, turn_enumE a (s1.heap.objs.size + 1) s1.heap.objs.size, ⟨⟨.none, ie⟩, hit, Nat.succ_ne_self _⟩, fun b hb => ?_, q⟩
  have hle : s1.heap.objs.size ≤ b := by
    have eb : b = s1.heap.objs.size + 1 ∨ b = s1.heap.objs.size := by simpa using hb
    rcases eb with z | z
    · rw [z]
      exact Nat.le_succ _
    · rw [z]
      exact Nat.le_refl _
  exact I1.fpOk hle (I1.hok.fresh hle)
end Ts


set_option Elab.async false
set_option linter.all false
set_option maxRecDepth 100000
set_option maxHeartbeats 4000000
namespace Ts
open PySem PySem.Spec L2
open Evl (Ex)
theorem walk_enumT {K : PySem.W.Frag} {a : Addr} {xs : List V} : Walk (ItE K a) xs.length (fun H => SqT K H a xs) (YPair (fun i => some (.int (i : Nat))) (fun i => xs[i]?)) := by
  refine ⟨fun i _ hi q => ⟨xs, xs[i], q, by simp [hi]⟩, fun _ q => ⟨xs, q, rfl⟩, fun i H v H' _ q y => ?_⟩
  obtain ⟨T, x, h1, h2, h3, h4⟩ := y
  exact ⟨T, .int (i : Nat), x, h1, h2, h3, rfl, h4 xs q⟩
/-- for (.., ..) in enumerate(row) -/
theorem for_enum_row {K : PySem.W.Frag} {i : Nat} {g : TG} {tb : TS} {D : Ends} {σ : L2.St} {H : Hp} {a : Addr} {xs : List V} (hσ : σ[i]? = some (some (.ref a))) (hr : Row H a xs) (Pv : Nat → L2.St → Hp → Prop) (h0 : Pv 0 σ H) (hG : ∀ j σ' H', Pv j σ' H' → ∀ o, H a = some o → H' a = some o)
    (hs : ∀ j x σ' H' T, xs[j]? = some x → Pv j σ' H' → H' T = none → g (.ref T) σ' (upd H' T (.tup [.int (j : Nat), x])) fun σ2 H2 => tb { D with nx := Pv (j + 1), ct := Pv (j + 1), bk := D.nx } σ2 H2) (hd : ∀ σ' H', Pv xs.length σ' H' → D.nx σ' H') :
    tFor (iOr (iEnum K (tCons (tVar i) tNil)) (iEnT K (tCons (tVar i) tNil))) g tb D σ H := by
  have step : ∀ j x σ' H' H'', j < xs.length → Pv j σ' H' → YPair (fun i => some (.int (i : Nat))) (fun i => xs[i]?) j H' x H'' → g x σ' H'' fun σ2 H2 => tb { D with nx := Pv (j + 1), ct := Pv (j + 1), bk := D.nx } σ2 H2 := fun j x σ' H' H'' hj p y => by
    obtain ⟨T, u, v, rfl, hT, rfl, h1, h2⟩ := y
    cases h1
    exact hs j v σ' H' T h2 p hT
  rcases hr with h | h
  · exact .inl ⟨_, hσ, a, xs, rfl, SqL.of h, for_it (walk_enum (xs := xs)) Pv h0 (fun j σ' H' _ p => SqL.of (hG j σ' H' p _ h)) step hd⟩
  · exact .inr ⟨_, hσ, a, xs, rfl, SqT.of h, for_it (walk_enumT (xs := xs)) Pv h0 (fun j σ' H' _ p => SqT.of (hG j σ' H' p _ h)) step hd⟩
/-- the rule that data tell -/
def hiOf : PyData → Option Int
  | .int h => some h
  | _ => none
def rlOf (d : PyData) : Rl := match items d with
  | [.int lo, hi, .str le, .int re, .int mo] => ⟨lo, hiOf hi, le, re, mo⟩
  | _ => ⟨0, none, Str.empty, 0, 0⟩
/-- what holds of a rule -/
structure Rl.Ok (r : Rl) : Prop where
  left : inV (.str r.left) lefts = true
  low0 : 0 ≤ r.low
  low1 : r.low = 0 → V.str r.left = V.str "two"
  rest0 : 0 ≤ r.rest
  rest1 : r.rest < r.mod
  grow : r.high = none → r.mod = 1 ∧ V.str r.left ≠ V.str "two"
  high : ∀ h, r.high = some h → r.low ≤ h
theorem rule_of {d : PyData} (h : isRule d = true) : isRow d = true ∧ items d = [.int (rlOf d).low, hiD (rlOf d).high, .str (rlOf d).left, .int (rlOf d).rest, .int (rlOf d).mod] ∧ (rlOf d).Ok := by
  unfold isRule at h
  obtain ⟨hr, h⟩ := Bool.and_eq_true_iff.mp h
  refine ⟨hr, ?_⟩
  unfold rlOf
  split at h
  · rename_i lo hi le re mo e
    rw [e]
    unfold rule5 at h
    obtain ⟨h1, h⟩ := Bool.and_eq_true_iff.mp h
    obtain ⟨h2, h⟩ := Bool.and_eq_true_iff.mp h
    obtain ⟨h3, h4⟩ := Bool.and_eq_true_iff.mp h
    obtain ⟨h2a, h2b⟩ := Bool.and_eq_true_iff.mp h2
    obtain ⟨h3a, h3⟩ := Bool.and_eq_true_iff.mp h3
    obtain ⟨h3b, h3c⟩ := Bool.and_eq_true_iff.mp h3
    obtain ⟨ilo, rfl, lo0⟩ := isNum_int h2a
    obtain ⟨ire, rfl, re0⟩ := isNum_int h3a
    obtain ⟨imo, rfl, mo0⟩ := isNum_int h3b
    cases le with
    | str le =>
      have h3c : ire < imo := of_decide_eq_true h3c
      have low1 : ilo = 0 → V.str le = V.str "two" := fun z => by
        have h2b : (!(decide (ilo = 0) && !decide (V.str le = V.str "two"))) = true := h2b
        rw [decide_eq_true z] at h2b
        exact of_decide_eq_true (by simpa using h2b)
      cases hi with
      | none =>
        have h4 : (decide (imo = 1) && !decide (V.str le = V.str "two")) = true := h4
        obtain ⟨q1, q2⟩ := Bool.and_eq_true_iff.mp h4
        exact ⟨rfl, h1, lo0, low1, re0, h3c, fun _ => ⟨of_decide_eq_true q1, of_decide_eq_false (by simpa using q2)⟩, fun _ z => by cases z⟩
      | int i =>
        have h4 : (isNum (.int i) && decide (ilo ≤ i)) = true := h4
        obtain ⟨q1, q2⟩ := Bool.and_eq_true_iff.mp h4
        exact ⟨rfl, h1, lo0, low1, re0, h3c, (fun z => by cases z), (fun h z => by cases z; exact of_decide_eq_true q2)⟩
      | _ => exact absurd h4 (by intro z; cases z)
    | _ => cases h1
  · cases h
/-- the first that can't stand -/
def faultAt : List PyData → Nat → List Rl → Bool → Bool → Option Nat
  | [], _, _, _, _ => none
  | d :: ds, i, seen, g, s =>
    if isRule d = true then
      if decide (rlOf d ∈ seen) = true then some i
      else if ((g || (rlOf d).high.isNone) && (s || decide (V.str (rlOf d).left = V.str "two"))) = true then some i
      else faultAt ds (i + 1) (seen ++ [rlOf d]) (g || (rlOf d).high.isNone) (s || decide (V.str (rlOf d).left = V.str "two"))
    else some i
theorem faultAt_cons (d : PyData) (ds : List PyData) (i : Nat) (seen : List Rl) (g s : Bool) : faultAt (d :: ds) i seen g s = if isRule d = true then
      if decide (rlOf d ∈ seen) = true then some i
      else if ((g || (rlOf d).high.isNone) && (s || decide (V.str (rlOf d).left = V.str "two"))) = true then some i
      else faultAt ds (i + 1) (seen ++ [rlOf d]) (g || (rlOf d).high.isNone) (s || decide (V.str (rlOf d).left = V.str "two"))
    else some i := rfl
def faultV (d : PyData) : V := if isRow d = true then (match faultAt (items d) 0 [] false false with
  | some i => .int (i : Nat)
  | none => .non) else .int 0
/-- tuple(..) of a row -/
theorem tup_row {K : PySem.W.Frag} {i : Nat} {σ : L2.St} {H : Hp} {Q : VK} {b : Addr} {ys : List V} (hσ : σ[i]? = some (some (.ref b))) (hr : Row H b ys) (k : ∀ t H', Ex H H' → H' t = some (.tup ys) → Q (.ref t) H') :
    tCB (fun xs H Q => ∃ p ys, xs = [.ref p] ∧ ((SqL K H p ys ∧ ∀ l, H l = none → Q (.ref l) (upd H l (.tup ys))) ∨ (SqT K H p ys ∧ Q (.ref p) H))) (tCons (tVar i) tNil) σ H Q :=
  ⟨_, hσ, by
    rcases hr with h | h
    · exact ⟨b, _, rfl, .inl ⟨SqL.of h, fun l nl => k l _ (Ex.new nl) upd_same⟩⟩
    · exact ⟨b, _, rfl, .inr ⟨SqT.of h, k b H (Ex.refl _) h⟩⟩⟩
/-- x or y, of bools -/
theorem or_of {i : Nat} {tb : TE} {σ : L2.St} {H : Hp} {Q : VK} {g g2 : Bool} (hσ : σ[i]? = some (some (.bl g))) (hb : ∀ q : VK, (∀ H', Ex H H' → q (.bl g2) H') → tb σ H q) (k : ∀ H', Ex H H' → Q (.bl (g || g2)) H') : tOrV (tVar i) tb σ H Q :=
  ⟨_, hσ, g, rfl, by
    cases g with
    | true => exact iteT (k H (Ex.refl H))
    | false => exact iteF (hb _ k)⟩
section
variable {P : Program} {w : World} {K : PySem.W.Frag} {mg : Str → Option Value} {base : Heap}
abbrev s_fault := top 17
theorem sc_fault : FnScope ["thing", "seen", "grows", "splits", "index", "part"] ["thing"] (defScope s_fault) := ⟨rfl, rfl, rfl, by decide +kernel, rfl, by decide +kernel, by decide +kernel⟩
def spFault : Sp := fun vs H Q _ => ∃ v d, vs = [v] ∧ D H v d ∧ (items d).length ≤ 1000 ∧ ∀ H', Ex H H' → Q (faultV d) H'
theorem ok_fault {f f1 f2 f3 f4 : Addr} {fd fd1 fd2 fd3 fd4 : FuncData} (F : FD K mg "rules_fault" "rules_fault" s_fault f fd) (F_row : FD K mg "is_row" "is_row" s_is_row f1 fd1) (F_rule : FD K mg "is_rule" "is_rule" s_is_rule f2 fd2) (G_rule : FnOk P w K mg base CX0 3 f2 fd2 ["thing"] (spAsk isRule))
    (F_gr : FD K mg "is_growing" "is_growing" s_growing f3 fd3) (F_sp : FD K mg "is_splitting" "is_splitting" s_splitting f4 fd4) (T : Bl mg) (henum : mg "enumerate" = none) : FnOk P w K mg base CX0 4 f fd ["thing"] spFault := by
  have G_row : FnOk P w K mg base CX0 1 f1 fd1 ["thing"] (spAsk isRow) := ok_is_row F_row T
  have G_gr : FnOk P w K mg base CX0 1 f3 fd3 ["rule"] _ := ok_growing F_gr
  have G_sp : FnOk P w K mg base CX0 1 f4 fd4 ["rule"] _ := ok_splitting F_sp
  have b_row := b_is_row F_row
  have b_rule : Binds K fd2 ["thing"] [] := F_rule.F.binds fun _ _ _ _ _ _ us hl => match us, hl with | [_], _ => rfl
  have b_gr : Binds K fd3 ["rule"] [] := F_gr.F.binds fun _ _ _ _ _ _ us hl => match us, hl with | [_], _ => rfl
  have b_sp : Binds K fd4 ["rule"] [] := F_sp.F.binds fun _ _ _ _ _ _ us hl => match us, hl with | [_], _ => rfl
  refine F.F.ok sc_fault (fun vs H Q E h => ?_) (fun cdv A outer s H vs Q E hr h => ?_)
  · obtain ⟨v, d, rfl, _⟩ := h
    rfl
  · obtain ⟨v, d, rfl, hd, hz, k⟩ := h
    have nd := sc_fault.nd
    have hu := Nat.lt_of_le_of_lt (Nat.add_le_add_left (by decide : 16 ≤ 64) _) hr.units
    refine ⟨_, (pss_cons (ps_if (pt_not (pt_val (pe_call G_row (hr.mono (by decide)) (by rfl) F_row.g F_row.F.kp b_row .nil pass0 (pa_cons (pv 0) pa_nil)))) (pss_one (ps_ret pe_int)) pss_nil)
      (pss_cons (ps_set (i := 1) nd rfl (Or.inl rfl) pe_dnewR)
      (pss_cons (ps_asg2 pe_bl (pg_name (i := 2) nd rfl (Or.inl rfl)) (pg_name (i := 3) nd rfl (Or.inl rfl)))
      (pss_cons (ps_for PassesOwn.never rfl (pi_or (pi_enum (by rfl) henum (pa_cons (pv 0) pa_nil)) (pi_enumT (by rfl) henum (pa_cons (pv 0) pa_nil))) (pg_tup rfl (pgs_cons (pg_name (i := 4) nd rfl (Or.inl rfl)) (pgs_cons (pg_name (i := 5) nd rfl (Or.inl rfl)) pgs_nil))) (pss_cons (ps_if (PW.pt (pw_or (pt_not (pt_val (pe_call G_rule (hr.mono (by decide)) (by rfl) F_rule.g F_rule.F.kp b_rule .nil pass0 (pa_cons (pv 5) pa_nil)))) (pw_or1 (pt_cmpR (op_inR hu) (pe_callTy call_tuple_of (by rfl) T.tuple PyProof.Rows.boot_tuple (pa_cons (pv 5) pa_nil)) (pv 1) (by rfl))))) (pss_one (ps_ret (pv 4))) pss_nil)
      (pss_cons (ps_set (i := 2) nd rfl (Or.inl rfl) (pe_or (pv 2) (pe_one (pe_call G_gr (hr.mono (by decide)) (by rfl) F_gr.g F_gr.F.kp b_gr .nil pass0 (pa_cons (pv 5) pa_nil)))))
      (pss_cons (ps_set (i := 3) nd rfl (Or.inl rfl) (pe_or (pv 3) (pe_one (pe_call G_sp (hr.mono (by decide)) (by rfl) F_sp.g F_sp.F.kp b_sp .nil pass0 (pa_cons (pv 5) pa_nil)))))
      (pss_cons (ps_if (PW.pt (pw_and (pt_val (pv 2)) (pw_and1 (pt_val (pv 3))))) (pss_one (ps_ret (pv 4))) pss_nil)
      (pss_one (ps_asg pe_bl (pg_sub (pv 1) (pe_callTy call_tuple_of (by rfl) T.tuple PyProof.Rows.boot_tuple (pa_cons (pv 5) pa_nil)) (set_R hu)))))))))
      (pss_one (ps_ret pe_non)))))), ?_⟩
    refine ⟨_, rfl, v, d, rfl, hd, fun H1 e1 => ⟨_, rfl, ?_⟩⟩
    by_cases hrw : isRow d = true
    · obtain ⟨a, xs, rfl, hrow, hall⟩ := hd.row hrw
      rw [hrw]
      refine iteF (fun q nq => ?_)
      have hlen := hall.len
      have e2 := Ex.new (o := SeenO P w q []) nq
      have hq : upd H1 q (SeenO P w q []) q = some (SeenO P w q []) := upd_same
      have E2 : Ex H (upd H1 q (SeenO P w q [])) := e1.trans e2
      have Hq : H q = none := Evl.fresh_back e1 nq
      have hv : ∀ H', Ex H H' → Q (match faultAt (items d) 0 [] false false with
          | some i => .int (i : Nat)
          | none => .non) H' := fun H' e => by
        have z := k H' e
        unfold faultV at z
        rw [if_pos hrw] at z
        exact z
      have ha2 : ∀ o, upd H1 q (SeenO P w q []) a = some o → ∀ H', Ex H H' → H' a = some o := fun o ho H' e => by
        rcases hrow with h | h
        · rw [E2 _ _ h] at ho
          rw [← ho]
          exact e _ _ h
        · rw [E2 _ _ h] at ho
          rw [← ho]
          exact e _ _ h
      refine for_enum_row (K := K) (i := 0) (a := a) (xs := xs) rfl (hrow.ex E2) (fun j σ H' => ∃ (ks : List (Rl × Addr)) (g s : Bool) (v4 v5 : Option V), σ = [some (.ref a), some (.ref q), some (.bl g), some (.bl s), v4, v5] ∧ Ex H H' ∧ H' q = some (SeenO P w q ks) ∧ SeenK H' ks ∧ ks.length ≤ j ∧ faultAt (items d) 0 [] false false = faultAt ((items d).drop j) j (ks.map (·.1)) g s)
        ⟨[], false, false, none, none, rfl, E2, hq, (fun p hp => by cases hp), Nat.le_refl _, rfl⟩ (fun j σ' H' q' o ho => ?_) (fun j x σ' H' Tq hx q' nT => ?_) (fun σ' H' q' => ?_)
      · obtain ⟨ks, g, s', v4, v5, _, e, _⟩ := q'
        exact ha2 o ho H' e
      · obtain ⟨ks, g, s', v4, v5, rfl, e, hq', hk, hl, hf⟩ := q'
        obtain ⟨dx, hdx, Dx⟩ := hall.get hx
        have eT := Ex.new (o := .tup [.int (j : Nat), x]) nT
        have hT : upd H' Tq (.tup [.int (j : Nat), x]) Tq = some (.tup [.int (j : Nat), x]) := upd_same
        generalize upd H' Tq (.tup [.int (j : Nat), x]) = H3 at eT hT
        have hj : (items d).drop j = dx :: (items d).drop (j + 1) := by
          have q := (List.getElem?_eq_some_iff.mp hdx)
          obtain ⟨q1, q2⟩ := q
          rw [List.drop_eq_getElem_cons q1, q2]
        rw [hj] at hf
        have e3 := e.trans eT
        refine ⟨Tq, _, rfl, SqT.of hT, rfl, _, _, rfl, _, _, rfl, rfl, ?_⟩
        have no : faultAt (items d) 0 [] false false = some j → ∀ H', Ex H H' → Q (.int (j : Nat)) H' := fun z H' e => by
          have q := hv H' e
          rw [z] at q
          exact q
        refine ⟨_, rfl, x, dx, rfl, Dx.ex e3, fun H4 e4 => ⟨_, rfl, ?_⟩⟩
        have e34 := e3.trans e4
        cases cr : isRule dx with
        | false =>
          refine iteT ?_
          rw [faultAt_cons, cr, if_neg Bool.false_ne_true] at hf
          exact ⟨_, rfl, no hf H4 e34⟩
        | true =>
          refine iteF ?_
          rw [faultAt_cons, cr, if_pos rfl] at hf
          obtain ⟨rr, rit, rok⟩ := rule_of cr
          obtain ⟨b, ys, rfl, brow, ball⟩ := (Dx.ex e34).row rr
          rw [rit] at ball
          have eys : ys = (rlOf dx).vs := by
            obtain ⟨v1, v2, v3, v4, v5, rfl, h1, h2, h3, h4, h5⟩ := ball.five
            obtain rfl := h1.int_of
            obtain rfl := h4.int_of
            obtain rfl := h5.int_of
            unfold Rl.vs
            cases h3
            cases hh : (rlOf dx).high with
            | none =>
              rw [hh] at h2
              cases h2
              rfl
            | some i =>
              rw [hh] at h2
              obtain rfl := h2.int_of
              rfl
          subst eys
          generalize rlOf dx = r at hf brow rok ball
          have hq4 := e4 _ _ (eT _ _ hq')
          have hk4 : SeenK H4 ks := fun p hp => e4 _ _ (eT _ _ (hk p hp))
          -- tuple(part)
          unfold tTest tOp
          dsimp only
          refine tup_row (i := 5) (b := b) (ys := r.vs) rfl brow (fun t H5 e5 ht => ?_)
          have e35 := e34.trans e5
          have hk5 : SeenK H5 ks := fun p hp => e5 _ _ (hk4 p hp)
          refine ⟨_, rfl, t, q, r, ks, rfl, rfl, ht, e5 _ _ hq4, hk5, _, rfl, ?_⟩
          cases cm : decide (r ∈ ks.map (·.1)) with
          | true =>
            refine iteT ?_
            rw [cm, if_pos rfl] at hf
            exact ⟨_, rfl, no hf H5 e35⟩
          | false =>
            refine iteF ?_
            rw [cm, if_neg Bool.false_ne_true] at hf
            refine or_of (g := g) (g2 := r.high.isNone) rfl (fun qq kk => ⟨_, rfl, b, r, rfl, brow.ex e5, fun H6 e6 => kk H6 e6⟩) (fun H6 e6 => ?_)
            refine or_of (g := s') (g2 := decide (V.str r.left = V.str "two")) rfl (fun qq kk => ⟨_, rfl, b, r, rfl, brow.ex (e5.trans e6), fun H7 e7 => kk H7 e7⟩) (fun H7 e7 => ?_)
            have e57 := (e5.trans e6).trans e7
            have e37 := e34.trans e57
            generalize (g || r.high.isNone) = g' at hf
            generalize (s' || decide (V.str r.left = V.str "two")) = s'' at hf
            unfold gName tSeq tIfS
            dsimp only
            refine tand_of (b1 := g') (b2 := s'') (fun qq kk => ⟨_, rfl, _, rfl, kk⟩) (fun qq kk => ⟨_, rfl, _, rfl, kk⟩) ?_
            cases cg : (g' && s'') with
            | true =>
              refine iteT ?_
              rw [cg, if_pos rfl] at hf
              exact ⟨_, rfl, no hf H7 e37⟩
            | false =>
              refine iteF ?_
              rw [cg, if_neg Bool.false_ne_true] at hf
              refine ⟨_, rfl, tup_row (i := 5) (b := b) (ys := r.vs) (by rfl) (brow.ex e57) (fun t8 H8 e8 ht8 => ?_)⟩
              have e58 := e57.trans e8
              have hq8 := e58 _ _ hq4
              have hk8 : SeenK H8 ks := fun p hp => e58 _ _ (hk4 p hp)
              have hjl : j < (items d).length := (List.getElem?_eq_some_iff.mp hdx).1
              refine ⟨t8, q, r, ks, rfl, rfl, rfl, ht8, hq8, hk8, of_decide_eq_false cm, Nat.lt_of_le_of_lt (by omega : ks.length ≤ 1000) (by decide), ?_⟩
              have nq8 : ∀ p xs, H8 p = some (.tup xs) → p ≠ q := fun p xs hp z => by
                rw [z, hq8] at hp
                cases hp
              refine ⟨ks ++ [(r, t8)], _, _, _, _, rfl, (e34.trans e58).mut Hq, upd_same, fun p hp => ?_, by rw [List.length_append]; show ks.length + 1 ≤ j + 1; omega, ?_⟩
              · rcases List.mem_append.mp hp with hp | hp
                · rw [upd_ne (nq8 _ _ (hk8 p hp))]
                  exact hk8 p hp
                · rw [List.mem_singleton] at hp
                  rw [hp, upd_ne (nq8 _ _ ht8)]
                  exact ht8
              · rw [hf, List.map_append]
                rfl
      · obtain ⟨ks, g, s', v4, v5, rfl, e, hq', hk, hl, hf⟩ := q'
        have z := hv H' e
        rw [hf, List.drop_eq_nil_of_le (by rw [hlen]; exact Nat.le_refl _)] at z
        exact z
    · have hf : isRow d = false := by simpa using hrw
      rw [hf]
      have q := k H1 e1
      unfold faultV at q
      rw [hf] at q
      exact iteT q
end
end Ts


set_option Elab.async false
set_option linter.all false
set_option maxRecDepth 100000
set_option maxHeartbeats 4000000
/-! ## sorted by a def that tells texts -/
namespace Ts
open PySem PySem.Spec PyProof.Rows L2
open PySem.W (KeepsBut keyH_end copyHeap copyHeap_at copyHeap_old dataLe)
open Evl (Ex)
theorem each_vals : ∀ {bs : List (V × Str)} {vs : List Value}, Vals (bs.map (·.1)) vs → PySem.W.EachIs (fun (v : Value) (p : V × Str) => RelV p.1 v) vs bs
  | [], _, h => by
    cases h
    exact .nil
  | p :: t, _, h => by
    rw [List.map_cons] at h
    cases h with
    | cons r rr => exact .cons r (each_vals rr)
theorem vals_each : ∀ {vs : List Value} {bs : List (V × Str)}, PySem.W.EachIs (fun (v : Value) (p : V × Str) => RelV p.1 v) vs bs → Vals (bs.map (·.1)) vs
  | _, _, .nil => .nil
  | _, _, .cons r rr => .cons r (vals_each rr)
theorem each_reads {h : Heap} : ∀ {zs : List Str} {ks : List Value}, Vals (zs.map V.str) ks → PySem.W.EachIs (fun v k => ∃ as, Reads h v k as) ks (zs.map PyData.str)
  | [], _, r => by
    cases r
    exact .nil
  | z :: t, _, r => by
    rw [List.map_cons] at r
    cases r with
    | cons r rr =>
      obtain ⟨u, rfl⟩ := r
      exact .cons ⟨[], .str _ _⟩ (each_reads rr)
def rSortBy (K : PySem.W.Frag) (fA : Addr) (sp : Sp) : List V → List V → Hp → VK → Prop := fun vs zs H Q => ∃ (l : Addr) (bs : List (V × Str)), vs = [.ref l] ∧ zs = [.ref fA] ∧ SqL K H l (bs.map (·.1)) ∧
  (∀ p ∈ bs, ∀ H', Ex H H' → ∀ Q' : VK, (∀ H'', Ex H' H'' → Q' (.str p.2) H'') → sp [p.1] H' Q' fun _ _ _ => False) ∧
  ∀ (L : Addr) H', H L = none → Ex H H' → H' L = some (.lst ((bs.mergeSort (dataLe false fun p => PyData.str p.2)).map (·.1))) → Q (.ref L) H'
theorem cr_sortedBy {X : Cx} {fA : Addr} {fd : FuncData} {k : Nat} {x : Str} {sp : Sp} (F : FnOk X.prog X.w X.K X.mg X.base CX0 k fA fd [x] sp) (hr : Room (k + 2) X.A) (hb : Binds X.K fd [x] []) :
    CallRK X (.builtin "sorted") [Str.ofString "key"] (rSortBy X.K fA sp) := by
  intro pins s σ H xs zs us ws Q I r rz h
  obtain ⟨l, bs, rfl, rfl, hs, hsp, q⟩ := h
  obtain rfl := Vals.ref1 r
  obtain ⟨w1, rfl, e1⟩ := vals1 rz
  obtain rfl : w1 = Value.ref fA := e1
  obtain ⟨its, rv, hl, hz⟩ := I.list hs
  have hlen := rv.length
  rw [List.length_map] at hlen hz
  have hZ : its.length ≤ sizeLine := by omega
  refine PySem.W.sorted_of_sort hl.isList hZ (ksk_s1 _ _) (fun _ => ksk_l1 _ _) fun E' => ?_
  show wpAny _ _ (Builtin.«list.sort» ⟨[.ref (s.heap.objs.size + 1)], [(Str.ofString "key", .ref fA)]⟩) _ _ _
  rw [ksk_t1]
  generalize ha : s.heap.objs.size + 1 = a
  have ho : (copyHeap s.heap its).get? a = some (seqObj "list" its.toArray 0) := by
    rw [← ha]
    exact copyHeap_at _ _
  obtain ⟨ep, ho1⟩ : ∃ ep, ((copyHeap s.heap its).update a (Obj.mapSeq fun _ => (#[] : Array Value))).get? a = some (seqObj "list" #[] ep) := ⟨_, get?_update_seq ho fun _ => #[]⟩
  unfold ksk_tree
  refine wpAny_bind (listItems_at ho rfl ?_)
  refine wpAny_bind (listUpdate_at ho rfl ?_ (by rw [List.size_toArray]; exact hZ) (Nat.zero_le _))
  refine wpAny_bind (seqEpoch_at ho1 rfl ?_)
  refine wpAny_bind (wpAny_newTuple ?_ (by show its.length ≤ _; exact hZ))
  refine wpAny_bind (wpAny_newList ?_ (Nat.zero_le _))
  refine wpAny_holding ?_
  -- the heap in which the keys are asked
  have szc : (copyHeap s.heap its).objs.size = s.heap.objs.size + 2 := by
    unfold copyHeap
    rw [Heap.size_push, Heap.size_update, Heap.size_push]
  generalize hg1 : ((copyHeap s.heap its).update a (Obj.mapSeq fun _ => (#[] : Array Value))).push (seqObj "tuple" its.toArray 0) = g1
  have sz1 : g1.objs.size = s.heap.objs.size + 3 := by
    rw [← hg1, Heap.size_push, Heap.size_update, szc]
  have old1 : ∀ b o, s.heap.get? b = some o → g1.get? b = some o := fun b o e => by
    rw [← hg1]
    refine Heap.get?_push_of_some _ ?_
    have nb : b ≠ a := Nat.ne_of_lt (Nat.lt_of_lt_of_le (Heap.lt_size e) (by rw [← ha]; exact Nat.le_succ _))
    exact ((Heap.SameBut.update _ a _).2 b nb).trans (copyHeap_old e)
  have at1 : g1.get? a = some (seqObj "list" #[] ep) := by
    rw [← hg1]
    exact Heap.get?_push_of_some _ ho1
  have ls0 : (0 : Nat) ≤ sizeLine := Nat.zero_le _
  have lea : s.heap.objs.size ≤ a := by rw [← ha]; exact Nat.le_succ _
  have Ha : H a = none := I.hok.fresh lea
  have okA : ObjOk X.prog X.w (upd H a (.frz (seqObj "list" #[] ep) (.lst []))) g1 a (.frz (seqObj "list" #[] ep) (.lst [])) := ⟨at1, ls0, [], ep, .nil, at1⟩
  have I1 := I.laid (h' := g1) (t' := s.toks) (o := .frz (seqObj "list" #[] ep) (.lst [])) old1 lea okA
  generalize hkS : g1.objs.size = kS
  have hka : kS ≠ a := by
    rw [← hkS, ← ha, sz1]
    exact Nat.ne_of_gt (by omega)
  have at2 : (g1.push (seqObj "list" #[] 0)).get? kS = some (seqObj "list" #[] 0) := by
    rw [← hkS]
    exact Heap.get?_push_size _ rfl
  have HkS : upd H a (.frz (seqObj "list" #[] ep) (.lst [])) kS = none := I1.hok.fresh (by show g1.objs.size ≤ kS; rw [hkS]; exact Nat.le_refl _)
  have I2 := I1.laid (h' := g1.push (seqObj "list" #[] 0)) (t' := s.toks) (a := kS) (o := .lst []) (fun b o e => Heap.get?_push_of_some _ e) (by show g1.objs.size ≤ kS; rw [hkS]; exact Nat.le_refl _) ⟨ls0, [], 0, .nil, at2⟩
  generalize hH1 : upd (upd H a (.frz (seqObj "list" #[] ep) (.lst []))) kS (.lst []) = H1 at I2
  generalize hg2 : g1.push (seqObj "list" #[] 0) = g2 at I2 at2
  have old2 : ∀ b o, s.heap.get? b = some o → g2.get? b = some o := fun b o e => by
    rw [← hg2]
    exact Heap.get?_push_of_some _ (old1 b o e)
  have H1o : ∀ b, b ≠ a → b ≠ kS → H1 b = H b := fun b n1 n2 => by rw [← hH1, upd_ne n2, upd_ne n1]
  have H1a : H1 a = some (.frz (seqObj "list" #[] ep) (.lst [])) := by rw [← hH1, upd_ne (Ne.symm hka)]; exact upd_same
  have H1k : H1 kS = some (.lst []) := by rw [← hH1]; exact upd_same
  have eH1 : Ex H H1 := by
    rw [← hH1]
    exact (Ex.new Ha).trans (Ex.new HkS)
  unfold ksk_rest
  refine wpAny_bind (wpAny_rule ?_)
  rw [List.forIn_toArray]
  refine wpAny_bind (ksk_fold (fun j s' => ∃ H', Inv X pins σ H' s' ∧ Un (frs X.stack) [] H1 H' g2 s'.heap ∧ Ex H H' ∧ H' kS = some (.lst (((bs.map (·.2)).take j).map V.str)) ∧ H' a = some (.frz (seqObj "list" #[] ep) (.lst []))) its 0 _ ⟨H1, I2, Un.refl, eH1, by rw [List.take_zero]; exact H1k, H1a⟩ ?step ?done)
  case step =>
    rintro j v s' hv ⟨H', I', U', e', hk', ha'⟩
    simp only [Nat.zero_add] at hk' ⊢
    have hj : j < its.length := (List.getElem?_eq_some_iff.mp hv).1
    have hjb : j < bs.length := by omega
    have hp : bs[j]? = some bs[j] := List.getElem?_eq_getElem hjb
    generalize bs[j] = p at hp
    have rp : RelV p.1 v := by
      obtain ⟨u, hu, ru⟩ := rv.get (i := j) (x := p.1) (by rw [List.getElem?_map, hp]; rfl)
      rw [hv] at hu
      cases hu
      exact ru
    have room2 : Room k X.A.in1.in1 := Room.in1 (Room.in1 hr)
    have e0 := I'.env0
    have e2 : Env0 X.prog X.w X.K X.mg X.base X.A.in1.in1 X.stack s' H' := ⟨e0.frames, e0.mod, e0.bs, e0.bsz, e0.funs, e0.frf, e0.hok, e0.bare⟩
    have KX : X.K.In s'.heap := I'.kIn
    have run := F.run X.A.in1.in1 X.stack s' H' ⟨[v], []⟩ [v] [p.1] (fun u H'' => u = .str p.2 ∧ Ex H' H'') (fun _ _ _ => False) room2 e2 (by
      have z := hb s' [v] KX rfl
      rw [List.append_nil] at z
      exact z) (.cons rp .nil) (hsp p (List.mem_of_getElem? hp) H' e' _ fun H'' e'' => ⟨rfl, e''⟩)
    have called : wpAny (model X.prog X.w) X.A.in1.in1 (call (.ref fA) [v]) (fun u s'' => CE X.stack X.prog X.w H' s' (fun u H'' => u = .str p.2 ∧ Ex H' H'') u s'') (fun _ _ => False) s' := wpAny_call (codeAny_mono run fun res s'' hq => by
      rcases res with e | (_ | _ | _ | u) <;> first
        | exact (show False from hq).elim
        | exact hq)
    refine wpAny_bind (wpAny_attempt (wpAny_mono called (fun u s'' hu => ?_) fun _ _ z => z.elim))
    obtain ⟨w, H'', os, bare, un, hok, ru, rfl, e''⟩ := hu
    obtain ⟨hh, gg, dd, tt, oo⟩ := s''
    obtain rfl : oo = s'.os := os
    have I3 := I'.call (h' := hh) (g' := gg) (d' := dd) (t' := tt) (ch := []) un hok bare (fun b z => absurd z (by simp))
    try dsimp only
    have hk3 := e'' _ _ hk'
    have ha3 := e'' _ _ ha'
    obtain ⟨lk, its3, n3, rv3, at3⟩ := hok kS _ hk3
    have len3 := rv3.length
    have len3' : its3.length ≤ its.length := by
      rw [List.length_map, List.length_take] at len3
      omega
    refine wpAny_bind (listUpdate_at at3 rfl ?_ (by rw [List.size_toArray]; omega) (by rw [Array.size_push, List.size_toArray]; omega))
    have sb := Heap.SameBut.update hh kS (Obj.mapSeq (·.push u))
    obtain ⟨c3, at4⟩ : ∃ c3, (hh.update kS (Obj.mapSeq (·.push u))).get? kS = some (seqObj "list" (its3.toArray.push u) c3) := ⟨_, get?_update_seq at3 (·.push u)⟩
    have tk : ((bs.map (·.2)).take (j + 1)).map V.str = ((bs.map (·.2)).take j).map V.str ++ [.str p.2] := by
      rw [List.take_add_one, List.getElem?_map, hp]
      simp
    have new : ObjOk X.prog X.w (upd H'' kS (.lst (((bs.map (·.2)).take (j + 1)).map V.str))) (hh.update kS (Obj.mapSeq (·.push u))) kS (.lst (((bs.map (·.2)).take (j + 1)).map V.str)) := by
      refine ⟨?_, its3 ++ [u], c3, ?_, by rw [at4]; simp [seqObj]⟩
      · rw [List.length_map, List.length_take]
        omega
      · rw [tk]
        exact rv3.snoc ru
    have muK : Mut (H'' kS) := by
      rw [hk3]
      exact True.intro
    have I4 := I3.write (h' := hh.update kS (Obj.mapSeq (·.push u))) (t' := tt) (x := kS) (e := kS) muK (.inl rfl) (fun b o hb e => (sb.2 b hb).trans e) ⟨_, at4⟩ new
    refine wpAny_pure ⟨rfl, _, I4, (U'.trans un).trans (Un.write muK (.inl rfl) (fun b o hb e => (sb.2 b hb).trans e) ⟨_, at4⟩), ?_, upd_same, ?_⟩
    · refine (e'.trans e'').mut ?_
      exact Evl.fresh_back ((Ex.new (o := .frz (seqObj "list" #[] ep) (.lst [])) Ha)) HkS
    · rw [upd_ne (Ne.symm hka)]
      exact ha3
  case done =>
    rintro s' ⟨H', I', U', e', hk', ha'⟩
    have hall : (bs.map (·.2)).take (0 + its.length) = bs.map (·.2) := List.take_of_length_le (by rw [List.length_map]; omega)
    rw [hall] at hk'
    obtain ⟨lk, kA, n3, rvk, atk⟩ := I'.hok kS _ hk'
    obtain ⟨ata, _⟩ := I'.hok a _ ha'
    have ek := each_reads (h := s'.heap) rvk
    have kd : (bs.map fun p : V × Str => PyData.str p.2) = (bs.map (·.2)).map PyData.str := by
      rw [List.map_map]
      rfl
    have hal : PySem.W.AllAlike ((bs.map (·.2)).map PyData.str) := fun d hd d' hd' => by
      obtain ⟨z, _, rfl⟩ := List.mem_map.mp hd
      obtain ⟨z', _, rfl⟩ := List.mem_map.mp hd'
      rfl
    have hsk : PySem.W.Sortable ((bs.map (·.2)).map PyData.str) := .inr fun d hd => by
      obtain ⟨z, _, rfl⟩ := List.mem_map.mp hd
      exact ⟨(fun q => by cases q), (fun xs q => by cases q)⟩
    have hu : ∀ d, d ∈ (bs.map (·.2)).map PyData.str → X.A.in1.in1.units + d.depth < cLine := fun d hd => by
      obtain ⟨z, _, rfl⟩ := List.mem_map.mp hd
      have := (Room.in1 (Room.in1 hr)).un
      show _ + 0 < _
      omega
    have lenk := rvk.length
    rw [List.length_map, List.length_map] at lenk
    refine wpAny_bind (listItems_at atk rfl ?_)
    have kp : KeepsBut a (PySem.W.hideAll s'.heap [kS]) s'.heap := fun b o _ e => PySem.W.of_hideAll [kS] e
    refine keyH_end (κ := PySem.W.dataKind s'.heap ((bs.map (·.2)).map PyData.str)) (h₁ := PySem.W.hideAll s'.heap [kS]) kp (PySem.W.hideAll_none [kS] (by simp)) atk ata hka
      (PySem.W.SortsAt.data (by simpa using ek) hal hsk hu) (by rw [List.size_toArray]; omega) hZ fun h3 tk3 c k3 n4 => ⟨rfl, ?_⟩
    generalize hout : PySem.W.sortVals (PySem.W.dataKind s'.heap ((bs.map (·.2)).map PyData.str)) false kA.toArray.toList its = out at n4
    have ko : PySem.W.KeyedOut false (bs.map fun p : V × Str => PyData.str p.2) its out := by
      rw [kd]
      exact ⟨s'.heap, kA.toArray.toList, hal, hout.symm, by simpa using ek⟩
    have eo := PySem.W.keyedOut_each (fun p : V × Str => PyData.str p.2) ko (each_vals rv)
    have vo := vals_each eo
    generalize hys : (bs.mergeSort (dataLe false fun p => PyData.str p.2)).map (·.1) = ys at vo q
    have lys : ys.length ≤ sizeLine := by
      rw [← hys, List.length_map, List.length_mergeSort]
      exact hz
    have keep3 : ∀ b o, b ≠ a → b ≠ kS → s'.heap.get? b = some o → h3.get? b = some o := fun b o n1 n2 e => k3 b o n1 (PySem.W.hideAll_get [kS] e (by simpa using n2))
    have oldb : ∀ b o, s.heap.get? b = some o → b ≠ a ∧ b ≠ kS := fun b o e => by
      have lt := Heap.lt_size e
      refine ⟨Nat.ne_of_lt (Nat.lt_of_lt_of_le lt lea), Nat.ne_of_lt (Nat.lt_of_lt_of_le lt ?_)⟩
      rw [← hkS, sz1]
      omega
    let Hf : Hp := fun b => if b = a then some (.lst ys) else if b = kS then none else H' b
    have Hfa : Hf a = some (.lst ys) := if_pos rfl
    have Hfo : ∀ b, b ≠ a → b ≠ kS → Hf b = H' b := fun b n1 n2 => (if_neg n1).trans (if_neg n2)
    have Hfk : Hf kS = none := (if_neg hka).trans (if_pos rfl)
    have told : ∀ b u, H b = some u → b ≠ a ∧ b ≠ kS := fun b u e => by
      constructor
      · intro z
        rw [z, Ha] at e
        cases e
      · intro z
        rw [z] at e
        have w := Ex.new (o := .frz (seqObj "list" #[] ep) (.lst [])) Ha kS u e
        rw [HkS] at w
        cases w
    have okf : HOk X.prog X.w Hf h3 := fun b u e => by
      by_cases n1 : b = a
      · rw [n1, Hfa] at e
        cases e
        rw [n1]
        exact ⟨lys, out, c, vo, n4⟩
      · by_cases n2 : b = kS
        · rw [n2, Hfk] at e
          cases e
        · rw [Hfo b n1 n2] at e
          refine (I'.hok b u e).stay (fun c' v hc z => ?_) (fun c' z => ?_) (fun c' zs z => ?_)
          · have nca : c' ≠ a := fun w => by
              rcases hc with y | y
              · exact n1 (y.symm.trans w)
              · rw [w, ha'] at y
                cases y
            have nck : c' ≠ kS := fun w => by
              rcases hc with y | y
              · exact n2 (y.symm.trans w)
              · rw [w, hk'] at y
                cases y
            exact keep3 c' v nca nck z
          · have nca : c' ≠ a := fun w => by
              rw [w, ha'] at z
              cases z
            have nck : c' ≠ kS := fun w => by
              rw [w, hk'] at z
              cases z
            rw [Hfo c' nca nck]
            exact z
          · have nca : c' ≠ a := fun w => by
              rw [w, ha'] at z
              cases z
            have nck : c' ≠ kS := fun w => by
              rw [w, hk'] at z
              cases z
            rw [Hfo c' nca nck]
            exact z
    have un : Un (frs X.stack) [] H Hf s.heap h3 := {
      keep := fun b o e n hf hx => by
        obtain ⟨n1, n2⟩ := oldb b o e
        exact keep3 b o n1 n2 (U'.keep b o (old2 b o e) ((H1o b n1 n2).trans n) hf hx)
      slot := fun b o e n hf hx => by
        obtain ⟨n1, n2⟩ := oldb b o e
        obtain ⟨sl, z⟩ := U'.slot b o (old2 b o e) ((H1o b n1 n2).trans n) hf hx
        exact ⟨sl, keep3 b _ n1 n2 z⟩
      free := fun b o e n hx => by
        obtain ⟨n1, n2⟩ := oldb b o e
        rw [Hfo b n1 n2]
        exact U'.free b o (old2 b o e) ((H1o b n1 n2).trans n) hx
      there := fun b o e hx => by
        obtain ⟨n1, n2⟩ := oldb b o e
        obtain ⟨o', z⟩ := U'.there b o (old2 b o e) hx
        exact ⟨o', keep3 b o' n1 n2 z⟩
      tups := fun b zs e => by
        obtain ⟨n1, n2⟩ := told b _ e
        rw [Hfo b n1 n2]
        exact U'.tups b zs ((H1o b n1 n2).trans e)
      frzs := fun b o u e => by
        obtain ⟨n1, n2⟩ := told b _ e
        rw [Hfo b n1 n2]
        exact U'.frzs b o u ((H1o b n1 n2).trans e)
      tbls := fun b ps e => by
        obtain ⟨n1, n2⟩ := told b _ e
        rw [Hfo b n1 n2]
        exact U'.tbls b ps ((H1o b n1 n2).trans e) }
    have eF : Ex H Hf := fun b u e => by
      obtain ⟨n1, n2⟩ := told b u e
      rw [Hfo b n1 n2]
      exact e' b u e
    have os : s'.os = s.os := I'.os.trans I.os.symm
    obtain ⟨hh, gg, dd, tt, oo⟩ := s'
    obtain rfl : oo = s.os := os
    have If := I.call (h' := h3) (g' := gg) (d' := dd) (t' := tk3) (ch := []) un okf I'.bare (fun b z => absurd z (by simp))
    exact ⟨.ref a, Hf, If, rfl, q a Hf Ha eF Hfa⟩
end Ts


set_option Elab.async false
set_option linter.all false
set_option maxRecDepth 100000
set_option maxHeartbeats 4000000
namespace Ts
open PySem PySem.Spec L2
open PySem.W (dataLe)
open Evl (Ex)
/-- rules as their lines ascend -/
def sortR (rs : List Rl) : List Rl := rs.mergeSort (dataLe false fun r => PyData.str r.line)
/-- the tuples at ts are these rules -/
def RulesAt (H : Hp) (qs : List (Addr × Rl)) : Prop := ∀ q ∈ qs, H q.1 = some (.tup q.2.vs)
/-- a book stands at p -/
def BookAt (C : Addr) (H : Hp) (p : Addr) (rs : List Rl) : Prop := ∃ (dx L : Addr) (qs : List (Addr × Rl)), H p = some (.ins C dx [("_rules", .ref L)]) ∧ H L = some (.lst (qs.map fun q => V.ref q.1)) ∧ RulesAt H qs ∧ qs.map (·.2) = rs
def rTup (K : PySem.W.Frag) : List V → Hp → VK → Prop := fun xs H Q => ∃ p ys, xs = [V.ref p] ∧ ((SqL K H p ys ∧ ∀ l, H l = none → Q (.ref l) (upd H l (.tup ys))) ∨ (SqT K H p ys ∧ Q (.ref p) H))
theorem ms_map {α β : Type} (f : α → β) (k : β → PyData) (l : List α) : (l.mergeSort (dataLe false fun a => k (f a))).map f = (l.map f).mergeSort (dataLe false k) := List.map_mergeSort fun a _ b _ => rfl
theorem row_rule {H : Hp} {v : V} {d : PyData} (h : D H v d) (hr : isRule d = true) : ∃ b, v = .ref b ∧ Row H b (rlOf d).vs := by
  obtain ⟨rr, rit, rok⟩ := rule_of hr
  obtain ⟨b, ys, rfl, brow, ball⟩ := h.row rr
  rw [rit] at ball
  have eys : ys = (rlOf d).vs := by
    obtain ⟨v1, v2, v3, v4, v5, rfl, h1, h2, h3, h4, h5⟩ := ball.five
    obtain rfl := h1.int_of
    obtain rfl := h4.int_of
    obtain rfl := h5.int_of
    unfold Rl.vs
    cases h3
    cases hh : (rlOf d).high with
    | none =>
      rw [hh] at h2
      cases h2
      rfl
    | some i =>
      rw [hh] at h2
      obtain rfl := h2.int_of
      rfl
  rw [eys] at brow
  exact ⟨b, rfl, brow⟩
theorem fault_rules : ∀ {ds : List PyData} {i : Nat} {seen : List Rl} {g s : Bool}, faultAt ds i seen g s = none → ∀ e ∈ ds, isRule e = true
  | [], _, _, _, _, _, e, he => by cases he
  | d :: ds, i, seen, g, s, h, e, he => by
    rw [faultAt_cons] at h
    by_cases c : isRule d = true
    · rw [if_pos c] at h
      rcases List.mem_cons.mp he with rfl | he
      · exact c
      · split at h
        · cases h
        · split at h
          · cases h
          · exact fault_rules h e he
    · rw [if_neg c] at h
      cases h
/-- [tuple(rule) for rule in rules] -/
theorem lc_tuples {K : PySem.W.Frag} {i j : Nat} {σ : L2.St} {H : Hp} {a : Addr} {xs : List V} {ds : List PyData} {Q : VK} (hσ : σ[i]? = some (some (.ref a))) (hr : Row H a xs) (hall : DAll H xs ds) (hru : ∀ e ∈ ds, isRule e = true) (hz : xs.length ≤ 1000)
    (hw : ∀ x, ((wipe σ [j]).set j (some x))[j]? = some (some x)) (hw2 : ∀ x, wipe ((wipe σ [j]).set j (some x)) [j] = wipe σ [j])
    (hq : ∀ Dd H' (qs : List (Addr × Rl)), H Dd = none → Ex H H' → H' Dd = some (.lst (qs.map fun q => V.ref q.1)) → RulesAt H' qs → qs.map (·.2) = ds.map rlOf → Q (.ref Dd) H') :
    tLc (iOr (iList K (tVar i)) (iTup K (tVar i))) (gName j) tYes (tCB (rTup K) (tCons (tVar j) tNil)) [j] σ H Q := by
  have core : ∀ {J : It} {G : Hp → Prop} {Y : Nat → Hp → V → Hp → Prop} (w : Walk J xs.length G Y), (∀ H', Ex H H' → G H') → (∀ k H1 x H2, Y k H1 x H2 → H2 = H1 ∧ xs[k]? = some x) → ∀ Dd, H Dd = none → ∃ W : Nat → Nat → Hp → Prop, (∃ m, W 0 m (upd H Dd (.lst []))) ∧ ∀ k m H1, W k m H1 →
      (J.stop k H1 ∧ Q (.ref Dd) H1) ∨ (J.go k H1 ∧ ∃ Nx : Hp → Prop, (∀ H', Nx H' → ∃ m', m' < m ∧ W (k + 1) m' H') ∧ ∀ x H', J.yld k H1 x H' → gName j x (wipe σ [j]) H' fun σ2 H2 => wipe σ2 [j] = wipe σ [j] ∧ tYes σ2 H2 fun b H3 =>
        if b = true then tCB (rTup K) (tCons (tVar j) tNil) σ2 H3 fun y H4 => ∃ acc, H4 Dd = some (.lst acc) ∧ acc.length < sizeLine ∧ Nx (upd H4 Dd (.lst (acc ++ [y]))) else Nx H3) := fun {J G Y} w hG hY Dd hD => by
    refine lc_it w (Pv := fun k H' => Ex H H' ∧ ∃ qs : List (Addr × Rl), qs.length = k ∧ H' Dd = some (.lst (qs.map fun q => V.ref q.1)) ∧ RulesAt H' qs ∧ qs.map (·.2) = (ds.map rlOf).take k)
      ⟨Ex.new hD, [], rfl, upd_same, (fun q hq => by cases hq), by rw [List.take_zero]; rfl⟩ (fun _ _ _ p => hG _ p.1) ?_ ?_
    · rintro k x H1 H2 hk ⟨e, qs, hl, hD1, hR, hm⟩ y
      obtain ⟨rfl, hx⟩ := hY k H1 x H2 y
      refine ⟨hw2 x, ?_⟩
      unfold tYes
      dsimp only
      rw [if_pos rfl]
      obtain ⟨dx, hdx, Dx⟩ := hall.get hx
      obtain ⟨b, rfl, brow⟩ := row_rule (Dx.ex e) (hru dx (List.mem_of_getElem? hdx))
      have fin : ∀ t H4, Ex H2 H4 → H4 t = some (.tup (rlOf dx).vs) → ∃ acc, H4 Dd = some (.lst acc) ∧ acc.length < sizeLine ∧ (fun H' => Ex H H' ∧ ∃ qs : List (Addr × Rl), qs.length = k + 1 ∧ H' Dd = some (.lst (qs.map fun q => V.ref q.1)) ∧ RulesAt H' qs ∧ qs.map (·.2) = (ds.map rlOf).take (k + 1)) (upd H4 Dd (.lst (acc ++ [V.ref t]))) := fun t H4 e4 ht => by
        have hD4 := e4 _ _ hD1
        have nD : ∀ c zs, H4 c = some (.tup zs) → c ≠ Dd := fun c zs hc z => by
          rw [z, hD4] at hc
          cases hc
        refine ⟨_, hD4, by rw [List.length_map, hl]; exact Nat.lt_of_lt_of_le hk (Nat.le_trans hz (by decide)), (e.trans e4).mut hD, qs ++ [(t, rlOf dx)], by rw [List.length_append, hl]; rfl, by rw [upd_same, List.map_append]; rfl, fun q hq => ?_, ?_⟩
        · rcases List.mem_append.mp hq with hq | hq
          · have z := e4 _ _ (hR q hq)
            rw [upd_ne (nD _ _ z)]
            exact z
          · rw [List.mem_singleton] at hq
            rw [hq, upd_ne (nD _ _ ht)]
            exact ht
        · rw [List.map_append, hm, List.take_add_one, List.getElem?_map, hdx]
          rfl
      refine ⟨_, hw _, ?_⟩
      rcases brow with h | h
      · exact ⟨b, _, rfl, .inl ⟨SqL.of h, fun l nl => fin l _ (Ex.new nl) upd_same⟩⟩
      · exact ⟨b, _, rfl, .inr ⟨SqT.of h, fin b _ (Ex.refl _) h⟩⟩
    · rintro H1 ⟨e, qs, hl, hD1, hR, hm⟩
      have hlen := hall.len
      rw [List.take_of_length_le (by rw [List.length_map]; omega)] at hm
      exact hq Dd H1 qs hD e hD1 hR hm
  rcases hr with h | h
  · exact .inl ⟨_, hσ, a, rfl, ⟨xs, SqL.of h⟩, core (walk_list (xs := xs)) (fun H' e => SqL.of (e _ _ h)) fun k H1 x H2 y => y⟩
  · exact .inr ⟨_, hσ, a, rfl, ⟨xs, SqT.of h⟩, core (walk_tup (xs := xs)) (fun H' e => SqT.of (e _ _ h)) fun k H1 x H2 y => y⟩
section
variable {P : Program} {w : World} {K : PySem.W.Frag} {mg : Str → Option Value} {base : Heap}
abbrev s_binit : Stmt := inClass (top 19) 0
theorem sc_binit : FnScope ["self", "rules", "index", "rule"] ["self", "rules"] (defScope s_binit) := ⟨rfl, rfl, rfl, by decide +kernel, rfl, by decide +kernel, by decide +kernel⟩
def spBook (C CR : Addr) : Sp := fun vs H Q E => ∃ (p dx : Addr) (v : V) (d : PyData), vs = [.ref p, v] ∧ H p = some (.ins C dx []) ∧ D (del H p) v d ∧ (items d).length ≤ 60 ∧ (∀ e ∈ items d, isRule e = true → (rlOf e).Sml) ∧
  (faultV d ≠ .non → ∀ H', Ex H H' → Raised H' "index" (faultV d) CR E) ∧
  (faultV d = .non → ∀ H', Ex (del H p) H' → BookAt C H' p (sortR ((items d).map rlOf)) → (∀ dx' L, H' p = some (.ins C dx' [("_rules", .ref L)]) → H L = none) → Q .non H')
theorem ok_binit {f f1 fl C CR gR : Addr} {fd fd1 fdl fR : FuncData} (F : Fun K "__init__" "Book.__init__" s_binit f fd) (cl : Cls K C) (nA : NoAttr K C "_rules") (F_fault : FD K mg "rules_fault" "rules_fault" s_fault f1 fd1) (G_fault : FnOk P w K mg base CX0 4 f1 fd1 ["thing"] spFault)
    (F_line : FD K mg "rule_line" "rule_line" s_line fl fdl) (XR : XC K mg "BadRules" "index" CR gR) (GR : FnOk P w K mg base CX0 1 gR fR ["self", "index"] (spIni CR "index")) (bR : Binds K fR ["self", "index"] []) (T : Bl mg) (hsorted : mg "sorted" = none) :
    FnOk P w K mg base (L2.CX P w) 5 f fd ["self", "rules"] (spBook C CR) := by
  have G_line : FnOk P w K mg base CX0 1 fl fdl ["rule"] spLine := ok_line F_line
  have b_line : Binds K fdl ["rule"] [] := F_line.F.binds fun _ _ _ _ _ _ us hl => match us, hl with | [_], _ => rfl
  have b_fault : Binds K fd1 ["thing"] [] := F_fault.F.binds fun _ _ _ _ _ _ us hl => match us, hl with | [_], _ => rfl
  refine F.okX sc_binit (fun vs H Q E h => ?_) (fun cdv A outer s H vs Q E hr h => ?_)
  · obtain ⟨p, dx, v, d, rfl, _⟩ := h
    rfl
  · obtain ⟨p, dx, v, d, rfl, hp, hd, hz, hsm, k1, k2⟩ := h
    have nd := sc_binit.nd
    have hr4 : Room 4 _ := hr
    have hr3 : Room (1 + 2) _ := hr.mono (by decide)
    have hr2 : Room 2 _ := hr.mono (by decide)
    have eD : Ex (del H p) H := fun b o e => by
      unfold del at e
      split at e
      · cases e
      · exact e
    refine ⟨_, (pss_cons (ps_set (i := 2) nd rfl (Or.inl rfl) (pe_call G_fault hr4 (by rfl) F_fault.g F_fault.F.kp b_fault .nil pass0 (pa_cons (pv 1) pa_nil)))
      (pss_cons (ps_if (pt_cmpR op_notN (pv 2) pe_non (nomark _)) (pss_one (ps_raise1 rfl (takes_of rfl rfl rfl rfl) XR GR bR hr2 (by rfl) (pv 2))) pss_nil)
      (pss_one (ps_fld (pv 0) (pe_callBK (cr_sortedBy G_line hr3 b_line) (by rfl) hsorted (by decide +kernel) (pa_cons (pe_lc (own := [("rule", 3)]) (g := gName 3) (tt := tYes) rfl nd (pi_or (pi_list (pv 1)) (pi_tup (pv 1))) (blkOk_by (N := ["self", "rules", "index", "rule"]) (sc := defScope s_binit) (by decide +kernel)) (fun _ _ _ _ _ => pg_name (i := 3) nd rfl (Or.inl rfl)) (fun _ _ _ _ _ => pts_nil) (fun _ _ _ _ _ => pe_callTy (r := rTup K) call_tuple_of (by rfl) T.tuple PyProof.Rows.boot_tuple (pa_cons (pv 3) pa_nil))) pa_nil) (pk_cons (pe_glob (v := .ref fl) rfl F_line.g rfl) pk_nil)) rfl)))), ?_⟩
    refine ⟨_, rfl, v, d, rfl, hd.ex eD, by omega, fun H1 e1 => ?_⟩
    refine ⟨_, rfl, rfl, _, rfl, ?_⟩
    by_cases hf : faultV d = .non
    · refine ite_ff (by rw [decide_eq_true hf]; rfl) ?_
      have hrw : isRow d = true := by
        unfold faultV at hf
        by_cases c : isRow d = true
        · exact c
        · rw [if_neg c] at hf
          cases hf
      have hfa : faultAt (items d) 0 [] false false = none := by
        unfold faultV at hf
        rw [if_pos hrw] at hf
        cases c : faultAt (items d) 0 [] false false with
        | none => rfl
        | some i =>
          rw [c] at hf
          cases hf
      have hru := fault_rules hfa
      obtain ⟨a, xs, rfl, hrow, hall⟩ := hd.row hrw
      have e1D : Ex (del H p) H1 := eD.trans e1
      have hlen := hall.len
      unfold tNext sFld tCKw tCons tNil
      dsimp only
      refine lc_tuples (i := 1) (j := 3) (σ := [some (.ref p), some (.ref a), some (faultV d), none]) rfl (hrow.ex e1D) (hall.ex e1D) hru (by omega) (fun _ => rfl) (fun _ => rfl) (fun Dd H2 qs nD e2 hD hR hm => ?_)
      have smq : ∀ q ∈ qs, q.2.Sml := fun q hq => by
        have m : q.2 ∈ (items d).map rlOf := by
          rw [← hm]
          exact List.mem_map.mpr ⟨q, hq, rfl⟩
        obtain ⟨e, he, z⟩ := List.mem_map.mp m
        rw [← z]
        exact hsm e he (hru e he)
      refine ⟨Dd, qs.map fun q => (V.ref q.1, q.2.line), rfl, rfl, SqL.of (by rw [hD, List.map_map]; rfl), fun p' hp' H' e' Q' kk => ?_, fun L H3 nL e3 hL => ?_⟩
      · obtain ⟨q, hq, rfl⟩ := List.mem_map.mp hp'
        exact ⟨q.1, q.2, rfl, .inr (e' _ _ (hR q hq)), smq q hq, fun H'' e'' => kk H'' e''⟩
      have hp3 : H3 p = some (.ins C dx []) := e3 _ _ (e2 _ _ (e1 _ _ hp))
      have nLp : L ≠ p := fun z => by
        rw [z, e2 _ _ (e1 _ _ hp)] at nL
        cases nL
      refine ⟨_, rfl, p, C, dx, [], rfl, hp3, cl, nA, (by show 0 < 1000; decide), ?_⟩
      refine k2 hf (upd H3 p (.ins C dx (putF "_rules" (.ref L) []))) (fun b o e => ?_) ⟨dx, L, qs.mergeSort (dataLe false fun q => PyData.str q.2.line), by rw [upd_same]; rfl, ?_, fun q hq => ?_, ?_⟩ ?_
      · have nb : b ≠ p := fun z => by
          rw [z, del_same] at e
          cases e
        rw [upd_ne nb]
        rw [del_ne nb] at e
        exact e3 _ _ (e2 _ _ (e1 _ _ e))
      · rw [upd_ne nLp, hL]
        have z := ms_map (fun q : Addr × Rl => (V.ref q.1, q.2.line)) (fun p : V × Str => PyData.str p.2) qs
        rw [← z, List.map_map]
        rfl
      · have z := e3 _ _ (hR q ((List.mergeSort_perm _ _).mem_iff.mp hq))
        have nq : q.1 ≠ p := fun w => by
          rw [w, hp3] at z
          cases z
        rw [upd_ne nq]
        exact z
      · have z := ms_map (fun q : Addr × Rl => q.2) (fun r : Rl => PyData.str r.line) qs
        rw [z, hm]
        rfl
      · intro dx' L' z
        rw [upd_same] at z
        have z := congrArg (fun o => match o with
          | some (HO.ins _ _ [(_, V.ref b)]) => b
          | _ => L) z
        have z : L = L' := z
        rw [← z]
        exact Evl.fresh_back (e1.trans e2) nL
    · refine ite_tt (by rw [decide_eq_false hf]; rfl) ?_
      exact ⟨_, rfl, raise1 (k1 hf H1 e1)⟩
end
end Ts


set_option Elab.async false
set_option linter.all false
set_option maxRecDepth 100000
set_option maxHeartbeats 4000000
namespace Ts
open PySem PySem.Spec L2
open PySem.W (dataLe)
open Evl (Ex)
/-- the class of books -/
structure BkC (K : PySem.W.Frag) (mg : Str → Option Value) (C fI fR : Addr) : Prop where
  cl : Cls K C
  ha : PySem.W.findIn K (.ref C) "__class__" = some (some (.builtin "object.__class__"))
  hn : PySem.W.specialIn K (.builtin "object.__class__") "__get__" = some (some (.builtin "getset_descriptor.__get__"))
  htk : PySem.W.takesIn K (.builtin "object.__class__") = some true
  hm : PySem.W.mroIn K C (.type "object") = some true
  me : PySem.W.kitOne K (.ref C) (.ref C) = some true
  nA : NoAttr K C "_rules"
  gC : mg "Book" = some (.ref C)
  no : ∀ d : PyData, PySem.W.kitOne K (.type (tyD d)) (.ref C) = some false
  made : Mk K C fI
  mR : Meth K C "rules" fR
section
variable {P : Program} {w : World} {K : PySem.W.Frag} {mg : Str → Option Value} {base : Heap}
abbrev s_brules : Stmt := inClass (top 19) 1
abbrev s_need_book := top 21
theorem sc_brules : FnScope ["self"] ["self"] (defScope s_brules) := ⟨rfl, rfl, rfl, by decide +kernel, rfl, by decide +kernel, by decide +kernel⟩
theorem sc_need_book : FnScope ["thing"] ["thing"] (defScope s_need_book) := ⟨rfl, rfl, rfl, by decide +kernel, rfl, by decide +kernel, by decide +kernel⟩
def spBrules (C : Addr) : Sp := fun vs H Q _ => ∃ p rs, vs = [.ref p] ∧ BookAt C H p rs ∧ ∀ (L : Addr) H' (qs : List (Addr × Rl)), H L = none → Ex H H' → H' L = some (.lst (qs.map fun q => V.ref q.1)) → RulesAt H' qs → qs.map (·.2) = rs → Q (.ref L) H'
theorem ok_brules {f fI fR C : Addr} {fd : FuncData} (F : Fun K "rules" "Book.rules" s_brules f fd) (B : BkC K mg C fI fR) (T : Bl mg) : FnOk P w K mg base CX0 1 f fd ["self"] (spBrules C) := by
  refine F.ok sc_brules (fun vs H Q E h => ?_) (fun cdv A outer s H vs Q E hr h => ?_)
  · obtain ⟨p, rs, rfl, _⟩ := h
    rfl
  · obtain ⟨p, rs, rfl, ⟨dx, L, qs, hp, hL, hR, hm⟩, k⟩ := h
    refine ⟨_, pss_one (ps_ret (pe_callTy call_list_of (by rfl) T.list PyProof.Rows.boot_list (pa_cons (pe_fld (pv 0) rfl) pa_nil))), ?_⟩
    refine ⟨_, rfl, p, C, dx, _, _, rfl, hp, B.cl, B.nA, rfl, L, _, rfl, .inl (SqL.of hL), fun l nl => ?_⟩
    have e := Ex.new (o := .lst (qs.map fun q => V.ref q.1)) nl
    exact k l _ qs nl e upd_same (fun q hq => e _ _ (hR q hq)) hm
def spNeedB (C CB : Addr) : Sp := fun vs H Q E => ∃ v, vs = [v] ∧ ((∃ (a dx : Addr) (fs : List (Str × V)), v = .ref a ∧ H a = some (.ins C dx fs) ∧ ∀ H', Ex H H' → Q .non H') ∨ ∃ d, D H v d ∧ ∀ H', Ex H H' → Raised H' "thing" v CB E)
theorem ok_need_book {f fI fR C CB g : Addr} {fd fi : FuncData} (F : FD K mg "need_book" "need_book" s_need_book f fd) (B : BkC K mg C fI fR) (X : XC K mg "BadBook" "thing" CB g) (GI : FnOk P w K mg base CX0 1 g fi ["self", "thing"] (spIni CB "thing")) (bI : Binds K fi ["self", "thing"] []) (T : Bl mg) :
    FnOk P w K mg base (L2.CX P w) 3 f fd ["thing"] (spNeedB C CB) := by
  refine F.F.okX sc_need_book (fun vs H Q E h => ?_) (fun cdv A outer s H vs Q E hr h => ?_)
  · obtain ⟨v, rfl, _⟩ := h
    rfl
  · obtain ⟨v, rfl, h⟩ := h
    refine ⟨_, pss_one (ps_if (pt_not (pt_val (pe_callB call_isi (by rfl) T.isinstance (by decide +kernel) (pa_cons (pv 0) (pa_cons (pe_glob (v := .ref C) rfl B.gC rfl) pa_nil))))) (pss_one (ps_raise1 rfl (takes_of rfl rfl rfl rfl) X GI bI hr (by rfl) (pv 0))) pss_nil), ?_⟩
    rcases h with ⟨a, dx, fs, rfl, ha, k⟩ | ⟨d, hd, k⟩
    · exact ⟨_, rfl, _, _, _, _, _, rfl, .own C, .base (TyOf.ins ha B.cl B.ha B.hn B.htk B.hm), B.me, _, rfl, ite_ff rfl (k _ (Ex.refl _))⟩
    · exact ⟨_, rfl, _, _, _, _, _, rfl, .own C, hd.ty, B.no d, _, rfl, ite_tt rfl ⟨_, rfl, raise1 (k _ (Ex.refl _))⟩⟩
end
end Ts


set_option Elab.async false
set_option linter.all false
set_option maxRecDepth 100000
set_option maxHeartbeats 4000000
namespace Ts
open PySem PySem.Spec L2
open Evl (Ex)
/-! ## spans -/
def bottomOf (r : Rl) (n l : Int) : Int := match r.high with
  | none => l
  | some h => if n - h > l then n - h else l
/-- what a rule leaves of a heap together, from a least on -/
def spanOf (r : Rl) (n l : Int) : Option (Int × Int) := if n % r.mod = r.rest ∧ bottomOf r n l ≤ n - r.low then some (bottomOf r n l, n - r.low) else none
/-- it lets be taken so that x are left -/
def Leaves (r : Rl) (n x : Int) : Prop := n % r.mod = r.rest ∧ r.low ≤ n - x ∧ ∀ h, r.high = some h → n - x ≤ h
theorem span_iff {r : Rl} {n l x : Int} : (∃ p, spanOf r n l = some p ∧ p.1 ≤ x ∧ x ≤ p.2) ↔ (Leaves r n x ∧ l ≤ x) := by
  unfold spanOf Leaves
  constructor
  · rintro ⟨p, h, h1, h2⟩
    split at h
    · rename_i c
      cases h
      have h1 : bottomOf r n l ≤ x := h1
      have h2 : x ≤ n - r.low := h2
      unfold bottomOf at h1
      cases e : r.high with
      | none =>
        rw [e] at h1
        have h1 : l ≤ x := h1
        exact ⟨⟨c.1, by omega, fun h z => by cases z⟩, h1⟩
      | some i =>
        rw [e] at h1
        have h1 : (if n - i > l then n - i else l) ≤ x := h1
        split at h1
        · exact ⟨⟨c.1, by omega, fun h z => by cases z; omega⟩, by omega⟩
        · exact ⟨⟨c.1, by omega, fun h z => by cases z; omega⟩, by omega⟩
    · cases h
  · rintro ⟨⟨h1, h2, h3⟩, h4⟩
    have hb : bottomOf r n l ≤ x := by
      unfold bottomOf
      cases e : r.high with
      | none => exact h4
      | some i =>
        have := h3 i e
        show (if n - i > l then n - i else l) ≤ x
        split <;> omega
    exact ⟨_, if_pos ⟨h1, by omega⟩, hb, by omega⟩
section
variable {P : Program} {w : World} {K : PySem.W.Frag} {mg : Str → Option Value} {base : Heap}
abbrev s_span := top 23
theorem sc_span : FnScope ["rule", "heap", "least", "low", "high", "_", "rest", "modulus", "bottom"] ["rule", "heap", "least"] (defScope s_span) := ⟨rfl, rfl, rfl, by decide +kernel, rfl, by decide +kernel, by decide +kernel⟩
def spSpan : Sp := fun vs H Q _ => ∃ (a : Addr) (r : Rl) (n l : Int), vs = [.ref a, .int n, .int l] ∧ Row H a r.vs ∧ 0 < r.mod ∧ (spanOf r n l = none → Q .non H) ∧ ∀ p, spanOf r n l = some p → ∀ z, H z = none → Q (.ref z) (upd H z (.tup [.int p.1, .int p.2]))
theorem ok_span {f : Addr} {fd : FuncData} (F : FD K mg "span_left" "span_left" s_span f fd) (hmax : mg "max" = none) : FnOk P w K mg base CX0 1 f fd ["rule", "heap", "least"] spSpan := by
  refine F.F.ok sc_span (fun vs H Q E h => ?_) (fun cdv A outer s H vs Q E hr h => ?_)
  · obtain ⟨a, r, n, l, rfl, _⟩ := h
    rfl
  · obtain ⟨a, r, n, l, rfl, hrow, hm, k1, k2⟩ := h
    have nd := sc_span.nd
    have rest : ∃ t3, PSs (cxOf CX0 P w K mg base ["rule", "heap", "least", "low", "high", "_", "rest", "modulus", "bottom"] "span_left" (defScope s_span) f cdv A outer s H E).nox ((defBody s_span).drop 2) t3 ∧
        t3 { nx := fun _ H' => Q .non H', rt := Q } [some (.ref a), some (.int n), some (.int l), some (.int r.low), some (hiV r.high), some (.str r.left), some (.int r.rest), some (.int r.mod), some (.int (bottomOf r n l))] H := by
      refine ⟨_, (pss_cons (ps_if (PW.pt (pw_or (pt_cmpR op_ne (pe_op op_mod (pv 1) (pv 7)) (pv 6) (nomark _)) (pw_or1 (pt_cmpR op_gt (pv 8) (pe_op op_sub (pv 1) (pv 3)) (nomark _))))) (pss_one (ps_ret pe_non)) pss_nil)
      (pss_one (ps_ret (pe_tup (pa_cons (pv 8) (pa_cons (pe_op op_sub (pv 1) (pv 3)) pa_nil)))))), ?_⟩
      generalize hb : bottomOf r n l = b at k1 k2
      unfold spanOf at k1 k2
      rw [hb] at k1 k2
      refine ⟨_, rfl, _, rfl, _, _, rfl, rfl, hm, _, rfl, rfl, _, rfl, ?_⟩
      by_cases c1 : n % r.mod = r.rest
      · refine ite_ff (by show (!decide (V.int (n % r.mod) = V.int r.rest)) = false; rw [dec_z, decide_eq_true c1]; rfl) ?_
        refine ⟨_, rfl, _, rfl, _, rfl, _, _, rfl, rfl, _, _, rfl, rfl, _, rfl, ?_⟩
        by_cases c2 : b ≤ n - r.low
        · refine ite_ff (decide_eq_false (show ¬ n - r.low < b by omega)) ?_
          refine ⟨_, rfl, _, rfl, _, rfl, _, _, rfl, rfl, by show 2 ≤ sizeLine; decide, fun z nz => ?_⟩
          exact k2 (b, n - r.low) (if_pos ⟨c1, c2⟩) z nz
        · refine ite_tt (decide_eq_true (show n - r.low < b by omega)) ?_
          exact k1 (if_neg fun z => c2 z.2)
      · refine ite_tt (by show (!decide (V.int (n % r.mod) = V.int r.rest)) = true; rw [dec_z, decide_eq_false c1]; rfl) ?_
        exact k1 (if_neg fun z => c1 z.1)
    obtain ⟨t3, h3, fin⟩ := rest
    refine ⟨_, (pss_cons (ps_asg (pv 0) (pg_or (pg_tup rfl (pgs_cons (pg_name (i := 3) nd rfl (Or.inl rfl)) (pgs_cons (pg_name (i := 4) nd rfl (Or.inl rfl)) (pgs_cons (pg_name (i := 5) nd rfl (Or.inl rfl)) (pgs_cons (pg_name (i := 6) nd rfl (Or.inl rfl)) (pgs_cons (pg_name (i := 7) nd rfl (Or.inl rfl)) pgs_nil)))))) (pg_unl rfl (pgs_cons (pg_name (i := 3) nd rfl (Or.inl rfl)) (pgs_cons (pg_name (i := 4) nd rfl (Or.inl rfl)) (pgs_cons (pg_name (i := 5) nd rfl (Or.inl rfl)) (pgs_cons (pg_name (i := 6) nd rfl (Or.inl rfl)) (pgs_cons (pg_name (i := 7) nd rfl (Or.inl rfl)) pgs_nil))))))))
      (pss_cons (ps_set (i := 8) nd rfl (Or.inl rfl) (pe_ifExp (pt_cmpR op_isN (pv 4) pe_non (nomark _)) (pv 2) (pe_callB (call_max2 rfl) (by rfl) hmax (by decide +kernel) (pa_cons (pv 2) (pa_cons (pe_op op_sub (pv 1) (pv 4)) pa_nil)))))
      h3)), ?_⟩
    refine ⟨_, rfl, g_row hrow rfl ⟨_, _, rfl, _, _, rfl, _, _, rfl, _, _, rfl, _, _, rfl, rfl, ?_⟩⟩
    refine ⟨_, rfl, rfl, _, rfl, ?_⟩
    unfold bottomOf at fin
    cases e : r.high with
    | none =>
      rw [e] at fin
      exact ite_tt rfl ⟨_, rfl, fin⟩
    | some i =>
      rw [e] at fin
      exact ite_ff rfl ⟨_, rfl, _, rfl, _, rfl, _, _, rfl, rfl, _, _, rfl, fin⟩
end
end Ts


set_option Elab.async false
set_option linter.all false
set_option maxRecDepth 100000
set_option maxHeartbeats 4000000
namespace Ts
open PySem PySem.Spec L2
open Evl (Ex)
/-! ## spans apart and ascending -/
/-- x is in some of them -/
def InS (ss : List (Int × Int)) (x : Int) : Prop := ∃ s ∈ ss, s.1 ≤ x ∧ x ≤ s.2
structure Apart (ss : List (Int × Int)) : Prop where
  asc : ss.Pairwise fun a b => a.2 < b.1
  some : ∀ s ∈ ss, s.1 ≤ s.2
structure Mg (ps ss : List (Int × Int)) : Prop where
  ap : Apart ss
  has : ∀ x, InS ss x ↔ InS ps x
  low : ∀ s ∈ ss, ∃ p ∈ ps, p.1 = s.1
  len : ss.length ≤ ps.length
theorem Mg.nil : Mg [] [] := ⟨⟨.nil, (fun s hs => by cases hs)⟩, fun x => Iff.rfl, (fun s hs => by cases hs), Nat.le_refl _⟩
theorem InS.app {a b : List (Int × Int)} {x : Int} : InS (a ++ b) x ↔ InS a x ∨ InS b x := by
  unfold InS
  constructor
  · rintro ⟨s, hs, h⟩
    rcases List.mem_append.mp hs with hs | hs
    · exact .inl ⟨s, hs, h⟩
    · exact .inr ⟨s, hs, h⟩
  · rintro (⟨s, hs, h⟩ | ⟨s, hs, h⟩)
    · exact ⟨s, List.mem_append_left _ hs, h⟩
    · exact ⟨s, List.mem_append_right _ hs, h⟩
theorem InS.one {p : Int × Int} {x : Int} : InS [p] x ↔ p.1 ≤ x ∧ x ≤ p.2 := by
  constructor
  · rintro ⟨s, hs, h⟩
    rw [List.mem_singleton] at hs
    exact hs ▸ h
  · exact fun h => ⟨p, List.mem_singleton.mpr rfl, h⟩
theorem Mg.add {ps ss : List (Int × Int)} (m : Mg ps ss) {p : Int × Int} (hp : p.1 ≤ p.2) (h : ∀ s ∈ ss, s.2 < p.1) : Mg (ps ++ [p]) (ss ++ [p]) := by
  refine ⟨⟨List.pairwise_append.mpr ⟨m.ap.asc, List.pairwise_singleton _ _, fun a ha b hb => ?_⟩, fun s hs => ?_⟩, fun x => ?_, fun s hs => ?_, ?_⟩
  · rw [List.mem_singleton] at hb
    exact hb ▸ h a ha
  · rcases List.mem_append.mp hs with hs | hs
    · exact m.ap.some s hs
    · rw [List.mem_singleton] at hs
      exact hs ▸ hp
  · rw [InS.app, InS.app, m.has]
  · rcases List.mem_append.mp hs with hs | hs
    · obtain ⟨q, hq, e⟩ := m.low s hs
      exact ⟨q, List.mem_append_left _ hq, e⟩
    · rw [List.mem_singleton] at hs
      exact ⟨p, List.mem_append_right _ (List.mem_singleton.mpr rfl), by rw [hs]⟩
  · rw [List.length_append, List.length_append]
    have := m.len
    show ss.length + 1 ≤ ps.length + 1
    omega
theorem Mg.wide {ps ss : List (Int × Int)} {s p : Int × Int} (m : Mg ps (ss ++ [s])) (h1 : s.1 ≤ p.1) (h2 : p.1 ≤ s.2) {t : Int} (ht : t = if s.2 > p.2 then s.2 else p.2) : Mg (ps ++ [p]) (ss ++ [(s.1, t)]) := by
  have t1 : s.2 ≤ t := by rw [ht]; split <;> omega
  have t2 : p.2 ≤ t := by rw [ht]; split <;> omega
  have t3 : t = s.2 ∨ t = p.2 := by rw [ht]; split <;> simp
  obtain ⟨a1, a2, a3⟩ := List.pairwise_append.mp m.ap.asc
  have hs := m.ap.some s (List.mem_append_right _ (List.mem_singleton.mpr rfl))
  refine ⟨⟨List.pairwise_append.mpr ⟨a1, List.pairwise_singleton _ _, fun a ha b hb => ?_⟩, fun q hq => ?_⟩, fun x => ?_, fun q hq => ?_, ?_⟩
  · rw [List.mem_singleton] at hb
    subst hb
    exact a3 a ha s (List.mem_singleton.mpr rfl)
  · rcases List.mem_append.mp hq with hq | hq
    · exact m.ap.some q (List.mem_append_left _ hq)
    · rw [List.mem_singleton] at hq
      subst hq
      show s.1 ≤ t
      omega
  · have z := m.has x
    rw [InS.app, InS.one] at z
    rw [InS.app, InS.app, ← z, InS.one, InS.one]
    show InS ss x ∨ (s.1 ≤ x ∧ x ≤ t) ↔ _
    constructor
    · rintro (h | ⟨h3, h4⟩)
      · exact .inl (.inl h)
      · by_cases c : x ≤ s.2
        · exact .inl (.inr ⟨h3, c⟩)
        · exact .inr ⟨by omega, by omega⟩
    · rintro ((h | ⟨h3, h4⟩) | ⟨h3, h4⟩)
      · exact .inl h
      · exact .inr ⟨h3, by omega⟩
      · exact .inr ⟨by omega, by omega⟩
  · rcases List.mem_append.mp hq with hq | hq
    · obtain ⟨r, hr, e⟩ := m.low q (List.mem_append_left _ hq)
      exact ⟨r, List.mem_append_left _ hr, e⟩
    · rw [List.mem_singleton] at hq
      obtain ⟨r, hr, e⟩ := m.low s (List.mem_append_right _ (List.mem_singleton.mpr rfl))
      exact ⟨r, List.mem_append_left _ hr, by rw [hq]; exact e⟩
  · have := m.len
    rw [List.length_append] at this ⊢
    rw [List.length_append]
    simp only [List.length_singleton] at *
    omega
theorem ixN_last {n : Nat} : ixN (n + 1) (-1) = some n := by
  unfold ixN
  rw [if_neg (by omega), if_pos (by omega)]
  congr 1
  omega
theorem set_last {α : Type} {xs : List α} {a b : α} {n : Nat} (h : n = xs.length) : (xs ++ [a]).set n b = xs ++ [b] := by
  subst h
  simp
/-- pairs at their places -/
def PairsAt (H : Hp) (qs : List (Addr × (Int × Int))) : Prop := ∀ q ∈ qs, H q.1 = some (.tup [.int q.2.1, .int q.2.2])
theorem PairsAt.ex {H H' : Hp} {qs : List (Addr × (Int × Int))} (e : Ex H H') (h : PairsAt H qs) : PairsAt H' qs := fun q hq => e _ _ (h q hq)
theorem PairsAt.upd {H : Hp} {qs : List (Addr × (Int × Int))} (h : PairsAt H qs) {M : Addr} {l l' : List V} (hM : H M = some (.lst l)) : PairsAt (upd H M (.lst l')) qs := fun q hq => by
  have z := h q hq
  have ne : q.1 ≠ M := fun e => by
    rw [e, hM] at z
    cases z
  rw [upd_ne ne]
  exact z
/-- what a pair's place tells -/
def kOf (H : Hp) : V → Int × Int
  | .ref t => match H t with
    | some (.tup [.int i, .int j]) => (i, j)
    | _ => (0, 0)
  | _ => (0, 0)
theorem kOf_at {H : Hp} {t : Addr} {p : Int × Int} (h : H t = some (.tup [.int p.1, .int p.2])) : kOf H (.ref t) = p := by
  unfold kOf
  dsimp only
  rw [h]
/-- what the rules that leave so many heaps leave together -/
def SpansOf (rs : List Rl) (left : Str) (n l : Int) (ss : List (Int × Int)) : Prop := Apart ss ∧ ss.length ≤ rs.length ∧ ∀ x, InS ss x ↔ ∃ r ∈ rs, V.str r.left = V.str left ∧ Leaves r n x ∧ l ≤ x
/-- what the first comprehension has found by its turn i -/
abbrev Fnd (H : Hp) (D1 : Addr) (qs : List (Addr × Rl)) (left : Str) (n l : Int) (i : Nat) (H' : Hp) : Prop := Ex H H' ∧ ∃ vs, H' D1 = some (.lst vs) ∧ vs.length ≤ i ∧ (∀ v ∈ vs, v = .non ∨ ∃ t p, v = V.ref t ∧ H' t = some (.tup [.int (p : Int × Int).1, .int p.2]) ∧ ∃ q ∈ qs, V.str q.2.left = V.str left ∧ spanOf q.2 n l = some p) ∧ ∀ j q, j < i → qs[j]? = some q → V.str q.2.left = V.str left → ∀ p, spanOf q.2 n l = some p → ∃ t, V.ref t ∈ vs ∧ H' t = some (.tup [.int p.1, .int p.2])
theorem Fnd.turn {H H2 H4 : Hp} {D1 : Addr} {qs : List (Addr × Rl)} {left : Str} {n l : Int} {i : Nat} {vs : List V} {y : V} (e : Ex H H2) (hD1 : H D1 = none) (hd : H2 D1 = some (.lst vs)) (hl : vs.length ≤ i)
    (h1 : ∀ v ∈ vs, v = .non ∨ ∃ t p, v = V.ref t ∧ H2 t = some (.tup [.int (p : Int × Int).1, .int p.2]) ∧ ∃ q ∈ qs, V.str q.2.left = V.str left ∧ spanOf q.2 n l = some p)
    (h2 : ∀ j q, j < i → qs[j]? = some q → V.str q.2.left = V.str left → ∀ p, spanOf q.2 n l = some p → ∃ t, V.ref t ∈ vs ∧ H2 t = some (.tup [.int p.1, .int p.2]))
    (hy : y = .non ∨ ∃ t p, y = V.ref t ∧ H4 t = some (.tup [.int (p : Int × Int).1, .int p.2]) ∧ ∃ q ∈ qs, V.str q.2.left = V.str left ∧ spanOf q.2 n l = some p) (e4 : Ex H2 H4)
    (h3 : ∀ q, qs[i]? = some q → V.str q.2.left = V.str left → ∀ p, spanOf q.2 n l = some p → ∃ t, y = V.ref t ∧ H4 t = some (.tup [.int p.1, .int p.2])) : Fnd H D1 qs left n l (i + 1) (upd H4 D1 (.lst (vs ++ [y]))) := by
  have pa : ∀ t (p : Int × Int), H4 t = some (.tup [.int p.1, .int p.2]) → upd H4 D1 (.lst (vs ++ [y])) t = some (.tup [.int p.1, .int p.2]) := fun t p ht => by
    have ne : t ≠ D1 := fun z => by
      rw [z, e4 _ _ hd] at ht
      cases ht
    rw [upd_ne ne]
    exact ht
  refine ⟨(e.trans e4).mut hD1, vs ++ [y], upd_same, by rw [List.length_append]; exact Nat.succ_le_succ hl, fun v hv => ?_, fun j q hj hq hc p hp => ?_⟩
  · rcases List.mem_append.mp hv with hv | hv
    · rcases h1 v hv with h | ⟨t, p, h, ht, r⟩
      · exact .inl h
      · exact .inr ⟨t, p, h, pa t p (e4 _ _ ht), r⟩
    · rw [List.mem_singleton] at hv
      subst hv
      rcases hy with h | ⟨t, p, h, ht, r⟩
      · exact .inl h
      · exact .inr ⟨t, p, h, pa t p ht, r⟩
  · by_cases hji : j < i
    · obtain ⟨t, ht, h⟩ := h2 j q hji hq hc p hp
      exact ⟨t, List.mem_append_left _ ht, pa t p (e4 _ _ h)⟩
    · obtain rfl : j = i := by omega
      obtain ⟨t, rfl, h⟩ := h3 q hq hc p hp
      exact ⟨t, List.mem_append_right _ (List.mem_singleton.mpr rfl), pa t p h⟩
section
variable {P : Program} {w : World} {K : PySem.W.Frag} {mg : Str → Option Value} {base : Heap}
abbrev s_spans := top 24
theorem sc_spans : FnScope ["rules", "heap", "left", "least", "found", "merged", "bottom", "top", "rule", "span"] ["rules", "heap", "left", "least"] (defScope s_spans) := ⟨rfl, rfl, rfl, by decide +kernel, rfl, by decide +kernel, by decide +kernel⟩
def spSpans : Sp := fun vs H Q _ => ∃ (L : Addr) (qs : List (Addr × Rl)) (n l : Int) (left : Str), vs = [.ref L, .int n, .str left, .int l] ∧ H L = some (.lst (qs.map fun q => V.ref q.1)) ∧ RulesAt H qs ∧ qs.length ≤ 1000 ∧ (∀ q ∈ qs, 0 < q.2.mod) ∧
  ∀ (M : Addr) H' (ss : List (Addr × (Int × Int))), H M = none → Ex H H' → H' M = some (.lst (ss.map fun q => V.ref q.1)) → PairsAt H' ss → SpansOf (qs.map (·.2)) left n l (ss.map (·.2)) → Q (.ref M) H'
theorem ok_spans {f f1 : Addr} {fd fd1 : FuncData} (F : FD K mg "spans_left" "spans_left" s_spans f fd) (F_span : FD K mg "span_left" "span_left" s_span f1 fd1) (G_span : FnOk P w K mg base CX0 1 f1 fd1 ["rule", "heap", "least"] spSpan)
    (T : Bl mg) (hmax : mg "max" = none) (hsorted : mg "sorted" = none) : FnOk P w K mg base CX0 2 f fd ["rules", "heap", "left", "least"] spSpans := by
  have b_span : Binds K fd1 ["rule", "heap", "least"] [] := F_span.F.binds fun _ _ _ _ _ _ us hl => match us, hl with | [_, _, _], _ => rfl
  refine F.F.ok sc_spans (fun vs H Q E h => ?_) (fun cdv A outer s H vs Q E hr h => ?_)
  · obtain ⟨L, qs, n, l, left, rfl, _⟩ := h
    rfl
  · obtain ⟨L, qs, n, l, left, rfl, hL, hR, hz, hm, k⟩ := h
    have nd := sc_spans.nd
    have hr1 : Room 1 _ := hr.mono (by decide)
    refine ⟨_, (pss_cons (ps_setLc (i := 4) (own := [("rule", 8)]) (g := gName 8) rfl nd rfl rfl (sw_true rfl rfl rfl (by decide +kernel)) (pi_list (pv 0)) (blkOk_by (N := ["rules", "heap", "left", "least", "found", "merged", "bottom", "top", "rule", "span"]) (sc := defScope s_spans) (by decide +kernel)) (fun _ _ _ _ _ => pg_name (i := 8) nd rfl (Or.inl rfl)) (fun _ _ _ _ _ => (pts_one (pt_cmpR op_eq (pe_ix (r := rIx K) ix_seq (pv 8) pe_int (fun _ _ => rfl)) (pv 2) (nomark _)))) (fun _ _ _ _ _ => (pe_call G_span hr1 (by rfl) F_span.g F_span.F.kp b_span .nil pass0 (pa_cons (pv 8) (pa_cons (pv 1) (pa_cons (pv 3) pa_nil))))))
      (pss_cons (ps_set (i := 5) nd rfl (Or.inl rfl) (pe_lst pa_nil))
      (pss_cons (ps_for PassesOwn.never rfl (pi_list (pe_callB cr_sortedPO (by rfl) hsorted (by decide +kernel) (pa_cons (pe_lc (own := [("span", 9)]) (g := gName 9) rfl nd (pi_list (pv 4)) (blkOk_by (N := ["rules", "heap", "left", "least", "found", "merged", "bottom", "top", "rule", "span"]) (sc := defScope s_spans) (by decide +kernel)) (fun _ _ _ _ _ => pg_name (i := 9) nd rfl (Or.inl rfl)) (fun _ _ _ _ _ => (pts_one (pt_cmpR op_notN (pv 9) pe_non (nomark _)))) (fun _ _ _ _ _ => (pv 9))) pa_nil))) (pg_tup rfl (pgs_cons (pg_name (i := 6) nd rfl (Or.inl rfl)) (pgs_cons (pg_name (i := 7) nd rfl (Or.inl rfl)) pgs_nil))) (pss_one (ps_if (PW.pt (pw_and (pt_cmpR op_gt (pe_callB call_len_seq (by rfl) T.len PySem.boot_len (pa_cons (pv 5) pa_nil)) pe_int (nomark _)) (pw_and1 (pt_cmpR op_le (pv 6) (pe_ix ix_seq (pe_ix ix_seq (pv 5) (pe_un un_neg pe_int) (fun _ _ => rfl)) pe_int (fun _ _ => rfl)) (nomark _))))) (pss_one (ps_asg (pe_tup (pa_cons (pe_ix ix_seq (pe_ix ix_seq (pv 5) (pe_un un_neg pe_int) (fun _ _ => rfl)) pe_int (fun _ _ => rfl)) (pa_cons (pe_callB (call_max2 rfl) (by rfl) hmax (by decide +kernel) (pa_cons (pv 7) (pa_cons (pe_ix ix_seq (pe_ix ix_seq (pv 5) (pe_un un_neg pe_int) (fun _ _ => rfl)) pe_int (fun _ _ => rfl)) pa_nil))) pa_nil))) (pg_sub (pv 5) (pe_un un_neg pe_int) set_list))) (pss_one (ps_expr (pe_bm PySem.F.plainAttrs_list PySem.F.slot_list_append PySem.F.type_list_append mt_append (pv 5) (pa_cons (pe_tup (pa_cons (pv 6) (pa_cons (pv 7) pa_nil))) pa_nil)))))))
      (pss_one (ps_ret (pv 5)))))), ?_⟩
    refine ⟨_, rfl, L, rfl, ⟨_, SqL.of hL⟩, fun D1 hD1 => ?_⟩
    refine lc_it (walk_list (xs := qs.map fun q => V.ref q.1)) (Pv := Fnd H D1 qs left n l) ⟨Ex.new hD1, [], upd_same, Nat.le_refl _, (fun v hv => by cases hv), (fun j q hj => absurd hj (Nat.not_lt_zero _))⟩ (fun i H' _ p => SqL.of (p.1 _ _ hL)) ?_ ?_
    · rintro i x H1 H2 hi ⟨e, vs, hd, hl, h1, h2⟩ y
      obtain ⟨eH, hx⟩ := y
      subst eH
      rw [List.getElem?_map] at hx
      cases hq : qs[i]? with
      | none => rw [hq] at hx; cases hx
      | some q =>
        rw [hq] at hx
        cases hx
        have mq := List.mem_of_getElem? hq
        have hqt := e _ _ (hR q mq)
        refine ⟨rfl, ?_⟩
        refine ⟨_, rfl, ix_row (.inr hqt) (atI_nat (j := 2) rfl) ⟨_, rfl, rfl, _, rfl, ?_⟩⟩
        by_cases c : V.str q.2.left = V.str left
        · refine ite_tt (decide_eq_true c) ?_
          refine ⟨_, rfl, _, rfl, _, rfl, q.1, q.2, n, l, rfl, .inr hqt, hm q mq, fun hn => ?_, fun p hp z nz => ?_⟩
          · exact ⟨vs, hd, by have := hz; rw [List.length_map] at hi; exact Nat.lt_of_lt_of_le (show vs.length < 1001 by omega) (by decide), Fnd.turn e hD1 hd hl h1 h2 (.inl rfl) (Ex.refl _) fun q' hq' _ p hp => by
              rw [hq] at hq'
              cases hq'
              rw [hn] at hp
              cases hp⟩
          · have nz' : H2 z = none := nz
            have hd' : upd H2 z (.tup [.int p.1, .int p.2]) D1 = some (.lst vs) := Ex.new nz' _ _ hd
            exact ⟨vs, hd', by have := hz; rw [List.length_map] at hi; exact Nat.lt_of_lt_of_le (show vs.length < 1001 by omega) (by decide), Fnd.turn e hD1 hd hl h1 h2 (.inr ⟨z, p, rfl, upd_same, q, mq, c, hp⟩) (Ex.new nz') fun q' hq' _ p' hp' => by
              rw [hq] at hq'
              cases hq'
              rw [hp] at hp'
              cases hp'
              exact ⟨z, rfl, upd_same⟩⟩
        · refine ite_ff (decide_eq_false c) ?_
          refine ⟨e, vs, hd, by omega, h1, fun j q' hj hq' hc p hp => ?_⟩
          by_cases hji : j < i
          · exact h2 j q' hji hq' hc p hp
          · obtain rfl : j = i := by omega
            rw [hq] at hq'
            cases hq'
            exact absurd hc c
    · rintro H1 ⟨e1, vs, hd1, hl, h1, h2⟩
      refine ⟨Nat.zero_le _, fun M hM => ?_⟩
      have e2 : Ex H1 (upd H1 M (.lst [])) := Ex.new hM
      have dM : upd H1 M (.lst []) M = some (.lst []) := upd_same
      have MH : H M = none := Evl.fresh_back e1 hM
      generalize upd H1 M (.lst []) = H2 at e2 dM
      refine ⟨_, rfl, D1, rfl, ⟨_, SqL.of (e2 _ _ hd1)⟩, fun D2 hD2 => ?_⟩
      refine lc_it (walk_list (xs := vs)) (Pv := fun i H' => Ex H2 H' ∧ ∃ xs, H' D2 = some (.lst xs) ∧ xs.length ≤ i ∧ (∀ x ∈ xs, x ∈ vs ∧ x ≠ .non) ∧ ∀ j x, j < i → vs[j]? = some x → x ≠ .non → x ∈ xs) ⟨Ex.new hD2, [], upd_same, Nat.le_refl _, (fun v hv => by cases hv), (fun j q hj => absurd hj (Nat.not_lt_zero _))⟩ (fun i H' _ p => SqL.of (p.1 _ _ (e2 _ _ hd1))) ?_ ?_
      · rintro i x H3 H4 hi ⟨e, xs, hd, hl', g1, g2⟩ y
        obtain ⟨eH, hx⟩ := y
        subst eH
        refine ⟨rfl, ?_⟩
        refine ⟨_, rfl, rfl, _, rfl, ?_⟩
        by_cases c : x = .non
        · refine ite_ff (by rw [decide_eq_true c]; rfl) ?_
          refine ⟨e, xs, hd, by omega, g1, fun j z hj hz hne => ?_⟩
          by_cases hji : j < i
          · exact g2 j z hji hz hne
          · obtain rfl : j = i := by omega
            rw [hx] at hz
            cases hz
            exact absurd c hne
        · refine ite_tt (by rw [decide_eq_false c]; rfl) ?_
          refine ⟨_, rfl, xs, hd, by have := hz; rw [List.length_map] at hl; exact Nat.lt_of_lt_of_le (show xs.length < 1001 by omega) (by decide), e.mut hD2, xs ++ [x], upd_same, by rw [List.length_append]; exact Nat.succ_le_succ hl', fun z hz => ?_, fun j z hj hz hne => ?_⟩
          · rcases List.mem_append.mp hz with hz | hz
            · exact g1 z hz
            · rw [List.mem_singleton] at hz
              subst hz
              exact ⟨List.mem_of_getElem? hx, c⟩
          · by_cases hji : j < i
            · exact List.mem_append_left _ (g2 j z hji hz hne)
            · obtain rfl : j = i := by omega
              rw [hx] at hz
              cases hz
              exact List.mem_append_right _ (List.mem_singleton.mpr rfl)
      · rintro H3 ⟨e3, xs, hd2, hl2, g1, g2⟩
        have hxs : ∀ x ∈ xs, ∃ t, x = V.ref t ∧ H3 t = some (.tup [.int (kOf H3 x).1, .int (kOf H3 x).2]) ∧ ∃ q ∈ qs, V.str q.2.left = V.str left ∧ spanOf q.2 n l = some (kOf H3 x) := fun x hx => by
          obtain ⟨m, ne⟩ := g1 x hx
          rcases h1 x m with h | ⟨t, p, rfl, ht, r⟩
          · exact absurd h ne
          · have z := e3 _ _ (e2 _ _ ht)
            have zk := kOf_at z
            rw [zk]
            exact ⟨t, rfl, z, r⟩
        have hsp : ∀ q ∈ qs, V.str q.2.left = V.str left → ∀ p, spanOf q.2 n l = some p → ∃ x ∈ xs, kOf H3 x = p := fun q hq hc p hp => by
          obtain ⟨j, hj, hjq⟩ := List.getElem_of_mem hq
          obtain ⟨t, ht, h⟩ := h2 j q (by rw [List.length_map]; exact hj) (by rw [List.getElem?_eq_getElem hj, hjq]) hc p hp
          obtain ⟨i, hi, hix⟩ := List.getElem_of_mem ht
          exact ⟨_, g2 i _ hi (by rw [List.getElem?_eq_getElem hi, hix]) (fun z => by cases z), kOf_at (e3 _ _ (e2 _ _ h))⟩
        refine ⟨D2, xs, kOf H3, rfl, SqL.of hd2, (fun x hx => by
          obtain ⟨t, h, ht, _⟩ := hxs x hx
          exact ⟨t, h, ht⟩), fun ys SL hsrt hstb hSL => ?_⟩
        have hys : ∀ x ∈ ys, x ∈ xs := fun x hx => hstb.perm.mem_iff.mp hx
        have hyl : ys.length ≤ 1000 := by
          rw [hstb.perm.length_eq]
          rw [List.length_map] at hl
          omega
        have d3M := e3 _ _ dM
        have neM : SL ≠ M := fun z => by
          rw [z, d3M] at hSL
          cases hSL
        have e4 : Ex H3 (upd H3 SL (.lst ys)) := Ex.new hSL
        have dSL : upd H3 SL (.lst ys) SL = some (.lst ys) := upd_same
        have d4M := e4 _ _ d3M
        generalize upd H3 SL (.lst ys) = H4 at e4 dSL d4M
        have eH : Ex H (del H4 M) := fun b o hb => by
          have nb : b ≠ M := fun z => by
            rw [z, MH] at hb
            cases hb
          unfold del
          rw [if_neg nb]
          exact e4 _ _ (e3 _ _ (e2 _ _ (e1 _ _ hb)))
        have eP : ∀ t (p : Int × Int), H3 t = some (.tup [.int p.1, .int p.2]) → del H4 M t = some (.tup [.int p.1, .int p.2]) := fun t p ht => by
          have nb : t ≠ M := fun z => by
            rw [z, d3M] at ht
            cases ht
          unfold del
          rw [if_neg nb]
          exact e4 _ _ ht
        have nM : del H4 M M = none := by unfold del; rw [if_pos rfl]
        have dL4 : del H4 M SL = some (.lst ys) := by
          unfold del
          rw [if_neg neM]
          exact dSL
        have eB : Ex (del H4 M) H4 := fun b o e => by
          unfold del at e
          split at e
          · cases e
          · exact e
        refine ⟨SL, rfl, ⟨ys, SqL.of dSL⟩, for_list (K := K) (a := SL) (xs := ys) (fun i σ H' => ∃ (ss : List (Addr × (Int × Int))) (v6 v7 : Option V), σ = [some (.ref L), some (.int n), some (.str left), some (.int l), some (.ref D1), some (.ref M), v6, v7, none, none] ∧ H' M = some (.lst (ss.map fun q => V.ref q.1)) ∧ Ex (del H4 M) H' ∧ PairsAt H' ss ∧ Mg ((ys.take i).map (kOf H3)) (ss.map (·.2)))
          ⟨[], none, none, rfl, d4M, eB, (fun q hq => by cases hq), Mg.nil⟩ (fun i σ H' _ q => ?_) (fun i x σ H' hx q => ?_) (fun σ H' q => ?_)⟩
        · obtain ⟨ss, v6, v7, rfl, _, e, _, _⟩ := q
          exact SqL.of (e _ _ dL4)
        · obtain ⟨ss, v6, v7, rfl, hM', e, hP, mg⟩ := q
          have mx := List.mem_of_getElem? hx
          obtain ⟨t, rfl, ht, q0, hq0, hc0, hs0⟩ := hxs x (hys x mx)
          have ht' := e _ _ (eP _ _ ht)
          have hle : (kOf H3 (.ref t)).1 ≤ (kOf H3 (.ref t)).2 := by
            have hs := hs0
            unfold spanOf at hs
            split at hs
            · rename_i c
              rw [← Option.some.inj hs]
              exact c.2
            · cases hs
          have hlow : ∀ p ∈ (ys.take i).map (kOf H3), p.1 ≤ (kOf H3 (.ref t)).1 := fun p hp => by
            obtain ⟨y, hy, rfl⟩ := List.mem_map.mp hp
            obtain ⟨j, hj, hjy⟩ := List.getElem_of_mem hy
            have hji : j < i := by
              rw [List.length_take] at hj
              omega
            obtain ⟨hil, hix⟩ := List.getElem?_eq_some_iff.mp hx
            have z := List.pairwise_iff_getElem.mp hsrt j i (by omega) hil hji
            rw [hix] at z
            rw [List.getElem_take] at hjy
            rw [hjy] at z
            have := SrtO.lexB_no.mp z
            omega
          have htake : (ys.take (i + 1)).map (kOf H3) = (ys.take i).map (kOf H3) ++ [kOf H3 (.ref t)] := by
            rw [List.take_add_one, hx, List.map_append]
            rfl
          have hlen : ss.length ≤ 1000 := by
            have z := mg.len
            rw [List.length_map, List.length_map, List.length_take] at z
            omega
          refine ⟨t, _, rfl, SqT.of ht', rfl, _, _, rfl, _, _, rfl, rfl, ?_⟩
          generalize kOf H3 (.ref t) = p at *
          have app : (∀ s ∈ ss.map (·.2), s.2 < p.1) → ∀ z, H' z = none → (∃ (ss' : List (Addr × (Int × Int))) (v6 v7 : Option V), [some (V.ref L), some (.int n), some (.str left), some (.int l), some (.ref D1), some (.ref M), some (.int p.1), some (.int p.2), none, none] = [some (.ref L), some (.int n), some (.str left), some (.int l), some (.ref D1), some (.ref M), v6, v7, none, none] ∧ upd (upd H' z (.tup [.int p.1, .int p.2])) M (.lst (ss.map (fun q => V.ref q.1) ++ [.ref z])) M = some (.lst (ss'.map fun q => V.ref q.1)) ∧ Ex (del H4 M) (upd (upd H' z (.tup [.int p.1, .int p.2])) M (.lst (ss.map (fun q => V.ref q.1) ++ [.ref z]))) ∧ PairsAt (upd (upd H' z (.tup [.int p.1, .int p.2])) M (.lst (ss.map (fun q => V.ref q.1) ++ [.ref z]))) ss' ∧ Mg ((ys.take (i + 1)).map (kOf H3)) (ss'.map (·.2))) := fun hsep z nz => by
            have ez : Ex H' (upd H' z (.tup [.int p.1, .int p.2])) := Ex.new nz
            have dz : upd H' z (.tup [.int p.1, .int p.2]) z = some (.tup [.int p.1, .int p.2]) := upd_same
            refine ⟨ss ++ [(z, p)], _, _, rfl, by rw [upd_same, List.map_append]; rfl, (e.trans ez).mut nM, PairsAt.upd (fun q hq => ?_) (ez _ _ hM'), ?_⟩
            · rcases List.mem_append.mp hq with hq | hq
              · exact ez _ _ (hP q hq)
              · rw [List.mem_singleton] at hq
                subst hq
                exact dz
            · rw [htake, List.map_append]
              exact mg.add hle hsep
          rcases List.eq_nil_or_concat ss with rfl | ⟨s0, s, hs⟩
          · refine ⟨_, rfl, M, _, rfl, .inl (SqL.of hM'), _, _, rfl, rfl, _, rfl, ?_⟩
            refine ite_ff (decide_eq_false (show ¬ (0 : Int) < ((0 : Nat) : Int) by decide)) ?_
            refine ite_ff rfl ?_
            refine ⟨_, rfl, .inl ⟨rfl, _, SqL.of hM'⟩, _, rfl, _, rfl, by show 2 ≤ sizeLine; decide, fun z nz => ⟨M, _, _, rfl, rfl, Ex.new nz _ _ hM', by show 0 < sizeLine; decide, app (fun s hs => by cases hs) z nz⟩⟩
          · have hs : ss = s0 ++ [s] := by rw [hs, List.concat_eq_append]
            subst hs
            have hM2 : H' M = some (.lst (s0.map (fun q => V.ref q.1) ++ [V.ref s.1])) := by rw [hM', List.map_append]; rfl
            have hsT := hP s (List.mem_append_right _ (List.mem_singleton.mpr rfl))
            have hl0 : s0.length + 1 ≤ 1000 := by
              rw [List.length_append] at hlen
              exact hlen
            have mg2 : Mg ((ys.take i).map (kOf H3)) (s0.map (·.2) ++ [s.2]) := by
              have z := mg
              rw [List.map_append] at z
              exact z
            refine ⟨_, rfl, M, _, rfl, .inl (SqL.of hM'), _, _, rfl, rfl, _, rfl, ?_⟩
            refine ite_tt (decide_eq_true (by rw [List.length_map, List.length_append]; show (0 : Int) < ((s0.length + 1 : Nat) : Int); omega)) ?_
            refine ⟨_, rfl, _, rfl, _, rfl, ix_row (.inl hM2) (atI_last _ _) (ix_row (.inr hsT) (atI_nat (j := 1) rfl) ⟨_, _, rfl, rfl, _, rfl, ?_⟩)⟩
            by_cases c : p.1 ≤ s.2.2
            · refine ite_tt (decide_eq_true c) ?_
              refine ⟨_, rfl, _, rfl, ix_row (.inl hM2) (atI_last _ _) (ix_row (.inr hsT) (atI_nat (j := 0) rfl) ⟨_, rfl, _, rfl, _, rfl, ix_row (.inl hM2) (atI_last _ _) (ix_row (.inr hsT) (atI_nat (j := 1) rfl) ⟨_, _, rfl, by show 2 ≤ sizeLine; decide, fun z nz => ?_⟩)⟩)⟩
              have ez : Ex H' (upd H' z (.tup [.int s.2.1, .int (if s.2.2 > p.2 then s.2.2 else p.2)])) := Ex.new nz
              have dz : upd H' z (.tup [.int s.2.1, .int (if s.2.2 > p.2 then s.2.2 else p.2)]) z = some (.tup [.int s.2.1, .int (if s.2.2 > p.2 then s.2.2 else p.2)]) := upd_same
              refine ⟨_, rfl, _, rfl, M, _, _, s0.length, rfl, rfl, ez _ _ hM2, by rw [List.length_append, List.length_map]; exact ixN_last, ?_⟩
              refine ⟨s0 ++ [(z, (s.2.1, if s.2.2 > p.2 then s.2.2 else p.2))], _, _, rfl, by rw [upd_same, set_last (by rw [List.length_map]), List.map_append]; rfl, (e.trans ez).mut nM, PairsAt.upd (fun q hq => ?_) (ez _ _ hM2), ?_⟩
              · rcases List.mem_append.mp hq with hq | hq
                · exact ez _ _ (hP q (List.mem_append_left _ hq))
                · rw [List.mem_singleton] at hq
                  subst hq
                  exact dz
              · rw [htake, List.map_append]
                obtain ⟨q, hq, eq⟩ := mg2.low s.2 (List.mem_append_right _ (List.mem_singleton.mpr rfl))
                exact mg2.wide (by rw [← eq]; exact hlow q hq) c rfl
            · refine ite_ff (decide_eq_false c) ?_
              refine ⟨_, rfl, .inl ⟨rfl, _, SqL.of hM'⟩, _, rfl, _, rfl, by show 2 ≤ sizeLine; decide, fun z nz => ⟨M, _, _, rfl, rfl, Ex.new nz _ _ hM', by rw [List.length_map]; exact Nat.lt_of_le_of_lt hlen (by decide), app (fun s' hs' => ?_) z nz⟩⟩
              rw [List.map_append] at hs'
              rcases List.mem_append.mp hs' with hs' | hs'
              · have z1 := (List.pairwise_append.mp mg2.ap.asc).2.2 s' hs' s.2 (List.mem_singleton.mpr rfl)
                have z2 := mg2.ap.some s.2 (List.mem_append_right _ (List.mem_singleton.mpr rfl))
                omega
              · have hs' : s' = s.2 := List.mem_singleton.mp hs'
                rw [hs']
                omega
        · obtain ⟨ss, v6, v7, rfl, hM', e, hP, mg⟩ := q
          rw [List.take_length] at mg
          refine ⟨_, rfl, k M H' ss MH (eH.trans e) hM' hP ⟨mg.ap, ?_, fun x => ?_⟩⟩
          · have z := mg.len
            have z2 := hstb.perm.length_eq
            rw [List.length_map] at z hl ⊢
            rw [List.length_map] at z ⊢
            omega
          · rw [mg.has]
            constructor
            · rintro ⟨p, hp, h⟩
              obtain ⟨y, hy, rfl⟩ := List.mem_map.mp hp
              obtain ⟨t, rfl, ht, q, hq, hc, hs⟩ := hxs y (hys y hy)
              exact ⟨q.2, List.mem_map.mpr ⟨q, hq, rfl⟩, hc, span_iff.mp ⟨_, hs, h⟩⟩
            · rintro ⟨r, hr', hc, h⟩
              obtain ⟨q, hq, rfl⟩ := List.mem_map.mp hr'
              obtain ⟨p, hp, h⟩ := span_iff.mpr h
              obtain ⟨y, hy, rfl⟩ := hsp q hq hc p hp
              exact ⟨_, List.mem_map.mpr ⟨y, hstb.perm.mem_iff.mpr hy, rfl⟩, h⟩
end
end Ts


set_option Elab.async false
set_option linter.all false
set_option maxRecDepth 100000
set_option maxHeartbeats 4000000
namespace Ts
open PySem PySem.Spec L2
open Evl (Ex)
noncomputable instance inS_dec {ss : List (Int × Int)} {x : Int} : Decidable (InS ss x) := Classical.propDecidable _
/-- the turns of a walk, whatever a turn does -/
theorem it_gen {J : It} {n : Nat} {G : Hp → Prop} {Y : Nat → Hp → V → Hp → Prop} (w : Walk J n G Y) {H0 : Hp} {Qd : Hp → Prop} {T : (Hp → Prop) → V → Hp → Prop} (Pv : Nat → Hp → Prop) (h0 : Pv 0 H0) (hG : ∀ i H, i ≤ n → Pv i H → G H)
    (hs : ∀ i x H H', i < n → Pv i H → Y i H x H' → T (Pv (i + 1)) x H') (hd : ∀ H, Pv n H → Qd H) :
    ∃ W : Nat → Nat → Hp → Prop, (∃ m, W 0 m H0) ∧ ∀ i m H, W i m H → (J.stop i H ∧ Qd H) ∨ (J.go i H ∧ ∃ Nx : Hp → Prop, (∀ H', Nx H' → ∃ m', m' < m ∧ W (i + 1) m' H') ∧ ∀ x H', J.yld i H x H' → T Nx x H') := by
  refine ⟨fun i m H => m = n - i ∧ i ≤ n ∧ Pv i H, ⟨n, by simp, Nat.zero_le _, h0⟩, ?_⟩
  rintro i m H ⟨rfl, hi, p⟩
  have q := hG i H hi p
  by_cases hlt : i < n
  · exact .inr ⟨w.goes i H hlt q, Pv (i + 1), fun H' p' => ⟨n - (i + 1), by omega, rfl, hlt, p'⟩, fun x H' y => hs i x H H' hlt p (w.yields i H x H' hlt q y)⟩
  · have e : i = n := by omega
    subst e
    exact .inl ⟨w.stops H q, hd H p⟩
theorem yes_of {σ : L2.St} {H : Hp} {A B : Hp → Prop} (a : A H) : tYes σ H fun b H3 => if b = true then A H3 else B H3 := by
  unfold tYes
  dsimp only
  rw [if_pos rfl]
  exact a
theorem asc_len : ∀ {ns : List Int} {a b : Int}, ns.Pairwise (· < ·) → (∀ x ∈ ns, a ≤ x ∧ x ≤ b) → a ≤ b + 1 → (ns.length : Int) ≤ b - a + 1
  | [], a, b, _, _, h => by
    show ((0 : Nat) : Int) ≤ _
    omega
  | n :: ns, a, b, hp, hb, h => by
    obtain ⟨h1, h2⟩ := List.pairwise_cons.mp hp
    have hn := hb n List.mem_cons_self
    have z := asc_len (ns := ns) (a := n + 1) (b := b) h2 (fun x hx => ⟨h1 x hx, (hb x (List.mem_cons_of_mem _ hx)).2⟩) (by omega)
    rw [List.length_cons]
    omega
theorem no_key : ∀ kvs : List (Key × V), ∃ n : Nat, valV kvs (.inl (n : Int)) = none := fun kvs => by
  have z : ∃ B : Nat, ∀ kv ∈ kvs, ∀ i : Int, kv.1 = .inl i → i < (B : Nat) := by
    induction kvs with
    | nil => exact ⟨0, fun kv h => by cases h⟩
    | cons kv kvs ih =>
      obtain ⟨B, hB⟩ := ih
      obtain ⟨k, v⟩ := kv
      cases k with
      | inl i =>
        refine ⟨B + i.toNat + 1, fun kv' h j e => ?_⟩
        rcases List.mem_cons.mp h with rfl | h
        · cases e
          omega
        · have := hB kv' h j e
          omega
      | inr x =>
        refine ⟨B, fun kv' h j e => ?_⟩
        rcases List.mem_cons.mp h with rfl | h
        · cases e
        · exact hB kv' h j e
  obtain ⟨B, hB⟩ := z
  refine ⟨B, ?_⟩
  unfold valV
  rw [List.find?_eq_none.mpr fun kv h z => ?_]
  · rfl
  · have := hB kv h (B : Int) (of_decide_eq_true z)
    omega
theorem least_ex {p : Nat → Prop} (h : ∃ n, p n) : ∃ m, p m ∧ ∀ k, k < m → ¬ p k := by
  obtain ⟨n, hn⟩ := h
  induction n using Nat.strongRecOn with
  | ind n ih =>
    by_cases c : ∃ k, k < n ∧ p k
    · obtain ⟨k, hk, hp⟩ := c
      exact ih k hk hp
    · exact ⟨n, hn, fun k hk hp => c ⟨k, hk, hp⟩⟩
section
variable {P : Program} {w : World} {K : PySem.W.Frag} {mg : Str → Option Value} {base : Heap}
abbrev s_lnone := top 25
abbrev s_nums := top 26
theorem sc_lnone : FnScope ["rules", "heap", "spans"] ["rules", "heap"] (defScope s_lnone) := ⟨rfl, rfl, rfl, by decide +kernel, rfl, by decide +kernel, by decide +kernel⟩
theorem sc_nums : FnScope ["spans", "bottom", "top", "number"] ["spans"] (defScope s_nums) := ⟨rfl, rfl, rfl, by decide +kernel, rfl, by decide +kernel, by decide +kernel⟩
def spLnone : Sp := fun vs H Q _ => ∃ (L : Addr) (qs : List (Addr × Rl)) (n : Int), vs = [.ref L, .int n] ∧ H L = some (.lst (qs.map fun q => V.ref q.1)) ∧ RulesAt H qs ∧ qs.length ≤ 1000 ∧ (∀ q ∈ qs, 0 < q.2.mod) ∧
  ∀ (b : Bool) H', Ex H H' → (b = true ↔ ∃ r ∈ qs.map (·.2), V.str r.left = V.str "none" ∧ Leaves r n 0) → Q (.bl b) H'
theorem ok_lnone {f f1 : Addr} {fd fd1 : FuncData} (F : FD K mg "leaves_none" "leaves_none" s_lnone f fd) (F_spans : FD K mg "spans_left" "spans_left" s_spans f1 fd1) (G_spans : FnOk P w K mg base CX0 2 f1 fd1 ["rules", "heap", "left", "least"] spSpans)
    (T : Bl mg) : FnOk P w K mg base CX0 3 f fd ["rules", "heap"] spLnone := by
  have b_spans : Binds K fd1 ["rules", "heap", "left", "least"] [] := F_spans.F.binds fun _ _ _ _ _ _ us hl => match us, hl with | [_, _, _, _], _ => rfl
  refine F.F.ok sc_lnone (fun vs H Q E h => ?_) (fun cdv A outer s H vs Q E hr h => ?_)
  · obtain ⟨L, qs, n, rfl, _⟩ := h
    rfl
  · obtain ⟨L, qs, n, rfl, hL, hR, hz, hm, k⟩ := h
    have nd := sc_lnone.nd
    have hr2 : Room 2 _ := hr.mono (by decide)
    refine ⟨_, (pss_cons (ps_set (i := 2) nd rfl (Or.inl rfl) (pe_call G_spans hr2 (by rfl) F_spans.g F_spans.F.kp b_spans .nil pass0 (pa_cons (pv 0) (pa_cons (pv 1) (pa_cons pe_str (pa_cons pe_int pa_nil))))))
      (pss_one (ps_ret (pe_and (pe_cmpR op_gt (pe_callB call_len_seq (by rfl) T.len PySem.boot_len (pa_cons (pv 2) pa_nil)) pe_int (nomark _)) (pe_one (pe_cmpR op_eq (pe_ix ix_seq (pe_ix ix_seq (pv 2) pe_int (fun _ _ => rfl)) pe_int (fun _ _ => rfl)) pe_int (nomark _))))))), ?_⟩
    refine ⟨_, rfl, _, rfl, L, qs, n, 0, "none", rfl, hL, hR, hz, hm, fun M H' ss nM e hM hP sp => ?_⟩
    obtain ⟨ap, hl, hs⟩ := sp
    have k' := k (b := decide (InS (ss.map (·.2)) 0)) H' e (by
      rw [decide_eq_true_iff, hs]
      exact ⟨fun ⟨r, h1, h2, h3, h4⟩ => ⟨r, h1, h2, h3⟩, fun ⟨r, h1, h2, h3⟩ => ⟨r, h1, h2, h3, Int.le_refl _⟩⟩)
    have nonneg : ∀ s ∈ ss.map (·.2), 0 ≤ s.1 := fun s hs' => by
      obtain ⟨r, _, _, _, h⟩ := (hs s.1).mp ⟨s, hs', Int.le_refl _, ap.some s hs'⟩
      exact h
    refine ⟨_, rfl, M, _, rfl, .inl (SqL.of hM), _, _, rfl, rfl, _, rfl, ?_⟩
    cases ss with
    | nil =>
      refine ite_ff (decide_eq_false (show ¬ (0 : Int) < ((0 : Nat) : Int) by decide)) ?_
      rw [decide_eq_false (show ¬ InS (([] : List (Addr × (Int × Int))).map (·.2)) 0 from fun ⟨s, hs, _⟩ => by cases hs)] at k'
      exact k'
    | cons s0 ss =>
      refine ite_tt (decide_eq_true (by rw [List.length_map, List.length_cons]; show (0 : Int) < ((ss.length + 1 : Nat) : Int); omega)) ?_
      have e0 : decide (V.int s0.2.1 = V.int 0) = decide (InS ((s0 :: ss).map (·.2)) 0) := by
        have n0 := nonneg s0.2 List.mem_cons_self
        rw [dec_z]
        have n1 : s0.2.1 ≤ s0.2.2 := ap.some s0.2 List.mem_cons_self
        have n0 : 0 ≤ s0.2.1 := n0
        refine decide_eq_decide.mpr ⟨fun h => ⟨s0.2, List.mem_cons_self, by show s0.2.1 ≤ 0; omega, ?_⟩, fun ⟨s, hs', h1, h2⟩ => ?_⟩
        · show 0 ≤ s0.2.2
          omega
        · rcases List.mem_cons.mp hs' with rfl | hs''
          · have h1 : s0.2.1 ≤ 0 := h1
            omega
          · have z1 := (List.pairwise_cons.mp ap.asc).1 s hs''
            have z2 := ap.some s0.2 List.mem_cons_self
            have : s0.2.2 < s.1 := z1
            omega
      refine ⟨_, rfl, ix_row (.inl hM) (atI_nat (j := 0) rfl) (ix_row (.inr (hP s0 List.mem_cons_self)) (atI_nat (j := 0) rfl) ⟨rfl, ?_⟩)⟩
      rw [e0]
      exact k'
def spNums : Sp := fun vs H Q _ => ∃ (M : Addr) (ss : List (Addr × (Int × Int))) (N : Int), vs = [.ref M] ∧ H M = some (.lst (ss.map fun q => V.ref q.1)) ∧ PairsAt H ss ∧ Apart (ss.map (·.2)) ∧ ss.length ≤ 1000 ∧ (∀ x, InS (ss.map (·.2)) x → 0 ≤ x ∧ x ≤ N) ∧ 0 ≤ N ∧ N ≤ 100000 ∧
  ∀ (D : Addr) H' (ns : List Int), H D = none → Ex H H' → H' D = some (.lst (ns.map V.int)) → ns.Pairwise (· < ·) → (∀ x, x ∈ ns ↔ InS (ss.map (·.2)) x) → Q (.ref D) H'
theorem ok_nums {f : Addr} {fd : FuncData} (F : FD K mg "numbers_in" "numbers_in" s_nums f fd) (T : Bl mg) : FnOk P w K mg base CX0 1 f fd ["spans"] spNums := by
  refine F.F.ok sc_nums (fun vs H Q E h => ?_) (fun cdv A outer s H vs Q E hr h => ?_)
  · obtain ⟨M, ss, N, rfl, _⟩ := h
    rfl
  · obtain ⟨M, ss, N, rfl, hM, hP, ap, hz, hb, hN0, hN, k⟩ := h
    have nd := sc_nums.nd
    refine ⟨_, (pss_one (ps_ret (pe_lc2 (own := [("bottom", 1), ("top", 2), ("number", 3)]) (vs1 := [3]) (g := gTup K 2 (gCons (gName 1) (gCons (gName 2) gNil))) (g1 := gName 3) (tt := tYes) (tt1 := tYes) rfl nd (pi_list (pv 0)) (blkOk_by (N := ["spans", "bottom", "top", "number"]) (sc := defScope s_nums) (by decide +kernel)) (by decide) (fun _ _ _ _ _ => pg_tup rfl (pgs_cons (pg_name (i := 1) nd rfl (Or.inl rfl)) (pgs_cons (pg_name (i := 2) nd rfl (Or.inl rfl)) pgs_nil))) (fun _ _ _ _ _ => pts_nil) (fun _ _ _ _ _ => pi_range2 (by rfl) T.range (pa_cons (pv 1) (pa_cons (pe_op op_add (pv 2) pe_int) pa_nil))) (fun _ _ _ _ _ => pg_name (i := 3) nd rfl (Or.inl rfl)) (fun _ _ _ _ _ => pts_nil) (fun _ _ _ _ _ => pv 3)))), ?_⟩
    refine ⟨_, rfl, M, rfl, ⟨_, SqL.of hM⟩, fun D hD => ?_⟩
    refine it_gen (walk_list (xs := ss.map fun q => V.ref q.1)) (fun i H' => Ex H H' ∧ ∃ ns : List Int, H' D = some (.lst (ns.map V.int)) ∧ ns.Pairwise (· < ·) ∧ ∀ x, x ∈ ns ↔ InS ((ss.take i).map (·.2)) x) ⟨Ex.new hD, [], upd_same, .nil, fun x => ⟨(fun z => by cases z), (fun ⟨s, hs, _⟩ => by cases hs)⟩⟩ (fun i H' _ p => SqL.of (p.1 _ _ hM)) (fun i x H1 H2 hi p y => ?_) (fun H' p => ?_)
    · obtain ⟨e, ns, hd, hpw, hns⟩ := p
      obtain ⟨eH, hx⟩ := y
      subst eH
      rw [List.getElem?_map] at hx
      cases hq : ss[i]? with
      | none => rw [hq] at hx; cases hx
      | some q =>
        rw [hq] at hx
        cases hx
        have mq := List.mem_of_getElem? hq
        have hqt := e _ _ (hP q mq)
        have mq2 : q.2 ∈ ss.map (·.2) := List.mem_map.mpr ⟨q, mq, rfl⟩
        have q12 := ap.some q.2 mq2
        have b1 := hb q.2.1 ⟨q.2, mq2, Int.le_refl _, q12⟩
        have b2 := hb q.2.2 ⟨q.2, mq2, q12, Int.le_refl _⟩
        have htake : (ss.take (i + 1)).map (·.2) = (ss.take i).map (·.2) ++ [q.2] := by
          rw [List.take_add_one, hq, List.map_append]
          rfl
        have hsep : ∀ x, InS ((ss.take i).map (·.2)) x → x < q.2.1 := fun x ⟨s, hs, _, h⟩ => by
          have z := ap.asc
          rw [← List.take_append_drop i ss, List.map_append] at z
          have hqd : q ∈ ss.drop i := List.mem_of_getElem? (i := 0) (by rw [List.getElem?_drop]; exact hq)
          have := (List.pairwise_append.mp z).2.2 s hs q.2 (List.mem_map.mpr ⟨q, hqd, rfl⟩)
          omega
        have hins : ∀ x, InS ((ss.take i).map (·.2)) x ∨ (q.2.1 ≤ x ∧ x ≤ q.2.2) → InS (ss.map (·.2)) x := fun x h => by
          rcases h with ⟨s, hs, h⟩ | h
          · obtain ⟨q', hq', rfl⟩ := List.mem_map.mp hs
            exact ⟨_, List.mem_map.mpr ⟨q', List.mem_of_mem_take hq', rfl⟩, h⟩
          · exact ⟨q.2, mq2, h⟩
        refine ⟨q.1, _, rfl, SqT.of hqt, rfl, _, _, rfl, _, _, rfl, rfl, rfl, ?_⟩
        refine yes_of ?_
        refine ⟨_, rfl, _, rfl, _, _, rfl, rfl, _, _, rfl, ⟨by omega, by omega, by omega, by omega⟩, ?_⟩
        refine it_gen (walk_range (lo := q.2.1) (n := (q.2.2 + 1 - q.2.1).toNat)) (fun j H' => Ex H H' ∧ ∃ ns : List Int, H' D = some (.lst (ns.map V.int)) ∧ ns.Pairwise (· < ·) ∧ ∀ x, x ∈ ns ↔ InS ((ss.take i).map (·.2)) x ∨ (q.2.1 ≤ x ∧ x < q.2.1 + (j : Nat))) ⟨e, ns, hd, hpw, fun x => ⟨fun h => .inl ((hns x).mp h), fun h => h.elim (hns x).mpr fun h => by omega⟩⟩ (fun _ _ _ _ => trivial) (fun j x H3 H4 hj p y => ?_) (fun H' p => ?_)
        · obtain ⟨e, ns, hd, hpw, hns⟩ := p
          obtain ⟨eH, rfl⟩ := y
          subst eH
          have hle : (ns.length : Int) ≤ N - 0 + 1 := asc_len hpw (fun x hx => hb x (hins x (((hns x).mp hx).imp id fun h => ⟨h.1, by omega⟩))) (by omega)
          refine ⟨rfl, yes_of ⟨_, rfl, _, hd, by rw [List.length_map]; exact Nat.lt_of_le_of_lt (show ns.length ≤ 100001 by omega) (by decide), e.mut hD, ns ++ [q.2.1 + (j : Nat)], by rw [upd_same, List.map_append]; rfl, ?_, fun x => ?_⟩⟩
          · refine List.pairwise_append.mpr ⟨hpw, List.pairwise_singleton _ _, fun a ha b hb => ?_⟩
            rw [List.mem_singleton] at hb
            subst hb
            rcases (hns a).mp ha with h | h
            · have := hsep a h
              omega
            · omega
          · rw [List.mem_append, List.mem_singleton, hns x]
            constructor
            · rintro ((h | h) | h)
              · exact .inl h
              · exact .inr (by omega)
              · exact .inr (by omega)
            · rintro (h | h)
              · exact .inl (.inl h)
              · by_cases c : x = q.2.1 + (j : Nat)
                · exact .inr c
                · exact .inl (.inr (by omega))
        · obtain ⟨e, ns, hd, hpw, hns⟩ := p
          refine ⟨e, ns, hd, hpw, fun x => ?_⟩
          rw [hns x, htake, InS.app, InS.one]
          exact ⟨(fun h => h.imp id fun h => by omega), (fun h => h.imp id fun h => by omega)⟩
    · obtain ⟨e, ns, hd, hpw, hns⟩ := p
      rw [List.length_map, List.take_length] at hns
      exact k D H' ns hD e hd hpw hns
end
end Ts


set_option Elab.async false
set_option linter.all false
set_option maxRecDepth 100000
set_option maxHeartbeats 4000000
namespace Ts
open PySem PySem.Spec L2
variable {X : Cx}
/-- a local gets a dict told on one line -/
theorem ps_setDc {i : Nat} {y : Str} {py : Pos} {kx vx tg iter : Expr} {ifs : List Expr} {scope : Scope} {own : List (Str × Nat)} {pos spos : Pos} {wi : TI} {g : TG} {tt : TT} {tk tv : TE} (hc : X.calm = true) (hN : X.N.Nodup) (hy : X.N[i]? = some y) (hyl : X.env.scope.names.lookup y = some .local)
    (hsw : swapsWith (.DictComp kx vx [⟨tg, iter, ifs, 0⟩] scope pos) (some (.Name y py)) spos.line X.env = pure true) (hi : PI X tg iter wi) (ok : BlkOk X.N X.env.scope scope own)
    (hg : ∀ (s : Shared) (H : Hp) (C : Addr) (cl : List (Str × Addr)) (fp : List Addr), PG (X.blk s H scope (compEnvC scope cl C X.env) fp) tg g) (ht : ∀ (s : Shared) (H : Hp) (C : Addr) (cl : List (Str × Addr)) (fp : List Addr), PTs (X.blk s H scope (compEnvC scope cl C X.env) fp) ifs tt)
    (hk : ∀ (s : Shared) (H : Hp) (C : Addr) (cl : List (Str × Addr)) (fp : List Addr), PE (X.blk s H scope (compEnvC scope cl C X.env) fp) kx tk)
    (he : ∀ (s : Shared) (H : Hp) (C : Addr) (cl : List (Str × Addr)) (fp : List Addr), PE (X.blk s H scope (compEnvC scope cl C X.env) fp) vx tv) (hs : ∀ x, foldedSetIterable iter X.env x = pure x := by intro _; rfl) :
    PS X (.Assign [.Name y py] (.DictComp kx vx [⟨tg, iter, ifs, 0⟩] scope pos) spos) (tAsg (tDc wi g tt tk tv (own.map (·.2))) (gName i)) := by
  refine ⟨fun pins s σ H D I h => ?_⟩
  rw [exec_Assign_Name_used _ _ _ _ hsw]
  refine wpAny_bind (wpAny_standAt (wpAny_bind ?_))
  show wpAny _ X.A (do let _ ← comprehension (.DictComp kx vx [⟨tg, iter, ifs, 0⟩] scope pos) scope X.env (firstIterPos [⟨tg, iter, ifs, 0⟩] pos) newDict false (eval iter X.env) (some (assign (.Name y py) X.env))) _ _ s
  have h : tDc wi g tt tk tv (own.map (·.2)) σ H (fun x H1 => gName i x σ H1 D.nx) := h
  refine wpAny_bind (thn (dc_core (Qf := fun _ s' => SP X pins D .next s') hc hN I hi ok hg ht hk he hs h fun L C s' m H' I' q hn f => ?_) fun _ s' hq => wpAny_pure (wpAny_pure hq))
  show wpAny _ _ (assign (.Name y py) X.env (.ref L)) _ _ _
  refine wpAny_assign_Name (store_ok2 (v := V.ref L) I' hN hy (.inl hyl) rfl (fun s2 I2 ⟨a, sb, ha⟩ => ?_) (.inr hyl))
  obtain ⟨f0, f1, f2, f3, f4, f5⟩ := f
  have haC : C ≠ a := by
    rcases ha with z | z
    · rw [z]; exact f1
    · exact fun e => f4 y a z e.symm
  refine ⟨m, hn.sameBut sb haC, fun h3 sb3 => ?_⟩
  exact ⟨_, H', I2.turned (t' := s2.toks) (fun b o hb e => (sb3.2 b hb).trans e) f0 f1 f3 f4 f5, q⟩
theorem sw_trueD {kx vx : Expr} {gs : List Comprehension} {scope : Scope} {pos py : Pos} {y : Str} {l : Nat} {env : Env} (hk : env.scope.kind = .function) (hy : env.scope.names.lookup y = some .local) (hl : (py.line == pos.line) = true)
    (ha : (scope.names.any fun (n, k) => n == y && (k == .local || k == .cell)) = false) : swapsWith (.DictComp kx vx gs scope pos) (some (.Name y py)) l env = pure true := by
  have ky : env.kindOf y = some .local := hy
  have hb : env.blockKind = .function := by unfold Env.blockKind; rw [hk]; rfl
  unfold swapsWith
  simp only [hb, ky, ha, Expr.pos, hl]
  rfl
end Ts


set_option Elab.async false
set_option linter.all false
set_option maxRecDepth 100000
set_option maxHeartbeats 4000000
namespace Ts
open PySem PySem.Spec L2
open Evl (Ex)
/-- a comprehension with a test over a list in a slot -/
theorem lc_sel {K : PySem.W.Frag} {i j : Nat} {tt : TT} {te : TE} {vs : List Nat} {σ : L2.St} {H : Hp} {a : Addr} {α : Type} {Q : VK} (f : α → V) (S : α → Bool) (xs : List α) (hσ : σ[i]? = some (some (.ref a))) (ha : H a = some (.lst (xs.map f))) (hz : xs.length ≤ 100000)
    (hs : ∀ (x : α) H' (A : V → Hp → Prop) (B : Hp → Prop), x ∈ xs → Ex H H' → (∀ H4, Ex H' H4 → S x = true → A (f x) H4) → (∀ H4, Ex H' H4 → S x = false → B H4) →
      gName j (f x) (wipe σ vs) H' fun σ2 H2 => wipe σ2 vs = wipe σ vs ∧ tt σ2 H2 fun b H3 => if b = true then te σ2 H3 A else B H3)
    (hq : ∀ D Hf, H D = none → Ex H Hf → Hf D = some (.lst ((xs.filter S).map f)) → Q (.ref D) Hf) : tLc (iList K (tVar i)) (gName j) tt te vs σ H Q := by
  refine ⟨_, hσ, a, rfl, ⟨_, SqL.of ha⟩, fun D hD => ?_⟩
  refine lc_it (walk_list (xs := xs.map f)) (fun i H' => Ex H H' ∧ H' D = some (.lst (((xs.take i).filter S).map f))) ⟨Ex.new hD, upd_same⟩ (fun i H' _ p => SqL.of (p.1 _ _ ha)) (fun i x H2 H' hi p y => ?_) (fun H2 p => ?_)
  · obtain ⟨e, hd⟩ := p
    obtain ⟨rfl, hx⟩ := y
    rw [List.length_map] at hi
    rw [List.getElem?_map, List.getElem?_eq_getElem hi] at hx
    cases hx
    have et : xs.take (i + 1) = xs.take i ++ [xs[i]] := by rw [List.take_add_one, List.getElem?_eq_getElem hi]; rfl
    refine hs xs[i] H' _ _ (List.getElem_mem hi) e (fun H4 e4 ht => ⟨_, e4 _ _ hd, ?_, (e.trans e4).mut hD, ?_⟩) (fun H4 e4 ht => ⟨e.trans e4, ?_⟩)
    · have := List.length_filter_le S (xs.take i)
      rw [List.length_take] at this
      rw [List.length_map]
      exact Evl.sz_lt (by omega)
    · rw [upd_same, et, List.filter_append, List.map_append, List.filter_cons, if_pos ht]
      rfl
    · rw [e4 _ _ hd, et, List.filter_append, List.map_append, List.filter_cons, if_neg (by rw [ht]; decide)]
      simp
  · obtain ⟨e, hd⟩ := p
    rw [List.length_map, List.take_length] at hd
    exact hq D H2 hD e hd
theorem gn1 {i : Nat} {x : V} {σ : L2.St} {H : Hp} {K : L2.St → Hp → Prop} (h : K (σ.set i (some x)) H) : gName i x σ H K := h
theorem sFld1 {K : PySem.W.Frag} {ta tv : TE} {f : Str} {D : Ends} {σ : L2.St} {H : Hp} (h : tv σ H fun y H1 => ta σ H1 fun x H2 => ∃ a C dx fs, x = .ref a ∧ H2 a = some (.ins C dx fs) ∧ Cls K C ∧ NoAttr K C f ∧ fs.length < 1000 ∧ D.nx σ (upd H2 a (.ins C dx (putF f y fs)))) : sFld K ta tv f D σ H := h
theorem seq1 {t u : TS} {D : Ends} {σ : L2.St} {H : Hp} (h : t { D with nx := u D } σ H) : tSeq t u D σ H := h
theorem asg1 {t : TE} {g : TG} {D : Ends} {σ : L2.St} {H : Hp} (h : t σ H (fun x H1 => g x σ H1 D.nx)) : tAsg t g D σ H := h
theorem next1 {D : Ends} {σ : L2.St} {H : Hp} (h : D.nx σ H) : tNext D σ H := h
theorem tcons1 {t : TE} {σ : L2.St} {H : Hp} {Q : List V → Hp → Prop} (h : t σ H (fun x H1 => Q [x] H1)) : tCons t tNil σ H Q := h
end Ts


set_option Elab.async false
set_option linter.all false
set_option maxRecDepth 100000
set_option maxHeartbeats 4000000
namespace Ts
open PySem PySem.Spec L2
open Evl (Ex)
def RsAt (H : Hp) (L : Addr) (qs : List (Addr × Rl)) : Prop := H L = some (.lst (qs.map fun q => V.ref q.1)) ∧ RulesAt H qs
/-- a dict of True, as its keys come -/
def KS (us : List Int) : List (Key × V) := us.map fun u => ((.inl u : Key), V.bl true)
theorem KS_any (u : Int) : ∀ us : List Int, ((KS us).any fun kv => decide (kv.1 = (.inl u : Key))) = decide (u ∈ us)
  | [] => rfl
  | v :: us => by
    have ih := KS_any u us
    unfold KS at ih ⊢
    rw [List.map_cons, List.any_cons, ih]
    by_cases c : v = u
    · subst c
      simp
    · have c2 : ¬ u = v := fun z => c z.symm
      have c3 : ¬ ((.inl v : Key) = .inl u) := fun z => by
        cases z
        exact c rfl
      simp [c2, c3]
theorem put_us (us : List Int) (u : Int) : putK (KS us) (.inl u) (.bl true) = KS (if u ∈ us then us else us ++ [u]) := by
  unfold putK
  rw [KS_any]
  by_cases c : u ∈ us
  · rw [if_pos (decide_eq_true c), if_pos c]
    unfold KS
    rw [List.map_map]
    refine List.map_congr_left fun v hv => ?_
    show (if (.inl v : Key) = .inl u then _ else _) = _
    split <;> rfl
  · rw [if_neg (by rw [decide_eq_false c]; decide), if_neg c]
    unfold KS
    rw [List.map_append]
    rfl
theorem valV_mem {kvs : List (Key × V)} {k : Key} {v : V} (h : valV kvs k = some v) : (k, v) ∈ kvs := by
  unfold valV at h
  cases e : kvs.find? fun kv => decide (kv.1 = k) with
  | none =>
    rw [e] at h
    cases h
  | some kv =>
    rw [e] at h
    cases h
    have z := List.find?_some e
    have z2 : kv.1 = k := of_decide_eq_true z
    rw [← z2]
    exact List.mem_of_find?_eq_some e
theorem nodup_len : ∀ (n : Nat) (l : List Int), l.Nodup → (∀ x ∈ l, 0 ≤ x ∧ x < (n : Int)) → l.length ≤ n
  | 0, l, _, h => by
    cases l with
    | nil => exact Nat.le_refl _
    | cons x l =>
      have := h x List.mem_cons_self
      omega
  | n + 1, l, hn, h => by
    have h1 : (l.erase (n : Int)).length ≤ n := nodup_len n _ (hn.erase _) fun x hx => by
      have z := h x (List.mem_of_mem_erase hx)
      have ne : x ≠ (n : Int) := fun e => by
        rw [e] at hx
        exact hn.not_mem_erase hx
      omega
    by_cases c : (n : Int) ∈ l
    · rw [List.length_erase_of_mem c] at h1
      omega
    · rw [List.erase_of_not_mem c] at h1
      omega
theorem ins_us {us : List Int} {v u : Int} : u ∈ (if v ∈ us then us else us ++ [v]) ↔ u ∈ us ∨ u = v := by
  split
  · rename_i c
    exact ⟨.inl, fun h => h.elim id fun h => h ▸ c⟩
  · rw [List.mem_append, List.mem_singleton]
theorem ins_len {us : List Int} {v : Int} : (if v ∈ us then us else us ++ [v]).length ≤ us.length + 1 := by
  split
  · omega
  · rw [List.length_append]
    exact Nat.le_refl _
end Ts


set_option Elab.async false
set_option linter.all false
set_option maxRecDepth 100000
set_option maxHeartbeats 4000000
namespace Ts
open PySem PySem.Spec L2
open Evl (Ex)
/-- the class of tables -/
structure TbC (K : PySem.W.Frag) (mg : Str → Option Value) (C fI fS fG fO fN fT : Addr) : Prop where
  cl : Cls K C
  nG : NoAttr K C "growing_rules"
  nO : NoAttr K C "other_rules"
  nT : NoAttr K C "told"
  nB : NoAttr K C "by_total"
  nW : NoAttr K C "grown"
  nE : NoAttr K C "base"
  gC : mg "Table" = some (.ref C)
  made : Mk K C fI
  mS : Meth K C "split_values" fS
  mG : Meth K C "grow_to" fG
  mO : Meth K C "other_values" fO
  mN : Meth K C "reckon" fN
  mT : Meth K C "reckon_to" fT
/-- the fields of a table -/
def tbF (GL OL TL BT GR : Addr) (bs : Int) : List (Str × V) := [("growing_rules", .ref GL), ("other_rules", .ref OL), ("told", .ref TL), ("by_total", .ref BT), ("grown", .ref GR), ("base", .int bs)]
/-- a table, without what grows -/
structure Tab (C p L TL BT : Addr) (qs : List (Addr × Rl)) (H : Hp) (ts : List Int) (kvs : List (Key × V)) : Prop where
  at_ : ∃ dx GL GR bs, H p = some (.ins C dx (tbF GL L TL BT GR bs))
  rs : RsAt H L qs
  told : H TL = some (.lst (ts.map V.int))
  by_ : H BT = some (.dK kvs)
/-- what two heaps that are so much together have as values -/
def Splits (ts : List Int) (t : Int) (u : Int) : Prop := ∃ a : Int, 1 ≤ a ∧ a ≤ t / 2 ∧ u = Builtin.bitXor (ts.getD a.toNat 0) (ts.getD (t - a).toNat 0)
/-- what is kept of them -/
structure Cache (TL : Addr) (H : Hp) (ts : List Int) (kvs : List (Key × V)) : Prop where
  nd : (kvs.map (·.1)).Nodup
  all : ∀ kv ∈ kvs, ∃ (t : Int) (b : Addr) (us : List Int), kv = (.inl t, .ref b) ∧ 0 ≤ t ∧ t ≤ ts.length ∧ b ≠ TL ∧ H b = some (.lst (us.map V.int)) ∧ us.length ≤ 1000 ∧ ∀ u, u ∈ us ↔ Splits ts t u
theorem at_told {ts : List Int} {j : Int} (h0 : 0 ≤ j) (h1 : j < ts.length) : atI (ts.map V.int) j = some (.int (ts.getD j.toNat 0)) := by
  obtain ⟨m, rfl⟩ := Int.eq_ofNat_of_zero_le h0
  have hm : m < ts.length := by omega
  refine atI_nat ?_
  rw [List.getElem?_map, List.getElem?_eq_getElem hm, List.getD_eq_getElem?_getD]
  show some (V.int ts[m]) = some (V.int ((ts[m]?).getD 0))
  rw [List.getElem?_eq_getElem hm]
  rfl
theorem Cache.len {TL : Addr} {H : Hp} {ts : List Int} {kvs : List (Key × V)} (c : Cache TL H ts kvs) : kvs.length ≤ ts.length + 1 := by
  have z : ∃ l : List Int, kvs.map (·.1) = l.map Sum.inl ∧ ∀ x ∈ l, 0 ≤ x ∧ x < ((ts.length + 1 : Nat) : Int) := by
    have h := c.all
    clear c
    induction kvs with
    | nil => exact ⟨[], rfl, fun x h => by cases h⟩
    | cons kv kvs ih =>
      obtain ⟨l, e, hl⟩ := ih fun kv h' => h kv (List.mem_cons_of_mem _ h')
      obtain ⟨t, b, us, rfl, h1, h2, _⟩ := h kv List.mem_cons_self
      refine ⟨t :: l, by rw [List.map_cons, e]; rfl, fun x hx => ?_⟩
      rcases List.mem_cons.mp hx with rfl | hx
      · exact ⟨h1, by omega⟩
      · exact hl x hx
  obtain ⟨l, e, hl⟩ := z
  have nd := c.nd
  rw [e] at nd
  have := nodup_len _ l ((List.pairwise_map.mp nd).imp fun h e => h (congrArg _ e)) hl
  have e2 := congrArg List.length e
  rw [List.length_map, List.length_map] at e2
  omega
section
variable {P : Program} {w : World} {K : PySem.W.Frag} {mg : Str → Option Value} {base : Heap}
abbrev s_tinit : Stmt := inClass (top 32) 0
abbrev s_tsplit : Stmt := inClass (top 32) 1
abbrev s_tgrow : Stmt := inClass (top 32) 2
abbrev s_tother : Stmt := inClass (top 32) 3
abbrev s_treckon : Stmt := inClass (top 32) 4
abbrev s_tto : Stmt := inClass (top 32) 5
theorem sc_tinit : FnScope ["self", "book", "rules", "rule"] ["self", "book"] (defScope s_tinit) := ⟨rfl, rfl, rfl, by decide +kernel, rfl, by decide +kernel, by decide +kernel⟩
theorem sc_tsplit : FnScope ["self", "total", "told", "seen", "first"] ["self", "total"] (defScope s_tsplit) := ⟨rfl, rfl, rfl, by decide +kernel, rfl, by decide +kernel, by decide +kernel⟩
theorem sc_tgrow : FnScope ["self", "heap", "low", "_", "left"] ["self", "heap"] (defScope s_tgrow) := ⟨rfl, rfl, rfl, by decide +kernel, rfl, by decide +kernel, by decide +kernel⟩
theorem sc_tother : FnScope ["self", "heap", "rules", "seen", "total", "value", "left"] ["self", "heap"] (defScope s_tother) := ⟨rfl, rfl, rfl, by decide +kernel, rfl, by decide +kernel, by decide +kernel⟩
theorem sc_treckon : FnScope ["self", "heap", "seen", "value"] ["self"] (defScope s_treckon) := ⟨rfl, rfl, rfl, by decide +kernel, rfl, by decide +kernel, by decide +kernel⟩
theorem sc_tto : FnScope ["self", "most"] ["self", "most"] (defScope s_tto) := ⟨rfl, rfl, rfl, by decide +kernel, rfl, by decide +kernel, by decide +kernel⟩
/-- a table that is made -/
structure Made (C p GL OL TL BT GR : Addr) (gs os : List (Addr × Rl)) (H : Hp) : Prop where
  at_ : ∃ dx, H p = some (.ins C dx (tbF GL OL TL BT GR 0))
  gs : RsAt H GL gs
  os : RsAt H OL os
  told : H TL = some (.lst [.int 0])
  by_ : H BT = some (.dK [])
  gr : H GR = some (.dK [])
  ne1 : TL ≠ GL
  ne2 : TL ≠ OL
  ne3 : BT ≠ GR
def spTinit (C CB : Addr) : Sp := fun vs H Q _ => ∃ (p dx b : Addr) (rs : List Rl), vs = [.ref p, .ref b] ∧ H p = some (.ins C dx []) ∧ BookAt CB (del H p) b rs ∧ rs.length ≤ 1000 ∧
  ∀ H' GL OL TL BT GR gs os, Ex (del H p) H' → H TL = none → H BT = none → H GR = none → Made C p GL OL TL BT GR gs os H' → gs.map (·.2) = rs.filter (fun r => r.high.isNone) → os.map (·.2) = rs.filter (fun r => !r.high.isNone) → Q .non H'
theorem ok_tinit {f fI fS fG fO fN fT C CB fBI fBR f1 : Addr} {fd fdR fd1 : FuncData} (F : Fun K "__init__" "Table.__init__" s_tinit f fd) (TC : TbC K mg C fI fS fG fO fN fT) (B : BkC K mg CB fBI fBR) (F_rules : Fun K "rules" "Book.rules" s_brules fBR fdR)
    (G_rules : FnOk P w K mg base CX0 1 fBR fdR ["self"] (spBrules CB)) (F_gr : FD K mg "is_growing" "is_growing" s_growing f1 fd1) (G_gr : FnOk P w K mg base CX0 1 f1 fd1 ["rule"] (spRl fun r => r.high.isNone)) : FnOk P w K mg base CX0 2 f fd ["self", "book"] (spTinit C CB) := by
  have b_rules : Binds K fdR ["self"] [] := F_rules.binds fun _ _ _ _ _ _ us hl => match us, hl with | [_], _ => rfl
  have b_gr : Binds K fd1 ["rule"] [] := F_gr.F.binds fun _ _ _ _ _ _ us hl => match us, hl with | [_], _ => rfl
  refine F.ok sc_tinit (fun vs H Q E h => ?_) (fun cdv A outer s H vs Q E hr h => ?_)
  · obtain ⟨p, dx, b, rs, rfl, _⟩ := h
    rfl
  · obtain ⟨p, dx, b, rs, rfl, hp, hb, hz, k⟩ := h
    have nd := sc_tinit.nd
    have hr1 : Room 1 _ := hr.mono (by decide)
    refine ⟨_, (pss_cons (ps_set (i := 2) nd rfl (Or.inl rfl) (pe_meth0 (pv 1) B.cl B.mR G_rules hr1 b_rules .nil pass0))
      (pss_cons (ps_fld (pv 0) (pe_lc (own := [("rule", 3)]) (g := gName 3) rfl nd (pi_list (pv 2)) (blkOk_by (N := ["self", "book", "rules", "rule"]) (sc := defScope s_tinit) (by decide +kernel)) (fun _ _ _ _ _ => pg_name (i := 3) nd rfl (Or.inl rfl)) (fun _ _ _ _ _ => pts_one (pt_val (pe_call G_gr hr1 (by rfl) F_gr.g F_gr.F.kp b_gr .nil pass0 (pa_cons (pv 3) pa_nil)))) (fun _ _ _ _ _ => (pv 3))) rfl)
      (pss_cons (ps_fld (pv 0) (pe_lc (own := [("rule", 3)]) (g := gName 3) rfl nd (pi_list (pv 2)) (blkOk_by (N := ["self", "book", "rules", "rule"]) (sc := defScope s_tinit) (by decide +kernel)) (fun _ _ _ _ _ => pg_name (i := 3) nd rfl (Or.inl rfl)) (fun _ _ _ _ _ => pts_one (pt_not (pt_val (pe_call G_gr hr1 (by rfl) F_gr.g F_gr.F.kp b_gr .nil pass0 (pa_cons (pv 3) pa_nil))))) (fun _ _ _ _ _ => (pv 3))) rfl)
      (pss_cons (ps_fld (pv 0) (pe_lst (pa_cons pe_int pa_nil)) rfl)
      (pss_cons (ps_fld (pv 0) pe_dnewK rfl)
      (pss_cons (ps_fld (pv 0) pe_dnewK rfl)
      (pss_one (ps_fld (pv 0) pe_int rfl)))))))), ?_⟩
    obtain ⟨dB, Lb, qs, hb1, hb2, hb3, rfl⟩ := hb
    have del_le : ∀ a o, del H p a = some o → a ≠ p ∧ H a = some o := fun a o e => by
      unfold del at e
      split at e
      · cases e
      · rename_i c
        exact ⟨c, e⟩
    refine ⟨_, rfl, b, dB, _, rfl, (del_le _ _ hb1).2, rfl, b, _, rfl, ⟨dB, Lb, qs, (del_le _ _ hb1).2, (del_le _ _ hb2).2, (fun q hq => (del_le _ _ (hb3 q hq)).2), rfl⟩, fun L H1 qs1 nL e1 hL hR1 hm => ?_⟩
    have nd1 : qs1.length ≤ 1000 := by
      have := congrArg List.length hm
      rw [List.length_map] at this
      omega
    have pne : ∀ {X : Hp} {a : Addr} {o : HO}, upd X p o a = none → a ≠ p ∧ X a = none := fun {X a o} h => by
      by_cases c : a = p
      · rw [c, upd_same] at h
        cases h
      · rw [upd_ne c] at h
        exact ⟨c, h⟩
    have keep : ∀ {X : Hp} {a : Addr} {o u : HO}, a ≠ p → X a = some o → upd X p u a = some o := fun n h => (upd_ne n).trans h
    have hp1 : H1 p = some (.ins C dx []) := e1 _ _ hp
    have neL : L ≠ p := fun z => by
      rw [z, hp1] at hL
      cases hL
    have neq : ∀ q ∈ qs1, q.1 ≠ p := fun q hq z => by
      have w := hR1 q hq
      rw [z, hp1] at w
      cases w
    have turn : ∀ (S : Bool → Bool) (b3 : V → Hp → Prop), True := fun _ _ => trivial
    -- growing_rules
    refine gn1 ?_
    dsimp only
    refine seq1 (sFld1 ?_)
    refine lc_sel (K := K) (fun q : Addr × Rl => V.ref q.1) (fun q => q.2.high.isNone) qs1 (by rfl) hL (by omega) (fun q Hx A B hq e hA hB => ?_) (fun GL H2 nGL e2 hGL => ?_)
    · refine ⟨rfl, _, rfl, q.1, q.2, rfl, .inr (e _ _ (hR1 q hq)), fun H4 e4 => ⟨_, rfl, ?_⟩⟩
      cases c : q.2.high.isNone with
      | true => exact ite_tt c ⟨_, rfl, hA _ e4 c⟩
      | false => exact ite_ff c (hB _ e4 c)
    have hp2 := e2 _ _ hp1
    refine ⟨_, rfl, p, C, dx, [], rfl, hp2, TC.cl, TC.nG, by show 0 < 1000; decide, ?_⟩
    have hp3 : upd H2 p (.ins C dx (putF "growing_rules" (.ref GL) [])) p = some (.ins C dx [("growing_rules", .ref GL)]) := upd_same
    have neGL : GL ≠ p := fun z => by
      rw [z, hp2] at hGL
      cases hGL
    have K3 : ∀ a o, a ≠ p → H1 a = some o → upd H2 p (.ins C dx (putF "growing_rules" (.ref GL) [])) a = some o := fun a o n h => keep n (e2 _ _ h)
    have N3 : ∀ a, upd H2 p (.ins C dx (putF "growing_rules" (.ref GL) [])) a = none → a ≠ p ∧ H1 a = none := fun a h => ⟨(pne h).1, Evl.fresh_back e2 (pne h).2⟩
    have hGL3 := keep (u := .ins C dx (putF "growing_rules" (.ref GL) [])) neGL hGL
    generalize upd H2 p (.ins C dx (putF "growing_rules" (.ref GL) [])) = H3 at hp3 K3 N3 hGL3
    -- other_rules
    dsimp only
    refine seq1 (sFld1 ?_)
    refine lc_sel (K := K) (fun q : Addr × Rl => V.ref q.1) (fun q => !q.2.high.isNone) qs1 (by rfl) (K3 _ _ neL hL) (by omega) (fun q Hx A B hq e hA hB => ?_) (fun OL H4 nOL e4 hOL => ?_)
    · refine ⟨rfl, _, rfl, q.1, q.2, rfl, .inr (e _ _ (K3 _ _ (neq q hq) (hR1 q hq))), fun H4 e4 => ⟨_, rfl, ?_⟩⟩
      cases c : (!q.2.high.isNone) with
      | true => exact ite_tt (show (!q.2.high.isNone) = true from c) ⟨_, rfl, hA _ e4 c⟩
      | false => exact ite_ff (show (!q.2.high.isNone) = false from c) (hB _ e4 c)
    have hp4 := e4 _ _ hp3
    refine ⟨_, rfl, p, C, dx, _, rfl, hp4, TC.cl, TC.nO, by show 1 < 1000; decide, ?_⟩
    have hp5 : upd H4 p (.ins C dx (putF "other_rules" (.ref OL) [("growing_rules", .ref GL)])) p = some (.ins C dx [("growing_rules", .ref GL), ("other_rules", .ref OL)]) := upd_same
    have neOL : OL ≠ p := fun z => by
      rw [z, hp4] at hOL
      cases hOL
    have K5 : ∀ a o, a ≠ p → H3 a = some o → upd H4 p (.ins C dx (putF "other_rules" (.ref OL) [("growing_rules", .ref GL)])) a = some o := fun a o n h => keep n (e4 _ _ h)
    have N5 : ∀ a, upd H4 p (.ins C dx (putF "other_rules" (.ref OL) [("growing_rules", .ref GL)])) a = none → a ≠ p ∧ H3 a = none := fun a h => ⟨(pne h).1, Evl.fresh_back e4 (pne h).2⟩
    have hOL5 := keep (u := .ins C dx (putF "other_rules" (.ref OL) [("growing_rules", .ref GL)])) neOL hOL
    generalize upd H4 p (.ins C dx (putF "other_rules" (.ref OL) [("growing_rules", .ref GL)])) = H5 at hp5 K5 N5 hOL5
    -- told
    refine ⟨by show 1 ≤ sizeLine; decide, fun TL nTL => ?_⟩
    have e6 := Ex.new (o := .lst [.int 0]) nTL
    have hTL6 : upd H5 TL (.lst [.int 0]) TL = some (.lst [.int 0]) := upd_same
    have neTL := (N5 _ nTL).1
    generalize upd H5 TL (.lst [.int 0]) = H6 at e6 hTL6
    have hp6 := e6 _ _ hp5
    refine ⟨_, rfl, p, C, dx, _, rfl, hp6, TC.cl, TC.nT, by show 2 < 1000; decide, ?_⟩
    have hp7 : upd H6 p (.ins C dx (putF "told" (.ref TL) [("growing_rules", .ref GL), ("other_rules", .ref OL)])) p = some (.ins C dx [("growing_rules", .ref GL), ("other_rules", .ref OL), ("told", .ref TL)]) := upd_same
    have K7 : ∀ a o, a ≠ p → H5 a = some o → upd H6 p (.ins C dx (putF "told" (.ref TL) [("growing_rules", .ref GL), ("other_rules", .ref OL)])) a = some o := fun a o n h => keep n (e6 _ _ h)
    have N7 : ∀ a, upd H6 p (.ins C dx (putF "told" (.ref TL) [("growing_rules", .ref GL), ("other_rules", .ref OL)])) a = none → a ≠ p ∧ H5 a = none := fun a h => ⟨(pne h).1, Evl.fresh_back e6 (pne h).2⟩
    have hTL7 := keep (u := .ins C dx (putF "told" (.ref TL) [("growing_rules", .ref GL), ("other_rules", .ref OL)])) neTL hTL6
    generalize upd H6 p (.ins C dx (putF "told" (.ref TL) [("growing_rules", .ref GL), ("other_rules", .ref OL)])) = H7 at hp7 K7 N7 hTL7
    -- by_total
    intro BT nBT
    have e8 := Ex.new (o := .dK []) nBT
    have hBT8 : upd H7 BT (.dK []) BT = some (.dK []) := upd_same
    have neBT := (N7 _ nBT).1
    generalize upd H7 BT (.dK []) = H8 at e8 hBT8
    have hp8 := e8 _ _ hp7
    refine ⟨_, rfl, p, C, dx, _, rfl, hp8, TC.cl, TC.nB, by show 3 < 1000; decide, ?_⟩
    have hp9 : upd H8 p (.ins C dx (putF "by_total" (.ref BT) [("growing_rules", .ref GL), ("other_rules", .ref OL), ("told", .ref TL)])) p = some (.ins C dx [("growing_rules", .ref GL), ("other_rules", .ref OL), ("told", .ref TL), ("by_total", .ref BT)]) := upd_same
    have K9 : ∀ a o, a ≠ p → H7 a = some o → upd H8 p (.ins C dx (putF "by_total" (.ref BT) [("growing_rules", .ref GL), ("other_rules", .ref OL), ("told", .ref TL)])) a = some o := fun a o n h => keep n (e8 _ _ h)
    have N9 : ∀ a, upd H8 p (.ins C dx (putF "by_total" (.ref BT) [("growing_rules", .ref GL), ("other_rules", .ref OL), ("told", .ref TL)])) a = none → a ≠ p ∧ H7 a = none := fun a h => ⟨(pne h).1, Evl.fresh_back e8 (pne h).2⟩
    have hBT9 := keep (u := .ins C dx (putF "by_total" (.ref BT) [("growing_rules", .ref GL), ("other_rules", .ref OL), ("told", .ref TL)])) neBT hBT8
    generalize upd H8 p (.ins C dx (putF "by_total" (.ref BT) [("growing_rules", .ref GL), ("other_rules", .ref OL), ("told", .ref TL)])) = H9 at hp9 K9 N9 hBT9
    -- grown
    intro GR nGR
    have e10 := Ex.new (o := .dK []) nGR
    have hGR10 : upd H9 GR (.dK []) GR = some (.dK []) := upd_same
    have neGR := (N9 _ nGR).1
    have nBG : BT ≠ GR := fun z => by
      rw [← z, hBT9] at nGR
      cases nGR
    generalize upd H9 GR (.dK []) = H10 at e10 hGR10
    have hp10 := e10 _ _ hp9
    refine ⟨_, rfl, p, C, dx, _, rfl, hp10, TC.cl, TC.nW, by show 4 < 1000; decide, ?_⟩
    refine ⟨_, rfl, p, C, dx, _, rfl, upd_same, TC.cl, TC.nE, by show 5 < 1000; decide, ?_⟩
    have K10 : ∀ a o, a ≠ p → H9 a = some o → upd (upd H10 p (.ins C dx (putF "grown" (.ref GR) [("growing_rules", .ref GL), ("other_rules", .ref OL), ("told", .ref TL), ("by_total", .ref BT)]))) p (.ins C dx (putF "base" (.int 0) (putF "grown" (.ref GR) [("growing_rules", .ref GL), ("other_rules", .ref OL), ("told", .ref TL), ("by_total", .ref BT)]))) a = some o := fun a o n h => keep n (keep n (e10 _ _ h))
    have up5 : ∀ a o, a ≠ p → H1 a = some o → H5 a = some o := fun a o n h => K5 a o n (K3 a o n h)
    have up9 : ∀ a o, a ≠ p → H5 a = some o → H9 a = some o := fun a o n h => K9 a o n (K7 a o n h)
    have dn5 : ∀ a, H5 a = none → H a = none := fun a h => Evl.fresh_back e1 (N3 _ (N5 _ h).2).2
    refine k _ GL OL TL BT GR (qs1.filter fun q => q.2.high.isNone) (qs1.filter fun q => !q.2.high.isNone) (fun a o ha => ?_) (dn5 _ nTL) (dn5 _ (N7 _ nBT).2) (dn5 _ (N7 _ (N9 _ nGR).2).2) ⟨⟨dx, upd_same⟩, ⟨?_, fun q hq => ?_⟩, ⟨?_, fun q hq => ?_⟩, ?_, ?_, ?_, ?_, ?_, nBG⟩ ?_ ?_
    · obtain ⟨na, ha⟩ := del_le a o ha
      exact K10 a o na (up9 a o na (up5 a o na (e1 _ _ ha)))
    · exact K10 _ _ neGL (up9 _ _ neGL (K5 _ _ neGL hGL3))
    · have hq := (List.mem_filter.mp hq).1
      exact K10 _ _ (neq q hq) (up9 _ _ (neq q hq) (up5 _ _ (neq q hq) (hR1 q hq)))
    · exact K10 _ _ neOL (up9 _ _ neOL hOL5)
    · have hq := (List.mem_filter.mp hq).1
      exact K10 _ _ (neq q hq) (up9 _ _ (neq q hq) (up5 _ _ (neq q hq) (hR1 q hq)))
    · exact K10 _ _ neTL (K9 _ _ neTL hTL7)
    · exact K10 _ _ neBT hBT9
    · exact (upd_ne neGR).trans ((upd_ne neGR).trans hGR10)
    · exact fun z => by
        rw [z, K5 _ _ neGL hGL3] at nTL
        cases nTL
    · exact fun z => by
        rw [z, hOL5] at nTL
        cases nTL
    · rw [← hm, List.filter_map]
      rfl
    · rw [← hm, List.filter_map]
      rfl
def spSplit (C : Addr) : Sp := fun vs H Q _ => ∃ (p L TL BT : Addr) (qs : List (Addr × Rl)) (ts : List Int) (kvs : List (Key × V)) (t : Int), vs = [.ref p, .int t] ∧ Tab C p L TL BT qs H ts kvs ∧ Cache TL H ts kvs ∧ 0 ≤ t ∧ t ≤ ts.length ∧ ts.length ≤ 1000 ∧
  ∀ H' (kvs' : List (Key × V)) (b : Addr) (us : List Int), Ex (del H BT) H' → H' BT = some (.dK kvs') → Cache TL H' ts kvs' → H' b = some (.lst (us.map V.int)) → b ≠ TL → us.length ≤ 1000 → (∀ u, u ∈ us ↔ Splits ts t u) → Q (.ref b) H'
theorem ok_tsplit {f fI fS fG fO fN fT C : Addr} {fd : FuncData} (F : Fun K "split_values" "Table.split_values" s_tsplit f fd) (TC : TbC K mg C fI fS fG fO fN fT) (T : Bl mg) : FnOk P w K mg base CX0 1 f fd ["self", "total"] (spSplit C) := by
  refine F.ok sc_tsplit (fun vs H Q E h => ?_) (fun cdv A outer s H vs Q E hr h => ?_)
  · obtain ⟨p, L, TL, BT, qs, ts, kvs, t, rfl, _⟩ := h
    rfl
  · obtain ⟨p, L, TL, BT, qs, ts, kvs, t, rfl, tab, ca, t0, t1, tz, k⟩ := h
    have nd := sc_tsplit.nd
    have hu : _ + 1 < cLine := Nat.lt_of_le_of_lt (Nat.add_le_add_left (by decide) _) hr.units
    refine ⟨_, (pss_cons (ps_if (pt_cmp (pc_dnotin hu (pv 1) (pe_fld (pv 0) rfl))) (pss_cons (ps_set (i := 2) nd rfl (Or.inr rfl) (pe_fld (pv 0) rfl))
      (pss_cons (ps_setDc (i := 3) (own := [("first", 4)]) (g := gName 4) (tt := tYes) rfl nd rfl rfl (sw_trueD rfl rfl rfl (by decide +kernel)) (pi_range2 (by rfl) T.range (pa_cons pe_int (pa_cons (pe_op op_add (pe_op op_fdiv (pv 1) pe_int) pe_int) pa_nil))) (blkOk_by (N := ["self", "total", "told", "seen", "first"]) (sc := defScope s_tsplit) (by decide +kernel)) (fun _ _ _ _ _ => pg_name (i := 4) nd rfl (Or.inl rfl)) (fun _ _ _ _ _ => pts_nil) (fun _ _ _ _ _ => (pe_op op_xor (pe_ix (r := rIx K) ix_seq (pv 2) (pv 4) (fun _ _ => rfl)) (pe_ix (r := rIx K) ix_seq (pv 2) (pe_op op_sub (pv 1) (pv 4)) (fun _ _ => rfl)))) (fun _ _ _ _ _ => pe_bl))
      (pss_one (ps_dput hu (pe_fld (pv 0) rfl) (pv 1) (pe_callTy (call_list_dK rfl) (by rfl) T.list PyProof.Rows.boot_list (pa_cons (pv 3) pa_nil)) rfl)))) pss_nil)
      (pss_one (ps_ret (pe_dget hu (pe_fld (pv 0) rfl) (pv 1) (fun _ _ => rfl))))), ?_⟩
    obtain ⟨dx, GL, GR, bs, hp⟩ := tab.at_
    have hTL := tab.told
    have hBT := tab.by_
    have hpB : p ≠ BT := fun z => by
      rw [z, hBT] at hp
      cases hp
    have hTB : TL ≠ BT := fun z => by
      rw [z, hBT] at hTL
      cases hTL
    have eB : Ex (del H BT) H := fun b o e => by
      unfold del at e
      split at e
      · cases e
      · exact e
    have atp : ∀ {H'}, Ex (del H BT) H' → ∀ a o, a ≠ BT → H a = some o → H' a = some o := fun {H'} e a o na ha => e _ _ (by unfold del; rw [if_neg na]; exact ha)
    have fin : ∀ (σ' : L2.St) (H' : Hp) (kvs' : List (Key × V)) (v : V), σ'[0]? = some (some (.ref p)) → σ'[1]? = some (some (.int t)) → Ex (del H BT) H' → H' BT = some (.dK kvs') → Cache TL H' ts kvs' → valV kvs' (.inl t) = some v → (tRet (tDGet (tFld K (tVar 0) "by_total") (tVar 1)) : TS) { nx := fun _ H' => Q .non H', rt := Q } σ' H' := fun σ' H' kvs' v h0 h1 e hb c hv => by
      obtain ⟨t', b, us, e1, t0', t1', nb, hus, hl, hsp⟩ := c.all _ (valV_mem hv)
      cases e1
      refine ⟨_, h0, p, C, dx, _, _, rfl, atp e _ _ hpB hp, TC.cl, TC.nB, rfl, _, h1, BT, .ref b, rfl, ?_, k H' kvs' b us e hb c hus nb hl hsp⟩
      have z := DGet.k (k := (.inl t : Key)) hb
      rw [hv] at z
      exact z
    refine ⟨_, rfl, _, rfl, p, C, dx, _, _, rfl, hp, TC.cl, TC.nB, rfl, BT, _, rfl, DGet.k (k := (.inl t : Key)) hBT, _, rfl, ?_⟩
    cases hv : valV kvs (.inl t) with
    | some v => exact ite_ff rfl (fin _ H kvs v rfl rfl eB hBT ca hv)
    | none =>
      refine ite_tt rfl ?_
      refine ⟨_, rfl, p, C, dx, _, _, rfl, hp, TC.cl, TC.nT, rfl, ?_⟩
      refine ⟨_, rfl, _, _, rfl, rfl, ⟨by decide, by decide⟩, _, _, rfl, rfl, _, _, rfl, ⟨by decide, by decide, by omega, by omega⟩, fun D hD => ?_⟩
      refine it_gen (walk_range (lo := 1) (n := (t / 2 + 1 - 1).toNat)) (fun i H' => Ex H H' ∧ ∃ us : List Int, H' D = some (.dK (KS us)) ∧ us.length ≤ i ∧ ∀ u, u ∈ us ↔ ∃ a : Int, 1 ≤ a ∧ a < 1 + (i : Nat) ∧ u = Builtin.bitXor (ts.getD a.toNat 0) (ts.getD (t - a).toNat 0)) ⟨Ex.new hD, [], upd_same, Nat.le_refl _, fun u => ⟨(fun z => by cases z), (fun ⟨a, h1, h2, _⟩ => by omega)⟩⟩ (fun _ _ _ _ => trivial) (fun i x H1 H2 hi q y => ?_) (fun H' q => ?_)
      · obtain ⟨e, us, hd, hl, hus⟩ := q
        obtain ⟨eH, rfl⟩ := y
        subst eH
        refine ⟨rfl, yes_of ?_⟩
        refine ⟨_, rfl, _, rfl, ix_row (.inl (e _ _ hTL)) (at_told (by omega) (by omega)) ⟨_, rfl, _, rfl, _, rfl, _, _, rfl, rfl, ix_row (.inl (e _ _ hTL)) (at_told (by omega) (by omega)) ⟨_, _, rfl, rfl, KS us, .inl _, rfl, hd, by unfold KS; rw [List.length_map]; exact Nat.lt_of_le_of_lt (show us.length ≤ 1000 by omega) (by decide), e.mut hD, _, by rw [upd_same, put_us], ?_, fun u => ?_⟩⟩⟩
        · split
          · omega
          · rw [List.length_append]
            exact Nat.succ_le_succ hl
        · have new : u = Builtin.bitXor (ts.getD (1 + (i : Int)).toNat 0) (ts.getD (t - (1 + (i : Int))).toNat 0) → ∃ a : Int, 1 ≤ a ∧ a < 1 + ((i + 1 : Nat) : Int) ∧ u = Builtin.bitXor (ts.getD a.toNat 0) (ts.getD (t - a).toNat 0) := fun h => ⟨1 + (i : Int), by omega, by omega, h⟩
          have old : u ∈ us → ∃ a : Int, 1 ≤ a ∧ a < 1 + ((i + 1 : Nat) : Int) ∧ u = Builtin.bitXor (ts.getD a.toNat 0) (ts.getD (t - a).toNat 0) := fun h => by
            obtain ⟨a, h1, h2, h3⟩ := (hus u).mp h
            exact ⟨a, h1, by omega, h3⟩
          have back : (∃ a : Int, 1 ≤ a ∧ a < 1 + ((i + 1 : Nat) : Int) ∧ u = Builtin.bitXor (ts.getD a.toNat 0) (ts.getD (t - a).toNat 0)) → u ∈ us ∨ u = Builtin.bitXor (ts.getD (1 + (i : Int)).toNat 0) (ts.getD (t - (1 + (i : Int))).toNat 0) := fun ⟨a, h1, h2, h3⟩ => by
            by_cases c : a < 1 + (i : Int)
            · exact .inl ((hus u).mpr ⟨a, h1, c, h3⟩)
            · obtain rfl : a = 1 + (i : Int) := by omega
              exact .inr h3
          split
          · rename_i hin
            refine ⟨old, fun h => ?_⟩
            rcases back h with h | h
            · exact h
            · rw [h]
              exact hin
          · rw [List.mem_append, List.mem_singleton]
            exact ⟨fun h => h.elim old new, back⟩
      · obtain ⟨e, us, hd, hl, hus⟩ := q
        have hsp : ∀ u, u ∈ us ↔ Splits ts t u := fun u => by
          rw [hus u]
          exact ⟨(fun ⟨a, h1, h2, h3⟩ => ⟨a, h1, by omega, h3⟩), (fun ⟨a, h1, h2, h3⟩ => ⟨a, h1, by omega, h3⟩)⟩
        refine ⟨_, rfl, D, KS us, rfl, hd, fun q nq => ?_⟩
        have eq := Ex.new (o := .lst ((KS us).map fun kv => kV kv.1)) nq
        have hq : upd H' q (.lst ((KS us).map fun kv => kV kv.1)) q = some (.lst (us.map V.int)) := by
          rw [upd_same]
          unfold KS
          rw [List.map_map]
          rfl
        have nqT : q ≠ TL := fun z => by
          rw [z, e _ _ hTL] at nq
          cases nq
        have nqB : q ≠ BT := fun z => by
          rw [z, e _ _ hBT] at nq
          cases nq
        generalize upd H' q (.lst ((KS us).map fun kv => kV kv.1)) = H3 at eq hq
        have e3 : Ex H H3 := e.trans eq
        refine ⟨_, rfl, p, C, dx, _, _, rfl, e3 _ _ hp, TC.cl, TC.nB, rfl, _, rfl, BT, _, rfl, DPut.k (k := (.inl t : Key)) (e3 _ _ hBT) (Nat.lt_of_le_of_lt (Nat.le_trans ca.len (show ts.length + 1 ≤ 1001 by omega)) (by decide)), ?_⟩
        refine fin _ _ (putK kvs (.inl t) (.ref q)) (.ref q) rfl rfl ((eB.trans e3).mut (by unfold del; rw [if_pos rfl])) upd_same ⟨?_, fun kv hkv => ?_⟩ (by rw [valV_put, if_pos rfl])
        · rw [putK_new _ hv, List.map_append]
          refine List.nodup_append.mpr ⟨ca.nd, List.pairwise_singleton _ _, fun a ha b hb hab => ?_⟩
          rw [List.map_singleton, List.mem_singleton] at hb
          subst hb
          subst hab
          exact valV_not hv ha
        · rw [putK_new _ hv] at hkv
          rcases List.mem_append.mp hkv with hkv | hkv
          · obtain ⟨t', b, us', rfl, a1, a2, a3, a4, a5, a6⟩ := ca.all kv hkv
            have nb : b ≠ BT := fun z => by
              rw [z, hBT] at a4
              cases a4
            exact ⟨t', b, us', rfl, a1, a2, a3, by rw [upd_ne nb]; exact e3 _ _ a4, a5, a6⟩
          · rw [List.mem_singleton] at hkv
            exact ⟨t, q, us, hkv, t0, t1, nqT, by rw [upd_ne nqB]; exact hq, by omega, hsp⟩
end
end Ts


set_option Elab.async false
set_option linter.all false
set_option maxRecDepth 100000
set_option maxHeartbeats 4000000
namespace Ts
open PySem PySem.Spec L2
open Evl (Ex)
/-- u is the value of an option of n, by values of lesser heaps -/
def OptVal (rs : List Rl) (ts : List Int) (n : Int) (u : Int) : Prop :=
  (∃ x, (∃ r ∈ rs, V.str r.left = V.str "one" ∧ Leaves r n x ∧ 1 ≤ x) ∧ u = ts.getD x.toNat 0) ∨ ((∃ r ∈ rs, V.str r.left = V.str "none" ∧ Leaves r n 0) ∧ u = 0) ∨
  ∃ x, (∃ r ∈ rs, V.str r.left = V.str "two" ∧ Leaves r n x ∧ 2 ≤ x) ∧ Splits ts x u
theorem ex_del {R H : Hp} {a : Addr} (e : Ex R H) (h : R a = none) : Ex R (del H a) := fun b o hb => by
  unfold del
  have nb : b ≠ a := fun z => by
    rw [z, h] at hb
    cases hb
  rw [if_neg nb]
  exact e _ _ hb
theorem Cache.frame {TL : Addr} {H H' : Hp} {ts : List Int} {kvs : List (Key × V)} (c : Cache TL H ts kvs) (h : ∀ b l, b ≠ TL → H b = some (.lst l) → H' b = some (.lst l)) : Cache TL H' ts kvs := ⟨c.nd, fun kv hkv => by
  obtain ⟨t, b, us, e, a1, a2, a3, a4, a5, a6⟩ := c.all kv hkv
  exact ⟨t, b, us, e, a1, a2, a3, h b _ a3 a4, a5, a6⟩⟩
theorem put_if {b : Bool} {D : Ends} {σ : L2.St} {H : Hp} {S : Addr} {us : List Int} (hσ : σ[3]? = some (some (.ref S))) (hS : H S = some (.dK (KS us))) (hl : us.length < sizeLine)
    (h1 : b = true → D.nx σ (upd H S (.dK (KS (if 0 ∈ us then us else us ++ [0]))))) (h0 : b = false → D.nx σ H) : if b = true then sDPut (tVar 3) (tC (.int 0)) (tC (.bl true)) D σ H else tNext D σ H := by
  cases b with
  | true =>
    refine ite_tt rfl ⟨_, hσ, S, _, rfl, DPut.k (k := (.inl 0 : Key)) hS (by unfold KS; rw [List.length_map]; exact hl), ?_⟩
    rw [put_us]
    exact h1 rfl
  | false => exact ite_ff rfl (h0 rfl)
theorem put_if2 {b : Bool} {D : Ends} {σ : L2.St} {H : Hp} {S : Addr} {us : List Int} (hσ : σ[3]? = some (some (.ref S))) (hS : H S = some (.dK (KS us))) (hl : us.length < sizeLine)
    (h : ∀ H4 us', Ex (del H S) H4 → H4 S = some (.dK (KS us')) → us'.length ≤ us.length + 1 → (∀ u, u ∈ us' ↔ u ∈ us ∨ (b = true ∧ u = 0)) → D.nx σ H4) : if b = true then sDPut (tVar 3) (tC (.int 0)) (tC (.bl true)) D σ H else tNext D σ H := by
  have eD : Ex (del H S) H := fun b o e => by
    unfold del at e
    split at e
    · cases e
    · exact e
  refine put_if hσ hS hl (fun hb => h _ _ (eD.mut (by unfold del; rw [if_pos rfl])) upd_same ?_ fun u => ?_) (fun hb => h H us eD hS (by omega) fun u => ?_)
  · split
    · omega
    · rw [List.length_append]
      exact Nat.le_refl _
  · rw [hb]
    split
    · rename_i c
      exact ⟨.inl, fun z => z.elim id fun z => z.2 ▸ c⟩
    · rw [List.mem_append, List.mem_singleton]
      exact ⟨fun z => z.imp id fun z => ⟨rfl, z⟩, fun z => z.imp id fun z => z.2⟩
  · exact ⟨.inl, fun z => z.elim id fun z => by rw [hb] at z; cases z.1⟩
section
variable {P : Program} {w : World} {K : PySem.W.Frag} {mg : Str → Option Value} {base : Heap}
def spOptions (C : Addr) : Sp := fun vs H Q _ => ∃ (p L TL BT : Addr) (qs : List (Addr × Rl)) (ts : List Int) (kvs : List (Key × V)), vs = [.ref p, .int (ts.length : Nat)] ∧ Tab C p L TL BT qs H ts kvs ∧ Cache TL H ts kvs ∧ ts.length ≤ 1000 ∧ qs.length ≤ 1000 ∧ (∀ q ∈ qs, q.2.Ok) ∧
  ∀ H' (kvs' : List (Key × V)) (S : Addr) (us : List Int), Ex (del H BT) H' → H' BT = some (.dK kvs') → Cache TL H' ts kvs' → H' S = some (.dK (KS us)) → (∀ u, u ∈ us ↔ OptVal (qs.map (·.2)) ts (ts.length : Nat) u) → Q (.ref S) H'
theorem ok_tother {f fI fS fG fO fN fT C f1 f2 f3 : Addr} {fd fdS fd1 fd2 fd3 : FuncData} (F : Fun K "other_values" "Table.other_values" s_tother f fd) (TC : TbC K mg C fI fS fG fO fN fT) (T : Bl mg)
    (F_split : Fun K "split_values" "Table.split_values" s_tsplit fS fdS) (G_split : FnOk P w K mg base CX0 1 fS fdS ["self", "total"] (spSplit C))
    (F_spans : FD K mg "spans_left" "spans_left" s_spans f1 fd1) (G_spans : FnOk P w K mg base CX0 2 f1 fd1 ["rules", "heap", "left", "least"] spSpans)
    (F_nums : FD K mg "numbers_in" "numbers_in" s_nums f2 fd2) (G_nums : FnOk P w K mg base CX0 1 f2 fd2 ["spans"] spNums)
    (F_lnone : FD K mg "leaves_none" "leaves_none" s_lnone f3 fd3) (G_lnone : FnOk P w K mg base CX0 3 f3 fd3 ["rules", "heap"] spLnone) : FnOk P w K mg base CX0 4 f fd ["self", "heap"] (spOptions C) := by
  have b_spans : Binds K fd1 ["rules", "heap", "left", "least"] [] := F_spans.F.binds fun _ _ _ _ _ _ us hl => match us, hl with | [_, _, _, _], _ => rfl
  have b_nums : Binds K fd2 ["spans"] [] := F_nums.F.binds fun _ _ _ _ _ _ us hl => match us, hl with | [_], _ => rfl
  have b_lnone : Binds K fd3 ["rules", "heap"] [] := F_lnone.F.binds fun _ _ _ _ _ _ us hl => match us, hl with | [_, _], _ => rfl
  have b_split : Binds K fdS ["self", "total"] [] := F_split.binds fun _ _ _ _ _ _ us hl => match us, hl with | [_, _], _ => rfl
  refine F.ok sc_tother (fun vs H Q E h => ?_) (fun cdv A outer s H vs Q E hr h => ?_)
  · obtain ⟨p, L, TL, BT, qs, ts, kvs, rfl, _⟩ := h
    rfl
  · obtain ⟨p, L, TL, BT, qs, ts, kvs, rfl, tab, ca, tz, qz, ok, k⟩ := h
    have nd := sc_tother.nd
    have hu : _ + 1 < cLine := Nat.lt_of_le_of_lt (Nat.add_le_add_left (by decide) _) hr.units
    have hr1 : Room 1 _ := hr.mono (by decide)
    have hr2 : Room 2 _ := hr.mono (by decide)
    have hr3 : Room 3 _ := hr.mono (by decide)
    refine ⟨_, (pss_cons (ps_set (i := 2) nd rfl (Or.inl rfl) (pe_fld (pv 0) rfl))
      (pss_cons (ps_setDc (i := 3) (own := [("left", 6)]) (g := gName 6) (tt := tYes) rfl nd rfl rfl (sw_trueD rfl rfl rfl (by decide +kernel)) (pi_list (pe_call G_nums hr1 (by rfl) F_nums.g F_nums.F.kp b_nums .nil pass0 (pa_cons (pe_call G_spans hr2 (by rfl) F_spans.g F_spans.F.kp b_spans .nil pass0 (pa_cons (pv 2) (pa_cons (pv 1) (pa_cons pe_str (pa_cons pe_int pa_nil))))) pa_nil))) (blkOk_by (N := ["self", "heap", "rules", "seen", "total", "value", "left"]) (sc := defScope s_tother) (by decide +kernel)) (fun _ _ _ _ _ => pg_name (i := 6) nd rfl (Or.inl rfl)) (fun _ _ _ _ _ => pts_nil) (fun _ _ _ _ _ => (pe_ix (r := rIx K) ix_seq (show PE _ _ (tFld K (tVar 0) "told") from pe_fld (pv 0) rfl) (pv 6) (fun _ _ => rfl))) (fun _ _ _ _ _ => pe_bl))
      (pss_cons (ps_if (pt_val (pe_call G_lnone hr3 (by rfl) F_lnone.g F_lnone.F.kp b_lnone .nil pass0 (pa_cons (pv 2) (pa_cons (pv 1) pa_nil)))) (pss_one (ps_dput hu (pv 3) pe_int pe_bl rfl)) pss_nil)
      (pss_cons (ps_for PassesOwn.never rfl (pi_list (pe_call G_nums hr1 (by rfl) F_nums.g F_nums.F.kp b_nums .nil pass0 (pa_cons (pe_call G_spans hr2 (by rfl) F_spans.g F_spans.F.kp b_spans .nil pass0 (pa_cons (pv 2) (pa_cons (pv 1) (pa_cons pe_str (pa_cons pe_int pa_nil))))) pa_nil))) (pg_name (i := 4) nd rfl (Or.inl rfl)) (pss_one (ps_for PassesOwn.never rfl (pi_list (pe_meth (pv 0) TC.cl TC.mS G_split hr1 b_split .nil pass0 (pa_cons (pv 4) pa_nil))) (pg_name (i := 5) nd rfl (Or.inl rfl)) (pss_one (ps_dput hu (pv 3) (pv 5) pe_bl rfl)))))
      (pss_one (ps_ret (pv 3))))))), ?_⟩
    obtain ⟨dx, GL, GR, bs, hp⟩ := tab.at_
    have hTL := tab.told
    have hBT := tab.by_
    obtain ⟨hL, hR⟩ := tab.rs
    generalize hn : ((ts.length : Nat) : Int) = n at k
    have hm : ∀ q ∈ qs, 0 < q.2.mod := fun q hq => by
      have := (ok q hq).rest0
      have := (ok q hq).rest1
      omega
    have lo : ∀ r ∈ qs.map (·.2), r.Ok := fun r hr => by
      obtain ⟨q, hq, rfl⟩ := List.mem_map.mp hr
      exact ok q hq
    have nums : ∀ (σ : L2.St) (H1 : Hp) (left : Str) (l : Int) (Q1 : VK), σ[2]? = some (some (.ref L)) → σ[1]? = some (some (.int n)) → RsAt H1 L qs → 0 ≤ l → (∀ B H' (ns : List Int), Ex H1 H' → H' B = some (.lst (ns.map V.int)) → ns.Pairwise (· < ·) → (∀ x, x ∈ ns ↔ ∃ r ∈ qs.map (·.2), V.str r.left = V.str left ∧ Leaves r n x ∧ l ≤ x) → Q1 (.ref B) H') →
        (tCall spNums [] E0 (tCons (tCall spSpans [] E0 (tCons (tVar 2) (tCons (tVar 1) (tCons (tC (.str left)) (tCons (tC (.int l)) tNil))))) tNil)) σ H1 Q1 := fun σ H1 left l Q1 h2 h1 hrs hl kk => by
      refine ⟨_, h2, _, h1, L, qs, n, l, left, rfl, hrs.1, hrs.2, qz, hm, fun M H' ss nM e hM hP sp => ?_⟩
      have hlen := sp.2.1
      rw [List.length_map, List.length_map] at hlen
      refine ⟨M, ss, n, rfl, hM, hP, sp.1, by omega, fun x hx => ?_, by omega, by omega, fun D H'' ns nD e' hD hpw hns => kk D H'' ns (e.trans e') hD hpw fun x => (hns x).trans (sp.2.2 x)⟩
      obtain ⟨r, hr, _, ⟨_, h5, _⟩, h6⟩ := (sp.2.2 x).mp hx
      have := (lo r hr).low0
      omega
    refine ⟨_, rfl, p, C, dx, _, _, rfl, hp, TC.cl, TC.nO, rfl, ?_⟩
    refine nums _ H "one" 1 _ rfl (by rw [← hn]; rfl) ⟨hL, hR⟩ (by decide) (fun B1 H1 ns e1 hB1 hpw hns => ?_)
    refine ⟨B1, rfl, ⟨_, SqL.of hB1⟩, fun S nS => ?_⟩
    have hns1 : ∀ x ∈ ns, 1 ≤ x ∧ x < ts.length := fun x hx => by
      obtain ⟨r, hr, h4, ⟨_, h5, _⟩, h6⟩ := (hns x).mp hx
      have z0 := (lo r hr).low0
      have z1 : r.low ≠ 0 := fun z => by
        have z2 := (lo r hr).low1 z
        rw [h4] at z2
        exact absurd z2 (by decide)
      omega
    have hnl : (ns.length : Int) ≤ n - 0 + 1 := asc_len hpw (fun x hx => by have := hns1 x hx; omega) (by omega)
    have SH : H S = none := Evl.fresh_back e1 nS
    refine it_gen (walk_list (xs := ns.map V.int)) (fun i H' => Ex H1 H' ∧ ∃ us : List Int, H' S = some (.dK (KS us)) ∧ us.length ≤ i ∧ ∀ u, u ∈ us ↔ ∃ x ∈ ns.take i, u = ts.getD x.toNat 0) ⟨Ex.new nS, [], upd_same, Nat.le_refl _, fun u => ⟨(fun z => by cases z), (fun ⟨x, hx, _⟩ => by cases hx)⟩⟩ (fun i H' _ q => SqL.of (q.1 _ _ hB1)) (fun i x H2 H3 hi q y => ?_) (fun H2 q => ?_)
    · obtain ⟨e, us, hd, hl, hus⟩ := q
      obtain ⟨eH, hx⟩ := y
      subst eH
      rw [List.getElem?_map] at hx
      cases hq : ns[i]? with
      | none => rw [hq] at hx; cases hx
      | some v =>
        rw [hq] at hx
        cases hx
        have hv := hns1 v (List.mem_of_getElem? hq)
        rw [List.length_map] at hi
        refine ⟨rfl, yes_of ?_⟩
        refine ⟨_, rfl, p, C, dx, _, _, rfl, e _ _ (e1 _ _ hp), TC.cl, TC.nT, rfl, _, rfl, ix_row (.inl (e _ _ (e1 _ _ hTL))) (at_told (by omega) (by omega)) ⟨KS us, .inl _, rfl, hd, by unfold KS; rw [List.length_map]; exact Nat.lt_of_le_of_lt (show us.length ≤ 2000 by omega) (by decide), e.mut nS, _, by rw [upd_same, put_us], Nat.le_trans ins_len (by omega), fun u => ?_⟩⟩
        rw [ins_us, hus u, List.take_add_one, hq]
        constructor
        · rintro (⟨x, hx, h⟩ | h)
          · exact ⟨x, List.mem_append_left _ hx, h⟩
          · exact ⟨v, List.mem_append_right _ (List.mem_singleton.mpr rfl), h⟩
        · rintro ⟨x, hx, h⟩
          rcases List.mem_append.mp hx with hx | hx
          · exact .inl ⟨x, hx, h⟩
          · have hx : x = v := List.mem_singleton.mp hx
            exact .inr (hx ▸ h)
    obtain ⟨e2, us1, hS2, hl1, hus1⟩ := q
    rw [List.length_map] at hl1 hus1
    rw [List.take_length] at hus1
    have e12 := e1.trans e2
    refine ⟨_, rfl, _, rfl, L, qs, n, by rw [← hn]; rfl, e12 _ _ hL, (fun q hq => e12 _ _ (hR q hq)), qz, hm, fun b H3 e3 hb => ⟨b, rfl, ?_⟩⟩
    have e13 := e12.trans e3
    have hS3 := e3 _ _ hS2
    have nSB : S ≠ BT := fun z => by
      rw [z, hBT] at SH
      cases SH
    have nST : S ≠ TL := fun z => by
      rw [z, hTL] at SH
      cases SH
    refine put_if2 rfl hS3 (Nat.lt_of_le_of_lt (show us1.length ≤ 2000 by omega) (by decide)) (fun H4 us2 e4 hS4 hl2 hus2 => ?_)
    have at4 : ∀ a o, a ≠ S → H a = some o → H4 a = some o := fun a o na ha => e4 _ _ (by unfold del; rw [if_neg na]; exact e13 _ _ ha)
    have neS : ∀ a o, H a = some o → a ≠ S := fun a o ha z => by
      rw [z, SH] at ha
      cases ha
    have g4 : ∀ a o, H a = some o → H4 a = some o := fun a o ha => at4 a o (neS a o ha) ha
    refine nums _ H4 "two" 2 _ rfl (by rw [← hn]; rfl) ⟨g4 _ _ hL, fun q hq => g4 _ _ (hR q hq)⟩ (by decide) (fun B2 H5 ns2 e5 hB2 hpw2 hns2 => ?_)
    have hns3 : ∀ x ∈ ns2, 2 ≤ x ∧ x ≤ ts.length := fun x hx => by
      obtain ⟨r, hr, h4, ⟨_, h5, _⟩, h6⟩ := (hns2 x).mp hx
      have z0 := (lo r hr).low0
      omega
    have hnl2 : (ns2.length : Int) ≤ n - 0 + 1 := asc_len hpw2 (fun x hx => by have := hns3 x hx; omega) (by omega)
    have g5 : ∀ a o, H a = some o → H5 a = some o := fun a o ha => e5 _ _ (g4 a o ha)
    have hS5 := e5 _ _ hS4
    have hBT5 := g5 _ _ hBT
    have B2S : B2 ≠ S := fun z => by
      rw [z, hS5] at hB2
      cases hB2
    have B2B : B2 ≠ BT := fun z => by
      rw [z, hBT5] at hB2
      cases hB2
    have inR : ∀ a o, a ≠ S → a ≠ BT → H5 a = some o → del (del H5 S) BT a = some o := fun a o n1 n2 ha => by
      unfold del
      rw [if_neg n2, if_neg n1]
      exact ha
    have RB : del (del H5 S) BT BT = none := by unfold del; rw [if_pos rfl]
    have RS : del (del H5 S) BT S = none := by unfold del; rw [if_neg nSB, if_pos rfl]
    have R5 : Ex (del (del H5 S) BT) H5 := fun b o e => by
      unfold del at e
      split at e
      · cases e
      · split at e
        · cases e
        · exact e
    have ca5 : Cache TL H5 ts kvs := ca.frame fun b l _ hb => g5 _ _ hb
    generalize hR2 : del (del H5 S) BT = R at inR RB RS R5
    have neB : ∀ a l, H a = some (.lst l) → a ≠ BT := fun a l ha z => by
      rw [z, hBT] at ha
      cases ha
    have npB : p ≠ BT := fun z => by
      rw [z, hBT] at hp
      cases hp
    have Rp := inR _ _ (neS _ _ hp) npB (g5 _ _ hp)
    have RL := inR _ _ (neS _ _ hL) (neB _ _ hL) (g5 _ _ hL)
    have RT := inR _ _ (neS _ _ hTL) (neB _ _ hTL) (g5 _ _ hTL)
    have RB2 := inR _ _ B2S B2B hB2
    have Rq : ∀ q ∈ qs, R q.1 = some (.tup q.2.vs) := fun q hq => by
      have z := hR q hq
      refine inR _ _ (neS _ _ z) (fun w => ?_) (g5 _ _ z)
      rw [w, hBT] at z
      cases z
    have HR : Ex (del H BT) R := fun a o ha => by
      unfold del at ha
      split at ha
      · cases ha
      · rename_i c
        exact inR a o (neS a o ha) c (g5 a o ha)
    clear hR2
    refine ⟨B2, rfl, ⟨_, SqL.of hB2⟩, for_list (K := K) (a := B2) (xs := ns2.map V.int) (fun i σ H' => ∃ (us : List Int) (kv' : List (Key × V)) (v4 v5 : Option V), σ = [some (.ref p), some (.int n), some (.ref L), some (.ref S), v4, v5, none] ∧ Ex R H' ∧ H' BT = some (.dK kv') ∧ Cache TL H' ts kv' ∧ H' S = some (.dK (KS us)) ∧ us.length ≤ 2002 + 1000 * i ∧ ∀ u, u ∈ us ↔ u ∈ us2 ∨ ∃ x ∈ ns2.take i, Splits ts x u)
      ⟨us2, kvs, none, none, by rw [← hn]; rfl, R5, hBT5, ca5, hS5, by omega, fun u => ⟨.inl, fun z => z.elim id fun ⟨x, hx, _⟩ => by cases hx⟩⟩ (fun i σ H' _ q => ?_) (fun i x σ H' hx q => ?_) (fun σ H' q => ?_)⟩
    · obtain ⟨us, kv', v4, v5, rfl, e, _⟩ := q
      exact SqL.of (e _ _ RB2)
    · obtain ⟨us, kv', v4, v5, rfl, e, hB', c', hS', hl', hus'⟩ := q
      rw [List.getElem?_map] at hx
      cases hq : ns2[i]? with
      | none => rw [hq] at hx; cases hx
      | some t =>
        rw [hq] at hx
        cases hx
        have ht := hns3 t (List.mem_of_getElem? hq)
        have hi : i < ns2.length := (List.getElem?_eq_some_iff.mp hq).1
        refine ⟨_, rfl, p, dx, _, rfl, e _ _ Rp, rfl, _, rfl, p, L, TL, BT, qs, ts, kv', t, rfl, ⟨⟨dx, GL, GR, bs, e _ _ Rp⟩, ⟨e _ _ RL, fun q hq => e _ _ (Rq q hq)⟩, e _ _ RT, hB'⟩, c', by omega, by omega, tz, fun H6 kv6 b usb e6 hB6 c6 hb nb lb hsb => ?_⟩
        have hS6 : H6 S = some (.dK (KS us)) := e6 _ _ (by unfold del; rw [if_neg nSB]; exact hS')
        have eR6 : Ex R H6 := (ex_del e RB).trans e6
        have nbS : b ≠ S := fun z => by
          rw [z, hS6] at hb
          cases hb
        have DS : del H6 S S = none := by unfold del; rw [if_pos rfl]
        have D6 : Ex (del H6 S) H6 := fun b o e => by
          unfold del at e
          split at e
          · cases e
          · exact e
        have in6 : ∀ a o, a ≠ S → H6 a = some o → del H6 S a = some o := fun a o n1 ha => by
          unfold del
          rw [if_neg n1]
          exact ha
        refine ⟨b, rfl, ⟨_, SqL.of hb⟩, for_list (K := K) (a := b) (xs := usb.map V.int) (fun j σ H' => ∃ (us' : List Int) (v5 : Option V), σ = [some (.ref p), some (.int n), some (.ref L), some (.ref S), some (.int t), v5, none] ∧ Ex (del H6 S) H' ∧ H' S = some (.dK (KS us')) ∧ us'.length ≤ us.length + j ∧ ∀ u, u ∈ us' ↔ u ∈ us ∨ u ∈ usb.take j)
          ⟨us, v5, rfl, D6, hS6, Nat.le_refl _, fun u => ⟨.inl, fun z => z.elim id fun h => by cases h⟩⟩ (fun j σ H' _ q => ?_) (fun j x σ H' hx q => ?_) (fun σ H' q => ?_)⟩
        · obtain ⟨us', v5, rfl, e7, _⟩ := q
          exact SqL.of (e7 _ _ (in6 _ _ nbS hb))
        · obtain ⟨us', v5', rfl, e7, hS7, hl7, hus7⟩ := q
          rw [List.getElem?_map] at hx
          cases hq2 : usb[j]? with
          | none => rw [hq2] at hx; cases hx
          | some v =>
            rw [hq2] at hx
            cases hx
            have hj : j < usb.length := (List.getElem?_eq_some_iff.mp hq2).1
            refine ⟨_, rfl, _, rfl, S, _, rfl, DPut.k (k := (.inl v : Key)) hS7 (by unfold KS; rw [List.length_map]; exact Nat.lt_of_le_of_lt (show us'.length ≤ 2000000 by omega) (by decide)), ?_⟩
            rw [put_us]
            refine ⟨_, _, rfl, e7.mut DS, upd_same, Nat.le_trans ins_len (by omega), fun u => ?_⟩
            rw [ins_us, hus7 u, List.take_add_one, hq2, List.mem_append]
            exact ⟨fun h => h.elim (fun h => h.imp id .inl) fun h => .inr (.inr (List.mem_singleton.mpr h)), fun h => h.elim (fun h => .inl (.inl h)) fun h => h.elim (fun h => .inl (.inr h)) fun h => .inr (List.mem_singleton.mp h)⟩
        · obtain ⟨us', v5', rfl, e7, hS7, hl7, hus7⟩ := q
          rw [List.length_map] at hl7 hus7
          rw [List.take_length] at hus7
          refine ⟨us', kv6, _, _, rfl, (ex_del eR6 RS).trans e7, e7 _ _ (in6 _ _ nSB.symm hB6), c6.frame (fun b l _ hb' => e7 _ _ (in6 _ _ (fun z => by
            rw [z, hS6] at hb'
            cases hb') hb')), hS7, by omega, fun u => ?_⟩
          rw [hus7 u, hus' u, hsb u, List.take_add_one, hq]
          constructor
          · rintro ((h | ⟨x, hx, h⟩) | h)
            · exact .inl h
            · exact .inr ⟨x, List.mem_append_left _ hx, h⟩
            · exact .inr ⟨t, List.mem_append_right _ (List.mem_singleton.mpr rfl), h⟩
          · rintro (h | ⟨x, hx, h⟩)
            · exact .inl (.inl h)
            · rcases List.mem_append.mp hx with hx | hx
              · exact .inl (.inr ⟨x, hx, h⟩)
              · have hx : x = t := List.mem_singleton.mp hx
                exact .inr (hx ▸ h)
    · obtain ⟨us, kv', v4, v5, rfl, e, hB', c', hS', hl', hus'⟩ := q
      rw [List.length_map, List.take_length] at hus'
      refine ⟨_, rfl, k H' kv' S us (HR.trans e) hB' c' hS' fun u => ?_⟩
      rw [hus' u, hus2 u, hus1 u]
      unfold OptVal
      constructor
      · rintro ((⟨x, hx, h⟩ | ⟨hbt, h⟩) | ⟨x, hx, h⟩)
        · exact .inl ⟨x, (hns x).mp hx, h⟩
        · exact .inr (.inl ⟨hb.mp hbt, h⟩)
        · exact .inr (.inr ⟨x, (hns2 x).mp hx, h⟩)
      · rintro (⟨x, hx, h⟩ | ⟨hbt, h⟩ | ⟨x, hx, h⟩)
        · exact .inl (.inl ⟨x, (hns x).mpr hx, h⟩)
        · exact .inl (.inr ⟨hb.mpr hbt, h⟩)
        · exact .inr ⟨x, (hns2 x).mpr hx, h⟩
end
end Ts


set_option Elab.async false
set_option linter.all false
set_option maxRecDepth 100000
set_option maxHeartbeats 4000000
namespace Ts
open PySem PySem.Spec L2
open Evl (Ex)
/-- the least number that is none of these -/
structure IsMex (S : Int → Prop) (m : Int) : Prop where
  pos : 0 ≤ m
  no : ¬ S m
  all : ∀ j, 0 ≤ j → j < m → S j
theorem IsMex.uniq {S S' : Int → Prop} {m m' : Int} (h : IsMex S m) (h' : IsMex S' m') (e : ∀ u, S u ↔ S' u) : m = m' := by
  have h1 : ¬ m < m' := fun z => h.no ((e m).mpr (h'.all m h.pos z))
  have h2 : ¬ m' < m := fun z => h'.no ((e m').mp (h.all m' h'.pos z))
  omega
theorem valV_KS {us : List Int} {u : Int} : (valV (KS us) (.inl u)).isSome = decide (u ∈ us) := by
  rw [← valV_any, KS_any]
theorem mex_ex (us : List Int) : ∃ m : Nat, IsMex (· ∈ us) (m : Int) := by
  obtain ⟨m, hm, hlt⟩ := least_ex (p := fun m : Nat => valV (KS us) (.inl (m : Int)) = none) (no_key (KS us))
  refine ⟨m, by omega, fun z => ?_, fun j h0 h1 => ?_⟩
  · have := valV_KS (us := us) (u := (m : Int))
    rw [hm, decide_eq_true z] at this
    cases this
  · obtain ⟨j', rfl⟩ := Int.eq_ofNat_of_zero_le h0
    have q := hlt j' (by omega)
    have := valV_KS (us := us) (u := (j' : Int))
    cases e : valV (KS us) (.inl (j' : Int)) with
    | none => exact absurd e q
    | some v =>
      rw [e] at this
      exact of_decide_eq_true this.symm
/-- what a growing rule leaves of a heap and did not leave of the one ahead -/
def StepV (ts : List Int) (n : Int) (r : Rl) (u : Int) : Prop := (V.str r.left = V.str "none" ∧ r.low ≤ n ∧ u = 0) ∨ (V.str r.left = V.str "one" ∧ r.low < n ∧ u = ts.getD (n - r.low).toNat 0)
structure Grw (r : Rl) : Prop where
  ok : r.Ok
  hi : r.high = none
theorem Grw.leaves {r : Rl} (g : Grw r) {n x : Int} : Leaves r n x ↔ r.low ≤ n - x := by
  obtain ⟨h1, h2⟩ := g.ok.grow g.hi
  have h3 := g.ok.rest0
  have h4 := g.ok.rest1
  unfold Leaves
  rw [h1, g.hi]
  refine ⟨fun z => z.2.1, fun z => ⟨by omega, z, fun h e => by cases e⟩⟩
theorem Grw.low {r : Rl} (g : Grw r) : 1 ≤ r.low := by
  obtain ⟨h1, h2⟩ := g.ok.grow g.hi
  have h3 := g.ok.low0
  have h4 : r.low ≠ 0 := fun z => h2 (g.ok.low1 z)
  omega
theorem grow_step {gs : List Rl} (g : ∀ r ∈ gs, Grw r) {ts : List Int} {n u : Int} : OptVal gs ts n u ↔ OptVal gs ts (n - 1) u ∨ ∃ r ∈ gs, StepV ts n r u := by
  unfold OptVal StepV
  constructor
  · rintro (⟨x, ⟨r, hr, h1, h2, h3⟩, h4⟩ | ⟨⟨r, hr, h1, h2⟩, h3⟩ | ⟨x, ⟨r, hr, h1, h2, h3⟩, _⟩)
    · have h2 := (g r hr).leaves.mp h2
      by_cases c : x = n - r.low
      · exact .inr ⟨r, hr, .inr ⟨h1, by omega, by rw [← c]; exact h4⟩⟩
      · exact .inl (.inl ⟨x, ⟨r, hr, h1, (g r hr).leaves.mpr (by omega), h3⟩, h4⟩)
    · have h2 := (g r hr).leaves.mp h2
      exact .inr ⟨r, hr, .inl ⟨h1, by omega, h3⟩⟩
    · exact absurd h1 ((g r hr).ok.grow (g r hr).hi).2
  · rintro ((⟨x, ⟨r, hr, h1, h2, h3⟩, h4⟩ | ⟨⟨r, hr, h1, h2⟩, h3⟩ | ⟨x, ⟨r, hr, h1, h2, h3⟩, _⟩) | ⟨r, hr, (⟨h1, h2, h3⟩ | ⟨h1, h2, h3⟩)⟩)
    · have h2 := (g r hr).leaves.mp h2
      exact .inl ⟨x, ⟨r, hr, h1, (g r hr).leaves.mpr (by omega), h3⟩, h4⟩
    · have h2 := (g r hr).leaves.mp h2
      exact .inr (.inl ⟨⟨r, hr, h1, (g r hr).leaves.mpr (by omega)⟩, h3⟩)
    · exact absurd h1 ((g r hr).ok.grow (g r hr).hi).2
    · exact .inr (.inl ⟨⟨r, hr, h1, (g r hr).leaves.mpr (by omega)⟩, h3⟩)
    · exact .inl ⟨n - r.low, ⟨r, hr, h1, (g r hr).leaves.mpr (by omega), by omega⟩, h3⟩
section
variable {P : Program} {w : World} {K : PySem.W.Frag} {mg : Str → Option Value} {base : Heap}
def spGrow (C : Addr) : Sp := fun vs H Q _ => ∃ (p dx GL OL TL BT GR : Addr) (gs : List (Addr × Rl)) (ts gk : List Int) (bs : Int), vs = [.ref p, .int (ts.length : Nat)] ∧ H p = some (.ins C dx (tbF GL OL TL BT GR bs)) ∧ RsAt H GL gs ∧ H TL = some (.lst (ts.map V.int)) ∧ H GR = some (.dK (KS gk)) ∧
  1 ≤ ts.length ∧ ts.length ≤ 1000 ∧ gs.length ≤ 1000 ∧ (∀ q ∈ gs, Grw q.2) ∧ gk.length ≤ 1000 * ts.length ∧ (∀ u, u ∈ gk ↔ OptVal (gs.map (·.2)) ts ((ts.length : Nat) - 1) u) ∧ 0 ≤ bs ∧ (∀ j, 0 ≤ j → j < bs → j ∈ gk) ∧
  ∀ H' (gk' : List Int) (bs' : Int), Ex (del (del H p) GR) H' → H' p = some (.ins C dx (tbF GL OL TL BT GR bs')) → H' GR = some (.dK (KS gk')) → gk'.length ≤ 1000 * (ts.length + 1) → (∀ u, u ∈ gk' ↔ OptVal (gs.map (·.2)) ts (ts.length : Nat) u) → IsMex (· ∈ gk') bs' → Q .non H'
theorem ok_tgrow {f fI fS fG fO fN fT C : Addr} {fd : FuncData} (F : Fun K "grow_to" "Table.grow_to" s_tgrow f fd) (TC : TbC K mg C fI fS fG fO fN fT) (T : Bl mg) : FnOk P w K mg base CX0 1 f fd ["self", "heap"] (spGrow C) := by
  refine F.ok sc_tgrow (fun vs H Q E h => ?_) (fun cdv A outer s H vs Q E hr h => ?_)
  · obtain ⟨p, dx, GL, OL, TL, BT, GR, gs, ts, gk, bs, rfl, _⟩ := h
    rfl
  · obtain ⟨p, dx, GL, OL, TL, BT, GR, gs, ts, gk, bs, rfl, hp, hG, hTL, hGR, t1, tz, gz, gok, gkl, hgk, b0, hb, k⟩ := h
    have nd := sc_tgrow.nd
    have hu : _ + 1 < cLine := Nat.lt_of_le_of_lt (Nat.add_le_add_left (by decide) _) hr.units
    refine ⟨_, (pss_cons (ps_for PassesOwn.never rfl (pi_list (pe_fld (pv 0) rfl)) (pg_tup rfl (pgs_cons (pg_name (i := 2) nd rfl (Or.inl rfl)) (pgs_cons (pg_name (i := 3) nd rfl (Or.inl rfl)) (pgs_cons (pg_name (i := 4) nd rfl (Or.inl rfl)) (pgs_cons (pg_name (i := 3) nd rfl (Or.inl rfl)) (pgs_cons (pg_name (i := 3) nd rfl (Or.inl rfl)) pgs_nil)))))) (pss_cons (ps_if (PW.pt (pw_and (pt_cmpR op_eq (pv 4) pe_str (nomark _)) (pw_and1 (pt_cmpR op_ge (pv 1) (pv 2) (nomark _))))) (pss_one (ps_dput hu (pe_fld (pv 0) rfl) pe_int pe_bl rfl)) pss_nil)
      (pss_one (ps_if (PW.pt (pw_and (pt_cmpR op_eq (pv 4) pe_str (nomark _)) (pw_and1 (pt_cmpR op_gt (pv 1) (pv 2) (nomark _))))) (pss_one (ps_dput hu (pe_fld (pv 0) rfl) (pe_ix ix_seq (pe_fld (pv 0) rfl) (pe_op op_sub (pv 1) (pv 2)) (fun _ _ => rfl)) pe_bl rfl)) pss_nil))))
      (pss_one (ps_while PassesOwn.never (pt_cmp (pc_din hu (pe_fld (pv 0) rfl) (pe_fld (pv 0) rfl))) (pss_one (ps_fldaug (pv 0) pe_int in_add))))), ?_⟩
    generalize hn : ((ts.length : Nat) : Int) = n at hgk k
    have npG : p ≠ GR := fun z => by
      rw [z, hGR] at hp
      cases hp
    have nTp : TL ≠ p := fun z => by
      rw [z, hp] at hTL
      cases hTL
    have nTG : TL ≠ GR := fun z => by
      rw [z, hGR] at hTL
      cases hTL
    have R0 : Ex (del (del H p) GR) H := fun b o e => by
      unfold del at e
      split at e
      · cases e
      · split at e
        · cases e
        · exact e
    have inR : ∀ a o, a ≠ p → a ≠ GR → H a = some o → del (del H p) GR a = some o := fun a o n1 n2 ha => by
      unfold del
      rw [if_neg n2, if_neg n1]
      exact ha
    have RG : del (del H p) GR GR = none := by unfold del; rw [if_pos rfl]
    have Rp : del (del H p) GR p = none := by unfold del; rw [if_neg npG, if_pos rfl]
    have RT := inR _ _ nTp nTG hTL
    have nLp : GL ≠ p := fun z => by
      have w := hG.1
      rw [z, hp] at w
      cases w
    have nLG : GL ≠ GR := fun z => by
      have w := hG.1
      rw [z, hGR] at w
      cases w
    have RL := inR _ _ nLp nLG hG.1
    have Rq : ∀ q ∈ gs, del (del H p) GR q.1 = some (.tup q.2.vs) := fun q hq => by
      have z := hG.2 q hq
      refine inR _ _ (fun w => ?_) (fun w => ?_) z
      · rw [w, hp] at z
        cases z
      · rw [w, hGR] at z
        cases z
    generalize del (del H p) GR = R at *
    refine ⟨_, rfl, p, C, dx, _, _, rfl, hp, TC.cl, TC.nG, rfl, ?_⟩
    refine ⟨GL, rfl, ⟨_, SqL.of hG.1⟩, for_list (K := K) (a := GL) (xs := gs.map fun q => V.ref q.1) (fun i σ H' => ∃ (us : List Int) (v2 v3 v4 : Option V), σ = [some (.ref p), some (.int n), v2, v3, v4] ∧ Ex R H' ∧ H' p = some (.ins C dx (tbF GL OL TL BT GR bs)) ∧ H' GR = some (.dK (KS us)) ∧ us.length ≤ 1000 * ts.length + i ∧ ∀ u, u ∈ us ↔ OptVal (gs.map (·.2)) ts (n - 1) u ∨ ∃ q ∈ gs.take i, StepV ts n q.2 u)
      ⟨gk, none, none, none, by rw [← hn]; rfl, R0, hp, hGR, by omega, fun u => (hgk u).trans ⟨.inl, fun z => z.elim id fun ⟨q, hq, _⟩ => by cases hq⟩⟩ (fun i σ H' _ q => ?_) (fun i x σ H' hx q => ?_) (fun σ H' q => ?_)⟩
    · obtain ⟨us, v2, v3, v4, _, e, _⟩ := q
      exact SqL.of (e _ _ RL)
    · obtain ⟨us, v2, v3, v4, rfl, e, hp1, hG1, hl, hus⟩ := q
      rw [List.getElem?_map] at hx
      cases hq : gs[i]? with
      | none => rw [hq] at hx; cases hx
      | some q =>
        rw [hq] at hx
        cases hx
        have mq := List.mem_of_getElem? hq
        have gq := gok q mq
        have lowq := gq.low
        have hi : i < gs.length := (List.getElem?_eq_some_iff.mp hq).1
        have et : gs.take (i + 1) = gs.take i ++ [q] := by rw [List.take_add_one, hq]; rfl
        refine ⟨q.1, _, rfl, SqT.of (e _ _ (Rq q mq)), rfl, _, _, rfl, _, _, rfl, _, _, rfl, _, _, rfl, _, _, rfl, rfl, ?_⟩
        have ext : ∀ us' : List Int, (∀ u, u ∈ us' ↔ u ∈ us ∨ StepV ts n q.2 u) → ∀ u, u ∈ us' ↔ OptVal (gs.map (·.2)) ts (n - 1) u ∨ ∃ q ∈ gs.take (i + 1), StepV ts n q.2 u := fun us' h u => by
          rw [h u, hus u, et]
          constructor
          · rintro ((z | ⟨q', hq', z⟩) | z)
            · exact .inl z
            · exact .inr ⟨q', List.mem_append_left _ hq', z⟩
            · exact .inr ⟨q, List.mem_append_right _ (List.mem_singleton.mpr rfl), z⟩
          · rintro (z | ⟨q', hq', z⟩)
            · exact .inl (.inl z)
            · rcases List.mem_append.mp hq' with y | y
              · exact .inl (.inr ⟨q', y, z⟩)
              · rw [List.mem_singleton] at y
                rw [y] at z
                exact .inr z
        have szu : (KS us).length < sizeLine := by
          unfold KS
          rw [List.length_map]
          exact Nat.lt_of_le_of_lt (show us.length ≤ 2000000 by omega) (by decide)
        have eR : ∀ o, Ex R (upd H' GR o) := fun o => e.mut RG
        have pk : ∀ o, upd H' GR o p = some (.ins C dx (tbF GL OL TL BT GR bs)) := fun o => (upd_ne npG).trans hp1
        dsimp only
        refine seq1 ?_
        refine ⟨_, rfl, rfl, _, rfl, ?_⟩
        by_cases a1 : V.str q.2.left = V.str "none"
        · have a2 : ¬ V.str q.2.left = V.str "one" := fun z => by
            rw [a1] at z
            exact absurd z (by decide)
          refine ite_tt (decide_eq_true a1) ⟨_, rfl, _, rfl, _, _, rfl, rfl, _, rfl, ?_⟩
          by_cases c : q.2.low ≤ n
          · refine ite_tt (decide_eq_true c) ⟨_, rfl, p, C, dx, _, _, rfl, hp1, TC.cl, TC.nW, rfl, GR, _, rfl, DPut.k (k := (.inl 0 : Key)) hG1 szu, ?_⟩
            rw [put_us]
            refine ⟨_, rfl, rfl, _, rfl, ite_ff (decide_eq_false a2) ⟨_, _, _, _, rfl, eR _, pk _, upd_same, ?_, ext _ fun u => ?_⟩⟩
            · have := ins_len (us := us) (v := 0)
              omega
            · rw [ins_us]
              exact ⟨fun z => z.imp id fun z => .inl ⟨a1, c, z⟩, fun z => z.imp id fun z => z.elim (fun z => z.2.2) fun z => absurd z.1 a2⟩
          · refine ite_ff (decide_eq_false c) ⟨_, rfl, rfl, _, rfl, ite_ff (decide_eq_false a2) ⟨us, _, _, _, rfl, e, hp1, hG1, by omega, ext _ fun u => ?_⟩⟩
            exact ⟨.inl, fun z => z.elim id fun z => z.elim (fun z => absurd z.2.1 c) fun z => absurd z.1 a2⟩
        · refine ite_ff (decide_eq_false a1) ⟨_, rfl, rfl, _, rfl, ?_⟩
          by_cases a2 : V.str q.2.left = V.str "one"
          · refine ite_tt (decide_eq_true a2) ⟨_, rfl, _, rfl, _, _, rfl, rfl, _, rfl, ?_⟩
            by_cases c : q.2.low < n
            · refine ite_tt (decide_eq_true c) ⟨_, rfl, p, C, dx, _, _, rfl, hp1, TC.cl, TC.nW, rfl, _, rfl, p, C, dx, _, _, rfl, hp1, TC.cl, TC.nT, rfl, _, rfl, _, rfl, _, _, rfl, rfl, ix_row (.inl (e _ _ RT)) (at_told (by omega) (by omega)) ⟨GR, _, rfl, DPut.k (k := (.inl (ts.getD (n - q.2.low).toNat 0) : Key)) hG1 szu, ?_⟩⟩
              rw [put_us]
              refine ⟨_, _, _, _, rfl, eR _, pk _, upd_same, ?_, ext _ fun u => ?_⟩
              · have := ins_len (us := us) (v := ts.getD (n - q.2.low).toNat 0)
                omega
              · rw [ins_us]
                exact ⟨fun z => z.imp id fun z => .inr ⟨a2, c, z⟩, fun z => z.imp id fun z => z.elim (fun z => absurd z.1 a1) fun z => z.2.2⟩
            · refine ite_ff (decide_eq_false c) ⟨us, _, _, _, rfl, e, hp1, hG1, by omega, ext _ fun u => ?_⟩
              exact ⟨.inl, fun z => z.elim id fun z => z.elim (fun z => absurd z.1 a1) fun z => absurd z.2.1 c⟩
          · refine ite_ff (decide_eq_false a2) ⟨us, _, _, _, rfl, e, hp1, hG1, by omega, ext _ fun u => ?_⟩
            exact ⟨.inl, fun z => z.elim id fun z => z.elim (fun z => absurd z.1 a1) fun z => absurd z.1 a2⟩
    · obtain ⟨us, v2, v3, v4, rfl, e, hp1, hG1, hl, hus⟩ := q
      rw [List.length_map] at hl hus
      rw [List.take_length] at hus
      have gall : ∀ r ∈ gs.map (·.2), Grw r := fun r hr => by
        obtain ⟨q, hq, rfl⟩ := List.mem_map.mp hr
        exact gok q hq
      have hus' : ∀ u, u ∈ us ↔ OptVal (gs.map (·.2)) ts n u := fun u => by
        rw [hus u, grow_step gall (n := n)]
        exact or_congr Iff.rfl ⟨fun ⟨q, hq, z⟩ => ⟨q.2, List.mem_map.mpr ⟨q, hq, rfl⟩, z⟩, fun ⟨r, hr, z⟩ => by
          obtain ⟨q, hq, rfl⟩ := List.mem_map.mp hr
          exact ⟨q, hq, z⟩⟩
      have old : ∀ u, u ∈ gk → u ∈ us := fun u h => (hus u).mpr (.inl ((hgk u).mp h))
      obtain ⟨m, mx⟩ := mex_ex us
      have bm : bs ≤ m := Int.not_lt.mp fun z => mx.no (old _ (hb m (by omega) z))
      dsimp only
      refine while_by (fun σ H' => ∃ j : Nat, (j : Int) ≤ m ∧ σ = [some (.ref p), some (.int n), v2, v3, v4] ∧ Ex R H' ∧ H' p = some (.ins C dx (tbF GL OL TL BT GR (j : Int))) ∧ H' GR = some (.dK (KS us))) (fun σ H' => match H' p with | some (.ins _ _ [_, _, _, _, _, (_, .int j)]) => m - j.toNat | _ => 0)
        ⟨bs.toNat, by omega, rfl, e, by rw [Int.toNat_of_nonneg b0]; exact hp1, hG1⟩ (fun σ H1 q => ?_) (fun σ H1 q q' hq h => ?_)
      · obtain ⟨j, hj, rfl, e1, hp2, hG2⟩ := q
        refine ⟨_, rfl, p, C, dx, _, _, rfl, hp2, TC.cl, TC.nE, rfl, _, rfl, p, C, dx, _, _, rfl, hp2, TC.cl, TC.nW, rfl, GR, _, rfl, DGet.k (k := .inl (j : Int)) hG2, _, rfl, ?_⟩
        rw [valV_KS]
        by_cases c : (j : Int) ∈ us
        · refine ite_tt (decide_eq_true c) ⟨_, rfl, p, C, dx, _, _, rfl, hp2, TC.cl, TC.nE, rfl, _, _, rfl, rfl, dx, _, hp2, by show 6 < 1000; decide, ?_⟩
          have jm : j < m := by
            have : ¬ (j : Int) = m := fun z => mx.no (by rw [← z]; exact c)
            omega
          refine ⟨⟨j + 1, by omega, rfl, e1.mut Rp, upd_same, (upd_ne npG.symm).trans hG2⟩, ?_⟩
          rw [upd_same, hp2]
          show m - ((j : Int) + 1).toNat < m - (j : Int).toNat
          omega
        · have jm : (j : Int) = m := by
            by_cases z : (j : Int) = m
            · exact z
            · exact absurd (mx.all j (by omega) (by omega)) c
          refine ite_ff (decide_eq_false c) ?_
          refine k H1 us m (e1) (by rw [← jm]; exact hp2) hG2 (by omega) hus' mx
      · obtain ⟨v, h1, a1, a2, a3, a4, a5, a6, a7, a8, a9, a10, v', h2, b1, b2, b3, b4, b5, b6, b7, b8, b9, b10, x1, x2, x3, x4, bb, h5, h6⟩ := h
        exact ⟨v, h1, a1, a2, a3, a4, a5, a6, a7, a8, a9, a10, v', h2, b1, b2, b3, b4, b5, b6, b7, b8, b9, b10, x1, x2, x3, x4, bb, h5, hq _ _ h6⟩
end
end Ts


set_option Elab.async false
set_option linter.all false
set_option maxRecDepth 100000
set_option maxHeartbeats 4000000
namespace Ts
open PySem PySem.Spec L2
open Evl (Ex)
/-- values by the plain rule -/
structure Right (rs : List Rl) (ts : List Int) : Prop where
  pos : 0 < ts.length
  zero : ts.getD 0 0 = 0
  all : ∀ n : Nat, 1 ≤ n → n < ts.length → IsMex (OptVal rs (ts.take n) (n : Nat)) (ts.getD n 0)
theorem getD_app {ts : List Int} {m : Int} {i : Nat} (h : i < ts.length) : (ts ++ [m]).getD i 0 = ts.getD i 0 := by
  rw [List.getD_eq_getElem?_getD, List.getD_eq_getElem?_getD, List.getElem?_append_left h]
theorem getD_last {ts : List Int} {m : Int} : (ts ++ [m]).getD ts.length 0 = m := by
  rw [List.getD_eq_getElem?_getD, List.getElem?_append_right (Nat.le_refl _), Nat.sub_self]
  rfl
theorem Right.one (rs : List Rl) : Right rs [0] := ⟨by decide, rfl, fun n h1 h2 => by
  have h2 : n < 1 := h2
  omega⟩
theorem Right.add {rs : List Rl} {ts : List Int} {m : Int} (h : Right rs ts) (hm : IsMex (OptVal rs ts (ts.length : Nat)) m) : Right rs (ts ++ [m]) := by
  have hp := h.pos
  refine ⟨by rw [List.length_append]; exact Nat.lt_of_lt_of_le hp (Nat.le_add_right _ _), by rw [getD_app hp]; exact h.zero, fun n h1 h2 => ?_⟩
  have h2 : n < ts.length + 1 := by
    rw [List.length_append] at h2
    exact h2
  by_cases c : n < ts.length
  · rw [List.take_append_of_le_length (Nat.le_of_lt c), getD_app c]
    exact h.all n h1 c
  · obtain rfl : n = ts.length := by omega
    rw [List.take_left', getD_last]
    · exact hm
    · rfl
/-- there are no two such lists -/
theorem Right.uniq {rs : List Rl} {ts ts' : List Int} (h : Right rs ts) (h' : Right rs ts') (e : ts.length = ts'.length) : ts = ts' := by
  have z : ∀ n : Nat, n ≤ ts.length → ts.take n = ts'.take n := by
    intro n
    induction n with
    | zero => intro _; rw [List.take_zero, List.take_zero]
    | succ n ih =>
      intro hn
      have e1 := ih (by omega)
      have e2 : ts.getD n 0 = ts'.getD n 0 := by
        by_cases c : n = 0
        · subst c
          rw [h.zero, h'.zero]
        · have a := h.all n (by omega) (by omega)
          have b := h'.all n (by omega) (by omega)
          rw [e1] at a
          exact a.uniq b fun u => Iff.rfl
      have l1 : n < ts.length := by omega
      have l2 : n < ts'.length := by omega
      rw [List.take_add_one, List.take_add_one, e1, List.getElem?_eq_getElem l1, List.getElem?_eq_getElem l2]
      rw [List.getD_eq_getElem?_getD, List.getD_eq_getElem?_getD, List.getElem?_eq_getElem l1, List.getElem?_eq_getElem l2] at e2
      have e3 : ts[n] = ts'[n] := e2
      rw [e3]
  have := z ts.length (Nat.le_refl _)
  rw [List.take_length, e, List.take_length] at this
  exact this
theorem Splits.app {ts : List Int} {m t u : Int} (h : t ≤ ts.length) : Splits (ts ++ [m]) t u ↔ Splits ts t u := by
  unfold Splits
  have z : ∀ a : Int, 1 ≤ a → a ≤ t / 2 → (ts ++ [m]).getD a.toNat 0 = ts.getD a.toNat 0 ∧ (ts ++ [m]).getD (t - a).toNat 0 = ts.getD (t - a).toNat 0 := fun a h1 h2 => ⟨getD_app (by omega), getD_app (by omega)⟩
  constructor
  · rintro ⟨a, h1, h2, h3⟩
    obtain ⟨z1, z2⟩ := z a h1 h2
    exact ⟨a, h1, h2, by rw [h3, z1, z2]⟩
  · rintro ⟨a, h1, h2, h3⟩
    obtain ⟨z1, z2⟩ := z a h1 h2
    exact ⟨a, h1, h2, by rw [h3, z1, z2]⟩
theorem Cache.app {TL : Addr} {H : Hp} {ts : List Int} {m : Int} {kvs : List (Key × V)} (c : Cache TL H ts kvs) : Cache TL H (ts ++ [m]) kvs := ⟨c.nd, fun kv hkv => by
  obtain ⟨t, b, us, e, a1, a2, a3, a4, a5, a6⟩ := c.all kv hkv
  exact ⟨t, b, us, e, a1, by rw [List.length_append]; show t ≤ ((ts.length + 1 : Nat) : Int); omega, a3, a4, a5, fun u => (a6 u).trans (Splits.app a2).symm⟩⟩
theorem OptVal.or {rs gs os : List Rl} (h : ∀ r, r ∈ rs ↔ r ∈ gs ∨ r ∈ os) {ts : List Int} {n u : Int} : OptVal rs ts n u ↔ OptVal gs ts n u ∨ OptVal os ts n u := by
  have z : ∀ p : Rl → Prop, (∃ r ∈ rs, p r) ↔ (∃ r ∈ gs, p r) ∨ ∃ r ∈ os, p r := fun p => ⟨fun ⟨r, hr, w⟩ => ((h r).mp hr).imp (fun y => ⟨r, y, w⟩) fun y => ⟨r, y, w⟩, fun y => y.elim (fun ⟨r, hr, w⟩ => ⟨r, (h r).mpr (.inl hr), w⟩) fun ⟨r, hr, w⟩ => ⟨r, (h r).mpr (.inr hr), w⟩⟩
  unfold OptVal
  constructor
  · rintro (⟨x, a, b⟩ | ⟨a, b⟩ | ⟨x, a, b⟩)
    · exact ((z _).mp a).imp (fun y => .inl ⟨x, y, b⟩) fun y => .inl ⟨x, y, b⟩
    · exact ((z _).mp a).imp (fun y => .inr (.inl ⟨y, b⟩)) fun y => .inr (.inl ⟨y, b⟩)
    · exact ((z _).mp a).imp (fun y => .inr (.inr ⟨x, y, b⟩)) fun y => .inr (.inr ⟨x, y, b⟩)
  · rintro ((⟨x, a, b⟩ | ⟨a, b⟩ | ⟨x, a, b⟩) | (⟨x, a, b⟩ | ⟨a, b⟩ | ⟨x, a, b⟩))
    · exact .inl ⟨x, (z _).mpr (.inl a), b⟩
    · exact .inr (.inl ⟨(z _).mpr (.inl a), b⟩)
    · exact .inr (.inr ⟨x, (z _).mpr (.inl a), b⟩)
    · exact .inl ⟨x, (z _).mpr (.inr a), b⟩
    · exact .inr (.inl ⟨(z _).mpr (.inr a), b⟩)
    · exact .inr (.inr ⟨x, (z _).mpr (.inr a), b⟩)
theorem grow_app {gs : List Rl} (g : ∀ r ∈ gs, Grw r) {ts : List Int} {m u : Int} : OptVal gs (ts ++ [m]) (ts.length : Nat) u ↔ OptVal gs ts (ts.length : Nat) u := by
  unfold OptVal
  have z : ∀ x : Int, (∃ r ∈ gs, V.str r.left = V.str "one" ∧ Leaves r (ts.length : Nat) x ∧ 1 ≤ x) → (ts ++ [m]).getD x.toNat 0 = ts.getD x.toNat 0 := fun x ⟨r, hr, _, h2, h3⟩ => by
    have h2 := (g r hr).leaves.mp h2
    have := (g r hr).low
    exact getD_app (by omega)
  constructor
  · rintro (⟨x, a, b⟩ | a | ⟨x, ⟨r, hr, h1, _⟩, _⟩)
    · exact .inl ⟨x, a, by rw [b, z x a]⟩
    · exact .inr (.inl a)
    · exact absurd h1 ((g r hr).ok.grow (g r hr).hi).2
  · rintro (⟨x, a, b⟩ | a | ⟨x, ⟨r, hr, h1, _⟩, _⟩)
    · exact .inl ⟨x, a, by rw [b, z x a]⟩
    · exact .inr (.inl a)
    · exact absurd h1 ((g r hr).ok.grow (g r hr).hi).2
theorem grow_none {gs : List Rl} (g : ∀ r ∈ gs, Grw r) {ts : List Int} {u : Int} : ¬ OptVal gs ts 0 u := by
  unfold OptVal
  rintro (⟨x, ⟨r, hr, h1, h2, h3⟩, b⟩ | ⟨⟨r, hr, h1, h2⟩, _⟩ | ⟨x, ⟨r, hr, h1, _⟩, _⟩)
  · have h2 := (g r hr).leaves.mp h2
    have := (g r hr).low
    omega
  · have h2 := (g r hr).leaves.mp h2
    have := (g r hr).low
    omega
  · exact absurd h1 ((g r hr).ok.grow (g r hr).hi).2
/-- a table as it is reckoned so far -/
structure TbS (C p dx GL OL TL BT GR : Addr) (gs os : List (Addr × Rl)) (H : Hp) (ts : List Int) (kvs : List (Key × V)) (gk : List Int) (bs : Int) : Prop where
  at_ : H p = some (.ins C dx (tbF GL OL TL BT GR bs))
  g : RsAt H GL gs
  o : RsAt H OL os
  told : H TL = some (.lst (ts.map V.int))
  by_ : H BT = some (.dK kvs)
  gr : H GR = some (.dK (KS gk))
  ca : Cache TL H ts kvs
  gi : ∀ u, u ∈ gk ↔ OptVal (gs.map (·.2)) ts ((ts.length : Nat) - 1) u
  b0 : 0 ≤ bs
  bk : ∀ j, 0 ≤ j → j < bs → j ∈ gk
  gl : gk.length ≤ 1000 * ts.length
/-- what does not change -/
structure TC0 (TL BT GR GL OL : Addr) (gs os : List (Addr × Rl)) : Prop where
  n1 : BT ≠ GR
  n2 : TL ≠ GL
  n3 : TL ≠ OL
  gz : gs.length ≤ 1000
  oz : os.length ≤ 1000
  gok : ∀ q ∈ gs, Grw q.2
  ook : ∀ q ∈ os, q.2.Ok
/-- a heap without the four that change -/
def del4 (p GR BT TL : Addr) (H : Hp) : Hp := del (del (del (del H p) GR) BT) TL
theorem del4_of {p GR BT TL a : Addr} {H : Hp} {o : HO} (h : del4 p GR BT TL H a = some o) : a ≠ p ∧ a ≠ GR ∧ a ≠ BT ∧ a ≠ TL ∧ H a = some o := by
  unfold del4 del at h
  split at h
  · cases h
  · split at h
    · cases h
    · split at h
      · cases h
      · split at h
        · cases h
        · rename_i c1 c2 c3 c4
          exact ⟨c4, c3, c2, c1, h⟩
theorem del4_in {p GR BT TL a : Addr} {H : Hp} {o : HO} (n1 : a ≠ p) (n2 : a ≠ GR) (n3 : a ≠ BT) (n4 : a ≠ TL) (h : H a = some o) : del4 p GR BT TL H a = some o := by
  unfold del4 del
  rw [if_neg n4, if_neg n3, if_neg n2, if_neg n1]
  exact h
section
variable {P : Program} {w : World} {K : PySem.W.Frag} {mg : Str → Option Value} {base : Heap}
def spReckon (C : Addr) : Sp := fun vs H Q _ => ∃ (p dx GL OL TL BT GR : Addr) (gs os : List (Addr × Rl)) (ts : List Int) (kvs : List (Key × V)) (gk : List Int) (bs : Int), vs = [.ref p] ∧ TbS C p dx GL OL TL BT GR gs os H ts kvs gk bs ∧ TC0 TL BT GR GL OL gs os ∧ 1 ≤ ts.length ∧ ts.length ≤ 1000 ∧
  ∀ H' (kvs' : List (Key × V)) (gk' : List Int) (bs' m : Int), Ex (del4 p GR BT TL H) H' → TbS C p dx GL OL TL BT GR gs os H' (ts ++ [m]) kvs' gk' bs' → IsMex (fun u => OptVal (gs.map (·.2)) ts (ts.length : Nat) u ∨ OptVal (os.map (·.2)) ts (ts.length : Nat) u) m → Q .non H'
theorem ok_treckon {f fI fS fG fO fN fT C : Addr} {fd fdO fdG : FuncData} (F : Fun K "reckon" "Table.reckon" s_treckon f fd) (TC : TbC K mg C fI fS fG fO fN fT) (T : Bl mg)
    (F_other : Fun K "other_values" "Table.other_values" s_tother fO fdO) (G_other : FnOk P w K mg base CX0 4 fO fdO ["self", "heap"] (spOptions C))
    (F_grow : Fun K "grow_to" "Table.grow_to" s_tgrow fG fdG) (G_grow : FnOk P w K mg base CX0 1 fG fdG ["self", "heap"] (spGrow C)) : FnOk P w K mg base CX0 5 f fd ["self"] (spReckon C) := by
  have b_other : Binds K fdO ["self", "heap"] [] := F_other.binds fun _ _ _ _ _ _ us hl => match us, hl with | [_, _], _ => rfl
  have b_grow : Binds K fdG ["self", "heap"] [] := F_grow.binds fun _ _ _ _ _ _ us hl => match us, hl with | [_, _], _ => rfl
  refine F.ok sc_treckon (fun vs H Q E h => ?_) (fun cdv A outer s H vs Q E hr h => ?_)
  · obtain ⟨p, dx, GL, OL, TL, BT, GR, gs, os, ts, kvs, gk, bs, rfl, _⟩ := h
    rfl
  · obtain ⟨p, dx, GL, OL, TL, BT, GR, gs, os, ts, kvs, gk, bs, rfl, S0, c0, t1, tz, k⟩ := h
    have nd := sc_treckon.nd
    have hu : _ + 1 < cLine := Nat.lt_of_le_of_lt (Nat.add_le_add_left (by decide) _) hr.units
    have hr1 : Room 1 _ := hr.mono (by decide)
    have hr4 : Room 4 _ := hr.mono (by decide)
    have hp := S0.at_
    have hTL := S0.told
    have hBT := S0.by_
    have hGR := S0.gr
    have nTB : TL ≠ BT := fun z => by
      rw [z, hBT] at hTL
      cases hTL
    have nTG : TL ≠ GR := fun z => by
      rw [z, hGR] at hTL
      cases hTL
    have npB : p ≠ BT := fun z => by
      rw [z, hBT] at hp
      cases hp
    have npG : p ≠ GR := fun z => by
      rw [z, hGR] at hp
      cases hp
    have npT : p ≠ TL := fun z => by
      rw [z, hTL] at hp
      cases hp
    have ls : ∀ a l, H a = some (.lst l) → a ≠ p ∧ a ≠ GR ∧ a ≠ BT := fun a l ha => ⟨fun z => (by rw [z, hp] at ha; cases ha), fun z => (by rw [z, hGR] at ha; cases ha), fun z => (by rw [z, hBT] at ha; cases ha)⟩
    have tp : ∀ a l, H a = some (.tup l) → a ≠ p ∧ a ≠ GR ∧ a ≠ BT ∧ a ≠ TL := fun a l ha => ⟨fun z => (by rw [z, hp] at ha; cases ha), fun z => (by rw [z, hGR] at ha; cases ha), fun z => (by rw [z, hBT] at ha; cases ha), fun z => (by rw [z, hTL] at ha; cases ha)⟩
    refine ⟨_, (pss_cons (ps_set (i := 1) nd rfl (Or.inl rfl) (pe_callB call_len_seq (by rfl) T.len PySem.boot_len (pa_cons (pe_fld (pv 0) rfl) pa_nil)))
      (pss_cons (ps_expr (pe_meth (pv 0) TC.cl TC.mG G_grow hr1 b_grow .nil pass0 (pa_cons (pv 1) pa_nil)))
      (pss_cons (ps_set (i := 2) nd rfl (Or.inl rfl) (pe_meth (pv 0) TC.cl TC.mO G_other hr4 b_other .nil pass0 (pa_cons (pv 1) pa_nil)))
      (pss_cons (ps_set (i := 3) nd rfl (Or.inl rfl) (pe_fld (pv 0) rfl))
      (pss_cons (ps_while PassesOwn.never (PW.pt (pw_or (pt_cmp (pc_din hu (pv 3) (pe_fld (pv 0) rfl))) (pw_or1 (pt_cmp (pc_din hu (pv 3) (pv 2)))))) (pss_one (ps_aug (i := 3) nd rfl (.inl rfl) pe_int ip_add)))
      (pss_one (ps_expr (pe_bm PySem.F.plainAttrs_list PySem.F.slot_list_append PySem.F.type_list_append mt_append (pe_fld (pv 0) rfl) (pa_cons (pv 3) pa_nil))))))))), ?_⟩
    refine ⟨_, rfl, p, C, dx, _, _, rfl, hp, TC.cl, TC.nT, rfl, TL, _, rfl, .inl (SqL.of hTL), ?_⟩
    rw [List.length_map]
    -- grow_to
    refine ⟨_, rfl, p, dx, _, rfl, hp, rfl, _, rfl, p, dx, GL, OL, TL, BT, GR, gs, ts, gk, bs, rfl, hp, S0.g, hTL, hGR, t1, tz, c0.gz, c0.gok, S0.gl, S0.gi, S0.b0, S0.bk, fun H1 gk1 bs1 e1 hp1 hG1 gl1 hgk1 mx1 => ?_⟩
    have in1 : ∀ a o, a ≠ p → a ≠ GR → H a = some o → H1 a = some o := fun a o n1 n2 ha => e1 _ _ (by unfold del; rw [if_neg n2, if_neg n1]; exact ha)
    have hB1 := in1 _ _ npB.symm c0.n1 hBT
    have hT1 := in1 _ _ npT.symm nTG hTL
    have rs1 : ∀ {X : Addr} {xs : List (Addr × Rl)}, RsAt H X xs → RsAt H1 X xs := fun {X xs} h => ⟨in1 _ _ (ls _ _ h.1).1 (ls _ _ h.1).2.1 h.1, fun q hq => in1 _ _ (tp _ _ (h.2 q hq)).1 (tp _ _ (h.2 q hq)).2.1 (h.2 q hq)⟩
    have ca1 : Cache TL H1 ts kvs := S0.ca.frame fun b l _ hb => in1 _ _ (ls _ _ hb).1 (ls _ _ hb).2.1 hb
    -- other_values
    refine ⟨_, rfl, p, dx, _, rfl, hp1, rfl, _, rfl, p, OL, TL, BT, os, ts, kvs, rfl, ⟨⟨dx, GL, GR, bs1, hp1⟩, rs1 S0.o, hT1, hB1⟩, ca1, tz, c0.oz, c0.ook, fun H2 kv2 S us e2 hB2 c2 hS hus => ?_⟩
    have in2 : ∀ a o, a ≠ BT → H1 a = some o → H2 a = some o := fun a o na ha => e2 _ _ (by unfold del; rw [if_neg na]; exact ha)
    have hp2 := in2 _ _ npB hp1
    have hT2 := in2 _ _ nTB hT1
    have hG2 := in2 _ _ c0.n1.symm hG1
    refine ⟨_, rfl, p, C, dx, _, _, rfl, hp2, TC.cl, TC.nE, rfl, ?_⟩
    obtain ⟨m, mx⟩ := mex_ex (gk1 ++ us)
    have bm : bs1 ≤ m := Int.not_lt.mp fun z => mx.no (List.mem_append_left _ (mx1.all m (by omega) z))
    have b10 := mx1.pos
    refine while_by (fun σ H' => ∃ j : Nat, (j : Int) ≤ m ∧ σ = [some (.ref p), some (.int (ts.length : Nat)), some (.ref S), some (.int (j : Int))] ∧ H' = H2) (fun σ H' => match σ with | [_, _, _, some (.int j)] => m - j.toNat | _ => 0)
      ⟨bs1.toNat, by omega, by rw [Int.toNat_of_nonneg b10]; rfl, rfl⟩ (fun σ H3 q => ?_) (fun σ H1 q q' hq h => ?_)
    · obtain ⟨j, hj, rfl, rfl⟩ := q
      have fin : (j : Int) = m → Q .non (upd H3 TL (.lst (ts.map V.int ++ [.int (j : Int)]))) := fun jm => by
        rw [jm]
        have K2 : ∀ a o, a ≠ p → a ≠ GR → a ≠ BT → a ≠ TL → H a = some o → upd H3 TL (.lst (ts.map V.int ++ [.int (m : Int)])) a = some o := fun a o n1 n2 n3 n4 ha => (upd_ne n4).trans (in2 _ _ n3 (in1 _ _ n1 n2 ha))
        have rs2 : ∀ {X : Addr} {xs : List (Addr × Rl)}, X ≠ TL → RsAt H X xs → RsAt (upd H3 TL (.lst (ts.map V.int ++ [.int (m : Int)]))) X xs := fun {X xs} nX h => ⟨K2 _ _ (ls _ _ h.1).1 (ls _ _ h.1).2.1 (ls _ _ h.1).2.2 nX h.1, fun q hq => K2 _ _ (tp _ _ (h.2 q hq)).1 (tp _ _ (h.2 q hq)).2.1 (tp _ _ (h.2 q hq)).2.2.1 (tp _ _ (h.2 q hq)).2.2.2 (h.2 q hq)⟩
        have gall : ∀ r ∈ gs.map (·.2), Grw r := fun r hr => by
          obtain ⟨q, hq, rfl⟩ := List.mem_map.mp hr
          exact c0.gok q hq
        refine k _ kv2 gk1 bs1 m (fun a o ha => ?_) ⟨(upd_ne npT).trans hp2, rs2 c0.n2.symm S0.g, rs2 c0.n3.symm S0.o, by rw [upd_same, List.map_append]; rfl, (upd_ne nTB.symm).trans hB2, (upd_ne nTG.symm).trans hG2, (c2.frame fun b l nb hb => (upd_ne nb).trans hb).app, fun u => ?_, b10, mx1.all, ?_⟩ ⟨mx.pos, fun z => mx.no (List.mem_append.mpr (z.imp (hgk1 _).mpr (hus _).mpr)), fun i h0 h1 => (List.mem_append.mp (mx.all i h0 h1)).imp (hgk1 _).mp (hus _).mp⟩
        · obtain ⟨n1, n2, n3, n4, ha⟩ := del4_of ha
          exact K2 a o n1 n2 n3 n4 ha
        · have e : ((((ts ++ [(m : Int)]).length : Nat) : Int) - 1) = (ts.length : Nat) := by
            rw [List.length_append]
            show ((ts.length + 1 : Nat) : Int) - 1 = _
            omega
          rw [e, grow_app gall]
          exact hgk1 u
        · rw [List.length_append]
          exact gl1
      refine ⟨_, rfl, _, rfl, p, C, dx, _, _, rfl, hp2, TC.cl, TC.nW, rfl, GR, _, rfl, DGet.k (k := .inl (j : Int)) hG2, _, rfl, ?_⟩
      have jlt : (j : Int) ∈ gk1 ++ us → j < m := fun c => by
        have : ¬ (j : Int) = m := fun z => mx.no (by rw [← z]; exact c)
        omega
      have more : j < m → (∃ i : Nat, (i : Int) ≤ m ∧ [some (V.ref p), some (V.int (ts.length : Nat)), some (V.ref S), some (V.int ((j : Int) + 1))] = [some (.ref p), some (.int (ts.length : Nat)), some (.ref S), some (.int (i : Int))] ∧ H3 = H3) := fun h => ⟨j + 1, by omega, rfl, rfl⟩
      rw [valV_KS]
      by_cases c1 : (j : Int) ∈ gk1
      · refine ite_tt (decide_eq_true c1) (iteT ⟨_, rfl, _, _, rfl, rfl, more (jlt (List.mem_append_left _ c1)), ?_⟩)
        have := jlt (List.mem_append_left _ c1)
        show m - ((j : Int) + 1).toNat < m - (j : Int).toNat
        omega
      · refine ite_ff (decide_eq_false c1) ⟨_, rfl, _, rfl, S, _, rfl, DGet.k (k := .inl (j : Int)) hS, _, rfl, ?_⟩
        rw [valV_KS]
        by_cases c2' : (j : Int) ∈ us
        · refine ite_tt (decide_eq_true c2') ⟨_, rfl, _, _, rfl, rfl, more (jlt (List.mem_append_right _ c2')), ?_⟩
          have := jlt (List.mem_append_right _ c2')
          show m - ((j : Int) + 1).toNat < m - (j : Int).toNat
          omega
        · have jm : (j : Int) = m := by
            by_cases z : (j : Int) = m
            · exact z
            · rcases List.mem_append.mp (mx.all j (by omega) (by omega)) with y | y
              · exact absurd y c1
              · exact absurd y c2'
          refine ite_ff (decide_eq_false c2') ?_
          refine ⟨_, rfl, p, C, dx, _, _, rfl, hp2, TC.cl, TC.nT, rfl, .inl ⟨rfl, _, SqL.of hT2⟩, _, rfl, TL, _, _, rfl, rfl, hT2, by rw [List.length_map]; exact Nat.lt_of_le_of_lt tz (by decide), fin jm⟩
    · obtain ⟨v, h1, v2, h2, a1, a2, a3, a4, a5, a6, a7, a8, a9, a10, x1, x2, x3, x4, b1, h5, h6⟩ := h
      refine ⟨v, h1, v2, h2, a1, a2, a3, a4, a5, a6, a7, a8, a9, a10, x1, x2, x3, x4, b1, h5, ?_⟩
      cases b1 with
      | true =>
        rw [if_pos rfl] at h6
        exact iteT (hq _ _ h6)
      | false =>
        rw [if_neg (by decide)] at h6
        obtain ⟨v3, g1, v4, g2, y1, y2, y3, y4, b2, g5, g6⟩ := h6
        exact iteF ⟨v3, g1, v4, g2, y1, y2, y3, y4, b2, g5, hq _ _ g6⟩
def spTo (C : Addr) : Sp := fun vs H Q _ => ∃ (p dx GL OL TL BT GR : Addr) (gs os : List (Addr × Rl)) (ts : List Int) (kvs : List (Key × V)) (gk : List Int) (bs most : Int) (rs : List Rl), vs = [.ref p, .int most] ∧ TbS C p dx GL OL TL BT GR gs os H ts kvs gk bs ∧ TC0 TL BT GR GL OL gs os ∧ (∀ r, r ∈ rs ↔ r ∈ gs.map (·.2) ∨ r ∈ os.map (·.2)) ∧ Right rs ts ∧ (ts.length : Int) ≤ most + 1 ∧ most ≤ 999 ∧
  ∀ H' (ts' : List Int) (kvs' : List (Key × V)) (gk' : List Int) (bs' : Int), Ex (del4 p GR BT TL H) H' → TbS C p dx GL OL TL BT GR gs os H' ts' kvs' gk' bs' → (ts'.length : Int) = most + 1 → Right rs ts' → Q .non H'
theorem ok_tto {f fI fS fG fO fN fT C : Addr} {fd fdN : FuncData} (F : Fun K "reckon_to" "Table.reckon_to" s_tto f fd) (TC : TbC K mg C fI fS fG fO fN fT) (T : Bl mg)
    (F_reckon : Fun K "reckon" "Table.reckon" s_treckon fN fdN) (G_reckon : FnOk P w K mg base CX0 5 fN fdN ["self"] (spReckon C)) : FnOk P w K mg base CX0 6 f fd ["self", "most"] (spTo C) := by
  have b_reckon : Binds K fdN ["self"] [] := F_reckon.binds fun _ _ _ _ _ _ us hl => match us, hl with | [_], _ => rfl
  refine F.ok sc_tto (fun vs H Q E h => ?_) (fun cdv A outer s H vs Q E hr h => ?_)
  · obtain ⟨p, dx, GL, OL, TL, BT, GR, gs, os, ts, kvs, gk, bs, most, rs, rfl, _⟩ := h
    rfl
  · obtain ⟨p, dx, GL, OL, TL, BT, GR, gs, os, ts, kvs, gk, bs, most, rs, rfl, S0, c0, hrs, rt, tm, mz, k⟩ := h
    have hr5 : Room 5 _ := hr.mono (by decide)
    refine ⟨_, (pss_one (ps_while PassesOwn.never (pt_cmpR op_le (pe_callB call_len_seq (by rfl) T.len PySem.boot_len (pa_cons (pe_fld (pv 0) rfl) pa_nil)) (pv 1) (nomark _)) (pss_one (ps_expr (pe_meth0 (pv 0) TC.cl TC.mN G_reckon hr5 b_reckon .nil pass0))))), ?_⟩
    have exR : ∀ {H1 H2 : Hp}, Ex (del4 p GR BT TL H) H1 → Ex (del4 p GR BT TL H1) H2 → Ex (del4 p GR BT TL H) H2 := fun {H1 H2} e1 e2 a o ha => by
      obtain ⟨n1, n2, n3, n4, _⟩ := del4_of ha
      exact e2 _ _ (del4_in n1 n2 n3 n4 (e1 _ _ ha))
    refine while_by (fun σ H' => ∃ (ts' : List Int) (kv' : List (Key × V)) (gk' : List Int) (bs' : Int), σ = [some (.ref p), some (.int most)] ∧ Ex (del4 p GR BT TL H) H' ∧ TbS C p dx GL OL TL BT GR gs os H' ts' kv' gk' bs' ∧ Right rs ts' ∧ (ts'.length : Int) ≤ most + 1)
      (fun _ H' => match H' TL with | some (.lst xs) => (most + 1).toNat - xs.length | _ => 0) ⟨ts, kvs, gk, bs, rfl, fun a o ha => (del4_of ha).2.2.2.2, S0, rt, tm⟩ (fun σ H1 q => ?_) (fun σ H1 q q' hq h => ?_)
    · obtain ⟨ts1, kv1, gk1, bs1, rfl, e1, S1, r1, l1⟩ := q
      have t1 := r1.pos
      refine ⟨_, rfl, p, C, dx, _, _, rfl, S1.at_, TC.cl, TC.nT, rfl, TL, _, rfl, .inl (SqL.of S1.told), _, rfl, _, _, rfl, rfl, _, rfl, ?_⟩
      rw [List.length_map]
      by_cases c : (ts1.length : Int) ≤ most
      · refine ite_tt (decide_eq_true c) ?_
        refine ⟨_, rfl, p, dx, _, rfl, S1.at_, rfl, p, dx, GL, OL, TL, BT, GR, gs, os, ts1, kv1, gk1, bs1, rfl, S1, c0, t1, by omega, fun H2 kv2 gk2 bs2 m e2 S2 mx => ?_⟩
        have mx' : IsMex (OptVal rs ts1 (ts1.length : Nat)) m := ⟨mx.pos, fun z => mx.no ((OptVal.or hrs).mp z), fun j h0 h1 => (OptVal.or hrs).mpr (mx.all j h0 h1)⟩
        refine ⟨⟨ts1 ++ [m], kv2, gk2, bs2, rfl, exR e1 e2, S2, r1.add mx', by rw [List.length_append]; show ((ts1.length + 1 : Nat) : Int) ≤ _; omega⟩, ?_⟩
        try dsimp only
        rw [S2.told, S1.told]
        try dsimp only
        rw [List.length_map, List.length_map, List.length_append]
        show _ - (ts1.length + 1) < _
        omega
      · refine ite_ff (decide_eq_false c) ?_
        exact k H1 ts1 kv1 gk1 bs1 e1 S1 (by omega) r1
    · obtain ⟨v, h1, a, C', dx', fs, v', h2, h3, h4, h5, h6, p', ys, h7, h8, v2, h9, i, j, h10, h11, b, h12, h13⟩ := h
      exact ⟨v, h1, a, C', dx', fs, v', h2, h3, h4, h5, h6, p', ys, h7, h8, v2, h9, i, j, h10, h11, b, h12, hq _ _ h13⟩
end
end Ts


set_option Elab.async false
set_option linter.all false
set_option maxRecDepth 100000
set_option maxHeartbeats 4000000
namespace Ts
open PySem PySem.Spec L2
open Evl (Ex)
/-! ## the spring of draws -/
/-- a heap without two objects that change -/
def off (a c : Addr) (H : Hp) : Hp := fun b => if b = a ∨ b = c then none else H b
theorem off_of {a c b : Addr} {H : Hp} {o : HO} (h : off a c H b = some o) : H b = some o := by
  unfold off at h
  split at h
  · cases h
  · exact h
theorem off_ne {a c b : Addr} {H : Hp} (h1 : b ≠ a) (h2 : b ≠ c) : off a c H b = H b := if_neg (fun z => z.elim h1 h2)
theorem off_ex {a c : Addr} {H : Hp} : Ex (off a c H) H := fun _ _ h => off_of h
theorem Ex.offs {a c : Addr} {H H' : Hp} (e : Ex H H') : Ex (off a c H) (off a c H') := fun b o h => by
  unfold off at h ⊢
  split at h
  · cases h
  · rename_i n
    rw [if_neg n]
    exact e _ _ h
/-- a change of one of the two -/
theorem off_upd {a c p : Addr} {H : Hp} {o : HO} (h : p = a ∨ p = c) : off a c (upd H p o) = off a c H := by
  funext b
  unfold off
  split
  · rfl
  · rename_i n
    exact upd_ne fun z => n (z ▸ h)
structure Strm (H : Hp) (a c : Addr) (n : Int) : Prop where
  h : ∃ (cells : List Int) (s1 s3 : Int), H a = some (.lst [.ref c, .int s1, .int n, .int s3]) ∧ H c = some (.lst (cells.map V.int)) ∧ 0 ≤ s1 ∧ 0 ≤ s3 ∧ s3 < 2147483647
  ne : a ≠ c
  n0 : 0 ≤ n
theorem Strm.ex {H H' : Hp} {a c : Addr} {n : Int} (e : Ex H H') (h : Strm H a c n) : Strm H' a c n := by
  obtain ⟨⟨cells, s1, s3, h1, h2, r⟩, ne, n0⟩ := h
  exact ⟨⟨cells, s1, s3, e _ _ h1, e _ _ h2, r⟩, ne, n0⟩
theorem while_then {c : TT} {tb : TS} {D : Ends} {σ : L2.St} {H : Hp} (Pv Pn : L2.St → Hp → Prop) (μ : L2.St → Hp → Nat) (h0 : Pv σ H)
    (mono : ∀ σ H Q Q', (∀ b H1, Q b H1 → Q' b H1) → c σ H Q → c σ H Q')
    (hs : ∀ σ H, Pv σ H → c σ H fun b H1 => if b = true then tb { D with nx := fun σ' H' => Pv σ' H' ∧ μ σ' H' < μ σ H, ct := fun σ' H' => Pv σ' H' ∧ μ σ' H' < μ σ H, bk := D.nx } σ H1 else Pn σ H1)
    (fin : ∀ σ H, Pn σ H → D.nx σ H) : tWhile c tb D σ H :=
  while_by Pv μ h0 (fun σ H p => mono σ H _ _ (fun b H1 q => by
    cases b with
    | true => exact q
    | false => exact iteF (fin _ _ (by simpa using q))) (hs σ H p)) mono
theorem dp_ints {K : PySem.W.Frag} {H : Hp} : ∀ ns : List Int, DpAll K H (ns.map V.int) (ns.map PyData.int)
  | [] => .nil
  | n :: r => .cons (.int n) (dp_ints r)
theorem lay_ints : ∀ ns : List Int, PyData.canLayAll0 (ns.map PyData.int) = true
  | [] => by simp only [List.map_nil, PyData.canLayAll0]
  | n :: r => by
    rw [List.map_cons]
    simp only [PyData.canLayAll0, PyData.canLay0, lay_ints r, Bool.and_true]
theorem depth_ints : ∀ ns : List Int, PyData.depthAll (ns.map PyData.int) ≤ 1
  | [] => by simp [PyData.depthAll]
  | n :: r => by
    have := depth_ints r
    rw [List.map_cons]
    simp only [PyData.depthAll, PyData.depth]
    omega
theorem shaped_ints (ns : List Int) : SeqAt.shaped (.list (ns.map PyData.int)) = true := by
  have h := depth_ints ns
  refine Bool.and_eq_true_iff.mpr ⟨?_, decide_eq_true ?_⟩
  · simp only [PyData.canLay0, lay_ints]
  · simp only [PyData.depth]
    omega
theorem eqv_nil (ns : List Int) : PyData.eqv (.list (ns.map PyData.int)) (.list []) = ns.isEmpty := by
  cases ns <;> simp [PyData.eqv, PyData.eqvAll]
section
variable {P : Program} {w : World} {K : PySem.W.Frag} {mg : Str → Option Value} {base : Heap}
abbrev s_draw := top 50
theorem sc_draw : FnScope ["stream", "many", "cell", "digit", "mixed"] ["stream", "many"] (defScope s_draw) := ⟨rfl, rfl, rfl, by decide +kernel, rfl, by decide +kernel, by decide +kernel⟩
def spDraw : Sp := fun vs H Q _ => ∃ a c n m, vs = [.ref a, .int m] ∧ Strm H a c n ∧ 1 ≤ m ∧ m < 2 ^ 60 ∧ n < 2 ^ 40 ∧ ∀ H' r, Ex (off a c H) (off a c H') → Strm H' a c (n + 1) → 0 ≤ r → r < m → Q (.int r) H'
theorem ok_draw {f : Addr} {fd : FuncData} (F : FD K mg "_law_draw" "_law_draw" s_draw f fd) (T : Bl mg) : FnOk P w K mg base CX0 1 f fd ["stream", "many"] spDraw := by
  refine F.F.ok sc_draw (fun vs H Q E h => ?_) (fun cdv A outer s H vs Q E hr h => ?_)
  · obtain ⟨a, c, n, m, rfl, _⟩ := h
    rfl
  · obtain ⟨a, c, n, m, rfl, ⟨⟨cells, s1, s3, ha, hc, s10, s30, s31⟩, ne, n0⟩, m1, m2, n1, k⟩ := h
    have nd := sc_draw.nd
    refine ⟨_, pss_cons (ps_asg (pe_op op_add (pe_ix ix_list (pv 0) pe_int (fun _ _ => rfl)) pe_int) (pg_sub (pv 0) pe_int set_list))
      (pss_cons (ps_while PassesOwn.never (PW.pt (pw_and (pt_cmpR op_eq (pe_ix ix_list (pv 0) pe_int (fun _ _ => rfl)) pe_int (nomark _)) (pw_and1 (pt_cmpR (op_neD hr.units) (pe_ix ix_list (pv 0) pe_int (fun _ _ => rfl)) (pe_lst pa_nil) (nomark _)))))
          (pss_cons (ps_set (i := 2) nd rfl (Or.inl rfl) (pe_bm PySem.F.plainAttrs_list PySem.F.slot_list_pop PySem.F.type_list_pop mt_popAt (pe_ix ix_list (pv 0) pe_int (fun _ _ => rfl)) (pa_cons pe_int pa_nil)))
          (pss_cons (ps_asg (pe_op op_mod (pe_callTy call_int1 (by rfl) T.int (by decide +kernel) (pa_cons (pe_op op_add (pe_op op_add (pe_op op_mul (pe_ix ix_list (pv 0) pe_int (fun _ _ => rfl)) pe_int) (pv 2)) pe_int) pa_nil)) pe_int) (pg_sub (pv 0) pe_int set_list))
          (pss_one (ps_asg (pe_ifExp (pt_cmpR op_ge (pv 2) (pe_op op_pow pe_int pe_int) (nomark _)) (pv 2) pe_int) (pg_sub (pv 0) pe_int set_list))))))
      (pss_cons (ps_if (pt_cmpR op_gt (pe_ix ix_list (pv 0) pe_int (fun _ _ => rfl)) pe_int (nomark _))
          (pss_cons (ps_set (i := 3) nd rfl (Or.inl rfl) (pe_op op_mod (pe_callTy call_int1 (by rfl) T.int (by decide +kernel) (pa_cons (pe_ix ix_list (pv 0) pe_int (fun _ _ => rfl)) pa_nil)) (pv 1)))
          (pss_cons (ps_asg (pe_op op_fdivW (pe_ix ix_list (pv 0) pe_int (fun _ _ => rfl)) (pv 1)) (pg_sub (pv 0) pe_int set_list))
          (pss_one (ps_ret (pv 3))))) pss_nil)
      (pss_cons (ps_set (i := 4) nd rfl (Or.inl rfl) (pe_op op_mod (pe_callTy call_int1 (by rfl) T.int (by decide +kernel) (pa_cons (pe_op op_pow (pe_op op_add (pe_op op_add (pe_ix ix_list (pv 0) pe_int (fun _ _ => rfl)) (pe_op op_mul pe_int (pe_ix ix_list (pv 0) pe_int (fun _ _ => rfl)))) pe_int) pe_int) pa_nil)) pe_int))
      (pss_one (ps_ret (pe_op op_mod (pe_op op_mod (pe_callTy call_int1 (by rfl) T.int (by decide +kernel) (pa_cons (pe_op op_pow (pe_op op_add (pe_op op_add (pe_op op_mul (pv 4) pe_int) (pe_op op_mul pe_int (pe_ix ix_list (pv 0) pe_int (fun _ _ => rfl)))) pe_int) pe_int) pa_nil)) pe_int) (pv 1))))))), ?_⟩
    refine ⟨_, rfl, a, _, 2, _, rfl, rfl, SqL.of ha, atI_nat (j := 2) rfl, _, _, rfl, rfl, _, rfl, a, _, 2, 2, rfl, rfl, ha, rfl, ?_⟩
    let Pv : L2.St → Hp → Prop := fun σ H' => ∃ (cells : List Int) (s1 s3 : Int) (v2 : Option V), σ = [some (.ref a), some (.int m), v2, none, none] ∧ H' a = some (.lst [.ref c, .int s1, .int (n + 1), .int s3]) ∧ H' c = some (.lst (cells.map V.int)) ∧ 0 ≤ s1 ∧ 0 ≤ s3 ∧ s3 < 2147483647 ∧ Ex (off a c H) (off a c H')
    refine while_then Pv Pv (fun _ H' => match H' c with | some (.lst xs) => xs.length | _ => 0)
      ⟨cells, s1, s3, none, rfl, upd_same, by rw [upd_ne (Ne.symm ne)]; exact hc, s10, s30, s31, by rw [off_upd (.inl rfl)]; exact Ex.refl _⟩ ?_ ?_ ?_
    · rintro σ H2 q q' hq ⟨v, h1, p, xs, i, v2, h2, h3, h4, h5, h6, b1, h7, h8⟩
      refine ⟨v, h1, p, xs, i, v2, h2, h3, h4, h5, h6, b1, h7, ?_⟩
      cases b1 with
      | false => exact iteF (hq _ _ (by simpa using h8))
      | true =>
        rw [if_pos rfl] at h8
        obtain ⟨v, g1, p, xs, i, v2, g2, g3, g4, g5, g6, g7⟩ := h8
        refine iteT ⟨v, g1, p, xs, i, v2, g2, g3, g4, g5, g6, fun q nq => ?_⟩
        obtain ⟨d, e, x1, x2, x3, x4, b, x5, x6⟩ := g7 q nq
        exact ⟨d, e, x1, x2, x3, x4, b, x5, hq _ _ x6⟩
    · rintro σ H2 ⟨cells, s1, s3, v2, rfl, ha, hc, s10, s30, s31, e2⟩
      refine ⟨_, rfl, a, _, 1, _, rfl, rfl, SqL.of ha, atI_nat (j := 1) rfl, rfl, _, rfl, ?_⟩
      rw [dec_z]
      by_cases hz : s1 = 0
      · rw [decide_eq_true hz]
        refine iteT ⟨_, rfl, a, _, 0, _, rfl, rfl, SqL.of ha, atI_nat (j := 0) rfl, Nat.zero_le _, fun q nq => ?_⟩
        have eq := Ex.new (o := .lst []) nq
        refine ⟨_, _, .lst (SqL.of (eq _ _ hc)) (dp_ints cells), .lst (SqL.of upd_same) .nil, shaped_ints cells, shaped_ints [], _, rfl, ?_⟩
        rw [eqv_nil]
        have na : a ≠ q := ne_of_none ha nq
        have nc : c ≠ q := ne_of_none hc nq
        have eo : Ex (off a c H) (off a c (upd H2 q (.lst []))) := e2.trans (Ex.offs eq)
        cases cells with
        | nil => exact iteF ⟨[], s1, s3, v2, rfl, eq _ _ ha, eq _ _ hc, s10, s30, s31, eo⟩
        | cons z rest =>
          refine iteT ?_
          refine ⟨_, rfl, a, _, 0, _, rfl, rfl, SqL.of (eq _ _ ha), atI_nat (j := 0) rfl, .inl ⟨rfl, _, SqL.of (eq _ _ hc)⟩, c, _, 0, 0, .int z, rfl, rfl, eq _ _ hc, by decide, by decide, by simp [seqIndex?], rfl, ?_⟩
          have ha3 : upd (upd H2 q (.lst [])) c (.lst ((V.int z :: rest.map V.int).eraseIdx 0)) a = some (.lst [.ref c, .int s1, .int (n + 1), .int s3]) := by
            rw [upd_ne ne]
            exact eq _ _ ha
          refine ⟨_, rfl, a, _, 3, _, rfl, rfl, SqL.of ha3, atI_nat (j := 3) rfl, _, _, rfl, rfl, .inl ⟨by omega, by omega⟩, _, rfl, _, _, rfl, rfl, _, _, rfl, rfl, .inl ⟨_, rfl, ?_⟩⟩
          refine ⟨_, _, rfl, rfl, (by show (0 : Int) < 2147483647; decide), _, rfl, a, _, 3, 3, rfl, rfl, ha3, rfl, ?_⟩
          have last : ∀ (t : Int) (H3 : Hp), 0 ≤ t → H3 a = some (.lst [.ref c, .int t, .int (n + 1), .int ((s3 * 8191 + z + 3) % 2147483647)]) → H3 c = some (.lst (rest.map V.int)) → Ex (off a c H) (off a c H3) →
              Pv [some (.ref a), some (.int m), some (.int z), none, none] H3 ∧ (match H3 c with | some (.lst xs) => xs.length | _ => 0) < (match H2 c with | some (.lst xs) => xs.length | _ => 0) := fun t H3 t0 h1 h2 h3 => by
            refine ⟨⟨rest, t, _, _, rfl, h1, h2, t0, Int.emod_nonneg _ (by decide), Int.emod_lt_of_pos _ (by decide), h3⟩, ?_⟩
            rw [h2, hc]
            simp
          refine ⟨_, rfl, _, _, rfl, rfl, ⟨by decide, by decide, by decide⟩, _, _, rfl, rfl, _, rfl, ?_⟩
          have oe : ∀ (x y u : HO), Ex (off a c H) (off a c (upd (upd (upd (upd H2 q (.lst [])) c x) a y) a u)) := fun x y u => by
            rw [off_upd (.inl rfl), off_upd (.inl rfl), off_upd (.inr rfl)]
            exact eo
          have ce : ∀ (y u : HO), upd (upd (upd (upd H2 q (.lst [])) c (.lst ((V.int z :: rest.map V.int).eraseIdx 0))) a y) a u c = some (.lst (rest.map V.int)) := fun y u => by
            rw [upd_ne (Ne.symm ne), upd_ne (Ne.symm ne), upd_same]
            rfl
          cases hd : decide ((10 : Int) ^ (18 : Int).toNat ≤ z) with
          | true =>
            have hz18 := of_decide_eq_true hd
            refine iteT ⟨_, rfl, _, rfl, a, _, 1, 1, rfl, rfl, upd_same, rfl, ?_⟩
            exact last z _ (Int.le_trans (by decide) hz18) upd_same (ce _ _) (oe _ _ _)
          | false =>
            refine iteF ⟨_, rfl, a, _, 1, 1, rfl, rfl, upd_same, rfl, ?_⟩
            exact last 0 _ (Int.le_refl _) upd_same (ce _ _) (oe _ _ _)
      · rw [decide_eq_false hz]
        exact iteF ⟨cells, s1, s3, v2, rfl, ha, hc, s10, s30, s31, e2⟩
    · rintro σ H2 ⟨cells, s1, s3, v2, rfl, ha, hc, s10, s30, s31, e2⟩
      refine ⟨_, rfl, a, _, 1, _, rfl, rfl, SqL.of ha, atI_nat (j := 1) rfl, _, _, rfl, rfl, _, rfl, ?_⟩
      by_cases hp : 0 < s1
      · rw [decide_eq_true hp]
        refine iteT ⟨_, rfl, a, _, 1, _, rfl, rfl, SqL.of ha, atI_nat (j := 1) rfl, .inl ⟨_, rfl, ?_⟩⟩
        have r0 : 0 ≤ s1 % m := Int.emod_nonneg _ (by omega)
        have r1 : s1 % m < m := Int.emod_lt_of_pos _ (by omega)
        refine ⟨_, rfl, _, _, rfl, rfl, (by show (0 : Int) < m; omega), ?_⟩
        refine ⟨_, rfl, a, _, 1, _, rfl, rfl, SqL.of ha, atI_nat (j := 1) rfl, _, rfl, _, _, rfl, rfl, wide_div (b := 64) (by omega) (by omega) (by decide) (by decide), _, rfl, a, _, 1, 1, rfl, rfl, ha, rfl, ?_⟩
        refine ⟨_, rfl, k _ _ ?_ ⟨⟨cells, s1 / m, s3, upd_same, by rw [upd_ne (Ne.symm ne)]; exact hc, Int.ediv_nonneg (by omega) (by omega), s30, s31⟩, ne, by omega⟩ r0 r1⟩
        rw [off_upd (.inl rfl)]
        exact e2
      · rw [decide_eq_false hp]
        refine iteF ?_
        refine ⟨_, rfl, a, _, 3, _, rfl, rfl, SqL.of ha, atI_nat (j := 3) rfl, _, rfl, a, _, 2, _, rfl, rfl, SqL.of ha, atI_nat (j := 2) rfl, _, _, rfl, rfl, .inl ⟨by omega, by omega⟩, _, _, rfl, rfl, _, _, rfl, rfl, _, _, rfl, rfl, ⟨by decide, by decide, by omega⟩, .inl ⟨_, rfl, ?_⟩⟩
        refine ⟨_, _, rfl, rfl, (by show (0 : Int) < 2147483629; decide), ?_⟩
        have d0 : 0 ≤ (s3 + 7919 * (n + 1) + 104729) ^ (5 : Int).toNat % 2147483629 := Int.emod_nonneg _ (by decide)
        have d1 : (s3 + 7919 * (n + 1) + 104729) ^ (5 : Int).toNat % 2147483629 < 2147483629 := Int.emod_lt_of_pos _ (by decide)
        generalize (s3 + 7919 * (n + 1) + 104729) ^ (5 : Int).toNat % 2147483629 = mx at d0 d1
        refine ⟨_, rfl, _, _, rfl, rfl, .inl ⟨by omega, by omega⟩, _, rfl, a, _, 2, _, rfl, rfl, SqL.of ha, atI_nat (j := 2) rfl, _, _, rfl, rfl, .inl ⟨by omega, by omega⟩, _, _, rfl, rfl, _, _, rfl, rfl, _, _, rfl, rfl, ⟨by decide, by decide, by omega⟩, .inl ⟨_, rfl, ?_⟩⟩
        refine ⟨_, _, rfl, rfl, (by show (0 : Int) < 1000000007; decide), _, rfl, _, _, rfl, rfl, (by show (0 : Int) < m; omega), ?_⟩
        exact k _ _ e2 ⟨⟨cells, s1, s3, ha, hc, s10, s30, s31⟩, ne, by omega⟩ (Int.emod_nonneg _ (by omega)) (Int.emod_lt_of_pos _ (by omega))
end
end Ts


set_option Elab.async false
set_option linter.all false
set_option maxRecDepth 100000
set_option maxHeartbeats 4000000
namespace Ts
open PySem PySem.Spec L2
open Evl (Ex)
section
variable {P : Program} {w : World} {K : PySem.W.Frag} {mg : Str → Option Value} {base : Heap}
abbrev s_start := top 49
theorem sc_start : FnScope ["script"] ["script"] (defScope s_start) := ⟨rfl, rfl, rfl, by decide +kernel, rfl, by decide +kernel, by decide +kernel⟩
def spStart (K : PySem.W.Frag) : Sp := fun vs H Q _ => ∃ (s : Addr) (ns : List Int), vs = [.ref s] ∧ SqL K H s (ns.map V.int) ∧ ∀ a c H', H a = none → H c = none → Strm H' a c 0 → Ex H H' → Q (.ref a) H'
theorem ok_start {f : Addr} {fd : FuncData} (F : FD K mg "_law_start" "_law_start" s_start f fd) (T : Bl mg) : FnOk P w K mg base CX0 1 f fd ["script"] (spStart K) := by
  refine F.F.ok sc_start (fun vs H Q E h => ?_) (fun cdv A outer s H vs Q E hr h => ?_)
  · obtain ⟨s, ns, rfl, _⟩ := h
    rfl
  · obtain ⟨s, ns, rfl, hs, k⟩ := h
    refine ⟨_, pss_one (ps_ret (pe_lst (pa_cons (pe_callTy call_list_of (by rfl) T.list PyProof.Rows.boot_list (pa_cons (pv 0) pa_nil)) (pa_cons pe_int (pa_cons pe_int (pa_cons pe_int pa_nil)))))), ?_⟩
    refine ⟨_, rfl, s, _, rfl, .inl hs, fun c nc => ⟨by show 4 ≤ sizeLine; decide, fun a na => ?_⟩⟩
    have e1 := Ex.new (o := .lst (ns.map V.int)) nc
    have e2 := Ex.new (o := .lst [.ref c, .int 0, .int 0, .int 11]) na
    have ne : a ≠ c := fun z => by
      rw [z, upd_same] at na
      cases na
    exact k a c _ (Evl.fresh_back e1 na) nc ⟨⟨ns, 0, 11, upd_same, e2 _ _ upd_same, by decide, by decide, by decide⟩, ne, by decide⟩ (e1.trans e2)
end
end Ts


set_option Elab.async false
set_option linter.all false
set_option maxRecDepth 100000
set_option maxHeartbeats 4000000
namespace Ts
open PySem PySem.Spec L2
open Evl (Ex)
theorem off_upd_ne {a c p : Addr} {H : Hp} {o : HO} (h1 : p ≠ a) (h2 : p ≠ c) : off a c (upd H p o) = upd (off a c H) p o := by
  funext b
  by_cases hb : b = p
  · subst hb
    rw [upd_same, off_ne h1 h2, upd_same]
  · rw [upd_ne hb]
    unfold off
    split
    · rfl
    · exact upd_ne hb
theorem off_none {a c p : Addr} {H : Hp} (h : H p = none) : off a c H p = none := by
  unfold off
  split
  · rfl
  · exact h
theorem Strm.nea {H : Hp} {a c : Addr} {n : Int} (h : Strm H a c n) {p : Addr} (hp : H p = none) : p ≠ a ∧ p ≠ c := by
  obtain ⟨⟨cells, s1, s3, h1, h2, _⟩, _, _⟩ := h
  exact ⟨fun z => (by rw [z, h1] at hp; cases hp), fun z => (by rw [z, h2] at hp; cases hp)⟩
theorem Strm.upd {H : Hp} {a c p : Addr} {n : Int} {o : HO} (h : Strm H a c n) (h1 : p ≠ a) (h2 : p ≠ c) : Strm (L2.upd H p o) a c n := by
  obtain ⟨⟨cells, s1, s3, g1, g2, r⟩, ne, n0⟩ := h
  exact ⟨⟨cells, s1, s3, by rw [upd_ne (Ne.symm h1)]; exact g1, by rw [upd_ne (Ne.symm h2)]; exact g2, r⟩, ne, n0⟩
theorem DAll.app {H : Hp} : ∀ {xs ys : List V} {ds es : List PyData}, DAll H xs ds → DAll H ys es → DAll H (xs ++ ys) (ds ++ es)
  | _, _, _, _, .nil, h => h
  | _, _, _, _, .cons h r, h2 => .cons h (DAll.app r h2)
section
variable {P : Program} {w : World} {K : PySem.W.Frag} {mg : Str → Option Value} {base : Heap}
theorem b_draw {f : Addr} {fd : FuncData} (F : FD K mg "_law_draw" "_law_draw" s_draw f fd) : Binds K fd ["stream", "many"] [] := F.F.binds fun _ _ _ _ _ _ us hl => match us, hl with | [_, _], _ => rfl
end
end Ts


set_option Elab.async false
set_option linter.all false
set_option maxRecDepth 100000
set_option maxHeartbeats 4000000
namespace Ts
open PySem PySem.Spec L2
open Evl (Ex)
/-- containers not too deep, not too long -/
def okD : Nat → PyData → Bool
  | _, .none => true
  | _, .bool _ => true
  | _, .int _ => true
  | _, .str _ => true
  | 0, _ => false
  | k + 1, .list l => decide (l.length ≤ 90000) && l.all (okD k)
  | k + 1, .tuple l => decide (l.length ≤ 90000) && l.all (okD k)
  | k + 1, .dict l => decide (l.length ≤ 10) && okD k (.list (l.map fun p => .tuple [p.1, p.2]))
def isTy (n : String) (d : PyData) : Bool := decide (tyD d = n)
theorem kit_list {K : PySem.W.Frag} (d : PyData) : PySem.W.kitOne K (.type (tyD d)) (.type "list") = some (isTy "list" d) := by cases d <;> first | rfl | decide +kernel
theorem kit_tuple {K : PySem.W.Frag} (d : PyData) : PySem.W.kitOne K (.type (tyD d)) (.type "tuple") = some (isTy "tuple" d) := by cases d <;> first | rfl | decide +kernel
theorem kit_dict {K : PySem.W.Frag} (d : PyData) : PySem.W.kitOne K (.type (tyD d)) (.type "dict") = some (isTy "dict" d) := by cases d <;> first | rfl | decide +kernel
def isIB : PyData → Bool
  | .int _ => true | .bool _ => true | _ => false
def isB : PyData → Bool
  | .bool _ => true | _ => false
theorem kit_ib {K : PySem.W.Frag} (d : PyData) : PySem.W.kitOne K (.type (tyD d)) (.type "int") = some (isIB d) := by cases d <;> first | rfl | decide +kernel
theorem kit_b {K : PySem.W.Frag} (d : PyData) : PySem.W.kitOne K (.type (tyD d)) (.type "bool") = some (isB d) := by cases d <;> first | rfl | decide +kernel
def is4 : PyData → Bool
  | .none => false | .str _ => false | _ => true
theorem kit_4 {K : PySem.W.Frag} (d : PyData) : PySem.W.kitAny K (.type (tyD d)) [.type "int", .type "list", .type "tuple", .type "dict"] = some (is4 d) := by cases d <;> first | rfl | decide +kernel
theorem walk_zipT {K : PySem.W.Frag} {a b : Addr} {xs ys : List V} {n : Nat} (hn : n = min xs.length ys.length) : Walk (RZ.ItzT K a b) n (fun H => SqT K H a xs ∧ SqT K H b ys) (YPair (fun i => xs[i]?) (fun i => ys[i]?)) := by
  subst hn
  refine ⟨fun i H hi g => ⟨xs, ys, xs[i]'(by omega), ys[i]'(by omega), g.1, g.2, List.getElem?_eq_getElem _, List.getElem?_eq_getElem _⟩, fun H g => ⟨xs, ys, g.1, g.2, by omega⟩, fun i H v H' hi g z => ?_⟩
  obtain ⟨T, u, v', e1, e2, e3, e4, e5⟩ := z
  exact ⟨T, u, v', e1, e2, e3, e4 _ g.1, e5 _ g.2⟩
theorem tcb1 {r : List V → Hp → VK → Prop} {t : TE} {σ : L2.St} {H : Hp} {Q : VK} (h : t σ H (fun x H1 => r [x] H1 Q)) : tCB r (tCons t tNil) σ H Q := h
/-- a pure comprehension, whatever it walks: J is what its iterable gives -/
theorem lc_any {wi : TI} {J : It} {n : Nat} {G : Hp → Prop} {Y : Nat → Hp → V → Hp → Prop} (w : Walk J n G Y) {g : TG} {te : TE} {vs : List Nat} {σ : L2.St} {H H1 : Hp} {out : Nat → V} {Q : VK} (hw : ∀ R : It → Hp → Prop, R J H1 → wi σ H R) (hz : n ≤ sizeLine)
    (hG : ∀ H, Ex H1 H → G H)
    (hs : ∀ i x H H', i < n → Ex H1 H → Y i H x H' → Ex H H' ∧ g x (wipe σ vs) H' fun σ2 H2 => wipe σ2 vs = wipe σ vs ∧ Ex H' H2 ∧ ∀ q : VK, (∀ H4, Ex H2 H4 → q (out i) H4) → te σ2 H2 q)
    (hgm : ∀ (x : V) (H : Hp) (q q' : L2.St → Hp → Prop), (∀ σ2 H2, q σ2 H2 → q' σ2 H2) → g x (wipe σ vs) H q → g x (wipe σ vs) H q')
    (hq : ∀ D Hf, H1 D = none → Ex H1 Hf → Hf D = some (.lst ((List.range n).map out)) → Q (.ref D) Hf) : tLc wi g tYes te vs σ H Q :=
  hw _ (lc_pure w hz hG hs hgm hq)
theorem dkv_tuples {H : Hp} : ∀ {ts : List Addr} {kvs : List (Key × V)} {ds : List (PyData × PyData)}, Paired (fun (t : Addr) (q : Key × V) => H t = some (.tup [kV q.1, q.2])) ts kvs → DKv H kvs ds → DAll H (ts.map V.ref) (ds.map fun p => .tuple [p.1, p.2])
  | [], [], ds, .nil, h2 => by
    cases h2
    exact .nil
  | _ :: _, (k, v) :: _, ds, .cons h r, h2 => by
    cases h2 with
    | cons hv t =>
      refine .cons (.tup h (.cons ?_ (.cons hv .nil))) (dkv_tuples r t)
      cases k with
      | inl n => exact .int n
      | inr x => exact .str x
theorem bl_same (q : Bool) : (!decide (V.bl q = V.bl q)) = false := by simp
section
variable {P : Program} {w : World} {K : PySem.W.Frag} {mg : Str → Option Value} {base : Heap}
abbrev s_same := top 53
theorem sc_same : FnScope ["found", "due", "x", "y"] ["found", "due"] (defScope s_same) := ⟨rfl, rfl, rfl, by decide +kernel, rfl, by decide +kernel, by decide +kernel⟩
/-- like things are told to be like -/
def spSame : Nat → Sp
  | 0 => fun _ _ _ _ => False
  | k + 1 => fun vs H Q _ => ∃ x y d, vs = [x, y] ∧ D H x d ∧ D H y d ∧ okD k d = true ∧ ∀ H', Ex H H' → Q (.bl true) H'
theorem ok_same {f : Addr} {fd : FuncData} (F : FD K mg "_law_same" "_law_same" s_same f fd) (T : Bl mg) : ∀ k, FnOk P w K mg base CX0 k f fd ["found", "due"] (spSame k)
  | 0 => ⟨fun _ _ _ _ h => h.elim, fun _ _ _ _ _ _ _ _ _ _ _ _ _ h => h.elim⟩
  | k + 1 => by
    have G0 := ok_same F T k
    have b0 : Binds K fd ["found", "due"] [] := F.F.binds fun _ _ _ _ _ _ us hl => match us, hl with | [_, _], _ => rfl
    refine F.F.ok sc_same (fun vs H Q E h => ?_) (fun cdv A outer s H vs Q E hr h => ?_)
    · obtain ⟨x, y, d, rfl, _⟩ := h
      rfl
    · obtain ⟨x, y, d, rfl, hx, hy, hok, kq⟩ := h
      have nd := sc_same.nd
      refine ⟨_, pss_cons (ps_if (pt_val (pe_callB call_isiT (by rfl) T.isinstance (by decide +kernel) (pa_cons (pv 1) (pa_cons (pe_tup (pa_cons (pe_bltn (v := .ty "list") (by rfl) T.list (by decide +kernel) rfl) (pa_cons (pe_bltn (v := .ty "tuple") (by rfl) T.tuple (by decide +kernel) rfl) pa_nil))) pa_nil))))
        (pss_cons (ps_if (PW.pt (pw_or (pt_cmpR op_ne (pe_callB call_isi (by rfl) T.isinstance (by decide +kernel) (pa_cons (pv 0) (pa_cons (pe_bltn (v := .ty "list") (by rfl) T.list (by decide +kernel) rfl) pa_nil))) (pe_callB call_isi (by rfl) T.isinstance (by decide +kernel) (pa_cons (pv 1) (pa_cons (pe_bltn (v := .ty "list") (by rfl) T.list (by decide +kernel) rfl) pa_nil))) (nomark _)) (pw_or1 (pt_cmpR op_ne (pe_callB call_isi (by rfl) T.isinstance (by decide +kernel) (pa_cons (pv 0) (pa_cons (pe_bltn (v := .ty "tuple") (by rfl) T.tuple (by decide +kernel) rfl) pa_nil))) (pe_callB call_isi (by rfl) T.isinstance (by decide +kernel) (pa_cons (pv 1) (pa_cons (pe_bltn (v := .ty "tuple") (by rfl) T.tuple (by decide +kernel) rfl) pa_nil))) (nomark _))))) (pss_one (ps_ret pe_bl)) pss_nil)
        (pss_one (ps_ret (pe_and (pe_cmpR op_eq (pe_callB call_len_seq (by rfl) T.len PySem.boot_len (pa_cons (pv 0) pa_nil)) (pe_callB call_len_seq (by rfl) T.len PySem.boot_len (pa_cons (pv 1) pa_nil)) (nomark _)) (pe_one (pe_callB (cr_all rfl) (by rfl) T.all (by decide +kernel) (pa_cons (pe_lc (own := [("x", 2), ("y", 3)]) (g := gTup K 2 (gCons (gName 2) (gCons (gName 3) gNil))) (tt := tYes) rfl nd (RZ.pi_zipA (by rfl) T.zip (pa_cons (pv 0) (pa_cons (pv 1) pa_nil))) (blkOk_by (N := ["found", "due", "x", "y"]) (sc := defScope s_same) (by decide +kernel))
          (fun _ _ _ _ _ => pg_tup rfl (pgs_cons (pg_name (i := 2) nd rfl (Or.inl rfl)) (pgs_cons (pg_name (i := 3) nd rfl (Or.inl rfl)) pgs_nil))) (fun _ _ _ _ _ => pts_nil) (fun _ _ _ _ _ => (pe_call G0 hr (by rfl) F.g F.F.kp b0 .nil pass0 (pa_cons (pv 2) (pa_cons (pv 3) pa_nil))))) pa_nil))))))) pss_nil)
      (pss_cons (ps_if (pt_val (pe_callB call_isi (by rfl) T.isinstance (by decide +kernel) (pa_cons (pv 1) (pa_cons (pe_bltn (v := .ty "dict") (by rfl) T.dict (by decide +kernel) rfl) pa_nil)))) (pss_one (ps_ret (pe_and (pe_callB call_isi (by rfl) T.isinstance (by decide +kernel) (pa_cons (pv 0) (pa_cons (pe_bltn (v := .ty "dict") (by rfl) T.dict (by decide +kernel) rfl) pa_nil))) (pe_one (pe_call G0 hr (by rfl) F.g F.F.kp b0 .nil pass0 (pa_cons (LiI.pe_listItems rfl (pv 0) (by rfl) T.list PyProof.Rows.boot_list) (pa_cons (LiI.pe_listItems rfl (pv 1) (by rfl) T.list PyProof.Rows.boot_list) pa_nil))))))) pss_nil)
      (pss_cons (ps_if (pt_val (pe_callB call_isi (by rfl) T.isinstance (by decide +kernel) (pa_cons (pv 1) (pa_cons (pe_bltn (v := .ty "int") (by rfl) T.int (by decide +kernel) rfl) pa_nil)))) (pss_one (ps_ret (pe_and (pe_callB call_isi (by rfl) T.isinstance (by decide +kernel) (pa_cons (pv 0) (pa_cons (pe_bltn (v := .ty "int") (by rfl) T.int (by decide +kernel) rfl) pa_nil))) (pe_and (pe_cmpR op_eq (pe_callB call_isi (by rfl) T.isinstance (by decide +kernel) (pa_cons (pv 0) (pa_cons (pe_bltn (v := .ty "bool") (by rfl) T.bool (by decide +kernel) rfl) pa_nil))) (pe_callB call_isi (by rfl) T.isinstance (by decide +kernel) (pa_cons (pv 1) (pa_cons (pe_bltn (v := .ty "bool") (by rfl) T.bool (by decide +kernel) rfl) pa_nil))) (nomark _)) (pe_one (pe_cmpR op_eq (pv 0) (pv 1) (nomark _))))))) pss_nil)
      (pss_one (ps_ret (pe_and (pe_not (pe_callB call_isiT (by rfl) T.isinstance (by decide +kernel) (pa_cons (pv 0) (pa_cons (pe_tup (pa_cons (pe_bltn (v := .ty "int") (by rfl) T.int (by decide +kernel) rfl) (pa_cons (pe_bltn (v := .ty "list") (by rfl) T.list (by decide +kernel) rfl) (pa_cons (pe_bltn (v := .ty "tuple") (by rfl) T.tuple (by decide +kernel) rfl) (pa_cons (pe_bltn (v := .ty "dict") (by rfl) T.dict (by decide +kernel) rfl) pa_nil))))) pa_nil)))) (pe_one (pe_cmpR op_eq (pv 0) (pv 1) (nomark _)))))))), ?_⟩
      refine ⟨_, rfl, by show 2 ≤ sizeLine; decide, fun p np => ⟨_, p, _, _, _, _, rfl, upd_same, .cons (.ty "list") (.cons (.ty "tuple") .nil), (hy.ex (Ex.new np)).ty, kit_row d, _, rfl, ?_⟩⟩
      have ep := Ex.new (o := .tup [.ty "list", .ty "tuple"]) np
      generalize hP : upd H p (.tup [.ty "list", .ty "tuple"]) = Hp at ep
      cases hy with
      | @lst b ys ds hb hys =>
        cases hx with
        | @lst a xs _ ha hxs =>
          cases k with
          | zero => cases hok
          | succ k =>
            obtain ⟨hl, hal⟩ := Bool.and_eq_true_iff.mp (show (decide (ds.length ≤ 90000) && ds.all (okD k)) = true from hok)
            have hl := of_decide_eq_true hl
            refine iteT ?_
            have hxp := (D.lst ha hxs).ex ep
            have hyp := (D.lst hb hys).ex ep
            refine ⟨_, rfl, _, _, _, _, _, rfl, .ty "list", hxp.ty, kit_list _, _, rfl, _, _, _, _, _, rfl, .ty "list", hyp.ty, kit_list _, rfl, _, rfl, ?_⟩
            refine ite_ff (bl_same _) ?_
            refine ⟨_, rfl, _, _, _, _, _, rfl, .ty "tuple", hxp.ty, kit_tuple _, _, rfl, _, _, _, _, _, rfl, .ty "tuple", hyp.ty, kit_tuple _, rfl, _, rfl, ?_⟩
            refine ite_ff (bl_same _) ?_
            refine ⟨_, rfl, a, xs, rfl, .inl (SqL.of (ep _ _ ha)), _, rfl, b, ys, rfl, .inl (SqL.of (ep _ _ hb)), rfl, _, rfl, ?_⟩
            refine ite_tt (by rw [hxs.len, hys.len]; exact decide_eq_true rfl) ?_
            refine tcb1 ?_
            refine lc_any (J := Itz K a b) (H1 := Hp) (out := fun _ => V.bl true) (walk_zip (xs := xs) (ys := ys) (n := ds.length) (by rw [hxs.len, hys.len, Nat.min_self])) (fun R r => ⟨_, rfl, _, rfl, a, b, xs, ys, rfl, Or.inl ⟨SqL.of (ep _ _ ha), SqL.of (ep _ _ hb), r⟩⟩) (Evl.sz_of (by omega)) (fun H' e => ⟨SqL.of (e _ _ (ep _ _ ha)), SqL.of (e _ _ (ep _ _ hb))⟩) (fun i z H1 H2 hi e yy => ?_) (fun z H1 q q' h zz => ?_) (fun Dd Hf hD e hl' => ?_)
            · obtain ⟨Tp, u, v, rfl, nT, rfl, hu, hv⟩ := yy
              have eT := Ex.new (o := .tup [u, v]) nT
              refine ⟨eT, Tp, _, rfl, SqT.of upd_same, rfl, _, _, rfl, _, _, rfl, rfl, rfl, Ex.refl _, fun q hq => ?_⟩
              obtain ⟨du, hdu, Du⟩ := hxs.get hu
              obtain ⟨dv, hdv, Dv⟩ := hys.get hv
              rw [hdu] at hdv
              cases hdv
              have e3 := (ep.trans e).trans eT
              exact ⟨_, rfl, _, rfl, u, v, du, rfl, Du.ex e3, Dv.ex e3, List.all_eq_true.mp hal du (List.mem_of_getElem? hdu), hq⟩
            · obtain ⟨a1, xs1, r1, r2, r3, v1, r4, r5, v2, r7, r8, r9, r10⟩ := zz
              exact ⟨a1, xs1, r1, r2, r3, v1, r4, r5, v2, r7, r8, r9, h _ _ r10⟩
            · refine ⟨Dd, List.replicate ds.length true, rfl, SqL.of ?_, ?_⟩
              · rw [hl', List.map_replicate, List.map_const', List.length_range]
              · have et : (List.replicate ds.length true).all id = true := List.all_eq_true.mpr fun z hz => List.eq_of_mem_replicate hz
                rw [et]
                exact kq _ (ep.trans e)
      | @tup b ys ds hb hys =>
        cases hx with
        | @tup a xs _ ha hxs =>
          cases k with
          | zero => cases hok
          | succ k =>
            obtain ⟨hl, hal⟩ := Bool.and_eq_true_iff.mp (show (decide (ds.length ≤ 90000) && ds.all (okD k)) = true from hok)
            have hl := of_decide_eq_true hl
            refine iteT ?_
            have hxp := (D.tup ha hxs).ex ep
            have hyp := (D.tup hb hys).ex ep
            refine ⟨_, rfl, _, _, _, _, _, rfl, .ty "list", hxp.ty, kit_list _, _, rfl, _, _, _, _, _, rfl, .ty "list", hyp.ty, kit_list _, rfl, _, rfl, ?_⟩
            refine ite_ff (bl_same _) ?_
            refine ⟨_, rfl, _, _, _, _, _, rfl, .ty "tuple", hxp.ty, kit_tuple _, _, rfl, _, _, _, _, _, rfl, .ty "tuple", hyp.ty, kit_tuple _, rfl, _, rfl, ?_⟩
            refine ite_ff (bl_same _) ?_
            refine ⟨_, rfl, a, xs, rfl, .inr (SqT.of (ep _ _ ha)), _, rfl, b, ys, rfl, .inr (SqT.of (ep _ _ hb)), rfl, _, rfl, ?_⟩
            refine ite_tt (by rw [hxs.len, hys.len]; exact decide_eq_true rfl) ?_
            refine tcb1 ?_
            refine lc_any (J := RZ.ItzT K a b) (H1 := Hp) (out := fun _ => V.bl true) (walk_zipT (xs := xs) (ys := ys) (n := ds.length) (by rw [hxs.len, hys.len, Nat.min_self])) (fun R r => ⟨_, rfl, _, rfl, a, b, xs, ys, rfl, Or.inr ⟨SqT.of (ep _ _ ha), SqT.of (ep _ _ hb), r⟩⟩) (Evl.sz_of (by omega)) (fun H' e => ⟨SqT.of (e _ _ (ep _ _ ha)), SqT.of (e _ _ (ep _ _ hb))⟩) (fun i z H1 H2 hi e yy => ?_) (fun z H1 q q' h zz => ?_) (fun Dd Hf hD e hl' => ?_)
            · obtain ⟨Tp, u, v, rfl, nT, rfl, hu, hv⟩ := yy
              have eT := Ex.new (o := .tup [u, v]) nT
              refine ⟨eT, Tp, _, rfl, SqT.of upd_same, rfl, _, _, rfl, _, _, rfl, rfl, rfl, Ex.refl _, fun q hq => ?_⟩
              obtain ⟨du, hdu, Du⟩ := hxs.get hu
              obtain ⟨dv, hdv, Dv⟩ := hys.get hv
              rw [hdu] at hdv
              cases hdv
              have e3 := (ep.trans e).trans eT
              exact ⟨_, rfl, _, rfl, u, v, du, rfl, Du.ex e3, Dv.ex e3, List.all_eq_true.mp hal du (List.mem_of_getElem? hdu), hq⟩
            · obtain ⟨a1, xs1, r1, r2, r3, v1, r4, r5, v2, r7, r8, r9, r10⟩ := zz
              exact ⟨a1, xs1, r1, r2, r3, v1, r4, r5, v2, r7, r8, r9, h _ _ r10⟩
            · refine ⟨Dd, List.replicate ds.length true, rfl, SqL.of ?_, ?_⟩
              · rw [hl', List.map_replicate, List.map_const', List.length_range]
              · have et : (List.replicate ds.length true).all id = true := List.all_eq_true.mpr fun z hz => List.eq_of_mem_replicate hz
                rw [et]
                exact kq _ (ep.trans e)
      | non =>
        cases hx
        refine iteF ?_
        refine ⟨_, rfl, _, _, _, _, _, rfl, .ty "dict", (D.non).ty, kit_dict _, _, rfl, ?_⟩
        refine ite_ff (by show decide ("NoneType" = "dict") = false; decide) ?_
        refine ⟨_, rfl, _, _, _, _, _, rfl, .ty "int", (D.non).ty, kit_ib _, _, rfl, ?_⟩
        refine ite_ff rfl ?_
        refine ⟨_, rfl, by show 4 ≤ sizeLine; decide, fun p2 np2 => ⟨_, p2, _, _, _, _, rfl, upd_same, .cons (.ty "int") (.cons (.ty "list") (.cons (.ty "tuple") (.cons (.ty "dict") .nil))), (D.non).ty, kit_4 _, ?_⟩⟩
        refine ⟨_, rfl, _, rfl, iteT ⟨_, rfl, _, rfl, rfl, ?_⟩⟩
        rw [decide_eq_true rfl]
        exact kq _ (ep.trans (Ex.new np2))
      | bl b =>
        cases hx
        refine iteF ?_
        refine ⟨_, rfl, _, _, _, _, _, rfl, .ty "dict", (D.bl b).ty, kit_dict _, _, rfl, ?_⟩
        refine ite_ff (by show decide ("NoneType" = "dict") = false; decide) ?_
        refine ⟨_, rfl, _, _, _, _, _, rfl, .ty "int", (D.bl b).ty, kit_ib _, _, rfl, ?_⟩
        refine ite_tt rfl ?_
        refine ⟨_, rfl, _, _, _, _, _, rfl, .ty "int", (D.bl b).ty, kit_ib _, _, rfl, iteT ?_⟩
        refine ⟨_, rfl, _, _, _, _, _, rfl, .ty "bool", (D.bl b).ty, kit_b _, _, rfl, _, _, _, _, _, rfl, .ty "bool", (D.bl b).ty, kit_b _, rfl, _, rfl, ?_⟩
        refine ite_tt (decide_eq_true rfl) ⟨_, rfl, _, rfl, rfl, ?_⟩
        rw [decide_eq_true rfl]
        exact kq _ ep
      | int i =>
        cases hx
        refine iteF ?_
        refine ⟨_, rfl, _, _, _, _, _, rfl, .ty "dict", (D.int i).ty, kit_dict _, _, rfl, ?_⟩
        refine ite_ff (by show decide ("NoneType" = "dict") = false; decide) ?_
        refine ⟨_, rfl, _, _, _, _, _, rfl, .ty "int", (D.int i).ty, kit_ib _, _, rfl, ?_⟩
        refine ite_tt rfl ?_
        refine ⟨_, rfl, _, _, _, _, _, rfl, .ty "int", (D.int i).ty, kit_ib _, _, rfl, iteT ?_⟩
        refine ⟨_, rfl, _, _, _, _, _, rfl, .ty "bool", (D.int i).ty, kit_b _, _, rfl, _, _, _, _, _, rfl, .ty "bool", (D.int i).ty, kit_b _, rfl, _, rfl, ?_⟩
        refine ite_tt (decide_eq_true rfl) ⟨_, rfl, _, rfl, rfl, ?_⟩
        rw [decide_eq_true rfl]
        exact kq _ ep
      | str z =>
        cases hx
        refine iteF ?_
        refine ⟨_, rfl, _, _, _, _, _, rfl, .ty "dict", (D.str z).ty, kit_dict _, _, rfl, ?_⟩
        refine ite_ff (by show decide ("NoneType" = "dict") = false; decide) ?_
        refine ⟨_, rfl, _, _, _, _, _, rfl, .ty "int", (D.str z).ty, kit_ib _, _, rfl, ?_⟩
        refine ite_ff rfl ?_
        refine ⟨_, rfl, by show 4 ≤ sizeLine; decide, fun p2 np2 => ⟨_, p2, _, _, _, _, rfl, upd_same, .cons (.ty "int") (.cons (.ty "list") (.cons (.ty "tuple") (.cons (.ty "dict") .nil))), (D.str z).ty, kit_4 _, ?_⟩⟩
        refine ⟨_, rfl, _, rfl, iteT ⟨_, rfl, _, rfl, rfl, ?_⟩⟩
        rw [decide_eq_true rfl]
        exact kq _ (ep.trans (Ex.new np2))
      | @dic b kvs ds hb hkv =>
        cases hx with
        | @dic a kvs2 _ ha hkv2 =>
          cases k with
          | zero => cases hok
          | succ k =>
            obtain ⟨_, hal⟩ := Bool.and_eq_true_iff.mp (show (decide (ds.length ≤ 10) && okD k (.list (ds.map fun p => .tuple [p.1, p.2]))) = true from hok)
            have hxp := (D.dic ha hkv2).ex ep
            have hyp := (D.dic hb hkv).ex ep
            refine iteF ?_
            refine ⟨_, rfl, _, _, _, _, _, rfl, .ty "dict", hyp.ty, kit_dict _, _, rfl, ?_⟩
            refine ite_tt (decide_eq_true rfl) ?_
            refine ⟨_, rfl, _, _, _, _, _, rfl, .ty "dict", hxp.ty, kit_dict _, _, rfl, ?_⟩
            refine ite_tt (decide_eq_true rfl) ?_
            refine ⟨_, rfl, a, kvs2, rfl, ep _ _ ha, fun H1 p1 ts1 e1 np1 _ _ hl1 pr1 => ?_⟩
            refine ⟨_, rfl, b, kvs, rfl, e1 _ _ (ep _ _ hb), fun H2 p2 ts2 e2 np2 _ _ hl2 pr2 => ?_⟩
            have e01 : Ex H H1 := ep.trans e1
            have e02 : Ex H H2 := e01.trans e2
            refine ⟨.ref p1, .ref p2, .list (ds.map fun p => .tuple [p.1, p.2]), rfl, .ex e2 (.lst hl1 (dkv_tuples pr1 (hkv2.ex e01))), .lst hl2 (dkv_tuples pr2 (hkv.ex e02)), hal, fun H3 e3 => kq _ (e02.trans e3)⟩
end
end Ts


set_option Elab.async false
set_option linter.all false
set_option maxRecDepth 100000
set_option maxHeartbeats 4000000
namespace Ts
open PySem PySem.Spec L2
open Evl (Ex)
/-- data that is led loosely: short rows; dicts as they are -/
def okL : Nat → PyData → Bool
  | _, .none => true
  | _, .bool _ => true
  | _, .int _ => true
  | _, .str _ => true
  | _, .dict _ => true
  | 0, _ => false
  | k + 1, .list l => decide (l.length ≤ 90) && l.all (okL k)
  | k + 1, .tuple l => decide (l.length ≤ 90) && l.all (okL k)
/-- how many draws at most -/
def dr : Nat → Int
  | 0 => 0
  | k + 1 => 1 + 90 * dr k
theorem dr_pos : ∀ k, 0 ≤ dr k
  | 0 => Int.le_refl 0
  | k + 1 => by
    have := dr_pos k
    show 0 ≤ 1 + 90 * dr k
    omega
mutual
inductive Loo : PyData → PyData → Prop
  | same {d : PyData} : isRow d = false → Loo d d
  | row {d : PyData} (k : Bool) {es : List PyData} : isRow d = true → LooAll (items d) es → Loo d (mk k es)
inductive LooAll : List PyData → List PyData → Prop
  | nil : LooAll [] []
  | cons {d e : PyData} {ds es : List PyData} : Loo d e → LooAll ds es → LooAll (d :: ds) (e :: es)
end
theorem LooAll.snoc : ∀ {ds es : List PyData} {d e : PyData}, LooAll ds es → Loo d e → LooAll (ds ++ [d]) (es ++ [e])
  | _, _, _, _, .nil, h => .cons h .nil
  | _, _, _, _, .cons h r, h2 => .cons h (LooAll.snoc r h2)
theorem okL_row {k : Nat} {d : PyData} (hr : isRow d = true) (h : okL k d = true) : ∃ j, k = j + 1 ∧ (items d).length ≤ 90 ∧ ∀ e ∈ items d, okL j e = true := by
  cases k with
  | zero => cases d <;> first | (cases hr; done) | (cases h; done)
  | succ j =>
    refine ⟨j, rfl, ?_⟩
    cases d <;> first
      | (cases hr; done)
      | (obtain ⟨h1, h2⟩ := Bool.and_eq_true_iff.mp h; exact ⟨of_decide_eq_true h1, fun e he => List.all_eq_true.mp h2 e he⟩)
theorem DAll.snoc {H : Hp} {xs : List V} {ds : List PyData} {x : V} {d : PyData} (h : DAll H xs ds) (hd : D H x d) : DAll H (xs ++ [x]) (ds ++ [d]) := h.app (.cons hd .nil)
/-- a comprehension over the row in slot i, whose elements change what Pv tells -/
theorem lcs_row {K : PySem.W.Frag} {i j : Nat} {te : TE} {vs : List Nat} {σ : L2.St} {H : Hp} {a : Addr} {xs : List V} {Q : VK} (Pv : Addr → Nat → Hp → Prop) (hσ : σ[i]? = some (some (.ref a))) (hr : Row H a xs)
    (hw : ∀ x : V, wipe ((wipe σ vs).set j (some x)) vs = wipe σ vs)
    (h0 : ∀ D, H D = none → Pv D 0 (upd H D (.lst [])))
    (hkeep : ∀ D i H', Pv D i H' → ∀ o, H a = some o → H' a = some o)
    (hs : ∀ D i x H', xs[i]? = some x → Pv D i H' → te ((wipe σ vs).set j (some x)) H' fun y H4 => ∃ acc, H4 D = some (.lst acc) ∧ acc.length < sizeLine ∧ Pv D (i + 1) (upd H4 D (.lst (acc ++ [y]))))
    (hq : ∀ D H', Pv D xs.length H' → Q (.ref D) H') : tLc (iOr (iList K (tVar i)) (iTup K (tVar i))) (gName j) tYes te vs σ H Q := by
  have body : ∀ D i x H', xs[i]? = some x → Pv D i H' → gName j x (wipe σ vs) H' fun σ2 H2 => wipe σ2 vs = wipe σ vs ∧ tYes σ2 H2 fun b H3 =>
      if b = true then te σ2 H3 fun y H4 => ∃ acc, H4 D = some (.lst acc) ∧ acc.length < sizeLine ∧ Pv D (i + 1) (upd H4 D (.lst (acc ++ [y]))) else Pv D (i + 1) H3 := fun D i x H' hx p => by
    refine ⟨hw x, ?_⟩
    unfold tYes
    dsimp only
    rw [if_pos rfl]
    exact hs D i x H' hx p
  rcases hr with h | h
  · refine .inl ⟨_, hσ, a, rfl, ⟨xs, SqL.of h⟩, fun D hD => ?_⟩
    exact lc_it (walk_list (xs := xs)) (Pv D) (h0 D hD) (fun i H' _ p => SqL.of (hkeep D i H' p _ h)) (fun i x H' H'' hi p y => by
      obtain ⟨rfl, hx⟩ := y
      exact body D i x H'' hx p) (fun H' p => hq D H' p)
  · refine .inr ⟨_, hσ, a, rfl, ⟨xs, SqT.of h⟩, fun D hD => ?_⟩
    exact lc_it (walk_tup (xs := xs)) (Pv D) (h0 D hD) (fun i H' _ p => SqT.of (hkeep D i H' p _ h)) (fun i x H' H'' hi p y => by
      obtain ⟨rfl, hx⟩ := y
      exact body D i x H'' hx p) (fun H' p => hq D H' p)
theorem off_back {a c l : Addr} {n : Int} {H H' : Hp} (e : Ex (off a c H) (off a c H')) (S : Strm H' a c n) (h : H' l = none) : H l = none := by
  cases q : H l with
  | none => rfl
  | some o =>
    exfalso
    obtain ⟨⟨_, _, _, g1, g2, _⟩, _, _⟩ := S
    by_cases la : l = a
    · rw [la, g1] at h
      cases h
    · by_cases lc : l = c
      · rw [lc, g2] at h
        cases h
      · have z := off_of (e l o ((off_ne la lc).trans q))
        rw [h] at z
        cases z
/-- a region of the heap has grown by what is new -/
structure Reg (a c : Addr) (G G' H H' : Hp) : Prop where
  e : Ex G G'
  i : Ex G' (off a c H')
  f : ∀ b, G' b ≠ none → G b ≠ none ∨ H b = none
section
variable {P : Program} {w : World} {K : PySem.W.Frag} {mg : Str → Option Value} {base : Heap}
abbrev s_loose := top 54
theorem sc_loose : FnScope ["stream", "thing", "found", "part"] ["stream", "thing"] (defScope s_loose) := ⟨rfl, rfl, rfl, by decide +kernel, rfl, by decide +kernel, by decide +kernel⟩
def spLoose : Nat → Sp
  | 0 => fun _ _ _ _ => False
  | k + 1 => fun vs H Q _ => ∃ a c n v d G, vs = [.ref a, v] ∧ Strm H a c n ∧ Ex G (off a c H) ∧ D G v d ∧ okL k d = true ∧ n + dr k ≤ 2 ^ 39 ∧
      ∀ H' v' d' G' n', Ex (off a c H) (off a c H') → Strm H' a c n' → n ≤ n' → n' ≤ n + dr k → Reg a c G G' H H' → D G' v' d' → Loo d d' → Q v' H'
theorem ok_loose {f f1 : Addr} {fd fd1 : FuncData} (F : FD K mg "_law_loose" "_law_loose" s_loose f fd) (F1 : FD K mg "_law_draw" "_law_draw" s_draw f1 fd1) (T : Bl mg) : ∀ k, FnOk P w K mg base CX0 (k + 1) f fd ["stream", "thing"] (spLoose k)
  | 0 => ⟨fun _ _ _ _ h => h.elim, fun _ _ _ _ _ _ _ _ _ _ _ _ _ h => h.elim⟩
  | k + 1 => by
    have G0 := ok_loose F F1 T k
    have G1 : FnOk P w K mg base CX0 1 f1 fd1 ["stream", "many"] spDraw := ok_draw F1 T
    have b0 : Binds K fd ["stream", "thing"] [] := F.F.binds fun _ _ _ _ _ _ us hl => match us, hl with | [_, _], _ => rfl
    refine F.F.ok sc_loose (fun vs H Q E h => ?_) (fun cdv A outer s H vs Q E hr h => ?_)
    · obtain ⟨a, c, n, v, d, G, rfl, _⟩ := h
      rfl
    · obtain ⟨a, c, n, v, d, G, rfl, S, eG, hd, hok, hn, kq⟩ := h
      have nd := sc_loose.nd
      refine ⟨_, pss_cons (ps_if (pt_not (pt_val (pe_callB call_isiT (by rfl) T.isinstance (by decide +kernel) (pa_cons (pv 1) (pa_cons (pe_tup (pa_cons (pe_bltn (v := .ty "list") (by rfl) T.list (by decide +kernel) rfl) (pa_cons (pe_bltn (v := .ty "tuple") (by rfl) T.tuple (by decide +kernel) rfl) pa_nil))) pa_nil))))) (pss_one (ps_ret (pv 1))) pss_nil)
        (pss_cons (ps_setLc (i := 2) (own := [("part", 3)]) (g := gName 3) (tt := tYes) rfl nd rfl rfl (sw_true rfl rfl rfl (by decide +kernel)) (pi_or (pi_list (pv 1)) (pi_tup (pv 1))) (blkOk_by (N := ["stream", "thing", "found", "part"]) (sc := defScope s_loose) (by decide +kernel))
            (fun _ _ _ _ _ => pg_name (i := 3) nd rfl (Or.inl rfl)) (fun _ _ _ _ _ => pts_nil) (fun _ _ _ _ _ => pe_call G0 hr (by rfl) F.g F.F.kp b0 .nil pass0 (pa_cons (pv 0) (pa_cons (pv 3) pa_nil))))
        (pss_one (ps_ret (pe_ifExp (pt_cmpR op_eq (pe_call G1 (hr.mono (by omega)) (by rfl) F1.g F1.F.kp (b_draw F1) .nil pass0 (pa_cons (pv 0) (pa_cons pe_int pa_nil))) pe_int (nomark _)) (pv 2)
            (pe_callTy call_tuple_of (by rfl) T.tuple PyProof.Rows.boot_tuple (pa_cons (pv 2) pa_nil)))))), ?_⟩
      have hdH := hd.ex (eG.trans off_ex)
      refine ⟨_, rfl, by show 2 ≤ sizeLine; decide, fun p np => ⟨_, p, _, _, _, _, rfl, upd_same, .cons (.ty "list") (.cons (.ty "tuple") .nil), (hdH.ex (Ex.new np)).ty, kit_row d, _, rfl, ?_⟩⟩
      have ep := Ex.new (o := .tup [.ty "list", .ty "tuple"]) np
      generalize hP : upd H p (.tup [.ty "list", .ty "tuple"]) = H0 at ep
      have S0 := S.ex ep
      have e0 := Ex.offs (a := a) (c := c) ep
      have dp := dr_pos k
      by_cases hr1 : isRow d = true
      · obtain ⟨j, rfl, hlen, hall⟩ := okL_row hr1 hok
        obtain ⟨a', xs, rfl, hrow, hxs⟩ := hd.row hr1
        have dj := dr_pos j
        have hdr : dr (j + 1) = 1 + 90 * dr j := rfl
        refine ite_ff (by rw [hr1]; rfl) ?_
        have row0 : Row H0 a' xs := ((hrow.ex eG).ex e0).ex off_ex
        refine next1 ?_
        dsimp only
        refine seq1 (asg1 ?_)
        refine lcs_row (fun Dd i H' => ∃ (acc : List V) (G' : Hp) (es : List PyData) (n' : Int), acc.length = i ∧ H' Dd = some (.lst acc) ∧ H0 Dd = none ∧ Strm H' a c n' ∧ n ≤ n' ∧ n' ≤ n + (i : Nat) * dr j ∧ Ex (off a c H0) (off a c H') ∧ Ex G G' ∧ Ex G' (off a c H') ∧ (∀ b, G' b ≠ none → G b ≠ none ∨ (H0 b = none ∧ b ≠ Dd)) ∧ DAll G' acc es ∧ LooAll ((items d).take i) es)
          (by rfl) row0 (fun x => rfl) (fun Dd hD => ?_) (fun Dd i H' p o ho => ?_) (fun Dd i x H' hx p => ?_) (fun Dd H' p => ?_)
        · refine ⟨[], G, [], n, rfl, upd_same, hD, S0.ex (Ex.new hD), Int.le_refl _, by simp, Ex.offs (Ex.new hD), Ex.refl _, (eG.trans e0).trans (Ex.offs (Ex.new hD)), fun b hb => .inl hb, .nil, .nil⟩
        · obtain ⟨acc, G', es, n', h1, h2, h3, h4, h5, h6, h7, h8, h9, h10, h11, h12⟩ := p
          rcases hrow with z | z
          · have q := eG _ _ z
            have q0 := e0 _ _ q
            rw [off_of q0] at ho
            cases ho
            exact off_of (h7 _ _ q0)
          · have q := eG _ _ z
            have q0 := e0 _ _ q
            rw [off_of q0] at ho
            cases ho
            exact off_of (h7 _ _ q0)
        · obtain ⟨acc, G', es, n', h1, h2, h3, h4, h5, h6, h7, h8, h9, h10, h11, h12⟩ := p
          obtain ⟨dx, hdx, Dx⟩ := hxs.get hx
          have hi : i < (items d).length := (List.getElem?_eq_some_iff.mp hdx).1
          have hmul : (i : Int) * dr j + dr j ≤ 90 * dr j := by
            have : ((i : Int) + 1) * dr j ≤ 90 * dr j := Int.mul_le_mul_of_nonneg_right (by omega) dj
            rw [Int.add_mul, Int.one_mul] at this
            exact this
          refine ⟨_, rfl, _, rfl, a, c, n', x, dx, G', rfl, h4, h9, Dx.ex h8, hall dx (List.mem_of_getElem? hdx), by omega, fun H4 y dy G2 n2 k1 k2 k3 k4 k5 k6 k7 => ?_⟩
          have nea := S0.nea h3
          have hD4 : H4 Dd = some (.lst acc) := off_of (k1 _ _ ((off_ne nea.1 nea.2).trans h2))
          have gD : G2 Dd = none := by
            cases e : G2 Dd with
            | none => rfl
            | some o =>
              rcases k5.f Dd (by rw [e]; simp) with z | z
              · rcases h10 Dd z with z | z
                · exfalso
                  cases e' : G Dd with
                  | none => exact z e'
                  | some o' =>
                    have q := off_of (e0 _ _ (eG _ _ e'))
                    rw [h3] at q
                    cases q
                · exact (z.2 rfl).elim
              · rw [h2] at z
                cases z
          refine ⟨acc, hD4, by rw [h1]; exact Evl.sz_lt (by omega), acc ++ [y], G2, es ++ [dy], n2, by rw [List.length_append, h1]; rfl, upd_same, h3, k2.upd nea.1 nea.2, by omega, ?_, ?_, h8.trans k5.e, fun b o hb => ?_, fun b hb => ?_, (h11.ex k5.e).snoc k6, ?_⟩
          · have ec : ((i + 1 : Nat) : Int) * dr j = (i : Int) * dr j + dr j := by
              rw [Int.natCast_add, Int.add_mul]
              simp
            rw [ec]
            omega
          · rw [off_upd_ne nea.1 nea.2]
            exact (h7.trans k1).mut (off_none h3)
          · have nb : b ≠ Dd := fun z => by
              rw [z, gD] at hb
              cases hb
            rw [off_upd_ne nea.1 nea.2, upd_ne nb]
            exact k5.i b o hb
          · rcases k5.f b hb with z | z
            · exact h10 b z
            · refine .inr ⟨?_, fun q => ?_⟩
              · cases e : H0 b with
                | none => rfl
                | some o =>
                  exfalso
                  by_cases ba : b = a
                  · obtain ⟨⟨_, _, _, g1, _⟩, _, _⟩ := h4
                    rw [ba, g1] at z
                    cases z
                  · by_cases bc : b = c
                    · obtain ⟨⟨_, _, _, _, g2, _⟩, _, _⟩ := h4
                      rw [bc, g2] at z
                      cases z
                    · have q := off_of (h7 b o ((off_ne ba bc).trans e))
                      rw [q] at z
                      cases z
              · rw [q, h2] at z
                cases z
          · rw [List.take_add_one, hdx]
            exact h12.snoc k7
        · obtain ⟨acc, G', es, n', h1, h2, h3, h4, h5, h6, h7, h8, h9, h10, h11, h12⟩ := p
          have nea := S0.nea h3
          have hlx := hxs.len
          have h12' : LooAll (items d) es := by
            rw [List.take_of_length_le (by omega)] at h12
            exact h12
          have hmul : (xs.length : Int) * dr j ≤ 90 * dr j := Int.mul_le_mul_of_nonneg_right (by omega) dj
          have gD : G' Dd = none := by
            cases e : G' Dd with
            | none => rfl
            | some o =>
              rcases h10 Dd (by rw [e]; simp) with z | z
              · exfalso
                cases e' : G Dd with
                | none => exact z e'
                | some o' =>
                  have q := off_of (e0 _ _ (eG _ _ e'))
                  rw [h3] at q
                  cases q
              · exact (z.2 rfl).elim
          refine ⟨_, rfl, a, c, n', 3, rfl, h4, by decide, by decide, by omega, fun H5 r e5 S5 r0 r1 => ⟨rfl, _, rfl, ?_⟩⟩
          have hD5 : off a c H5 Dd = some (.lst acc) := e5 _ _ ((off_ne nea.1 nea.2).trans h2)
          have eH := (e0.trans h7).trans e5
          have fr : ∀ b, G' b ≠ none → G b ≠ none ∨ H b = none := fun b hb => (h10 b hb).imp id fun z => Evl.fresh_back ep z.1
          rw [dec_z]
          by_cases hr0 : r = 0
          · rw [decide_eq_true hr0]
            refine iteT ⟨_, rfl, kq H5 (.ref Dd) (.list es) (upd G' Dd (.lst acc)) (n' + 1) eH S5 (by omega) (by omega) ⟨h8.trans (Ex.new gD), fun b o hb => ?_, fun b hb => ?_⟩ (.lst upd_same (h11.ex (Ex.new gD))) (.row true hr1 h12')⟩
            · by_cases z : b = Dd
              · rw [z, upd_same] at hb
                cases hb
                rw [z]
                exact hD5
              · rw [upd_ne z] at hb
                exact e5 _ _ (h9 _ _ hb)
            · by_cases z : b = Dd
              · rw [z]
                exact .inr (Evl.fresh_back ep h3)
              · rw [upd_ne z] at hb
                exact fr b hb
          · rw [decide_eq_false hr0]
            refine iteF ⟨_, rfl, Dd, acc, rfl, .inl ⟨SqL.of (off_of hD5), fun l nl => ?_⟩⟩
            have gl : G' l = none := by
              cases e : G' l with
              | none => rfl
              | some o =>
                have q := off_of (e5 _ _ (h9 _ _ e))
                rw [nl] at q
                cases q
            have nel := S5.nea nl
            have el := Ex.new (o := .tup acc) nl
            refine kq _ (.ref l) (.tuple es) (upd G' l (.tup acc)) (n' + 1) (eH.trans (Ex.offs el)) (S5.ex el) (by omega) (by omega) ⟨h8.trans (Ex.new gl), fun b o hb => ?_, fun b hb => ?_⟩ (.tup upd_same (h11.ex (Ex.new gl))) (.row false hr1 h12')
            · rw [off_upd_ne nel.1 nel.2]
              by_cases z : b = l
              · rw [z, upd_same] at hb ⊢
                exact hb
              · rw [upd_ne z] at hb ⊢
                exact e5 _ _ (h9 _ _ hb)
            · by_cases z : b = l
              · rw [z]
                exact .inr (off_back eH S5 nl)
              · rw [upd_ne z] at hb
                exact fr b hb
      · have hf : isRow d = false := by simpa using hr1
        refine ite_tt (by rw [hf]; rfl) ?_
        exact ⟨_, rfl, kq H0 v d G n e0 S0 (Int.le_refl _) (by omega) ⟨Ex.refl _, eG.trans e0, fun b hb => .inl hb⟩ hd (.same hf)⟩
end
end Ts


set_option Elab.async false
set_option linter.all false
set_option maxRecDepth 100000
set_option maxHeartbeats 4000000
namespace Ts
open PySem PySem.Spec L2
open Evl (Ex)
theorem perm_at {α : Type} : ∀ (l : List α) (i : Nat) (h : i < l.length), (l[i] :: l.eraseIdx i).Perm l
  | x :: l, 0, _ => List.Perm.refl _
  | x :: l, i + 1, h => (List.Perm.swap x (l[i]'(Nat.lt_of_succ_lt_succ h)) (l.eraseIdx i)).trans ((perm_at l i (Nat.lt_of_succ_lt_succ h)).cons x)
def rLenQ (K : PySem.W.Frag) : List V → Hp → VK → Prop := fun xs H Q => ∃ p ys, xs = [V.ref p] ∧ (SqL K H p ys ∨ SqT K H p ys) ∧ Q (.int (ys.length : Nat)) H
section
variable {P : Program} {w : World} {K : PySem.W.Frag} {mg : Str → Option Value} {base : Heap}
abbrev s_pick := top 51
abbrev s_mixed := top 52
theorem sc_pick : FnScope ["stream", "some"] ["stream", "some"] (defScope s_pick) := ⟨rfl, rfl, rfl, by decide +kernel, rfl, by decide +kernel, by decide +kernel⟩
theorem sc_mixed : FnScope ["stream", "some", "left", "k"] ["stream", "some"] (defScope s_mixed) := ⟨rfl, rfl, rfl, by decide +kernel, rfl, by decide +kernel, by decide +kernel⟩
def spPick : Sp := fun vs H Q _ => ∃ (a c b : Addr) (n : Int) (xs : List V), vs = [.ref a, .ref b] ∧ Strm H a c n ∧ off a c H b = some (.lst xs) ∧ 1 ≤ xs.length ∧ xs.length ≤ 1000000 ∧ n < 2 ^ 40 ∧
  ∀ H' x, Ex (off a c H) (off a c H') → Strm H' a c (n + 1) → x ∈ xs → Q x H'
theorem ok_pick {f f1 : Addr} {fd fd1 : FuncData} (F : FD K mg "_law_pick" "_law_pick" s_pick f fd) (F1 : FD K mg "_law_draw" "_law_draw" s_draw f1 fd1) (T : Bl mg) : FnOk P w K mg base CX0 2 f fd ["stream", "some"] spPick := by
  have G1 : FnOk P w K mg base CX0 1 f1 fd1 ["stream", "many"] spDraw := ok_draw F1 T
  refine F.F.ok sc_pick (fun vs H Q E h => ?_) (fun cdv A outer s H vs Q E hr h => ?_)
  · obtain ⟨a, c, b, n, xs, rfl, _⟩ := h
    rfl
  · obtain ⟨a, c, b, n, xs, rfl, S, hb, l1, l2, nz, k⟩ := h
    refine ⟨_, pss_one (ps_ret (pe_ix ix_seq (pv 1) (pe_call G1 hr (by rfl) F1.g F1.F.kp (b_draw F1) .nil pass0 (pa_cons (pv 0) (pa_cons (pe_callB call_len_seq (by rfl) T.len PySem.boot_len (pa_cons (pv 1) pa_nil)) pa_nil))) (fun _ _ => rfl))), ?_⟩
    refine ⟨_, rfl, _, rfl, _, rfl, b, _, rfl, .inl (SqL.of (off_of hb)), a, c, n, _, rfl, S, by omega, ?_, nz, fun H' r e S' r0 r1 => ?_⟩
    · have : (1000000 : Int) < 2 ^ 60 := by decide
      omega
    · have hb' := off_of (e _ _ hb)
      obtain ⟨m, rfl⟩ := Int.eq_ofNat_of_zero_le r0
      have hm : m < xs.length := by omega
      exact ix_row (.inl hb') (atI_nat (List.getElem?_eq_getElem hm)) (k H' _ e S' (List.getElem_mem hm))
def spMixed : Sp := fun vs H Q _ => ∃ (a c b : Addr) (n : Int) (xs : List V), vs = [.ref a, .ref b] ∧ Strm H a c n ∧ off a c H b = some (.lst xs) ∧ xs.length ≤ 1000 ∧ n < 2 ^ 39 ∧
  ∀ H' M ys, H M = none → Ex (off a c H) (off a c H') → Strm H' a c (n + xs.length) → off a c H' M = some (.lst ys) → ys.Perm xs → Q (.ref M) H'
theorem ok_mixed {f f1 : Addr} {fd fd1 : FuncData} (F : FD K mg "_law_mixed" "_law_mixed" s_mixed f fd) (F1 : FD K mg "_law_draw" "_law_draw" s_draw f1 fd1) (T : Bl mg) : FnOk P w K mg base CX0 2 f fd ["stream", "some"] spMixed := by
  have G1 : FnOk P w K mg base CX0 1 f1 fd1 ["stream", "many"] spDraw := ok_draw F1 T
  refine F.F.ok sc_mixed (fun vs H Q E h => ?_) (fun cdv A outer s H vs Q E hr h => ?_)
  · obtain ⟨a, c, b, n, xs, rfl, _⟩ := h
    rfl
  · obtain ⟨a, c, b, n, xs, rfl, S, hb, l2, nz, k⟩ := h
    have nd := sc_mixed.nd
    refine ⟨_, (pss_cons (ps_set (i := 2) nd rfl (Or.inr rfl) (pe_callTy call_list_of (by rfl) T.list PyProof.Rows.boot_list (pa_cons (pv 1) pa_nil)))
      (pss_one (ps_ret (pe_lc (own := [("k", 3)]) (g := gName 3) (tt := tYes) rfl nd (pi_range1 (by rfl) T.range (pa_cons (pe_callB call_len_seq (by rfl) T.len PySem.boot_len (pa_cons (pv 2) pa_nil)) pa_nil)) (blkOk_by (N := ["stream", "some", "left", "k"]) (sc := defScope s_mixed) (by decide +kernel)) (fun _ _ _ _ _ => pg_name (i := 3) nd rfl (Or.inl rfl)) (fun _ _ _ _ _ => pts_nil) (fun _ _ _ _ _ => (show PE _ _ (tBM K "list" rPopAt (tVar 2) (tCons (tCall spDraw [] E0 (tCons (tVar 0) (tCons (tCB (rLenQ K) (tCons (tVar 2) tNil)) tNil))) tNil)) from (pe_bm PySem.F.plainAttrs_list PySem.F.slot_list_pop PySem.F.type_list_pop mt_popAt (pv 2) (pa_cons (pe_call G1 hr (by rfl) F1.g F1.F.kp (b_draw F1) .nil pass0 (pa_cons (pv 0) (pa_cons (pe_callB (r := rLenQ K) call_len_seq (by rfl) T.len PySem.boot_len (pa_cons (pv 2) pa_nil)) pa_nil))) pa_nil)))))))), ?_⟩
    refine ⟨_, rfl, b, _, rfl, .inl (SqL.of (off_of hb)), fun l nl => ?_⟩
    obtain ⟨la, lc⟩ := S.nea nl
    refine ⟨_, rfl, l, _, rfl, .inl (SqL.of upd_same), _, rfl, by omega, by omega, fun Dd nD => ?_⟩
    have S1 := S.upd (o := .lst xs) la lc
    have hl1 : upd H l (.lst xs) l = some (.lst xs) := upd_same
    have e1 : Ex (off a c H) (off a c (upd H l (.lst xs))) := Ex.offs (Ex.new nl)
    have nDl : Dd ≠ l := fun z => by
      rw [z, upd_same] at nD
      cases nD
    have DH : H Dd = none := by
      rw [upd_ne nDl] at nD
      exact nD
    have LH : off a c H l = none := by rw [off_ne la lc]; exact nl
    generalize upd H l (.lst xs) = H1 at *
    obtain ⟨Da, Dc⟩ := S1.nea nD
    refine it_gen (walk_range (lo := 0) (n := xs.length)) (fun i H' => ∃ acc rest, H' Dd = some (.lst acc) ∧ H' l = some (.lst rest) ∧ (acc ++ rest).Perm xs ∧ acc.length = i ∧ Strm H' a c (n + (i : Nat)) ∧ Ex (off a c H) (off a c H')) ⟨[], xs, upd_same, by rw [upd_ne nDl.symm]; exact hl1, List.Perm.refl _, rfl, by simpa using S1.upd Da Dc, ?_⟩ (fun _ _ _ _ => trivial) (fun i x H2 H3 hi q y => ?_) (fun H' q => ?_)
    · rw [off_upd_ne Da Dc]
      exact e1.mut (by rw [off_ne Da Dc]; exact DH)
    · obtain ⟨acc, rest, hD, hl, hp, hlen, S2, e2⟩ := q
      obtain ⟨eH, rfl⟩ := y
      subst eH
      have hpl := hp.length_eq
      rw [List.length_append] at hpl
      refine ⟨rfl, yes_of ?_⟩
      refine ⟨_, rfl, .inl ⟨rfl, _, SqL.of hl⟩, _, rfl, _, rfl, l, rest, rfl, .inl (SqL.of hl), a, c, n + (i : Nat), _, rfl, S2, by omega, ?_, ?_, fun H4 r e4 S4 r0 r1 => ?_⟩
      · have : (1000 : Int) < 2 ^ 60 := by decide
        omega
      · have : (2 : Int) ^ 39 + 1000 < 2 ^ 40 := by decide
        omega
      obtain ⟨m, rfl⟩ := Int.eq_ofNat_of_zero_le r0
      have hm : m < rest.length := by omega
      have at4 : ∀ z o, z ≠ a → z ≠ c → H3 z = some o → H4 z = some o := fun z o n1 n2 h => off_of (e4 _ _ (by rw [off_ne n1 n2]; exact h))
      have hl4 := at4 _ _ la lc hl
      have hD4 := at4 _ _ Da Dc hD
      refine ⟨l, rest, (m : Int), m, rest[m], rfl, rfl, hl4, by omega, by omega, seqIndex_of (by omega) (by omega), List.getElem?_eq_getElem hm, acc, by rw [upd_ne nDl]; exact hD4, by rw [hlen]; exact Nat.lt_of_lt_of_le (show i < 1001 by omega) (by decide), acc ++ [rest[m]], rest.eraseIdx m, upd_same, by rw [upd_ne nDl.symm, upd_same], ?_, by rw [List.length_append, hlen]; rfl, ?_, ?_⟩
      · rw [List.append_assoc]
        exact (List.Perm.append_left acc (perm_at rest m hm)).trans hp
      · have z := (S4.upd (o := .lst (rest.eraseIdx m)) la lc).upd (o := .lst (acc ++ [rest[m]])) Da Dc
        have ec : n + ((i + 1 : Nat) : Int) = n + (i : Nat) + 1 := by omega
        rw [ec]
        exact z
      · rw [off_upd_ne Da Dc, off_upd_ne la lc]
        exact ((e2.trans e4).mut LH).mut (by rw [off_ne Da Dc]; exact DH)
    · obtain ⟨acc, rest, hD, hl, hp, hlen, S2, e2⟩ := q
      have hpl := hp.length_eq
      rw [List.length_append] at hpl
      have hr0 : rest = [] := List.eq_nil_of_length_eq_zero (by omega)
      subst hr0
      rw [List.append_nil] at hp
      exact k H' Dd acc DH e2 S2 (by rw [off_ne Da Dc]; exact hD) hp
end
end Ts


set_option Elab.async false
set_option linter.all false
set_option maxRecDepth 100000
set_option maxHeartbeats 4000000
namespace Ts
open PySem PySem.Spec L2 PyProof.Rows
variable {X : Cx}
/-- sorted(d), d a dict whose keys are ints, any number of them -/
def rSortedDI : List V → Hp → VK → Prop := fun xs H Q => ∃ (a : Addr) (us : List Int), xs = [.ref a] ∧ H a = some (.dK (KS us)) ∧ us.length ≤ 1000000 ∧
  ∀ (ys : List Int) (p : Addr), ys.Perm us → ys.Pairwise (· ≤ ·) → H p = none → Q (.ref p) (upd H p (.lst (ys.map V.int)))
theorem cr_sortedDI (hcalm : X.calm = true) : CallR X (.builtin "sorted") rSortedDI := by
  intro pins s σ H xs us Q I r q
  obtain ⟨a, ks, rfl, hd, hz, q⟩ := q
  obtain ⟨u, rfl, rx⟩ := vals1 r
  cases rx
  obtain ⟨z, lo, vs, rel, dd⟩ := dk_of I.hok hd
  obtain ⟨ep, hat⟩ := dd.dictAt
  have hkeys : vs.map (·.1) = ks.map Sum.inl := by
    rw [← rel.keys]
    unfold KS
    rw [List.map_map]
    rfl
  have hl : vs.length = ks.length := by
    have e := congrArg List.length hkeys
    rw [List.length_map, List.length_map] at e
    exact e
  have h16 : vs.length ≤ sizeLine := by rw [hl]; exact Nat.le_trans hz (by decide)
  refine Calls.call_function_entry kind_sorted plain_sorted entry_sorted (args_sorted1 _) ?_
  unfold Builtin.«sorted»
  refine wpAny_bind (m := checkCount "sorted" 1 1 _) (wpAny_pure ?_)
  refine wpAny_bind (PySem.W.kdu_collect (A := X.A.in1) (PySem.W.kdl_dict (knd := mixKind X.prog X.w) (kvs := vs) (ep := ep) lo) (I.ok.hd hcalm) hat h16 fun h' tk acc hk hacc => ?_)
  have hal : acc.toList.length = ks.length := by rw [Array.length_toList, hacc.1, hl]
  have hS : IntsAre acc.toList ks := ints_each hal fun j v e => by
    obtain ⟨k, x, e1, e2⟩ := hacc.2 j v (by rw [← Array.getElem?_toList]; exact e)
    have e3 : (vs.map (·.1))[j]? = some k := by rw [List.getElem?_map, e1]; rfl
    rw [hkeys, List.getElem?_map] at e3
    cases e4 : ks[j]? with
    | none => rw [e4] at e3; cases e3
    | some y =>
      rw [e4] at e3
      have e5 : Sum.inl y = k := Option.some.inj e3
      subst e5
      rcases keyIs_shape (show keyIs (Sum.inl y) v = true from e2) with ⟨i, t, ek, ev⟩ | ⟨z, t, ek, ev⟩
      · cases ek
        exact ⟨y, t, rfl, ev⟩
      · cases ek
  have I1 : Inv X pins σ H { s with heap := h', toks := tk } := I.kept hk
  have hacz : acc.toList.length ≤ sizeLine := by rw [hal]; exact Nat.le_trans hz (by decide)
  refine wpAny_bind (wpAny_newList ?_ hacz)
  have hoL : (h'.push (seqObj "list" acc.toList.toArray 0)).get? h'.objs.size = some (seqObj "list" acc.toList.toArray 0) := Heap.get?_push_size _ rfl
  show wpAny _ _ _ _ _ { s with heap := h'.push (seqObj "list" acc.toList.toArray 0), toks := tk }
  refine wpAny_bind (wpAny_holding (wpAny_call_entry slot_list_sort ⟨_, hoL, rfl⟩ entry_list_sort
    (SrtO.list_sort_ord (s := { s with heap := h'.push (seqObj "list" acc.toList.toArray 0), toks := tk }) SrtO.swo_int hoL hacz (fun h2 => SrtO.ints_sortable hS h2) fun out h1 h2 => ⟨_, rfl, ?_⟩) (args_list_sort _)))
  obtain ⟨k1, k2, k3⟩ := SrtO.ints_out hS h1 h2
  obtain ⟨e', he'⟩ := sortedHeap_at (vs := acc.toList) (out := out.toArray) hoL
  have hlen : ((out.map SrtO.iv).map V.int).length ≤ sizeLine := by
    rw [List.length_map, k2.length_eq]
    exact Nat.le_trans hz (by decide)
  refine wpAny_pure ⟨_, rfl, .ref h'.objs.size, upd H h'.objs.size (.lst ((out.map SrtO.iv).map V.int)), I1.laid (t' := tk) (fun b u e => ?_) (Nat.le_refl _)
    (show ObjOk X.prog X.w _ _ _ (.lst ((out.map SrtO.iv).map V.int)) from ⟨hlen, out, e', vals_of_ints k1, he'⟩), rfl, q _ _ k2 k3 (I1.hok.fresh (Nat.le_refl _))⟩
  have hb : b < h'.objs.size := Heap.lt_size e
  rw [sortedHeap_old (Nat.ne_of_lt hb) (by rw [size_push']; exact Nat.lt_succ_of_lt hb)]
  exact Heap.get?_push_of_some _ e
end Ts


set_option Elab.async false
set_option linter.all false
set_option maxRecDepth 100000
set_option maxHeartbeats 4000000
namespace Ts
open PySem PySem.Spec L2
open Evl (Ex)
theorem pair_imp {α β : Type} {F G : α → β → Prop} (h : ∀ a b, F a b → G a b) : ∀ {l : List α} {m : List β}, Paired F l m → Paired G l m
  | _, _, .nil => .nil
  | _, _, .cons a r => .cons (h _ _ a) (pair_imp h r)
theorem merge_KS : ∀ (ns us0 : List Int), ∃ us, mergeK (KS us0) (KS ns) = KS us ∧ ∀ u, u ∈ us ↔ u ∈ us0 ∨ u ∈ ns
  | [], us0 => ⟨us0, rfl, fun u => ⟨.inl, fun h => h.elim id fun h => by cases h⟩⟩
  | n :: ns, us0 => by
    obtain ⟨us, e, h⟩ := merge_KS ns (if n ∈ us0 then us0 else us0 ++ [n])
    refine ⟨us, ?_, fun u => ?_⟩
    · rw [← e, ← put_us]
      rfl
    · rw [h u, ins_us, List.mem_cons, or_assoc]
section
variable {P : Program} {w : World} {K : PySem.W.Frag} {mg : Str → Option Value} {base : Heap}
abbrev s_together := top 45
abbrev s_aleast := top 46
theorem sc_together : FnScope ["numbers", "found", "number"] ["numbers"] (defScope s_together) := ⟨rfl, rfl, rfl, by decide +kernel, rfl, by decide +kernel, by decide +kernel⟩
theorem sc_aleast : FnScope ["numbers", "known", "found", "number"] ["numbers"] (defScope s_aleast) := ⟨rfl, rfl, rfl, by decide +kernel, rfl, by decide +kernel, by decide +kernel⟩
def spTogether : Sp := fun vs H Q _ => ∃ (b : Addr) (ns : List Int), vs = [.ref b] ∧ H b = some (.lst (ns.map V.int)) ∧ Q (.int (ns.foldl Builtin.bitXor 0)) H
theorem ok_together {f : Addr} {fd : FuncData} (F : FD K mg "_law_a_together" "_law_a_together" s_together f fd) : FnOk P w K mg base CX0 1 f fd ["numbers"] spTogether := by
  refine F.F.ok sc_together (fun vs H Q E h => ?_) (fun cdv A outer s H vs Q E hr h => ?_)
  · obtain ⟨b, ns, rfl, _⟩ := h
    rfl
  · obtain ⟨b, ns, rfl, hb, k⟩ := h
    have nd := sc_together.nd
    refine ⟨_, (pss_cons (ps_set (i := 1) nd rfl (Or.inl rfl) pe_int)
      (pss_cons (ps_for PassesOwn.never rfl (pi_list (pv 0)) (pg_name (i := 2) nd rfl (Or.inl rfl)) (pss_one (ps_set (i := 1) nd rfl (Or.inl rfl) (pe_op op_xor (pv 1) (pv 2)))))
      (pss_one (ps_ret (pv 1))))), ?_⟩
    refine ⟨_, rfl, b, rfl, ⟨_, SqL.of hb⟩, for_list (K := K) (a := b) (xs := ns.map V.int) (fun i σ H' => ∃ v2, σ = [some (.ref b), some (.int ((ns.take i).foldl Builtin.bitXor 0)), v2] ∧ H' = H) ⟨none, by rw [List.take_zero]; rfl, rfl⟩ (fun i σ H' _ q => ?_) (fun i x σ H' hx q => ?_) (fun σ H' q => ?_)⟩
    · obtain ⟨v2, rfl, rfl⟩ := q
      exact SqL.of hb
    · obtain ⟨v2, rfl, rfl⟩ := q
      rw [List.getElem?_map] at hx
      cases hq : ns[i]? with
      | none => rw [hq] at hx; cases hx
      | some n =>
        rw [hq] at hx
        cases hx
        refine ⟨_, rfl, _, rfl, _, _, rfl, rfl, some (.int n), ?_, rfl⟩
        rw [List.take_add_one, hq, List.foldl_append]
        rfl
    · obtain ⟨v2, rfl, rfl⟩ := q
      rw [List.length_map, List.take_length]
      exact ⟨_, rfl, k⟩
def spAleast : Sp := fun vs H Q _ => ∃ (b : Addr) (ns : List Int), vs = [.ref b] ∧ H b = some (.lst (ns.map V.int)) ∧ ns.length ≤ 1000000 ∧ ∀ H' m, Ex H H' → IsMex (· ∈ ns) m → Q (.int m) H'
theorem ok_aleast {f : Addr} {fd : FuncData} (F : FD K mg "_law_a_least" "_law_a_least" s_aleast f fd) (T : Bl mg) : FnOk P w K mg base CX0 1 f fd ["numbers"] spAleast := by
  refine F.F.ok sc_aleast (fun vs H Q E h => ?_) (fun cdv A outer s H vs Q E hr h => ?_)
  · obtain ⟨b, ns, rfl, _⟩ := h
    rfl
  · obtain ⟨b, ns, rfl, hb, hz, k⟩ := h
    have nd := sc_aleast.nd
    have hu : _ + 1 < cLine := Nat.lt_of_le_of_lt (Nat.add_le_add_left (by decide) _) hr.units
    refine ⟨_, (pss_cons (ps_par (i := 1) (j := 2) (by rfl) nd rfl rfl (by decide) rfl rfl (pa_cons (pe_callTy (call_dictP rfl) (by rfl) T.dict PyProof.Rows.boot_dict (pa_cons (pe_lc (own := [("number", 3)]) (g := gName 3) (tt := tYes) rfl nd (pi_list (pv 0)) (blkOk_by (N := ["numbers", "known", "found", "number"]) (sc := defScope s_aleast) (by decide +kernel)) (fun _ _ _ _ _ => pg_name (i := 3) nd rfl (Or.inl rfl)) (fun _ _ _ _ _ => pts_nil) (fun _ _ _ _ _ => pe_tup (pa_cons (pv 3) (pa_cons pe_bl pa_nil)))) pa_nil)) (pa_cons pe_int pa_nil)) rfl)
      (pss_cons (ps_while PassesOwn.never (pt_cmp (pc_din hu (pv 2) (pv 1))) (pss_one (ps_set (i := 2) nd rfl (Or.inl rfl) (pe_op op_add (pv 2) pe_int))))
      (pss_one (ps_ret (pv 2))))), ?_⟩
    refine ⟨_, rfl, b, rfl, ⟨_, SqL.of hb⟩, fun D hD => ?_⟩
    refine it_gen (walk_list (xs := ns.map V.int)) (fun i H' => Ex H H' ∧ ∃ ps : List Addr, ps.length = i ∧ H' D = some (.lst (ps.map V.ref)) ∧ Paired (fun p (kv : Key × V) => H' p = some (.tup [kV kv.1, kv.2])) ps (KS (ns.take i))) ⟨Ex.new hD, [], rfl, upd_same, by rw [List.take_zero]; exact .nil⟩ (fun i H' _ q => SqL.of (q.1 _ _ hb)) (fun i x H1 H2 hi q y => ?_) (fun H' q => ?_)
    · obtain ⟨e, ps, hl, hd, hp⟩ := q
      obtain ⟨eH, hx⟩ := y
      subst eH
      rw [List.getElem?_map] at hx
      rw [List.length_map] at hi
      cases hq : ns[i]? with
      | none => rw [hq] at hx; cases hx
      | some n =>
        rw [hq] at hx
        cases hx
        refine ⟨rfl, yes_of ?_⟩
        refine ⟨_, rfl, by show 2 ≤ sizeLine; decide, fun z nz => ?_⟩
        have ez := Ex.new (o := .tup [V.int n, V.bl true]) nz
        have dz : upd H2 z (.tup [V.int n, V.bl true]) z = some (.tup [V.int n, V.bl true]) := upd_same
        have hd' := ez _ _ hd
        refine ⟨_, hd', by rw [List.length_map, hl]; exact Nat.lt_of_le_of_lt (show i ≤ 1000000 by omega) (by decide), (e.trans ez).mut hD, ps ++ [z], by rw [List.length_append, hl]; rfl, by rw [upd_same, List.map_append]; rfl, ?_⟩
        have up : ∀ (p : Addr) (kv : Key × V), upd H2 z (.tup [V.int n, V.bl true]) p = some (.tup [kV kv.1, kv.2]) → upd (upd H2 z (.tup [V.int n, V.bl true])) D (.lst (ps.map V.ref ++ [V.ref z])) p = some (.tup [kV kv.1, kv.2]) := fun p kv h => by
          have ne : p ≠ D := fun w => by
            rw [w, hd'] at h
            cases h
          rw [upd_ne ne]
          exact h
        have ek : KS (ns.take (i + 1)) = KS (ns.take i) ++ [((.inl n : Key), V.bl true)] := by
          rw [List.take_add_one, hq]
          unfold KS
          rw [List.map_append]
          rfl
        rw [ek]
        exact Paired.snoc (pair_imp (fun p kv h => up p kv (ez _ _ h)) hp) (up z (.inl n, .bl true) dz)
    · obtain ⟨e, ps, hl, hd, hp⟩ := q
      rw [List.length_map, List.take_length] at hp
      refine ⟨D, ps, KS ns, rfl, SqL.of hd, pair_imp (fun p kv h => SqT.of h) hp, fun d nd' => ?_⟩
      obtain ⟨us, em, hus⟩ := merge_KS ns []
      have em : mergeK [] (KS ns) = KS us := em
      rw [em]
      have e2 : Ex H (upd H' d (.dK (KS us))) := e.trans (Ex.new nd')
      have hd2 : upd H' d (.dK (KS us)) d = some (.dK (KS us)) := upd_same
      generalize upd H' d (.dK (KS us)) = H2 at e2 hd2
      obtain ⟨m, hm, hlt⟩ := least_ex (p := fun m : Nat => valV (KS us) (.inl (m : Int)) = none) (no_key (KS us))
      have isin : ∀ u : Int, valV (KS us) (.inl u) = none ↔ ¬ u ∈ ns := fun u => by
        have z := valV_KS (us := us) (u := u)
        have z2 := hus u
        constructor
        · intro h w
          rw [h, decide_eq_true (z2.mpr (.inr w))] at z
          cases z
        · intro h
          cases e : valV (KS us) (.inl u) with
          | none => rfl
          | some v =>
            rw [e] at z
            rcases z2.mp (of_decide_eq_true z.symm) with w | w
            · cases w
            · exact absurd w h
      have mex : IsMex (· ∈ ns) (m : Int) := ⟨by omega, (isin _).mp hm, fun j h0 h1 => by
        obtain ⟨j', rfl⟩ := Int.eq_ofNat_of_zero_le h0
        exact Classical.byContradiction fun w => hlt j' (by omega) ((isin _).mpr w)⟩
      refine ⟨_, _, rfl, ?_⟩
      refine while_by (fun σ H' => H' = H2 ∧ ∃ j : Nat, j ≤ m ∧ σ = [some (.ref b), some (.ref d), some (.int (j : Int)), none]) (fun σ _ => match σ with | [_, _, some (.int j), _] => m - j.toNat | _ => 0) ⟨rfl, 0, Nat.zero_le _, rfl⟩ (fun σ H' p => ?_) (fun σ H' q q' hq h => ?_)
      · obtain ⟨eH, j, hj, rfl⟩ := p
        subst eH
        refine ⟨_, rfl, _, rfl, d, _, rfl, DGet.k (k := (.inl (j : Int) : Key)) hd2, _, rfl, ?_⟩
        by_cases c : j = m
        · subst c
          rw [hm]
          exact ite_ff rfl ⟨_, rfl, k _ _ e2 mex⟩
        · have hs : (valV (KS us) (.inl (j : Int))).isSome = true := by
            cases e : valV (KS us) (.inl (j : Int)) with
            | none => exact absurd e (hlt j (by omega))
            | some v => rfl
          refine ite_tt hs ⟨_, rfl, _, _, rfl, rfl, ⟨rfl, j + 1, by omega, rfl⟩, ?_⟩
          show m - ((j : Int) + 1).toNat < m - (j : Int).toNat
          omega
      · obtain ⟨v, h1, v', h2, a, o, h3, h4, b, h5, h6⟩ := h
        exact ⟨v, h1, v', h2, a, o, h3, h4, b, h5, hq _ _ h6⟩
end
end Ts


set_option Elab.async false
set_option linter.all false
set_option maxRecDepth 100000
set_option maxHeartbeats 4000000
namespace Ts
open PySem PySem.Spec L2
open Evl (Ex)
theorem ins_nodup {us : List Int} {v : Int} (h : us.Nodup) : (if v ∈ us then us else us ++ [v]).Nodup := by
  split
  · exact h
  · rename_i c
    refine List.nodup_append.mpr ⟨h, List.pairwise_singleton _ _, fun a ha b hb hab => ?_⟩
    rw [List.mem_singleton] at hb
    exact c (hb ▸ hab ▸ ha)
/-- one number goes: what a rule tells of it -/
abbrev Hit (n : Int) (r : Rl) (s : Str) (lo x : Int) : Prop := V.str r.left = V.str s ∧ Leaves r n x ∧ lo ≤ x
/-- the dicts of the law, and whether a heap may go -/
structure Tk (n : Int) (G1 G2 G3 : Int → Prop) (g : Bool) (os ts : List Int) : Prop where
  g : g = true ↔ G1 0
  o : ∀ x, x ∈ os ↔ G2 x
  t : ∀ x, x ∈ ts ↔ G3 x
  no : os.Nodup
  nt : ts.Nodup
  lo : ∀ x ∈ os, 0 ≤ x ∧ x < ((1001 : Nat) : Int)
  lt : ∀ x ∈ ts, 0 ≤ x ∧ x < ((1001 : Nat) : Int)
theorem Tk.congr {n : Int} {G1 G2 G3 G1' G2' G3' : Int → Prop} {g : Bool} {os ts : List Int} (h : Tk n G1 G2 G3 g os ts) (h1 : G1 0 ↔ G1' 0) (h2 : ∀ x, G2 x ↔ G2' x) (h3 : ∀ x, G3 x ↔ G3' x) : Tk n G1' G2' G3' g os ts :=
  ⟨h.g.trans h1, fun x => (h.o x).trans (h2 x), fun x => (h.t x).trans (h3 x), h.no, h.nt, h.lo, h.lt⟩
theorem Tk.step {n : Int} {G1 G2 G3 : Int → Prop} {g : Bool} {os ts : List Int} (h : Tk n G1 G2 G3 g os ts) {L1 L2 L3 : Prop} [Decidable L1] [Decidable L2] [Decidable L3] {x : Int} (x0 : 0 ≤ x) (x1 : x ≤ 1000) :
    Tk n (fun y => G1 y ∨ (L1 ∧ y = x)) (fun y => G2 y ∨ (L2 ∧ 1 ≤ x ∧ y = x)) (fun y => G3 y ∨ (L3 ∧ 2 ≤ x ∧ y = x)) (g || decide (L1 ∧ x = 0)) (if L2 ∧ 1 ≤ x then (if x ∈ os then os else os ++ [x]) else os) (if L3 ∧ 2 ≤ x then (if x ∈ ts then ts else ts ++ [x]) else ts) := by
  refine ⟨?_, fun y => ?_, fun y => ?_, ?_, ?_, ?_, ?_⟩
  · rw [Bool.or_eq_true, h.g, decide_eq_true_iff]
    exact ⟨fun z => z.imp id fun z => ⟨z.1, z.2.symm⟩, fun z => z.imp id fun z => ⟨z.1, z.2.symm⟩⟩
  · split
    · rename_i c
      rw [ins_us, h.o y]
      exact ⟨fun z => z.imp id fun z => ⟨c.1, c.2, z⟩, fun z => z.imp id fun z => z.2.2⟩
    · rename_i c
      rw [h.o y]
      exact ⟨.inl, fun z => z.elim id fun z => absurd ⟨z.1, z.2.1⟩ c⟩
  · split
    · rename_i c
      rw [ins_us, h.t y]
      exact ⟨fun z => z.imp id fun z => ⟨c.1, c.2, z⟩, fun z => z.imp id fun z => z.2.2⟩
    · rename_i c
      rw [h.t y]
      exact ⟨.inl, fun z => z.elim id fun z => absurd ⟨z.1, z.2.1⟩ c⟩
  · split
    · exact ins_nodup h.no
    · exact h.no
  · split
    · exact ins_nodup h.nt
    · exact h.nt
  · intro y hy
    split at hy
    · rcases ins_us.mp hy with hy | rfl
      · exact h.lo y hy
      · omega
    · exact h.lo y hy
  · intro y hy
    split at hy
    · rcases ins_us.mp hy with hy | rfl
      · exact h.lt y hy
      · omega
    · exact h.lt y hy
theorem if_ins {A : TT} {D : Ends} {σ : L2.St} {H : Hp} {i : Nat} {S : Addr} {us : List Int} {n m : Int} {c : Prop} [Decidable c] (hA : ∀ q : Bool → Hp → Prop, q (decide c) H → A σ H q) (hσ : σ[i]? = some (some (.ref S))) (h1 : σ[1]? = some (some (.int n))) (h10 : σ[10]? = some (some (.int m)))
    (hS : H S = some (.dK (KS us))) (hl : us.length < sizeLine) (k : ∀ H', Ex (del H S) H' → H' S = some (.dK (KS (if c then (if n - m ∈ us then us else us ++ [n - m]) else us))) → D.nx σ H') :
    tIfS A (sDPut (tVar i) (tOp (rI0 fun i j => .int (i - j)) (tVar 1) (tVar 10)) (tC (.bl true))) tNext D σ H := by
  have eD : Ex (del H S) H := fun b o e => by
    unfold del at e
    split at e
    · cases e
    · exact e
  refine hA _ ?_
  by_cases hc : c
  · rw [if_pos hc] at k
    refine ite_tt (decide_eq_true hc) ⟨_, hσ, _, h1, _, h10, _, _, rfl, rfl, S, _, rfl, DPut.k (k := (.inl (n - m) : Key)) hS (by unfold KS; rw [List.length_map]; exact hl), ?_⟩
    rw [put_us]
    exact k _ (eD.mut (by unfold del; rw [if_pos rfl])) upd_same
  · rw [if_neg hc] at k
    exact ite_ff (decide_eq_false hc) (k H eD hS)
/-- what the numbers of a rule told so far leave -/
abbrev Cur (n : Int) (r : Rl) (s : Str) (lo : Int) (j : Nat) (x : Int) : Prop := V.str r.left = V.str s ∧ (r.low ≤ n - x ∧ n - x < r.low + (j : Nat)) ∧ lo ≤ x
theorem top_of {r : Rl} {n : Int} (l0 : 0 ≤ r.low) (hh : ∀ h, r.high = some h → r.low ≤ h) (n1 : 1 ≤ n) :
    0 ≤ (if r.high.getD n < n then r.high.getD n else n) ∧ (if r.high.getD n < n then r.high.getD n else n) ≤ n ∧ ∀ m, m ≤ (if r.high.getD n < n then r.high.getD n else n) ↔ (m ≤ n ∧ ∀ h, r.high = some h → m ≤ h) := by
  cases e : r.high with
  | none =>
    have z : (none : Option Int).getD n = n := rfl
    rw [z, if_neg (by omega)]
    exact ⟨by omega, by omega, fun m => ⟨fun h => ⟨h, fun h z => by cases z⟩, fun h => h.1⟩⟩
  | some h =>
    have z : (some h).getD n = h := rfl
    have := hh h e
    rw [z]
    split
    · exact ⟨by omega, by omega, fun m => ⟨fun h => ⟨by omega, fun h' z => by cases z; exact h⟩, fun h' => h'.2 h rfl⟩⟩
    · exact ⟨by omega, by omega, fun m => ⟨fun h => ⟨h, fun h' z => by cases z; omega⟩, fun h => h.1⟩⟩
theorem hi_if {σ : L2.St} {H : Hp} {Q : VK} {hi : Option Int} {n : Int} (h6 : σ[6]? = some (some (hiV hi))) (h1 : σ[1]? = some (some (.int n))) (q : Q (.int (hi.getD n)) H) :
    tIf (tTest (tOp (fun x y H Q => y = V.non ∧ Q (.bl (decide (x = V.non))) H) (tVar 6) (tC .non))) (tVar 1) (tVar 6) σ H Q := by
  refine ⟨_, h6, rfl, _, rfl, ?_⟩
  cases hi with
  | none => exact ite_tt rfl ⟨_, h1, q⟩
  | some h => exact ite_ff rfl ⟨_, h6, q⟩
theorem or_ne {σ : L2.St} {H : Hp} {Q : VK} {g : Bool} {l s : Str} {m n : Int} (h2 : σ[2]? = some (some (.bl g))) (h7 : σ[7]? = some (some (.str l))) (h10 : σ[10]? = some (some (.int m))) (h1 : σ[1]? = some (some (.int n)))
    (q : Q (.bl (g || decide (V.str l = V.str s ∧ n - m = 0))) H) : tOrV (tVar 2) (tAndV (tOp rEq (tVar 7) (tC (.str s))) (tOp rEq (tVar 10) (tVar 1))) σ H Q := by
  refine ⟨_, h2, g, rfl, ?_⟩
  cases g with
  | true => exact ite_tt rfl q
  | false =>
    refine ite_ff rfl ⟨_, h7, rfl, _, rfl, ?_⟩
    have q : Q (.bl (decide (V.str l = V.str s ∧ n - m = 0))) H := q
    by_cases c : V.str l = V.str s
    · refine ite_tt (decide_eq_true c) ⟨_, h10, _, h1, rfl, ?_⟩
      rw [dec_z]
      have z : decide (m = n) = decide (V.str l = V.str s ∧ n - m = 0) := decide_eq_decide.mpr ⟨fun z => ⟨c, by omega⟩, fun z => by omega⟩
      rw [z]
      exact q
    · refine ite_ff (decide_eq_false c) ?_
      rw [decide_eq_false fun z => c z.1] at q
      exact q
section
variable {P : Program} {w : World} {K : PySem.W.Frag} {mg : Str → Option Value} {base : Heap}
abbrev s_taken := top 43
theorem sc_taken : FnScope ["raw", "heap", "goes", "ones", "twos", "low", "high", "left", "rest", "modulus", "number"] ["raw", "heap"] (defScope s_taken) := ⟨rfl, rfl, rfl, by decide +kernel, rfl, by decide +kernel, by decide +kernel⟩
def spTaken : Sp := fun vs H Q _ => ∃ (b : Addr) (qs : List (Addr × Rl)) (n : Int), vs = [.ref b, .int n] ∧ RsAt H b qs ∧ qs.length ≤ 100 ∧ (∀ q ∈ qs, q.2.Ok) ∧ (∀ q ∈ qs, q.2.low ≤ 1000) ∧ 1 ≤ n ∧ n ≤ 1000 ∧
  ∀ (z o t : Addr) H' (g : Bool) (os ts : List Int), Ex H H' → H' z = some (.tup [.bl g, .ref o, .ref t]) → H' o = some (.lst (os.map V.int)) → H' t = some (.lst (ts.map V.int)) → os.length ≤ 1001 → ts.length ≤ 1001 → os.Nodup → ts.Nodup →
    (g = true ↔ ∃ r ∈ qs.map (·.2), V.str r.left = V.str "none" ∧ Leaves r n 0) → (∀ x, x ∈ os ↔ ∃ r ∈ qs.map (·.2), V.str r.left = V.str "one" ∧ Leaves r n x ∧ 1 ≤ x) → (∀ x, x ∈ ts ↔ ∃ r ∈ qs.map (·.2), V.str r.left = V.str "two" ∧ Leaves r n x ∧ 2 ≤ x) → Q (.ref z) H'
theorem ok_taken {f : Addr} {fd : FuncData} (F : FD K mg "_law_a_taken" "_law_a_taken" s_taken f fd) (T : Bl mg) (hmin : mg "min" = none) (hsorted : mg "sorted" = none) : FnOk P w K mg base CX0 1 f fd ["raw", "heap"] spTaken := by
  refine F.F.ok sc_taken (fun vs H Q E h => ?_) (fun cdv A outer s H vs Q E hr h => ?_)
  · obtain ⟨b, qs, n, rfl, _⟩ := h
    rfl
  · obtain ⟨b, qs, n, rfl, ⟨hb, hR⟩, qz, ok, lw, n1, n2, k⟩ := h
    have nd := sc_taken.nd
    have hu : _ + 1 < cLine := Nat.lt_of_le_of_lt (Nat.add_le_add_left (by decide) _) hr.units
    refine ⟨_, (pss_cons (ps_par3 (i := 2) (j := 3) (l := 4) (by rfl) nd rfl rfl rfl (by decide) (by decide) (by decide) rfl rfl rfl (pa_cons pe_bl (pa_cons pe_dnewK (pa_cons pe_dnewK pa_nil))) rfl)
      (pss_cons (ps_for PassesOwn.never rfl (pi_list (pv 0)) (pg_tup rfl (pgs_cons (pg_name (i := 5) nd rfl (Or.inl rfl)) (pgs_cons (pg_name (i := 6) nd rfl (Or.inl rfl)) (pgs_cons (pg_name (i := 7) nd rfl (Or.inl rfl)) (pgs_cons (pg_name (i := 8) nd rfl (Or.inl rfl)) (pgs_cons (pg_name (i := 9) nd rfl (Or.inl rfl)) pgs_nil)))))) (pss_one (ps_if (pt_cmpR op_eq (pe_op op_mod (pe_callTy call_int1 (by rfl) T.int (by decide +kernel) (pa_cons (pv 1) pa_nil)) (pv 9)) (pv 8) (nomark _)) (pss_one (ps_for PassesOwn.never rfl (pi_range2 (by rfl) T.range (pa_cons (pv 5) (pa_cons (pe_op op_add (pe_callB (call_min2 rfl) (by rfl) hmin (by decide +kernel) (pa_cons (pv 1) (pa_cons (pe_ifExp (pt_cmpR op_isN (pv 6) pe_non (nomark _)) (pv 1) (pv 6)) pa_nil))) pe_int) pa_nil))) (pg_name (i := 10) nd rfl (Or.inl rfl)) (pss_cons (ps_set (i := 2) nd rfl (Or.inl rfl) (pe_or (pv 2) (pe_one (pe_and (pe_cmpR op_eq (pv 7) pe_str (nomark _)) (pe_one (pe_cmpR op_eq (pv 10) (pv 1) (nomark _)))))))
      (pss_cons (ps_if (PW.pt (pw_and (pt_cmpR op_eq (pv 7) pe_str (nomark _)) (pw_and1 (pt_cmpR op_lt (pv 10) (pv 1) (nomark _))))) (pss_one (ps_dput hu (pv 3) (pe_op op_sub (pv 1) (pv 10)) pe_bl rfl)) pss_nil)
      (pss_one (ps_if (PW.pt (pw_and (pt_cmpR op_eq (pv 7) pe_str (nomark _)) (pw_and1 (pt_cmpR op_lt (pv 10) (pe_op op_sub (pv 1) pe_int) (nomark _))))) (pss_one (ps_dput hu (pv 4) (pe_op op_sub (pv 1) (pv 10)) pe_bl rfl)) pss_nil)))))) pss_nil)))
      (pss_one (ps_ret (pe_tup (pa_cons (pv 2) (pa_cons (pe_callB (cr_sortedDI rfl) (by rfl) hsorted (by decide +kernel) (pa_cons (pv 3) pa_nil)) (pa_cons (pe_callB (cr_sortedDI rfl) (by rfl) hsorted (by decide +kernel) (pa_cons (pv 4) pa_nil)) pa_nil)))))))), ?_⟩
    refine fun O nO T2 nT => ⟨_, _, _, rfl, ?_⟩
    have OH : H O = none := nO
    have nTO : T2 ≠ O := fun z => by
      rw [z, upd_same] at nT
      cases nT
    have TH : H T2 = none := by
      rw [upd_ne nTO] at nT
      exact nT
    have hO : upd (upd H O (.dK [])) T2 (.dK []) O = some (.dK (KS [])) := by rw [upd_ne nTO.symm, upd_same]; rfl
    have hT : upd (upd H O (.dK [])) T2 (.dK []) T2 = some (.dK (KS [])) := upd_same
    have eH : Ex H (upd (upd H O (.dK [])) T2 (.dK [])) := (Ex.new nO).trans (Ex.new nT)
    generalize upd (upd H O (.dK [])) T2 (.dK []) = H1 at eH hO hT
    clear nO nT
    have big : ∀ l : List Int, l.Nodup → (∀ x ∈ l, 0 ≤ x ∧ x < ((1001 : Nat) : Int)) → l.length ≤ 1001 := fun l h1 h2 => nodup_len 1001 l h1 h2
    have big2 : ∀ l : List Int, l.length ≤ 1001 → l.length < sizeLine := fun l h => Nat.lt_of_le_of_lt h (by decide)
    refine ⟨_, rfl, b, rfl, ⟨_, SqL.of (eH _ _ hb)⟩, for_list (K := K) (a := b) (xs := qs.map fun q => V.ref q.1) (fun i σ H' => ∃ (g : Bool) (os ts : List Int) (v5 v6 v7 v8 v9 v10 : Option V), σ = [some (.ref b), some (.int n), some (.bl g), some (.ref O), some (.ref T2), v5, v6, v7, v8, v9, v10] ∧ Ex H H' ∧ H' O = some (.dK (KS os)) ∧ H' T2 = some (.dK (KS ts)) ∧
        Tk n (fun x => ∃ q ∈ qs.take i, Hit n q.2 "none" 0 x) (fun x => ∃ q ∈ qs.take i, Hit n q.2 "one" 1 x) (fun x => ∃ q ∈ qs.take i, Hit n q.2 "two" 2 x) g os ts)
      ⟨false, [], [], none, none, none, none, none, none, rfl, eH, hO, hT, ⟨⟨(fun z => by cases z), (fun ⟨q, hq, _⟩ => by cases hq)⟩, fun x => ⟨(fun z => by cases z), (fun ⟨q, hq, _⟩ => by cases hq)⟩, fun x => ⟨(fun z => by cases z), (fun ⟨q, hq, _⟩ => by cases hq)⟩, .nil, .nil, (fun x hx => by cases hx), (fun x hx => by cases hx)⟩⟩ (fun i σ H' _ q => ?_) (fun i x σ H' hx q => ?_) (fun σ H' q => ?_)⟩
    · obtain ⟨g, os, ts, v5, v6, v7, v8, v9, v10, rfl, e, _⟩ := q
      exact SqL.of (e _ _ hb)
    · obtain ⟨g, os, ts, v5, v6, v7, v8, v9, v10, rfl, e, hO', hT', tk⟩ := q
      rw [List.getElem?_map] at hx
      cases hq : qs[i]? with
      | none => rw [hq] at hx; cases hx
      | some q =>
        rw [hq] at hx
        cases hx
        have mq := List.mem_of_getElem? hq
        have hqt := e _ _ (hR q mq)
        have okq := ok q mq
        have hm : 0 < q.2.mod := by
          have := okq.rest0
          have := okq.rest1
          omega
        have htake : ∀ (p : Addr × Rl → Prop), (∃ q' ∈ qs.take (i + 1), p q') ↔ (∃ q' ∈ qs.take i, p q') ∨ p q := fun p => by
          rw [List.take_add_one, hq]
          constructor
          · rintro ⟨q', h, z⟩
            rcases List.mem_append.mp h with h | h
            · exact .inl ⟨q', h, z⟩
            · have h : q' = q := List.mem_singleton.mp h
              exact .inr (h ▸ z)
          · rintro (⟨q', h, z⟩ | z)
            · exact ⟨q', List.mem_append_left _ h, z⟩
            · exact ⟨q, List.mem_append_right _ (List.mem_singleton.mpr rfl), z⟩
        refine ⟨q.1, _, rfl, SqT.of hqt, rfl, _, _, rfl, _, _, rfl, _, _, rfl, _, _, rfl, _, _, rfl, rfl, ?_⟩
        refine ⟨_, rfl, .inl ⟨n, rfl, _, rfl, _, _, rfl, rfl, hm, _, rfl, rfl, _, rfl, ?_⟩⟩
        by_cases c : n % q.2.mod = q.2.rest
        · refine ite_tt (by rw [dec_z, decide_eq_true c]) ?_
          have l0 := okq.low0
          have l1 := lw q mq
          have hh := okq.high
          refine ⟨_, rfl, _, rfl, hi_if (hi := q.2.high) (n := n) rfl rfl ⟨_, _, rfl, _, _, rfl, rfl, _, _, rfl, ?_⟩⟩
          obtain ⟨t0, t1, top⟩ := top_of (n := n) l0 hh n1
          generalize (if q.2.high.getD n < n then q.2.high.getD n else n) = tp at t0 t1 top
          refine ⟨⟨by omega, by omega, by omega, by omega⟩, ?_⟩
          refine for_range (lo := q.2.low) (n := (tp + 1 - q.2.low).toNat) (fun j σ H' => ∃ (g : Bool) (os ts : List Int) (v10 : Option V), σ = [some (.ref b), some (.int n), some (.bl g), some (.ref O), some (.ref T2), some (.int q.2.low), some (hiV q.2.high), some (.str q.2.left), some (.int q.2.rest), some (.int q.2.mod), v10] ∧ Ex H H' ∧ H' O = some (.dK (KS os)) ∧ H' T2 = some (.dK (KS ts)) ∧
            Tk n (fun x => (∃ q' ∈ qs.take i, Hit n q'.2 "none" 0 x) ∨ Cur n q.2 "none" 0 j x) (fun x => (∃ q' ∈ qs.take i, Hit n q'.2 "one" 1 x) ∨ Cur n q.2 "one" 1 j x) (fun x => (∃ q' ∈ qs.take i, Hit n q'.2 "two" 2 x) ∨ Cur n q.2 "two" 2 j x) g os ts)
            ⟨g, os, ts, v10, rfl, e, hO', hT', tk.congr ⟨.inl, fun z => z.elim id fun z => by have := z.2.1; omega⟩ (fun x => ⟨.inl, fun z => z.elim id fun z => by have := z.2.1; omega⟩) (fun x => ⟨.inl, fun z => z.elim id fun z => by have := z.2.1; omega⟩)⟩ (fun j σ H2 hj p => ?_) (fun σ H2 p => ?_)
          · obtain ⟨g, os, ts, v10, rfl, e, hO', hT', tk⟩ := p
            have lo := big2 _ (big os tk.no tk.lo)
            have lt := big2 _ (big ts tk.nt tk.lt)
            have st := tk.step (L1 := V.str q.2.left = V.str "none") (L2 := V.str q.2.left = V.str "one") (L3 := V.str q.2.left = V.str "two") (x := n - (q.2.low + (j : Nat))) (by omega) (by omega)
            refine or_ne (g := g) rfl rfl rfl rfl ?_
            unfold gName tSeq
            dsimp only
            show tIfS _ _ _ _ _ _
            refine if_ins (c := V.str q.2.left = V.str "one" ∧ 1 ≤ n - (q.2.low + (j : Nat))) (i := 3) (S := O) (us := os) (n := n) (m := q.2.low + (j : Nat)) (fun qq hqq => tand_of (b1 := decide (V.str q.2.left = V.str "one")) (b2 := decide (q.2.low + (j : Nat) < n)) (fun qq z => ⟨_, rfl, rfl, _, rfl, z⟩) (fun qq z => ⟨_, rfl, _, rfl, _, _, rfl, rfl, _, rfl, z⟩) ?_) rfl rfl rfl hO' lo (fun H3 e3 hO3 => ?_)
            · have z : decide (V.str q.2.left = V.str "one" ∧ 1 ≤ n - (q.2.low + (j : Nat))) = (decide (V.str q.2.left = V.str "one") && decide (q.2.low + (j : Nat) < n)) := by
                rw [Bool.decide_and]
                congr 1
                exact decide_eq_decide.mpr (by omega)
              rw [← z]
              exact hqq
            have inO : ∀ a o, a ≠ O → H2 a = some o → H3 a = some o := fun a o na ha => e3 _ _ (by unfold del; rw [if_neg na]; exact ha)
            dsimp only
            refine if_ins (c := V.str q.2.left = V.str "two" ∧ 2 ≤ n - (q.2.low + (j : Nat))) (i := 4) (S := T2) (us := ts) (n := n) (m := q.2.low + (j : Nat)) (fun qq hqq => tand_of (b1 := decide (V.str q.2.left = V.str "two")) (b2 := decide (q.2.low + (j : Nat) < n - 1)) (fun qq z => ⟨_, rfl, rfl, _, rfl, z⟩) (fun qq z => ⟨_, rfl, _, rfl, _, _, rfl, rfl, _, _, rfl, rfl, _, rfl, z⟩) ?_) rfl rfl rfl (inO _ _ nTO hT') lt (fun H4 e4 hT4 => ?_)
            · have z : decide (V.str q.2.left = V.str "two" ∧ 2 ≤ n - (q.2.low + (j : Nat))) = (decide (V.str q.2.left = V.str "two") && decide (q.2.low + (j : Nat) < n - 1)) := by
                rw [Bool.decide_and]
                congr 1
                exact decide_eq_decide.mpr (by omega)
              rw [← z]
              exact hqq
            have cur : ∀ (s : Str) (l x : Int), (Cur n q.2 s l j x ∨ (V.str q.2.left = V.str s ∧ l ≤ n - (q.2.low + (j : Nat)) ∧ x = n - (q.2.low + (j : Nat)))) ↔ Cur n q.2 s l (j + 1) x := fun s l x => by
              constructor
              · rintro (⟨h1, h2, h3⟩ | ⟨h1, h2, h3⟩)
                · exact ⟨h1, by omega, h3⟩
                · exact ⟨h1, by omega, by omega⟩
              · rintro ⟨h1, h2, h3⟩
                by_cases cc : n - x < q.2.low + (j : Nat)
                · exact .inl ⟨h1, ⟨h2.1, cc⟩, h3⟩
                · exact .inr ⟨h1, by omega, by omega⟩
            refine ⟨_, _, _, _, rfl, fun a o ha => ?_, e4 _ _ (by unfold del; rw [if_neg nTO.symm]; exact hO3), hT4, st.congr ?_ (fun x => ?_) (fun x => ?_)⟩
            · have na : a ≠ O := fun z => by
                rw [z, OH] at ha
                cases ha
              have nb : a ≠ T2 := fun z => by
                rw [z, TH] at ha
                cases ha
              exact e4 _ _ (by unfold del; rw [if_neg nb]; exact inO a o na (e _ _ ha))
            · rw [or_assoc]
              refine or_congr Iff.rfl (Iff.trans ?_ (cur _ _ _))
              exact or_congr Iff.rfl ⟨fun z => ⟨z.1, by omega, z.2⟩, fun z => ⟨z.1, z.2.2⟩⟩
            · rw [or_assoc]
              exact or_congr Iff.rfl (cur _ _ _)
            · rw [or_assoc]
              exact or_congr Iff.rfl (cur _ _ _)
          · obtain ⟨g, os, ts, v10, rfl, e, hO', hT', tk⟩ := p
            have all : ∀ (s : Str) (l x : Int), 0 ≤ l → (Cur n q.2 s l (tp + 1 - q.2.low).toNat x ↔ Hit n q.2 s l x) := fun s l x hl => by
              constructor
              · rintro ⟨h1, h2, h3⟩
                have h4 : n - x ≤ tp := by omega
                exact ⟨h1, ⟨c, h2.1, ((top (n - x)).mp h4).2⟩, h3⟩
              · rintro ⟨h1, ⟨_, h4, h5⟩, h3⟩
                have h6 : n - x ≤ tp := (top (n - x)).mpr ⟨by omega, h5⟩
                exact ⟨h1, ⟨h4, by omega⟩, h3⟩
            refine ⟨g, os, ts, _, _, _, _, _, _, rfl, e, hO', hT', tk.congr ?_ (fun x => ?_) (fun x => ?_)⟩
            · exact (or_congr Iff.rfl (all _ _ _ (by decide))).trans (htake _).symm
            · exact (or_congr Iff.rfl (all _ _ _ (by decide))).trans (htake _).symm
            · exact (or_congr Iff.rfl (all _ _ _ (by decide))).trans (htake _).symm
        · refine ite_ff (by rw [dec_z, decide_eq_false c]) ?_
          have no : ∀ s lo x, ¬ Hit n q.2 s lo x := fun s lo x z => c z.2.1.1
          exact ⟨g, os, ts, _, _, _, _, _, _, rfl, e, hO', hT', tk.congr ((htake _).trans ⟨fun z => z.elim id fun z => absurd z (no _ _ _), .inl⟩).symm (fun x => ((htake _).trans ⟨fun z => z.elim id fun z => absurd z (no _ _ _), .inl⟩).symm) (fun x => ((htake _).trans ⟨fun z => z.elim id fun z => absurd z (no _ _ _), .inl⟩).symm)⟩
    · obtain ⟨g, os, ts, v5, v6, v7, v8, v9, v10, rfl, e, hO', hT', tk⟩ := q
      rw [List.length_map, List.take_length] at tk
      have lo := big os tk.no tk.lo
      have lt := big ts tk.nt tk.lt
      refine ⟨_, rfl, _, rfl, O, os, rfl, hO', Nat.le_trans lo (by decide), fun ys1 p1 perm1 asc1 np1 => ?_⟩
      have ea := Ex.new (o := .lst (ys1.map V.int)) np1
      have a1 : upd H' p1 (.lst (ys1.map V.int)) p1 = some (.lst (ys1.map V.int)) := upd_same
      generalize upd H' p1 (.lst (ys1.map V.int)) = H2 at ea a1
      refine ⟨_, rfl, T2, ts, rfl, ea _ _ hT', Nat.le_trans lt (by decide), fun ys2 p2 perm2 asc2 np2 => ?_⟩
      have eb := Ex.new (o := .lst (ys2.map V.int)) np2
      have b1 : upd H2 p2 (.lst (ys2.map V.int)) p2 = some (.lst (ys2.map V.int)) := upd_same
      generalize upd H2 p2 (.lst (ys2.map V.int)) = H3 at eb b1
      refine ⟨by show 3 ≤ sizeLine; decide, fun z nz => ?_⟩
      have ec := Ex.new (o := .tup [.bl g, .ref p1, .ref p2]) nz
      have mp : ∀ (s : Str) (lo x : Int), (∃ q ∈ qs, Hit n q.2 s lo x) ↔ ∃ r ∈ qs.map (·.2), V.str r.left = V.str s ∧ Leaves r n x ∧ lo ≤ x := fun s lo x => ⟨fun ⟨q, hq, h⟩ => ⟨q.2, List.mem_map.mpr ⟨q, hq, rfl⟩, h⟩, fun ⟨r, hr', h⟩ => by
        obtain ⟨q, hq, rfl⟩ := List.mem_map.mp hr'
        exact ⟨q, hq, h⟩⟩
      refine k z p1 p2 _ g ys1 ys2 (((e.trans ea).trans eb).trans ec) upd_same (ec _ _ (eb _ _ a1)) (ec _ _ b1) (by rw [perm1.length_eq]; exact lo) (by rw [perm2.length_eq]; exact lt) (perm1.nodup_iff.mpr tk.no) (perm2.nodup_iff.mpr tk.nt) ?_ (fun x => (perm1.mem_iff.trans (tk.o x)).trans (mp _ _ _)) (fun x => (perm2.mem_iff.trans (tk.t x)).trans (mp _ _ _))
      rw [tk.g, mp]
      exact ⟨fun ⟨r, h1, h2, h3, _⟩ => ⟨r, h1, h2, h3⟩, fun ⟨r, h1, h2, h3⟩ => ⟨r, h1, h2, h3, Int.le_refl _⟩⟩
end
end Ts


set_option Elab.async false
set_option linter.all false
set_option maxRecDepth 100000
set_option maxHeartbeats 4000000
namespace Ts
open PySem PySem.Spec L2
open Evl (Ex)
/-- a rule's line as the law writes it -/
def Rl.hi2 (r : Rl) : Str := match r.high with
  | none => " or more"
  | some h => if h = r.low then "" else " to " ++ num h
def Rl.al (r : Rl) : Str := "take " ++ num r.low ++ r.hi2
def Rl.wh (r : Rl) : Str := if r.mod = 1 then "" else " when " ++ num r.rest ++ " of " ++ num r.mod
def Rl.aline (r : Rl) : Str := r.al ++ " leave " ++ r.left ++ r.wh
theorem Rl.len_hi2 {r : Rl} (h : r.Sml) : r.hi2.length ≤ 2000 := by
  have hh := h.high
  unfold Rl.hi2
  cases e : r.high with
  | none =>
    show ((" or more" : Str)).length ≤ 2000
    decide
  | some i =>
    rw [e] at hh
    show (if i = r.low then ("" : Str) else " to " ++ num i).length ≤ 2000
    have := num_len hh
    have e2 : (" to " : Str).length = 4 := rfl
    have e3 : ("" : Str).length = 0 := rfl
    split
    · omega
    · rw [Str.length_append]
      omega
theorem Rl.len_al {r : Rl} (h : r.Sml) : r.al.length ≤ 4000 := by
  have h1 := Rl.len_hi2 h
  have h2 := num_len h.low
  have e2 : ("take " : Str).length = 5 := rfl
  unfold Rl.al
  rw [Str.length_append, Str.length_append]
  omega
theorem Rl.len_wh {r : Rl} (h : r.Sml) : r.wh.length ≤ 4000 := by
  have h1 := num_len h.rest
  have h2 := num_len h.mod
  have e2 : (" when " : Str).length = 6 := rfl
  have e3 : (" of " : Str).length = 4 := rfl
  have e4 : ("" : Str).length = 0 := rfl
  unfold Rl.wh
  split
  · omega
  · rw [Str.length_append, Str.length_append, Str.length_append]
    omega
abbrev rAddS : R2 := fun x y H Q => ∃ i j, x = V.str i ∧ y = V.str j ∧ i.length + j.length ≤ sizeLine ∧ Q (V.str (i ++ j)) H
abbrev rStrI : List V → Hp → VK → Prop := fun xs H Q => ∃ i : Int, xs = [V.int i] ∧ i.natAbs.log2 < 1920 ∧ Q (V.str (Str.ofString (toString i))) H
theorem hi_text {r : Rl} (sm : r.Sml) {σ : L2.St} {H : Hp} {Q : VK} (h2 : σ[2]? = some (some (hiV r.high))) (h1 : σ[1]? = some (some (.int r.low))) (q : Q (.str r.hi2) H) :
    tIf (tTest (tOp (fun x y H Q => y = V.non ∧ Q (.bl (decide (x = V.non))) H) (tVar 2) (tC .non))) (tC (.str " or more")) (tIf (tTest (tOp rNe (tVar 2) (tVar 1))) (tOp rAddS (tC (.str " to ")) (tCB rStrI (tCons (tVar 2) tNil))) (tC (.str ""))) σ H Q := by
  have hh := sm.high
  refine ⟨_, h2, rfl, _, rfl, ?_⟩
  unfold Rl.hi2 at q
  cases e : r.high with
  | none =>
    rw [e] at q
    exact ite_tt rfl q
  | some i =>
    rw [e] at q hh h2
    have n := num_len hh
    refine ite_ff rfl ⟨_, h2, _, h1, rfl, _, rfl, ?_⟩
    have q : Q (.str (if i = r.low then ("" : Str) else " to " ++ num i)) H := q
    by_cases c : i = r.low
    · rw [if_pos c] at q
      exact ite_ff (by show (!decide (V.int i = V.int r.low)) = false; rw [dec_z, decide_eq_true c]; rfl) q
    · rw [if_neg c] at q
      exact ite_tt (by show (!decide (V.int i = V.int r.low)) = true; rw [dec_z, decide_eq_false c]; rfl) ⟨_, h2, i, rfl, hh, _, _, rfl, rfl, le_sz (by show 4 + (num i).length ≤ _; omega), q⟩
theorem wh_text {r : Rl} (sm : r.Sml) {σ : L2.St} {H : Hp} {Q : VK} (h5 : σ[5]? = some (some (.int r.mod))) (h4 : σ[4]? = some (some (.int r.rest))) (h6 : r = r) (q : Q (.str r.wh) H) :
    tIf (tTest (tOp rNe (tVar 5) (tC (.int 1)))) (tOp rAddS (tOp rAddS (tOp rAddS (tC (.str " when ")) (tCB rStrI (tCons (tVar 4) tNil))) (tC (.str " of "))) (tCB rStrI (tCons (tVar 5) tNil))) (tC (.str "")) σ H Q := by
  have n4 := num_len sm.rest
  have n5 := num_len sm.mod
  have e6 : (" when " : Str).length = 6 := rfl
  have e4 : (" of " : Str).length = 4 := rfl
  refine ⟨_, h5, rfl, _, rfl, ?_⟩
  unfold Rl.wh at q
  by_cases c : r.mod = 1
  · rw [if_pos c] at q
    exact ite_ff (by show (!decide (V.int r.mod = V.int 1)) = false; rw [dec_z, decide_eq_true c]; rfl) q
  · rw [if_neg c] at q
    exact ite_tt (by show (!decide (V.int r.mod = V.int 1)) = true; rw [dec_z, decide_eq_false c]; rfl) ⟨_, h4, _, rfl, sm.rest, _, _, rfl, rfl, le_sz (by show 6 + (num r.rest).length ≤ _; omega), _, _, rfl, rfl, le_sz (by rw [Str.length_append]; show 6 + (num r.rest).length + 4 ≤ _; omega), _, h5, _, rfl, sm.mod, _, _, rfl, rfl, le_sz (by rw [Str.length_append, Str.length_append]; show 6 + (num r.rest).length + 4 + (num r.mod).length ≤ _; omega), q⟩
section
variable {P : Program} {w : World} {K : PySem.W.Frag} {mg : Str → Option Value} {base : Heap}
abbrev s_aline := top 38
theorem sc_aline : FnScope ["rule", "low", "high", "left", "rest", "modulus", "found"] ["rule"] (defScope s_aline) := ⟨rfl, rfl, rfl, by decide +kernel, rfl, by decide +kernel, by decide +kernel⟩
def spAline : Sp := fun vs H Q _ => ∃ (a : Addr) (r : Rl), vs = [.ref a] ∧ Row H a r.vs ∧ r.Sml ∧ ∀ H', Ex H H' → Q (.str r.aline) H'
theorem ok_aline {f : Addr} {fd : FuncData} (F : FD K mg "_law_a_line" "_law_a_line" s_aline f fd) (hstr : mg "str" = none) : FnOk P w K mg base CX0 1 f fd ["rule"] spAline := by
  refine F.F.ok sc_aline (fun vs H Q E h => ?_) (fun cdv A outer s H vs Q E hr h => ?_)
  · obtain ⟨a, r, rfl, _⟩ := h
    rfl
  · obtain ⟨a, r, rfl, hrow, sm, k⟩ := h
    have nd := sc_aline.nd
    refine ⟨_, (pss_cons (ps_asg (pv 0) (pg_or (pg_tup rfl (pgs_cons (pg_name (i := 1) nd rfl (Or.inl rfl)) (pgs_cons (pg_name (i := 2) nd rfl (Or.inl rfl)) (pgs_cons (pg_name (i := 3) nd rfl (Or.inl rfl)) (pgs_cons (pg_name (i := 4) nd rfl (Or.inl rfl)) (pgs_cons (pg_name (i := 5) nd rfl (Or.inl rfl)) pgs_nil)))))) (pg_unl rfl (pgs_cons (pg_name (i := 1) nd rfl (Or.inl rfl)) (pgs_cons (pg_name (i := 2) nd rfl (Or.inl rfl)) (pgs_cons (pg_name (i := 3) nd rfl (Or.inl rfl)) (pgs_cons (pg_name (i := 4) nd rfl (Or.inl rfl)) (pgs_cons (pg_name (i := 5) nd rfl (Or.inl rfl)) pgs_nil))))))))
      (pss_cons (ps_set (i := 6) nd rfl (Or.inl rfl) (pe_op op_add_str (pe_op op_add_str pe_str (pe_callTy call_str_int (by rfl) hstr PyProof.Rows.boot_str (pa_cons (pv 1) pa_nil))) (pe_ifExp (pt_cmpR op_isN (pv 2) pe_non (nomark _)) pe_str (pe_ifExp (pt_cmpR op_ne (pv 2) (pv 1) (nomark _)) (pe_op op_add_str pe_str (pe_callTy call_str_int (by rfl) hstr PyProof.Rows.boot_str (pa_cons (pv 2) pa_nil))) pe_str))))
      (pss_one (ps_ret (pe_op op_add_str (pe_op op_add_str (pe_op op_add_str (pv 6) pe_str) (pv 3)) (pe_ifExp (pt_cmpR op_ne (pv 5) pe_int (nomark _)) (pe_op op_add_str (pe_op op_add_str (pe_op op_add_str pe_str (pe_callTy call_str_int (by rfl) hstr PyProof.Rows.boot_str (pa_cons (pv 4) pa_nil))) pe_str) (pe_callTy call_str_int (by rfl) hstr PyProof.Rows.boot_str (pa_cons (pv 5) pa_nil))) pe_str)))))), ?_⟩
    have k := k H (Ex.refl H)
    have n1 := num_len sm.low
    have l1 := Rl.len_hi2 sm
    have l2 := Rl.len_al sm
    have l3 := Rl.len_wh sm
    have l4 := sm.left
    have n4 := num_len sm.rest
    have n5 := num_len sm.mod
    have e5 : ("take " : Str).length = 5 := rfl
    have e7 : (" leave " : Str).length = 7 := rfl
    have e6 : (" when " : Str).length = 6 := rfl
    have e4 : (" of " : Str).length = 4 := rfl
    have e3 : (" to " : Str).length = 4 := rfl
    refine ⟨_, rfl, g_row hrow rfl ⟨_, _, rfl, _, _, rfl, _, _, rfl, _, _, rfl, _, _, rfl, rfl, ?_⟩⟩
    refine ⟨_, rfl, _, rfl, sm.low, _, _, rfl, rfl, le_sz (by show _ + (num r.low).length ≤ _; omega), ?_⟩
    refine hi_text sm rfl rfl ⟨_, _, rfl, rfl, le_sz (by rw [Str.length_append]; show 5 + (num r.low).length + _ ≤ _; omega), ?_⟩
    refine ⟨_, rfl, _, _, rfl, rfl, le_sz (by show r.al.length + 7 ≤ _; omega), _, rfl, _, _, rfl, rfl, le_sz (by rw [Str.length_append]; show r.al.length + 7 + _ ≤ _; omega), ?_⟩
    exact wh_text sm rfl rfl rfl ⟨_, _, rfl, rfl, le_sz (by rw [Str.length_append, Str.length_append]; show r.al.length + 7 + _ + _ ≤ _; omega), k⟩
end
end Ts


set_option Elab.async false
set_option linter.all false
set_option maxRecDepth 100000
set_option maxHeartbeats 4000000
namespace Ts
open PySem PySem.Spec L2
open Evl (Ex)
section
variable {P : Program} {w : World} {K : PySem.W.Frag} {mg : Str → Option Value} {base : Heap}
/-- a def's body where no repr is under way -/
theorem okG {x q : Str} {st : Stmt} {f : Addr} {fd : FuncData} {N ps : List Str} {k : Nat} {sp : Sp} (F : Fun K x q st f fd) (S : FnScope N ps (defScope st)) (ln : ∀ vs H Q E, sp vs H Q E → vs.length = ps.length)
    (hb : ∀ (cdv : Value) (A : Around) (outer : List Env) (s : Shared) (H : Hp) (vs : List V) (Q : VK) (E : XK), A.guards = some [] → Room k (A.deeper (PyProof.Rows.envOfC q (defScope st) s.heap.objs.size f cdv)) → sp vs H Q E →
      ∃ t, PSs (cxOf CX0 P w K mg base N q (defScope st) f cdv A outer s H E).nox (defBody st) t ∧ t { nx := fun _ H' => Q .non H', rt := Q } (L2.start N vs) H) :
    GOk P w K mg base CX0 (k + 1) f fd ps sp := by
  obtain ⟨oc, od, kV, doc, pm, an, cdv, ct, osl, hfd, lk, hcd⟩ := F.ex
  subst hfd
  refine ⟨ln, fun A outer s H args us vs Q E hg hr e0 hbi hv hsp => LamX.run_ofS lk hcd S hr e0 hbi hv (ln _ _ _ _ hsp) fun hr' => ?_⟩
  obtain ⟨t, ht, q⟩ := hb cdv A outer s H vs Q E hg hr' hsp
  exact ⟨t, ht.nox, q⟩
end
section
variable {X : Cx} {k : Nat} {f : Addr} {fd : FuncData} {ps : List Str} {sp : Sp} {E : XK} {x : Str} {p pos : Pos} {e : Expr} {es : List Expr} {t : TA}
theorem pe_callG (F : GOk X.prog X.w X.K X.mg X.base CX0 k f fd ps sp) (hA : X.A.guards = some []) (hr : Room k X.A) (hg : Gl X x) (hm : X.mg x = some (.ref f)) (hk : PySem.W.keepIn X.K (.ref f) = true) (hb : Binds X.K fd ps [])
    (ha : PA X (e :: es) t) (hdb : (x == ("__debug__" : Str)) = false := by decide) (he : starEach (e :: es) X.env = (false, eval e X.env) :: starEach es X.env := by rfl) (hpl : (backTo pos (starEach es X.env)).any (·.1) = false := by rfl) :
    PE X (.Call (.Name x p) (e :: es) [] pos) (tCall sp [] E t) := by
  refine ⟨fun pins s σ H Q I h => wpAny_Call_Name_kw (ld_glob I hg hm ?_ hdb)⟩
  refine PySem.W.callWith_K (h₀ := X.base) I.ok.mod.kin hk (thn (ha.run pos pins s σ H _ I h) fun us s1 z => ?_) he hpl
  obtain ⟨vs, H1, I1, r, q⟩ := z
  have q : sp vs H1 Q E := by
    rw [List.append_nil] at q
    exact q
  have hl : (us ++ []).length = ps.length := by rw [List.append_nil, ← r.length]; exact F.ln _ _ _ _ q
  have hbi := hb s1 us I1.kIn hl
  rw [List.append_nil] at hbi
  refine ⟨I1.kIn, wpAny_call (codeAny_mono (F.go X.A X.stack s1 H1 ⟨us, []⟩ us vs Q E hA hr I1.env0 hbi r q) fun res s' hq => ?_)⟩
  rcases res with e | (u | u | u | u) <;> first
    | exact (show False from hq).elim
    | exact I1.after hq
end
/-! ## what stands while a law's def runs -/
structure Stt (a c : Addr) (n : Int) (R H : Hp) : Prop where
  s : Strm H a c n
  r : Ex R (off a c H)
theorem Stt.ex {a c : Addr} {n : Int} {R H H' : Hp} (t : Stt a c n R H) (e : Ex H H') : Stt a c n R H' := ⟨t.s.ex e, t.r.trans (Ex.offs e)⟩
theorem Stt.drawn {a c : Addr} {n n' : Int} {R H H' : Hp} (t : Stt a c n R H) (e : Ex (off a c H) (off a c H')) (s : Strm H' a c n') : Stt a c n' R H' := ⟨s, t.r.trans e⟩
theorem Stt.toH {a c : Addr} {n : Int} {R H : Hp} (t : Stt a c n R H) : Ex R H := t.r.trans off_ex
theorem Stt.no {a c : Addr} {n : Int} {R H : Hp} (t : Stt a c n R H) {z : Addr} (h : H z = none) : R z = none := Evl.fresh_back t.toH h
/-- what no one holds changes -/
theorem Stt.mut {a c z : Addr} {n : Int} {R H : Hp} {o : HO} (t : Stt a c n R H) (hz : R z = none) (h1 : z ≠ a) (h2 : z ≠ c) : Stt a c n R (upd H z o) :=
  ⟨t.s.upd h1 h2, by rw [off_upd_ne h1 h2]; exact t.r.mut hz⟩
/-- one more thing is held -/
theorem Stt.hold {a c z : Addr} {n : Int} {R H : Hp} {o : HO} (t : Stt a c n R H) (hz : H z = some o) (h1 : z ≠ a) (h2 : z ≠ c) : Stt a c n (upd R z o) H :=
  ⟨t.s, fun b u h => by
    by_cases hb : b = z
    · rw [hb, upd_same] at h
      rw [hb, off_ne h1 h2, hz]
      exact h
    · rw [upd_ne hb] at h
      exact t.r b u h⟩
theorem Ex.held {R : Hp} {z : Addr} {o : HO} (h : R z = none) : Ex R (upd R z o) := Ex.new h
end Ts


set_option Elab.async false
set_option linter.all false
set_option maxRecDepth 100000
set_option maxHeartbeats 4000000
namespace Ts
open PySem PySem.Spec L2
open Evl (Ex)
theorem wr_small {i : Int} (h0 : 0 ≤ i) (h1 : i ≤ 100000) : Wr i := by
  unfold Wr
  by_cases c : i.natAbs = 0
  · rw [c]
    decide
  · rw [Nat.log2_lt c]
    have : (2 : Nat) ^ 17 ≤ 2 ^ 1920 := Nat.pow_le_pow_right (by decide) (by decide)
    have : (2 : Nat) ^ 17 = 131072 := by decide
    omega
/-- a rule of the law's: its numbers are small -/
structure RGood (r : Rl) : Prop where
  ok : r.Ok
  sm : r.Sml
  low : r.low ≤ 100
section
variable {P : Program} {w : World} {K : PySem.W.Frag} {mg : Str → Option Value} {base : Heap}
abbrev s_arule := top 39
theorem sc_arule : FnScope ["stream", "lefts", "far", "turns", "left", "modulus", "low", "high"] ["stream", "lefts", "far", "turns"] (defScope s_arule) := ⟨rfl, rfl, rfl, by decide +kernel, rfl, by decide +kernel, by decide +kernel⟩
def words : List V := [.str "none", .str "one", .str "two", .str "more"]
def spArule : Sp := fun vs H Q _ => ∃ (a c b : Addr) (n far turns : Int) (ws : List V), vs = [.ref a, .ref b, .int far, .int turns] ∧ Strm H a c n ∧ off a c H b = some (.lst ws) ∧ (∀ x ∈ ws, x ∈ words) ∧ 1 ≤ ws.length ∧ ws.length ≤ 10 ∧ 1 ≤ far ∧ far ≤ 10 ∧ 1 ≤ turns ∧ turns ≤ 10 ∧ n < 2 ^ 39 ∧
  ∀ H' z r n', Ex (off a c H) (off a c H') → Strm H' a c n' → n ≤ n' → n' ≤ n + 10 → H z = none → off a c H' z = some (.tup r.vs) → RGood r → (r.high = none → V.str "more" ∈ ws) → (V.str r.left = V.str "two" → V.str "two" ∈ ws) → Q (.ref z) H'
theorem tif_draw {σ : L2.St} {H : Hp} {Q : VK} {a c : Addr} {n m d z : Int} {i : Nat} (h0 : σ[0]? = some (some (.ref a))) (hi : σ[i]? = some (some (.int m))) (S : Strm H a c n) (d0 : 1 ≤ d) (d1 : d ≤ 100) (m0 : 1 ≤ m) (m1 : m ≤ 1000) (nz : n < 2 ^ 39 + 1000)
    (k : ∀ H' v n', Ex (off a c H) (off a c H') → Strm H' a c n' → n ≤ n' → n' ≤ n + 2 → (v = z ∨ (1 ≤ v ∧ v ≤ m)) → Q (.int v) H') :
    tIf (tTest (tOp rEq (tCall spDraw [] E0 (tCons (tVar 0) (tCons (tC (.int d)) tNil))) (tC (.int 0)))) (tOp (rI0 fun i j => .int (i + j)) (tC (.int 1)) (tCall spDraw [] E0 (tCons (tVar 0) (tCons (tVar i) tNil)))) (tC (.int z)) σ H Q := by
  have big : (2 : Int) ^ 39 + 1100 < 2 ^ 40 := by decide
  have big2 : (1000 : Int) < 2 ^ 60 := by decide
  refine ⟨_, h0, a, c, n, d, rfl, S, d0, by omega, by omega, fun H2 r2 e2 S2 r20 r21 => ⟨rfl, _, rfl, ?_⟩⟩
  by_cases cc : r2 = 0
  · refine ite_tt (by rw [dec_z, decide_eq_true cc]) ⟨_, h0, _, hi, a, c, n + 1, m, rfl, S2, m0, by omega, by omega, fun H3 r3 e3 S3 r30 r31 => ⟨_, _, rfl, rfl, ?_⟩⟩
    exact k H3 _ _ (e2.trans e3) S3 (by omega) (by omega) (.inr ⟨by omega, by omega⟩)
  · refine ite_ff (by rw [dec_z, decide_eq_false cc]) ?_
    exact k H2 _ _ e2 S2 (by omega) (by omega) (.inl rfl)
theorem low_draw {σ : L2.St} {H : Hp} {Q : VK} {a c : Addr} {n m : Int} {s : Str} (h0 : σ[0]? = some (some (.ref a))) (h2 : σ[2]? = some (some (.int m))) (h4 : σ[4]? = some (some (.str s))) (S : Strm H a c n) (m0 : 1 ≤ m) (m1 : m ≤ 1000) (nz : n < 2 ^ 39 + 1000)
    (k : ∀ H' v n', Ex (off a c H) (off a c H') → Strm H' a c n' → n ≤ n' → n' ≤ n + 1 → 0 ≤ v → v ≤ m → (V.str s ≠ V.str "two" → 1 ≤ v) → Q (.int v) H') :
    tIf (tTest (tOp rEq (tVar 4) (tC (.str "two")))) (tCall spDraw [] E0 (tCons (tVar 0) (tCons (tVar 2) tNil))) (tOp (rI0 fun i j => .int (i + j)) (tC (.int 1)) (tCall spDraw [] E0 (tCons (tVar 0) (tCons (tVar 2) tNil)))) σ H Q := by
  have big : (2 : Int) ^ 39 + 1100 < 2 ^ 40 := by decide
  have big2 : (1000 : Int) < 2 ^ 60 := by decide
  refine ⟨_, h4, rfl, _, rfl, ?_⟩
  by_cases cc : V.str s = V.str "two"
  · refine ite_tt (decide_eq_true cc) ⟨_, h0, _, h2, a, c, n, m, rfl, S, m0, by omega, by omega, fun H2 r2 e2 S2 r20 r21 => ?_⟩
    exact k H2 _ _ e2 S2 (by omega) (by omega) (by omega) (by omega) (fun z => absurd cc z)
  · refine ite_ff (decide_eq_false cc) ⟨_, h0, _, h2, a, c, n, m, rfl, S, m0, by omega, by omega, fun H2 r2 e2 S2 r20 r21 => ⟨_, _, rfl, rfl, ?_⟩⟩
    exact k H2 _ _ e2 S2 (by omega) (by omega) (by omega) (by omega) (fun _ => by omega)
theorem ok_arule {f f1 f2 : Addr} {fd fd1 fd2 : FuncData} (F : FD K mg "_law_a_rule" "_law_a_rule" s_arule f fd) (F_draw : FD K mg "_law_draw" "_law_draw" s_draw f1 fd1) (F_pick : FD K mg "_law_pick" "_law_pick" s_pick f2 fd2) (T : Bl mg) (hmin : mg "min" = none) (hmax : mg "max" = none) :
    FnOk P w K mg base CX0 3 f fd ["stream", "lefts", "far", "turns"] spArule := by
  have G_draw : FnOk P w K mg base CX0 1 f1 fd1 ["stream", "many"] spDraw := ok_draw F_draw T
  have G_pick : FnOk P w K mg base CX0 2 f2 fd2 ["stream", "some"] spPick := ok_pick F_pick F_draw T
  have b_draw' := b_draw F_draw
  have b_pick : Binds K fd2 ["stream", "some"] [] := F_pick.F.binds fun _ _ _ _ _ _ us hl => match us, hl with | [_, _], _ => rfl
  refine F.F.ok sc_arule (fun vs H Q E h => ?_) (fun cdv A outer s H vs Q E hr h => ?_)
  · obtain ⟨a, c, b, n, far, turns, ws, rfl, _⟩ := h
    rfl
  · obtain ⟨a, c, b, n, far, turns, ws, rfl, S, hb, hw, w1, w2, f0, f10, t0, t10, nz, k⟩ := h
    have nd := sc_arule.nd
    have hr1 : Room 1 _ := hr.mono (by decide)
    have hr2 : Room 2 _ := hr.mono (by decide)
    refine ⟨_, (pss_cons (ps_par (i := 4) (j := 5) (by rfl) nd rfl rfl (by decide) rfl rfl (pa_cons (pe_call G_pick hr2 (by rfl) F_pick.g F_pick.F.kp b_pick .nil pass0 (pa_cons (pv 0) (pa_cons (pv 1) pa_nil))) (pa_cons (pe_ifExp (pt_cmpR op_eq (pe_call G_draw hr1 (by rfl) F_draw.g F_draw.F.kp b_draw' .nil pass0 (pa_cons (pv 0) (pa_cons pe_int pa_nil))) pe_int (nomark _)) (pe_op op_add pe_int (pe_call G_draw hr1 (by rfl) F_draw.g F_draw.F.kp b_draw' .nil pass0 (pa_cons (pv 0) (pa_cons (pv 3) pa_nil)))) pe_int) pa_nil)) rfl)
      (pss_cons (ps_set (i := 6) nd rfl (Or.inl rfl) (pe_ifExp (pt_cmpR op_eq (pv 4) pe_str (nomark _)) (pe_call G_draw hr1 (by rfl) F_draw.g F_draw.F.kp b_draw' .nil pass0 (pa_cons (pv 0) (pa_cons (pv 2) pa_nil))) (pe_op op_add pe_int (pe_call G_draw hr1 (by rfl) F_draw.g F_draw.F.kp b_draw' .nil pass0 (pa_cons (pv 0) (pa_cons (pv 2) pa_nil))))))
      (pss_cons (ps_if (pt_cmpR op_eq (pv 4) pe_str (nomark _)) (pss_one (ps_ret (pe_tup (pa_cons (pv 6) (pa_cons pe_non (pa_cons (pe_call G_pick hr2 (by rfl) F_pick.g F_pick.F.kp b_pick .nil pass0 (pa_cons (pv 0) (pa_cons (pe_lst (pa_cons pe_str (pa_cons pe_str (pa_cons pe_str pa_nil)))) pa_nil))) (pa_cons pe_int (pa_cons pe_int pa_nil)))))))) pss_nil)
      (pss_cons (ps_set (i := 7) nd rfl (Or.inl rfl) (pe_callB (call_min2 rfl) (by rfl) hmin (by decide +kernel) (pa_cons (pe_callB (call_max2 rfl) (by rfl) hmax (by decide +kernel) (pa_cons pe_int (pa_cons (pv 6) pa_nil))) (pa_cons (pe_op op_add (pv 6) (pe_ifExp (pt_cmpR op_eq (pe_call G_draw hr1 (by rfl) F_draw.g F_draw.F.kp b_draw' .nil pass0 (pa_cons (pv 0) (pa_cons pe_int pa_nil))) pe_int (nomark _)) (pe_op op_add pe_int (pe_call G_draw hr1 (by rfl) F_draw.g F_draw.F.kp b_draw' .nil pass0 (pa_cons (pv 0) (pa_cons (pv 2) pa_nil)))) pe_int)) pa_nil))))
      (pss_one (ps_ret (pe_tup (pa_cons (pv 6) (pa_cons (pv 7) (pa_cons (pv 4) (pa_cons (pe_call G_draw hr1 (by rfl) F_draw.g F_draw.F.kp b_draw' .nil pass0 (pa_cons (pv 0) (pa_cons (pv 5) pa_nil))) (pa_cons (pv 5) pa_nil)))))))))))), ?_⟩
    refine ⟨_, rfl, _, rfl, a, c, b, n, ws, rfl, S, hb, w1, by omega, by omega, fun H1 x e1 S1 hx => ?_⟩
    obtain ⟨s, rfl, hs⟩ : ∃ s : Str, x = .str s ∧ (s = "none" ∨ s = "one" ∨ s = "two" ∨ s = "more") := by
      have z := hw x hx
      unfold words at z
      rcases List.mem_cons.mp z with rfl | z
      · exact ⟨_, rfl, .inl rfl⟩
      · rcases List.mem_cons.mp z with rfl | z
        · exact ⟨_, rfl, .inr (.inl rfl)⟩
        · rcases List.mem_cons.mp z with rfl | z
          · exact ⟨_, rfl, .inr (.inr (.inl rfl))⟩
          · have z := List.mem_singleton.mp z
            subst z
            exact ⟨_, rfl, .inr (.inr (.inr rfl))⟩
    refine tif_draw (a := a) (c := c) (m := turns) rfl rfl S1 (by decide) (by decide) t0 (by omega) (by omega) (fun H2 md n2 e2 S2 a2 b2 v2 => ⟨_, _, rfl, ?_⟩)
    have m1 : 1 ≤ md ∧ md ≤ 10 := by omega
    refine low_draw (a := a) (c := c) (m := far) (s := s) rfl rfl rfl S2 f0 (by omega) (by omega) (fun H3 lw n3 e3 S3 a3 b3 z0 z1 z2 => ?_)
    have e13 := (e1.trans e2).trans e3
    refine ⟨_, rfl, rfl, _, rfl, ?_⟩
    by_cases more : V.str s = V.str "more"
    · refine ite_tt (decide_eq_true more) ?_
      refine ⟨_, rfl, _, rfl, by show 3 ≤ sizeLine; decide, fun p np => ?_⟩
      obtain ⟨pa, pc⟩ := S3.nea np
      refine ⟨a, c, p, n3, [.str "none", .str "one", .str "one"], rfl, S3.upd pa pc, by rw [off_ne pa pc]; exact upd_same, by decide, by decide, by omega, fun H4 y e4 S4 hy => ⟨by show 5 ≤ sizeLine; decide, fun z nz' => ?_⟩⟩
      have e14 : Ex (off a c H) (off a c H4) := (e13.trans (Ex.offs (Ex.new np))).trans e4
      obtain ⟨za, zc⟩ := S4.nea nz'
      have zH := off_back e14 S4 nz'
      obtain ⟨t, rfl, ht⟩ : ∃ t : Str, y = .str t ∧ (t = "none" ∨ t = "one") := by
        rcases List.mem_cons.mp hy with rfl | hy
        · exact ⟨_, rfl, .inl rfl⟩
        · rcases List.mem_cons.mp hy with rfl | hy
          · exact ⟨_, rfl, .inr rfl⟩
          · have hy := List.mem_singleton.mp hy
            subst hy
            exact ⟨_, rfl, .inr rfl⟩
      have l1 : 1 ≤ lw := z2 (by rw [more]; decide)
      refine k _ z ⟨lw, none, t, 0, 1⟩ (n3 + 1) ?_ (S4.upd za zc) (by omega) (by omega) zH (by rw [off_ne za zc, upd_same]; rfl) ⟨⟨?_, z0, (fun h => by have h : lw = 0 := h; omega), Int.le_refl _, (by show (0 : Int) < 1; decide), fun _ => ⟨rfl, ?_⟩, (fun h z => by cases z)⟩, ⟨wr_small z0 (by show lw ≤ _; omega), trivial, ?_, wr_small (by show (0 : Int) ≤ 0; decide) (by show (0 : Int) ≤ 100000; decide), wr_small (by show (0 : Int) ≤ 1; decide) (by show (1 : Int) ≤ 100000; decide)⟩, by show lw ≤ 100; omega⟩ (fun _ => more ▸ hx) ?_
      · rw [off_upd_ne za zc]
        exact e14.mut (by rw [off_ne za zc]; exact zH)
      · show inV (V.str t) lefts = true
        rcases ht with rfl | rfl <;> decide
      · show V.str t ≠ V.str "two"
        rcases ht with rfl | rfl <;> decide
      · show t.length ≤ 100
        rcases ht with rfl | rfl <;> decide
      · intro h
        have h : V.str t = V.str "two" := h
        rcases ht with rfl | rfl <;> exact absurd h (by decide)
    · refine ite_ff (decide_eq_false more) ?_
      refine ⟨_, rfl, _, _, rfl, _, rfl, tif_draw (a := a) (c := c) (m := far) rfl rfl S3 (by decide) (by decide) f0 (by omega) (by omega) (fun H4 v n4 e4 S4 a4 b4 v4 => ⟨_, _, rfl, rfl, _, _, rfl, ?_⟩)⟩
      have v5 : 0 ≤ v ∧ v ≤ far := by omega
      obtain ⟨h0, h1, h2⟩ : lw ≤ (if lw + v < (if lw > 12 then lw else 12) then lw + v else if lw > 12 then lw else 12) ∧ (if lw + v < (if lw > 12 then lw else 12) then lw + v else if lw > 12 then lw else 12) ≤ 100 ∧ 0 ≤ (if lw + v < (if lw > 12 then lw else 12) then lw + v else if lw > 12 then lw else 12) := by
        split <;> split <;> omega
      generalize (if lw + v < (if lw > 12 then lw else 12) then lw + v else if lw > 12 then lw else 12) = hg at h0 h1 h2
      have e14 := e13.trans e4
      have big : (2 : Int) ^ 39 + 1100 < 2 ^ 40 := by decide
      have big2 : (1000 : Int) < 2 ^ 60 := by decide
      refine ⟨_, rfl, _, rfl, _, rfl, _, rfl, _, rfl, a, c, n4, md, rfl, S4, m1.1, by omega, by omega, fun H5 r5 e5 S5 r50 r51 => ⟨_, rfl, by show 5 ≤ sizeLine; decide, fun z nz' => ?_⟩⟩
      have e15 := e14.trans e5
      obtain ⟨za, zc⟩ := S5.nea nz'
      have zH := off_back e15 S5 nz'
      have ht : s = "none" ∨ s = "one" ∨ s = "two" := by
        rcases hs with h | h | h | h
        · exact .inl h
        · exact .inr (.inl h)
        · exact .inr (.inr h)
        · exact absurd (congrArg V.str h) more
      refine k _ z ⟨lw, some hg, s, r5, md⟩ (n4 + 1) ?_ (S5.upd za zc) (by omega) (by omega) zH (by rw [off_ne za zc, upd_same]; rfl) ⟨⟨?_, z0, fun h => ?_, r50, r51, (fun h => by cases h), (fun h z => by cases z; exact h0)⟩, ⟨wr_small z0 (by show lw ≤ _; omega), wr_small h2 (by omega), ?_, wr_small r50 (by show r5 ≤ _; omega), wr_small (by show 0 ≤ md; omega) (by show md ≤ _; omega)⟩, by show lw ≤ 100; omega⟩ (fun h => by cases h) (fun h => by have h : V.str s = V.str "two" := h; rw [← h]; exact hx)
      · rw [off_upd_ne za zc]
        exact e15.mut (by rw [off_ne za zc]; exact zH)
      · show inV (V.str s) lefts = true
        rcases ht with rfl | rfl | rfl <;> decide
      · exact Classical.byContradiction fun w => by have := z2 w; have h : lw = 0 := h; omega
      · show s.length ≤ 100
        rcases ht with rfl | rfl | rfl <;> decide
end
end Ts


set_option Elab.async false
set_option linter.all false
namespace Ts
open PySem PySem.Spec L2
/-- only which rules there are matters -/
theorem OptVal.congr {rs rs' : List Rl} (h : ∀ r, r ∈ rs ↔ r ∈ rs') {ts : List Int} {n u : Int} : OptVal rs ts n u ↔ OptVal rs' ts n u := by
  have z : ∀ p : Rl → Prop, (∃ r ∈ rs, p r) ↔ ∃ r ∈ rs', p r := fun p => ⟨fun ⟨r, hr, w⟩ => ⟨r, (h r).mp hr, w⟩, fun ⟨r, hr, w⟩ => ⟨r, (h r).mpr hr, w⟩⟩
  unfold OptVal
  refine or_congr ?_ (or_congr ?_ ?_)
  · exact ⟨fun ⟨x, a, b⟩ => ⟨x, (z _).mp a, b⟩, fun ⟨x, a, b⟩ => ⟨x, (z _).mpr a, b⟩⟩
  · exact and_congr (z _) Iff.rfl
  · exact ⟨fun ⟨x, a, b⟩ => ⟨x, (z _).mp a, b⟩, fun ⟨x, a, b⟩ => ⟨x, (z _).mpr a, b⟩⟩
theorem Right.congr {rs rs' : List Rl} (h : ∀ r, r ∈ rs ↔ r ∈ rs') {ts : List Int} (t : Right rs ts) : Right rs' ts :=
  ⟨t.pos, t.zero, fun n h1 h2 => by
    have m := t.all n h1 h2
    exact ⟨m.pos, fun z => m.no ((OptVal.congr h).mpr z), fun j a b => (OptVal.congr h).mp (m.all j a b)⟩⟩
theorem mem_sortR {rs : List Rl} {r : Rl} : r ∈ sortR rs ↔ r ∈ rs := by
  unfold sortR
  exact (List.mergeSort_perm _ _).mem_iff
/-- a shorter list of values -/
theorem Right.take {rs : List Rl} {ts : List Int} (t : Right rs ts) {n : Nat} (h0 : 0 < n) (h : n ≤ ts.length) : Right rs (ts.take n) := by
  have g : ∀ i, i < n → (ts.take n).getD i 0 = ts.getD i 0 := fun i hi => by
    rw [List.getD_eq_getElem?_getD, List.getD_eq_getElem?_getD, List.getElem?_take, if_pos hi]
  refine ⟨by rw [List.length_take]; omega, by rw [g 0 h0]; exact t.zero, fun i h1 h2 => ?_⟩
  rw [List.length_take] at h2
  rw [List.take_take, Nat.min_eq_left (by omega), g i (by omega)]
  exact t.all i h1 (by omega)
theorem Right.nonneg {rs : List Rl} {ts : List Int} (t : Right rs ts) (i : Nat) : 0 ≤ ts.getD i 0 := by
  by_cases c : i < ts.length
  · by_cases c0 : i = 0
    · rw [c0, t.zero]
      exact Int.le_refl _
    · exact (t.all i (by omega) c).pos
  · rw [List.getD_eq_getElem?_getD, List.getElem?_eq_none (by omega)]
    exact Int.le_refl _
end Ts


set_option Elab.async false
set_option linter.all false
set_option maxRecDepth 100000
set_option maxHeartbeats 4000000
/-! ## sorted, of a list of any data that are alike -/
namespace Ts
open PySem PySem.Spec L2 PyProof.Rows
open PySem.W (dataLe)
open Evl (Ex)
theorem each_dp {X : Cx} {pins : List (Addr × Obj)} {σ : L2.St} {H : Hp} {s : Shared} (I : Inv X pins σ H s) {β : Type} (val : β → V) (enc : β → PyData) : ∀ {bs : List β} {vs : List Value}, Vals (bs.map val) vs → (∀ b ∈ bs, Dp X.K H (val b) (enc b)) →
    PySem.W.EachIs (fun (v : Value) (b : β) => RelV (val b) v) vs bs ∧ PySem.W.EachIs (fun v (b : β) => ∃ as, Reads s.heap v (enc b) as) vs bs
  | [], _, r, _ => by
    cases r
    exact ⟨.nil, .nil⟩
  | q :: t, _, r, k => by
    rw [List.map_cons] at r
    cases r with
    | cons r rr =>
      obtain ⟨h1, h2⟩ := each_dp I val enc rr fun x hx => k x (List.mem_cons_of_mem _ hx)
      exact ⟨.cons r h1, .cons (Dp.reads I _ _ _ (k q List.mem_cons_self) r) h2⟩
theorem each_valsB {β : Type} (val : β → V) : ∀ {vs : List Value} {bs : List β}, PySem.W.EachIs (fun (v : Value) (b : β) => RelV (val b) v) vs bs → Vals (bs.map val) vs
  | _, _, .nil => .nil
  | _, _, .cons r rr => .cons r (each_valsB val rr)
section
variable {X : Cx}
def rSortDp (K : PySem.W.Frag) : List V → Hp → VK → Prop := fun vs H Q => ∃ (β : Type) (val : β → V) (enc : β → PyData) (l : Addr) (bs : List β), vs = [.ref l] ∧ H l = some (.lst (bs.map val)) ∧ (∀ b ∈ bs, Dp K H (val b) (enc b)) ∧
  PySem.W.AllAlike (bs.map enc) ∧ PySem.W.Sortable (bs.map enc) ∧ (∀ b ∈ bs, (enc b).depth ≤ 60) ∧ ∀ (p : Addr), H p = none → Q (.ref p) (upd H p (.lst ((bs.mergeSort (dataLe false enc)).map val)))
theorem cr_sortedDp (hr : Room 1 X.A) : CallR X (.builtin "sorted") (rSortDp X.K) := by
  intro pins s σ H xs us Q I r h
  obtain ⟨β, val, enc, l, bs, rfl, hl, hb, al, so, dp, q⟩ := h
  obtain ⟨its, rv, hL, hz⟩ := I.list (show SqL X.K H l _ from .inl (.inl hl))
  rw [Vals.ref1 r]
  have hlen := rv.length
  rw [List.length_map] at hlen hz
  obtain ⟨e1, e2⟩ := each_dp I val enc rv hb
  refine PySem.W.sorted_data (enc := enc) hL.isList e1 e2 al so (by omega) (fun b hbm => ?_) fun out ho eo => ?_
  · have z := dp b hbm
    have := hr.units
    omega
  · obtain ⟨ep, he'⟩ := PyProof.Rows.sortedAll_at s.heap its out.toArray
    have hp : (bs.mergeSort (dataLe false enc)).Perm bs := List.mergeSort_perm _ _
    refine ⟨.ref _, upd H (s.heap.objs.size + 1) (.lst (_ : List V)), I.laid (t' := s.toks) (fun _ _ => PyProof.Rows.sortedAll_old) (Nat.le_succ _) ⟨?_, out, ep, each_valsB val eo, by simpa using he'⟩, rfl, q _ (I.hok.fresh (Nat.le_succ _))⟩
    rw [List.length_map, hp.length_eq]
    exact hz
end
end Ts


set_option Elab.async false
set_option linter.all false
set_option maxRecDepth 100000
set_option maxHeartbeats 4000000
namespace Ts
open PySem PySem.Spec L2 PyProof.Rows
open PySem.W (alike alikeAll)
open Evl (Ex)
/-! ## lists of ints, as they compare -/
def leI : List Int → List Int → Bool
  | [], _ => true
  | _ :: _, [] => false
  | a :: s, b :: t => if a = b then leI s t else decide (a < b)
theorem leI_refl : ∀ s, leI s s = true
  | [] => rfl
  | a :: s => by
    unfold leI
    rw [if_pos rfl]
    exact leI_refl s
theorem leI_anti : ∀ {s t}, leI s t = true → leI t s = true → s = t
  | [], [], _, _ => rfl
  | [], _ :: _, _, h => by cases h
  | _ :: _, [], h, _ => by cases h
  | a :: s, b :: t, h1, h2 => by
    unfold leI at h1 h2
    by_cases c : a = b
    · subst c
      rw [if_pos rfl] at h1 h2
      rw [leI_anti h1 h2]
    · rw [if_neg c] at h1
      rw [if_neg (fun z => c z.symm)] at h2
      have := of_decide_eq_true h1
      have := of_decide_eq_true h2
      omega
theorem leI_trans : ∀ {s t u}, leI s t = true → leI t u = true → leI s u = true
  | [], _, _, _, _ => rfl
  | _ :: _, [], _, h, _ => by cases h
  | _ :: _, _ :: _, [], _, h => by cases h
  | a :: s, b :: t, c :: u, h1, h2 => by
    unfold leI at h1 h2 ⊢
    by_cases e : a = b
    · subst e
      rw [if_pos rfl] at h1
      by_cases f : a = c
      · subst f
        rw [if_pos rfl] at h2 ⊢
        exact leI_trans h1 h2
      · rw [if_neg f] at h2 ⊢
        exact h2
    · rw [if_neg e] at h1
      have h1 := of_decide_eq_true h1
      by_cases f : b = c
      · subst f
        rw [if_neg e]
        exact decide_eq_true h1
      · rw [if_neg f] at h2
        have h2 := of_decide_eq_true h2
        rw [if_neg (by omega)]
        exact decide_eq_true (by omega)
theorem leI_total : ∀ s t, leI s t = true ∨ leI t s = true
  | [], _ => .inl rfl
  | _ :: _, [] => .inr rfl
  | a :: s, b :: t => by
    unfold leI
    by_cases e : a = b
    · subst e
      rw [if_pos rfl, if_pos rfl]
      exact leI_total s t
    · rw [if_neg e, if_neg (fun z => e z.symm)]
      rcases Int.lt_or_lt_of_ne e with h | h
      · exact .inl (decide_eq_true h)
      · exact .inr (decide_eq_true h)
abbrev Asc (l : List (List Int)) : Prop := l.Pairwise fun a b => leI a b = true
theorem sorted_uniq : ∀ {l l' : List (List Int)}, Asc l → Asc l' → l.Perm l' → l = l'
  | [], l', _, _, p => (List.nil_perm.mp p).symm
  | a :: l, l', h, h', p => by
    cases l' with
    | nil => exact absurd p.symm (by intro z; have := z.length_eq; simp at this)
    | cons b l' =>
      obtain ⟨h1, h2⟩ := List.pairwise_cons.mp h
      obtain ⟨g1, g2⟩ := List.pairwise_cons.mp h'
      have e : a = b := by
        have ma : a ∈ b :: l' := p.mem_iff.mp List.mem_cons_self
        have mb : b ∈ a :: l := p.mem_iff.mpr List.mem_cons_self
        rcases List.mem_cons.mp ma with e | ma
        · exact e
        · rcases List.mem_cons.mp mb with e | mb
          · exact e.symm
          · exact leI_anti (h1 b mb) (g1 a ma)
      subst e
      rw [sorted_uniq h2 g2 (List.perm_cons a |>.mp p)]
theorem perm_of_mem {α : Type} [DecidableEq α] : ∀ {l l' : List α}, l.Nodup → l'.Nodup → (∀ x, x ∈ l ↔ x ∈ l') → l.Perm l'
  | [], l', _, _, h => by
    cases l' with
    | nil => exact .nil
    | cons b l' => exact absurd ((h b).mpr List.mem_cons_self) (by simp)
  | a :: l, l', h, h', m => by
    obtain ⟨h1, h2⟩ := List.nodup_cons.mp h
    have ma : a ∈ l' := (m a).mp List.mem_cons_self
    refine (List.Perm.cons a (perm_of_mem h2 (h'.erase a) fun x => ?_)).trans (List.perm_cons_erase ma).symm
    rw [h'.mem_erase_iff]
    constructor
    · intro hx
      exact ⟨fun e => h1 (e ▸ hx), (m x).mp (List.mem_cons_of_mem _ hx)⟩
    · rintro ⟨hx, hx'⟩
      rcases List.mem_cons.mp ((m x).mpr hx') with e | e
      · exact absurd e hx
      · exact e
/-- the contents that are sorted -/
def optsC (g : Bool) (os ts : List Int) : List (List Int) := (if g then [[]] else []) ++ os.map (fun x => [x]) ++ ts.flatMap fun t => (List.range (t / 2).toNat).map fun (j : Nat) => [1 + (j : Int), t - (1 + (j : Int))]
theorem optsC_nodup (g : Bool) {os ts : List Int} (h1 : os.Nodup) (h2 : ts.Nodup) : (optsC g os ts).Nodup := by
  unfold optsC
  refine List.nodup_append.mpr ⟨List.nodup_append.mpr ⟨by cases g <;> simp, ?_, ?_⟩, ?_, ?_⟩
  · exact List.pairwise_map.mpr (h1.imp fun h e => h (List.head_eq_of_cons_eq e))
  · intro a ha b hb e
    subst e
    obtain ⟨x, _, rfl⟩ := List.mem_map.mp hb
    cases g <;> simp at ha
  · refine List.pairwise_flatMap.mpr ⟨fun t _ => ?_, ?_⟩
    · refine List.pairwise_map.mpr (List.nodup_range.imp fun h e => h ?_)
      have := List.head_eq_of_cons_eq e
      omega
    · refine h2.imp fun h x hx y hy e => ?_
      obtain ⟨i, _, rfl⟩ := List.mem_map.mp hx
      obtain ⟨j, _, rfl⟩ := List.mem_map.mp hy
      have e1 := List.head_eq_of_cons_eq e
      have e2 := List.head_eq_of_cons_eq (List.tail_eq_of_cons_eq e)
      omega
  · intro a ha b hb e
    subst e
    obtain ⟨t, _, hb⟩ := List.mem_flatMap.mp hb
    obtain ⟨j, _, rfl⟩ := List.mem_map.mp hb
    rcases List.mem_append.mp ha with ha | ha
    · cases g <;> simp at ha
    · obtain ⟨x, _, e⟩ := List.mem_map.mp ha
      simp at e
theorem leI_iff : ∀ {s t : List Int}, leI s t = true ↔ s ≤ t
  | [], t => by
    refine ⟨fun _ => ?_, fun _ => rfl⟩
    intro h
    exact absurd h (List.not_lt_nil _)
  | a :: s, [] => by
    refine ⟨(fun h => by cases h), fun h => absurd (List.nil_lt_cons a s) h⟩
  | a :: s, b :: t => by
    have ih := @leI_iff s t
    unfold leI
    have e : (a :: s ≤ b :: t) ↔ ¬ (b < a ∨ b = a ∧ t < s) := by
      show ¬ (b :: t < a :: s) ↔ _
      rw [List.cons_lt_cons_iff]
    rw [e]
    by_cases c : a = b
    · subst c
      rw [if_pos rfl, ih]
      refine ⟨fun h z => ?_, fun h z => h (.inr ⟨rfl, z⟩)⟩
      rcases z with z | ⟨_, z⟩
      · omega
      · exact h z
    · rw [if_neg c]
      refine ⟨fun h z => ?_, fun h => decide_eq_true (by
        rcases Int.lt_trichotomy a b with x | x | x
        · exact x
        · exact absurd x c
        · exact absurd (Or.inl x) h)⟩
      have h := of_decide_eq_true h
      rcases z with z | ⟨z, _⟩ <;> omega
/-- a list of options: ascending, each once, just these -/
structure Opts (p : List Int → Prop) (l : List (List Int)) : Prop where
  asc : Asc l
  nd : l.Nodup
  mem : ∀ ns, ns ∈ l ↔ p ns
theorem Opts.uniq {p : List Int → Prop} {l l' : List (List Int)} (h : Opts p l) (h' : Opts p l') : l = l' :=
  sorted_uniq h.asc h'.asc (perm_of_mem h.nd h'.nd fun x => (h.mem x).trans (h'.mem x).symm)
abbrev encI (q : Addr × List Int) : PyData := .list (q.2.map .int)
theorem sort_asc (bs : List (Addr × List Int)) : Asc ((bs.mergeSort (PySem.W.dataLe false encI)).map (·.2)) := by
  have e : PySem.W.dataLe false encI = fun p q : Addr × List Int => decide (p.2 ≤ q.2) := PySem.W.dataLe_rows (fun q : Addr × List Int => q.2)
  have e2 : (fun p q : Addr × List Int => decide (p.2 ≤ q.2)) = fun p q => leI p.2 q.2 := by
    funext p q
    rw [Bool.eq_iff_iff, decide_eq_true_iff, leI_iff]
  rw [e, e2]
  exact List.pairwise_map.mpr (List.pairwise_mergeSort (le := fun p q : Addr × List Int => leI p.2 q.2) (fun a b c => leI_trans) (fun a b => by
    rcases leI_total a.2 b.2 with h | h
    · show (leI a.2 b.2 || leI b.2 a.2) = true
      rw [h]
      rfl
    · show (leI a.2 b.2 || leI b.2 a.2) = true
      rw [h, Bool.or_true]) bs)
theorem alike_ints : ∀ a b : List Int, alikeAll (a.map PyData.int) (b.map PyData.int) = true
  | [], b => by cases b <;> rfl
  | _ :: _, [] => rfl
  | x :: a, y :: b => by
    show (alike (.int x) (.int y) && alikeAll (a.map PyData.int) (b.map PyData.int)) = true
    rw [alike_ints a b]
    rfl
theorem alike_encI (b b' : Addr × List Int) : alike (encI b) (encI b') = true := alike_ints _ _
theorem depth_encI (b : Addr × List Int) : (encI b).depth ≤ 60 := by
  have h := depth_ints b.2
  show PyData.depthAll (b.2.map PyData.int) + 1 ≤ 60
  omega
/-- two heaps each, of so much together -/
def pairsC (ts : List Int) : List (List Int) := ts.flatMap fun t => (List.range (t / 2).toNat).map fun (j : Nat) => [1 + (j : Int), t - (1 + (j : Int))]
theorem pairsC_mem {ts : List Int} {ns : List Int} : ns ∈ pairsC ts ↔ ∃ t ∈ ts, ∃ a : Int, 1 ≤ a ∧ a ≤ t / 2 ∧ ns = [a, t - a] := by
  unfold pairsC
  rw [List.mem_flatMap]
  refine exists_congr fun t => and_congr_right fun _ => ?_
  rw [List.mem_map]
  constructor
  · rintro ⟨j, hj, rfl⟩
    rw [List.mem_range] at hj
    exact ⟨1 + (j : Int), by omega, by omega, rfl⟩
  · rintro ⟨a, a1, a2, rfl⟩
    refine ⟨(a - 1).toNat, List.mem_range.mpr (by omega), ?_⟩
    have z : 1 + (((a - 1).toNat : Nat) : Int) = a := by omega
    rw [z]
theorem optsC_mem {g : Bool} {os ts : List Int} {ns : List Int} : ns ∈ optsC g os ts ↔ (ns = [] ∧ g = true) ∨ (∃ x ∈ os, ns = [x]) ∨ ∃ t ∈ ts, ∃ a : Int, 1 ≤ a ∧ a ≤ t / 2 ∧ ns = [a, t - a] := by
  have e : optsC g os ts = (if g then [[]] else []) ++ os.map (fun x => [x]) ++ pairsC ts := rfl
  rw [e, List.mem_append, List.mem_append, pairsC_mem, List.mem_map, or_assoc]
  refine or_congr ?_ (or_congr ⟨fun ⟨x, h, e⟩ => ⟨x, h, e.symm⟩, fun ⟨x, h, e⟩ => ⟨x, h, e.symm⟩⟩ Iff.rfl)
  cases g <;> simp
theorem pairsC_take {ts : List Int} {i : Nat} {u : Int} (h : ts[i]? = some u) : pairsC (ts.take (i + 1)) = pairsC (ts.take i) ++ (List.range (u / 2).toNat).map fun (j : Nat) => [1 + (j : Int), u - (1 + (j : Int))] := by
  unfold pairsC
  rw [List.take_add_one, h, List.flatMap_append]
  show _ ++ List.flatMap _ [u] = _
  rw [List.flatMap_singleton]
theorem pairsC_len : ∀ {ts : List Int} {n : Nat}, (∀ t ∈ ts, t ≤ 2 * (n : Int)) → (pairsC ts).length ≤ n * ts.length
  | [], n, _ => Nat.zero_le _
  | t :: ts, n, h => by
    have ih := @pairsC_len ts n fun x hx => h x (List.mem_cons_of_mem _ hx)
    have h1 := h t List.mem_cons_self
    show (List.map _ _ ++ pairsC ts).length ≤ _
    rw [List.length_append, List.length_map, List.length_range, List.length_cons, Nat.mul_succ]
    omega
end Ts


set_option Elab.async false
set_option linter.all false
set_option maxRecDepth 100000
set_option maxHeartbeats 4000000
namespace Ts
open PySem PySem.Spec L2
open Evl (Ex)
abbrev Bs := List (Addr × List Int)
abbrev Bs.vs (bs : Bs) : List V := bs.map fun q => V.ref q.1
/-- D is a list of new lists of ints, new since H -/
structure News (H H' : Hp) (D : Addr) (bs : Bs) : Prop where
  ex : Ex H H'
  at_ : H' D = some (.lst bs.vs)
  el : ∀ q ∈ bs, q.1 ≠ D ∧ H q.1 = none ∧ H' q.1 = some (.lst (q.2.map V.int))
section
variable {H H1 H2 H3 : Hp} {D F z : Addr} {bs cs : Bs}
theorem News.exr (h : News H H1 D bs) (e : Ex H1 H2) : News H H2 D bs :=
  ⟨h.ex.trans e, e _ _ h.at_, fun q hq => ⟨(h.el q hq).1, (h.el q hq).2.1, e _ _ (h.el q hq).2.2⟩⟩
theorem none_of {a : Addr} (e : Ex H H1) (h : H1 a = none) : H a = none := by
  cases q : H a with
  | none => rfl
  | some o =>
    rw [e _ _ q] at h
    cases h
theorem News.snoc (h : News H H2 D bs) (hD : H D = none) (nz : H2 z = none) (ns : List Int) : News H (upd (upd H2 z (.lst (ns.map V.int))) D (.lst (bs.vs ++ [V.ref z]))) D (bs ++ [(z, ns)]) := by
  have zD : z ≠ D := fun w => by
    rw [w, h.at_] at nz
    cases nz
  refine ⟨(h.ex.trans (Ex.new nz)).mut hD, by rw [upd_same]; show _ = some (HO.lst (List.map _ _)); rw [List.map_append]; rfl, fun q hq => ?_⟩
  rcases List.mem_append.mp hq with hq | hq
  · obtain ⟨h1, h2, h3⟩ := h.el q hq
    exact ⟨h1, h2, by rw [upd_ne h1]; exact Ex.new nz _ _ h3⟩
  · obtain rfl := List.mem_singleton.mp hq
    exact ⟨zD, none_of h.ex nz, by rw [upd_ne zD, upd_same]⟩
theorem News.ext (h : News H H1 F bs) (hF : H F = none) (g : News H1 H2 D cs) : News H (upd H2 F (.lst (bs.vs ++ cs.vs))) F (bs ++ cs) := by
  refine ⟨(h.ex.trans g.ex).mut hF, by rw [upd_same]; show _ = some (HO.lst (List.map _ _)); rw [List.map_append], fun q hq => ?_⟩
  rcases List.mem_append.mp hq with hq | hq
  · obtain ⟨h1, h2, h3⟩ := h.el q hq
    exact ⟨h1, h2, by rw [upd_ne h1]; exact g.ex _ _ h3⟩
  · obtain ⟨h1, h2, h3⟩ := g.el q hq
    have n : q.1 ≠ F := fun w => by
      rw [w, h.at_] at h2
      cases h2
    exact ⟨n, none_of h.ex h2, by rw [upd_ne n]; exact h3⟩
end
theorem ex_app {bs cs : Bs} {ns : List Int} : (∃ q ∈ bs ++ cs, q.2 = ns) ↔ (∃ q ∈ bs, q.2 = ns) ∨ ∃ q ∈ cs, q.2 = ns := by
  constructor
  · rintro ⟨q, h, e⟩
    exact (List.mem_append.mp h).imp (fun h => ⟨q, h, e⟩) fun h => ⟨q, h, e⟩
  · rintro (⟨q, h, e⟩ | ⟨q, h, e⟩)
    · exact ⟨q, List.mem_append_left _ h, e⟩
    · exact ⟨q, List.mem_append_right _ h, e⟩
theorem ex_map {bs : Bs} {ns : List Int} : (∃ q ∈ bs, q.2 = ns) ↔ ns ∈ bs.map (·.2) := by
  rw [List.mem_map]
/-- a comprehension whose items are new lists of ints -/
theorem lc_new {J : It} {n : Nat} {G : Hp → Prop} {Y : Nat → Hp → V → Hp → Prop} (w : Walk J n G Y) {g : TG} {te : TE} {vs : List Nat} {σ : L2.St} {H0 : Hp} {D : Addr} {Qd : Hp → Prop} (f : Nat → List Int) (hz : n ≤ 100000) (hD : H0 D = none)
    (hG : ∀ H', Ex H0 H' → G H')
    (hs : ∀ i y H3 H4 (A : V → Hp → Prop) (B : Hp → Prop), i < n → Ex H0 H3 → Y i H3 y H4 → H4 = H3 ∧ ((∀ z, H3 z = none → A (.ref z) (upd H3 z (.lst ((f i).map V.int)))) → g y (wipe σ vs) H3 fun σ2 H2 => wipe σ2 vs = wipe σ vs ∧ tYes σ2 H2 fun b H5 => if b = true then te σ2 H5 A else B H5))
    (hq : ∀ Hf (bs : Bs), News H0 Hf D bs → bs.map (·.2) = (List.range n).map f → Qd Hf) :
    ∃ W : Nat → Nat → Hp → Prop, (∃ m, W 0 m (upd H0 D (.lst []))) ∧ ∀ i m H, W i m H →
      (J.stop i H ∧ Qd H) ∨ (J.go i H ∧ ∃ Nx : Hp → Prop, (∀ H', Nx H' → ∃ m', m' < m ∧ W (i + 1) m' H') ∧ ∀ x H', J.yld i H x H' → g x (wipe σ vs) H' fun σ2 H2 => wipe σ2 vs = wipe σ vs ∧ tYes σ2 H2 fun b H3 =>
        if b = true then te σ2 H3 fun y H4 => ∃ acc, H4 D = some (.lst acc) ∧ acc.length < sizeLine ∧ Nx (upd H4 D (.lst (acc ++ [y]))) else Nx H3) := by
  refine it_gen w (fun i H' => ∃ bs : Bs, News H0 H' D bs ∧ bs.map (·.2) = (List.range i).map f) ⟨[], ⟨Ex.new hD, upd_same, fun q hq => absurd hq (by simp)⟩, rfl⟩ (fun i H' _ q => ?_) (fun i x H1 H2 hi q y => ?_) (fun H' q => ?_)
  · obtain ⟨bs, h, _⟩ := q
    exact hG _ h.ex
  · obtain ⟨bs, h, hb⟩ := q
    obtain rfl := (hs i x H1 H2 (fun _ _ => True) (fun _ => True) hi h.ex y).1
    refine (hs i x _ _ _ _ hi h.ex y).2 fun z nz => ⟨bs.vs, ?_, ?_, bs ++ [(z, f i)], h.snoc hD nz (f i), ?_⟩
    · exact Ex.new nz _ _ h.at_
    · have l := congrArg List.length hb
      rw [List.length_map, List.length_map, List.length_range] at l
      rw [List.length_map, l]
      exact Nat.lt_of_lt_of_le hi (Nat.le_trans hz (by decide))
    · rw [List.map_append, hb, List.range_succ, List.map_append]
      rfl
  · obtain ⟨bs, h, hb⟩ := q
    exact hq _ _ h hb
section
variable {P : Program} {w : World} {K : PySem.W.Frag} {mg : Str → Option Value} {base : Heap}
theorem News.ground {H H1 H2 : Hp} {D : Addr} {bs : Bs} (e : Ex H H1) (h : News H1 H2 D bs) : News H H2 D bs := ⟨e.trans h.ex, h.at_, fun q hq => ⟨(h.el q hq).1, none_of e (h.el q hq).2.1, (h.el q hq).2.2⟩⟩
theorem if_lst {σ : L2.St} {H : Hp} {g : Bool} {Q : VK} (h2 : σ[2]? = some (some (.bl g))) (k : ∀ (F : Addr) H' (bs : Bs), News H H' F bs → bs.map (·.2) = (if g then [[]] else []) → H F = none → Q (.ref F) H') : tIf (tB (tVar 2)) (tLst (tCons (tLst tNil) tNil)) (tLst tNil) σ H Q := by
  refine ⟨_, h2, g, rfl, ?_⟩
  cases g with
  | false => exact ite_ff rfl ⟨Nat.zero_le _, fun F hF => k F _ [] ⟨Ex.new hF, upd_same, fun q hq => absurd hq (by simp)⟩ rfl hF⟩
  | true =>
    refine ite_tt rfl ⟨Nat.zero_le _, fun z nz => ⟨by show 1 ≤ sizeLine; decide, fun F hF => k F _ [(z, [])] ⟨(Ex.new nz).trans (Ex.new hF), upd_same, fun q hq => ?_⟩ rfl (none_of (Ex.new nz) hF)⟩⟩
    obtain rfl := List.mem_singleton.mp hq
    have n : z ≠ F := fun w => by
      rw [← w, upd_same] at hF
      cases hF
    exact ⟨n, nz, by rw [upd_ne n, upd_same]; rfl⟩
abbrev s_aopts := top 44
theorem sc_aopts : FnScope ["raw", "heap", "goes", "ones", "twos", "found", "both", "one"] ["raw", "heap"] (defScope s_aopts) := ⟨rfl, rfl, rfl, by decide +kernel, rfl, by decide +kernel, by decide +kernel⟩
/-- what the law's options are -/
def AOpt (rs : List Rl) (n : Int) (ns : List Int) : Prop :=
  (ns = [] ∧ ∃ r ∈ rs, V.str r.left = V.str "none" ∧ Leaves r n 0) ∨ (∃ x, ns = [x] ∧ ∃ r ∈ rs, V.str r.left = V.str "one" ∧ Leaves r n x ∧ 1 ≤ x) ∨
  ∃ t a, ns = [a, t - a] ∧ (∃ r ∈ rs, V.str r.left = V.str "two" ∧ Leaves r n t ∧ 2 ≤ t) ∧ 1 ≤ a ∧ a ≤ t / 2
def spAopts : Sp := fun vs H Q _ => ∃ (b : Addr) (qs : List (Addr × Rl)) (n : Int), vs = [.ref b, .int n] ∧ RsAt H b qs ∧ qs.length ≤ 100 ∧ (∀ q ∈ qs, q.2.Ok) ∧ (∀ q ∈ qs, q.2.low ≤ 1000) ∧ 1 ≤ n ∧ n ≤ 1000 ∧
  ∀ (l : Addr) H' (bs : Bs), H l = none → News H H' l bs → bs.length ≤ 600000 → Opts (AOpt (qs.map (·.2)) n) (bs.map (·.2)) → Q (.ref l) H'
theorem ok_aopts {f f1 : Addr} {fd fd1 : FuncData} (F : FD K mg "_law_a_options" "_law_a_options" s_aopts f fd) (T : Bl mg) (hsorted : mg "sorted" = none)
    (F_taken : FD K mg "_law_a_taken" "_law_a_taken" s_taken f1 fd1) (G_taken : FnOk P w K mg base CX0 1 f1 fd1 ["raw", "heap"] spTaken) : FnOk P w K mg base CX0 2 f fd ["raw", "heap"] spAopts := by
  have b_taken : Binds K fd1 ["raw", "heap"] [] := F_taken.F.binds fun _ _ _ _ _ _ us hl => match us, hl with | [_, _], _ => rfl
  refine F.F.ok sc_aopts (fun vs H Q E h => ?_) (fun cdv A outer s H vs Q E hr h => ?_)
  · obtain ⟨b, qs, n, rfl, _⟩ := h
    rfl
  · obtain ⟨b, qs, n, rfl, hb, qz, ok, lw, n1, n2, k⟩ := h
    have nd := sc_aopts.nd
    refine ⟨_, (pss_cons (ps_asg (pe_call G_taken (hr.mono (by decide)) (by rfl) F_taken.g F_taken.F.kp b_taken .nil pass0 (pa_cons (pv 0) (pa_cons (pv 1) pa_nil))) (pg_tup rfl (pgs_cons (pg_name (i := 2) nd rfl (Or.inl rfl)) (pgs_cons (pg_name (i := 3) nd rfl (Or.inl rfl)) (pgs_cons (pg_name (i := 4) nd rfl (Or.inl rfl)) pgs_nil)))))
      (pss_cons (ps_set (i := 5) nd rfl (Or.inl rfl) (pe_ifExp (pt_val (pv 2)) (pe_lst (pa_cons (pe_lst pa_nil) pa_nil)) (pe_lst pa_nil)))
      (pss_cons (ps_expr (pe_bm PySem.F.plainAttrs_list PySem.F.slot_list_extend PySem.F.type_list_extend mt_extend (pv 5) (pa_cons (pe_lc (own := [("one", 7)]) (g := gName 7) (tt := tYes) rfl nd (pi_list (pv 3)) (blkOk_by (N := ["raw", "heap", "goes", "ones", "twos", "found", "both", "one"]) (sc := defScope s_aopts) (by decide +kernel)) (fun _ _ _ _ _ => pg_name (i := 7) nd rfl (Or.inl rfl)) (fun _ _ _ _ _ => pts_nil) (fun _ _ _ _ _ => (pe_lst (pa_cons (pv 7) pa_nil)))) pa_nil)))
      (pss_cons (ps_for PassesOwn.never rfl (pi_list (pv 4)) (pg_name (i := 6) nd rfl (Or.inr rfl)) (pss_one (ps_expr (pe_bm PySem.F.plainAttrs_list PySem.F.slot_list_extend PySem.F.type_list_extend mt_extend (pv 5) (pa_cons (pe_lc (own := [("one", 7)]) (g := gName 7) (tt := tYes) rfl nd (pi_range2 (by rfl) T.range (pa_cons pe_int (pa_cons (pe_op op_add (pe_op op_fdiv (pv 6) pe_int) pe_int) pa_nil))) (blkOk_by (N := ["raw", "heap", "goes", "ones", "twos", "found", "both", "one"]) (sc := defScope s_aopts) (by decide +kernel)) (fun _ _ _ _ _ => pg_name (i := 7) nd rfl (Or.inl rfl)) (fun _ _ _ _ _ => pts_nil) (fun _ _ _ _ _ => (pe_lst (pa_cons (pv 7) (pa_cons (pe_op op_sub (pv 6) (pv 7)) pa_nil))))) pa_nil)))))
      (pss_one (ps_ret (pe_callB (cr_sortedDp (hr.mono (by decide))) (by rfl) hsorted (by decide +kernel) (pa_cons (pv 5) pa_nil)))))))), ?_⟩
    refine ⟨_, rfl, _, rfl, b, qs, n, rfl, hb, qz, ok, lw, n1, n2, fun z o t H1 g os ts e1 hz ho ht lo lt ndo ndt hg hos hts => ?_⟩
    refine ⟨z, _, rfl, SqT.of hz, rfl, _, _, rfl, _, _, rfl, _, _, rfl, rfl, ?_⟩
    refine seq1 (asg1 (if_lst (g := g) rfl fun F H2 bs1 nw1 hb1 hF1 => ?_))
    refine gn1 ?_
    dsimp only
    have ho2 := nw1.ex _ _ ho
    have ht2 := nw1.ex _ _ ht
    refine ⟨_, rfl, .inl ⟨rfl, _, SqL.of nw1.at_⟩, _, rfl, o, rfl, ⟨_, SqL.of ho2⟩, fun D hD => ?_⟩
    refine lc_new (walk_list (xs := os.map V.int)) (fun i => [os.getD i 0]) (by rw [List.length_map]; omega) hD (fun H' e => SqL.of (e _ _ ho2)) (fun i y H3 H4 A B hi e3 yy => ?_) (fun H3 cs nwc hcs => ?_)
    · obtain ⟨e4, hx⟩ := yy
      subst e4
      rw [List.length_map] at hi
      rw [List.getElem?_map, List.getElem?_eq_getElem hi] at hx
      cases hx
      have ei : os.getD i 0 = os[i] := by rw [List.getD_eq_getElem?_getD, List.getElem?_eq_getElem hi]; rfl
      rw [ei]
      exact ⟨rfl, fun kA => ⟨rfl, yes_of ⟨_, rfl, by show 1 ≤ sizeLine; decide, fun z nz => kA z nz⟩⟩⟩
    rw [List.length_map] at hcs
    have lcs : cs.length = os.length := by
      have := congrArg List.length hcs
      rwa [List.length_map, List.length_map, List.length_range] at this
    have lb1 : bs1.length ≤ 1 := by
      have := congrArg List.length hb1
      rw [List.length_map] at this
      rw [this]
      cases g <;> decide
    refine ⟨F, D, bs1.vs, cs.vs, rfl, rfl, nwc.ex _ _ nw1.at_, nwc.at_, ?_, ?_⟩
    · rw [List.length_map, List.length_map]
      exact Nat.le_trans (show bs1.length + cs.length ≤ 2000 by omega) (by decide)
    have nw2 := nw1.ext hF1 nwc
    have hm2 : (bs1 ++ cs).map (·.2) = (if g then [[]] else []) ++ os.map fun x => [x] := by
      rw [List.map_append, hb1, hcs]
      refine congrArg _ (List.ext_getElem? fun i => ?_)
      rw [List.getElem?_map, List.getElem?_map]
      by_cases h : i < os.length
      · rw [List.getElem?_range h, List.getElem?_eq_getElem h]
        show some [os.getD i 0] = some [os[i]]
        rw [List.getD_eq_getElem?_getD, List.getElem?_eq_getElem h]
        rfl
      · rw [List.getElem?_eq_none (by simpa using h), List.getElem?_eq_none (by omega)]
        rfl
    have lb2 : (bs1 ++ cs).length ≤ 1002 := by
      rw [List.length_append]
      omega
    generalize upd H3 F (.lst (bs1.vs ++ cs.vs)) = H4 at nw2
    generalize bs1 ++ cs = bs2 at nw2 hm2 lb2
    have ht4 := nw2.ex _ _ ht
    refine ⟨_, rfl, t, rfl, ⟨_, SqL.of ht4⟩, for_list (a := t) (xs := ts.map V.int) (fun i σ H' => ∃ (bs : Bs) (v : Option V), σ = [some (.ref b), some (.int n), some (.bl g), some (.ref o), some (.ref t), some (.ref F), v, none] ∧ News H1 H' F bs ∧ bs.length ≤ 1002 + 501 * i ∧
        bs.map (·.2) = (if g then [[]] else []) ++ os.map (fun x => [x]) ++ pairsC (ts.take i))
      ⟨bs2, none, rfl, nw2, by omega, by rw [hm2]; exact (List.append_nil _).symm⟩ (fun i σ H' _ q => ?_) (fun i x σ H' hx q => ?_) (fun σ H' q => ?_)⟩
    · obtain ⟨bs, v, rfl, nw, _⟩ := q
      exact SqL.of (nw.ex _ _ ht)
    · obtain ⟨bs, v, rfl, nw, lb, hm⟩ := q
      rw [List.getElem?_map] at hx
      cases hu : ts[i]? with
      | none => rw [hu] at hx; cases hx
      | some u =>
        rw [hu] at hx
        cases hx
        obtain ⟨r, hr', _, lv, u2⟩ := (hts u).mp (List.mem_of_getElem? hu)
        have l0 : 0 ≤ r.low := by
          obtain ⟨q, hq, rfl⟩ := List.mem_map.mp hr'
          exact (ok q hq).low0
        have u3 : u ≤ 1000 := by
          have := lv.2.1
          omega
        have hi : i < 1001 := by
          have := (List.getElem?_eq_some_iff.mp hu).1
          omega
        refine gn1 ?_
        dsimp only
        refine ⟨_, rfl, .inl ⟨rfl, _, SqL.of nw.at_⟩, _, rfl, _, _, rfl, rfl, ⟨by decide, by decide⟩, _, _, rfl, rfl, _, _, rfl, ⟨by decide, by decide, by omega, by omega⟩, fun D hD => ?_⟩
        refine lc_new (walk_range (lo := 1) (n := (u / 2 + 1 - 1).toNat)) (fun j => [1 + (j : Int), u - (1 + (j : Int))]) (by omega) hD (fun _ _ => trivial) (fun j y H3 H5 A B hj e3 yy => ?_) (fun H3 cs nwc hcs => ?_)
        · obtain ⟨e4, rfl⟩ := yy
          subst e4
          exact ⟨rfl, fun kA => ⟨rfl, yes_of ⟨_, rfl, _, rfl, _, rfl, _, _, rfl, rfl, by show 2 ≤ sizeLine; decide, fun z nz => kA z nz⟩⟩⟩
        have lcs : cs.length = (u / 2 + 1 - 1).toNat := by
          have := congrArg List.length hcs
          rwa [List.length_map, List.length_map, List.length_range] at this
        refine ⟨F, D, bs.vs, cs.vs, rfl, rfl, nwc.ex _ _ nw.at_, nwc.at_, ?_, bs ++ cs, _, rfl, nw.ext ?_ nwc, by rw [List.length_append]; omega, ?_⟩
        · rw [List.length_map, List.length_map]
          exact Nat.le_trans (show bs.length + cs.length ≤ 600000 by omega) (by decide)
        · exact hF1
        rw [List.map_append, hm, hcs, pairsC_take hu, show (u / 2 + 1 - 1).toNat = (u / 2).toNat by rw [Int.add_sub_cancel], List.append_assoc _ (pairsC _) _]
    · obtain ⟨bs, v, rfl, nw, lb, hm⟩ := q
      rw [List.length_map, List.take_length] at hm
      rw [List.length_map] at lb
      have hz1 : bs.length ≤ 600000 := by omega
      refine ⟨_, rfl, Addr × List Int, fun q => .ref q.1, encI, F, bs, rfl, nw.at_, fun q hq => .lst (SqL.of (nw.el q hq).2.2) (dp_ints q.2), PySem.W.AllAlike.of alike_encI, PySem.W.Sortable.others fun q => ⟨fun z => (nomatch z), fun xs z => (nomatch z)⟩, fun q _ => depth_encI q, fun p np => ?_⟩
      have sa := sort_asc bs
      have hp : (bs.mergeSort (PySem.W.dataLe false encI)).Perm bs := List.mergeSort_perm _ _
      generalize bs.mergeSort (PySem.W.dataLe false encI) = bs' at sa hp np ⊢
      have nwe := nw.exr (Ex.new (o := .lst (Bs.vs bs')) np)
      have hm' : bs.map (·.2) = optsC g os ts := hm
      refine k p _ bs' (none_of (e1.trans nw.ex) np) (News.ground e1 ⟨nwe.ex, upd_same, fun q hq => ?_⟩) (by rw [hp.length_eq]; exact hz1) ⟨sa, ?_, fun ns => ?_⟩
      · obtain ⟨h1, h2, h3⟩ := nwe.el q (hp.mem_iff.mp hq)
        refine ⟨fun w => ?_, h2, h3⟩
        have z := (nw.el q (hp.mem_iff.mp hq)).2.2
        rw [w, np] at z
        cases z
      · rw [(hp.map (·.2)).nodup_iff, hm']
        exact optsC_nodup g ndo ndt
      · rw [(hp.map (·.2)).mem_iff, hm', optsC_mem]
        unfold AOpt
        refine or_congr (and_congr Iff.rfl hg) (or_congr ⟨fun ⟨x, hx, e⟩ => ⟨x, e, (hos x).mp hx⟩, fun ⟨x, e, hx⟩ => ⟨x, (hos x).mpr hx, e⟩⟩ ⟨fun ⟨u, hu, a, a1, a2, e⟩ => ⟨u, a, e, (hts u).mp hu, a1, a2⟩, fun ⟨u, a, e, hu, a1, a2⟩ => ⟨u, (hts u).mpr hu, a, a1, a2, e⟩⟩)
end
end Ts


set_option Elab.async false
set_option linter.all false
set_option maxRecDepth 100000
set_option maxHeartbeats 4000000
namespace Ts
open PySem PySem.Spec L2
open Evl (Ex)
theorem BookAt.ex {C : Addr} {H H' : Hp} {p : Addr} {rs : List Rl} (e : Ex H H') (h : BookAt C H p rs) : BookAt C H' p rs := by
  obtain ⟨dx, L, qs, h1, h2, h3, h4⟩ := h
  exact ⟨dx, L, qs, e _ _ h1, e _ _ h2, fun q hq => e _ _ (h3 q hq), h4⟩
theorem RulesAt.ex {H H' : Hp} {qs : List (Addr × Rl)} (h : RulesAt H qs) (e : Ex H H') : RulesAt H' qs := fun q hq => e _ _ (h q hq)
/-! ## what a heap leaves: the class -/
structure LvC (K : PySem.W.Frag) (mg : Str → Option Value) (C fI fL fH : Addr) : Prop where
  cl : Cls K C
  nH : NoAttr K C "heap"
  nN : NoAttr K C "nothing"
  nS : NoAttr K C "singles"
  nT : NoAttr K C "totals"
  gC : mg "Leavings" = some (.ref C)
  made : Mk K C fI
  mL : Meth K C "listed" fL
  mH : Meth K C "has" fH
def lvF (n : Int) (g : Bool) (S T : Addr) : List (Str × V) := [("heap", .int n), ("nothing", .bl g), ("singles", .ref S), ("totals", .ref T)]
def LNone (rs : List Rl) (n : Int) : Prop := ∃ r ∈ rs, V.str r.left = V.str "none" ∧ Leaves r n 0
def LvAt (C : Addr) (H : Hp) (p : Addr) (rs : List Rl) (n : Int) : Prop :=
  ∃ (dx S T : Addr) (g : Bool) (ss tt : List (Addr × (Int × Int))), H p = some (.ins C dx (lvF n g S T)) ∧ H S = some (.lst (ss.map fun q => V.ref q.1)) ∧ H T = some (.lst (tt.map fun q => V.ref q.1)) ∧ PairsAt H ss ∧ PairsAt H tt ∧
    SpansOf rs "one" n 1 (ss.map (·.2)) ∧ SpansOf rs "two" n 2 (tt.map (·.2)) ∧ (g = true ↔ LNone rs n)
theorem LvAt.ex {C p : Addr} {H H' : Hp} {rs : List Rl} {n : Int} (h : LvAt C H p rs n) (e : Ex H H') : LvAt C H' p rs n := by
  obtain ⟨dx, S, T, g, ss, tt, h1, h2, h3, h4, h5, h6⟩ := h
  exact ⟨dx, S, T, g, ss, tt, e _ _ h1, e _ _ h2, e _ _ h3, h4.ex e, h5.ex e, h6⟩
theorem del_ex {H : Hp} {p : Addr} : Ex (del H p) H := fun a o h => by
  unfold del at h
  split at h
  · cases h
  · exact h
theorem del_none {H : Hp} {p : Addr} : del H p p = none := if_pos rfl
section
variable {P : Program} {w : World} {K : PySem.W.Frag} {mg : Str → Option Value} {base : Heap}
abbrev s_linit : Stmt := inClass (top 29) 0
theorem sc_linit : FnScope ["self", "book", "heap", "rules"] ["self", "book", "heap"] (defScope s_linit) := ⟨rfl, rfl, rfl, by decide +kernel, rfl, by decide +kernel, by decide +kernel⟩
def spLinit (C CB : Addr) : Sp := fun vs H Q _ => ∃ (p dx b : Addr) (rs : List Rl) (n : Int), vs = [.ref p, .ref b, .int n] ∧ H p = some (.ins C dx []) ∧ BookAt CB (del H p) b rs ∧ rs.length ≤ 1000 ∧ (∀ r ∈ rs, 0 < r.mod) ∧
  ∀ H', Ex (del H p) H' → LvAt C H' p rs n → Q .non H'
theorem ok_linit {f fI fL fH C CB fBI fBR f1 f2 : Addr} {fd fdR fd1 fd2 : FuncData} (F : Fun K "__init__" "Leavings.__init__" s_linit f fd) (LC : LvC K mg C fI fL fH) (B : BkC K mg CB fBI fBR) (F_rules : Fun K "rules" "Book.rules" s_brules fBR fdR)
    (G_rules : FnOk P w K mg base CX0 1 fBR fdR ["self"] (spBrules CB)) (F_lnone : FD K mg "leaves_none" "leaves_none" s_lnone f1 fd1) (G_lnone : FnOk P w K mg base CX0 3 f1 fd1 ["rules", "heap"] spLnone)
    (F_spans : FD K mg "spans_left" "spans_left" s_spans f2 fd2) (G_spans : FnOk P w K mg base CX0 2 f2 fd2 ["rules", "heap", "left", "least"] spSpans) : FnOk P w K mg base CX0 4 f fd ["self", "book", "heap"] (spLinit C CB) := by
  have b_rules : Binds K fdR ["self"] [] := F_rules.binds fun _ _ _ _ _ _ us hl => match us, hl with | [_], _ => rfl
  have b_lnone : Binds K fd1 ["rules", "heap"] [] := F_lnone.F.binds fun _ _ _ _ _ _ us hl => match us, hl with | [_, _], _ => rfl
  have b_spans : Binds K fd2 ["rules", "heap", "left", "least"] [] := F_spans.F.binds fun _ _ _ _ _ _ us hl => match us, hl with | [_, _, _, _], _ => rfl
  refine F.ok sc_linit (fun vs H Q E h => ?_) (fun cdv A outer s H vs Q E hr h => ?_)
  · obtain ⟨p, dx, b, rs, n, rfl, _⟩ := h
    rfl
  · obtain ⟨p, dx, b, rs, n, rfl, hp, hb, hz, hmod, k⟩ := h
    have nd := sc_linit.nd
    refine ⟨_, (pss_cons (ps_set (i := 3) nd rfl (Or.inl rfl) (pe_meth0 (pv 1) B.cl B.mR G_rules (hr.mono (by decide)) b_rules .nil pass0))
      (pss_cons (ps_fld (pv 0) (pv 2) rfl)
      (pss_cons (ps_fld (pv 0) (pe_call G_lnone (hr.mono (by decide)) (by rfl) F_lnone.g F_lnone.F.kp b_lnone .nil pass0 (pa_cons (pv 3) (pa_cons (pv 2) pa_nil))) rfl)
      (pss_cons (ps_fld (pv 0) (pe_call G_spans (hr.mono (by decide)) (by rfl) F_spans.g F_spans.F.kp b_spans .nil pass0 (pa_cons (pv 3) (pa_cons (pv 2) (pa_cons pe_str (pa_cons pe_int pa_nil))))) rfl)
      (pss_one (ps_fld (pv 0) (pe_call G_spans (hr.mono (by decide)) (by rfl) F_spans.g F_spans.F.kp b_spans .nil pass0 (pa_cons (pv 3) (pa_cons (pv 2) (pa_cons pe_str (pa_cons pe_int pa_nil))))) rfl)))))), ?_⟩
    have hbH := hb.ex del_ex
    obtain ⟨dB, Lb, qb, hb1, _⟩ := id hbH
    refine ⟨_, rfl, b, dB, _, rfl, hb1, rfl, b, _, rfl, hbH, fun L H1 qs nL e1 hL hR hm => ?_⟩
    subst hm
    have hql : qs.length ≤ 1000 := by
      rw [List.length_map] at hz
      exact hz
    have hqm : ∀ q ∈ qs, 0 < q.2.mod := fun q hq => hmod _ (List.mem_map.mpr ⟨q, hq, rfl⟩)
    have hp1 := e1 _ _ hp
    have neL : L ≠ p := fun z => by
      rw [z, hp1] at hL
      cases hL
    -- what stands beside the new one
    have R1 : Ex (del H1 p) H1 := del_ex
    have hR0 : Ex (del H p) (del H1 p) := fun a o h => by
      have n : a ≠ p := fun z => by
        rw [z, del_none] at h
        cases h
      rw [del_ne n]
      exact e1 _ _ (del_ex _ _ h)
    have hLr : del H1 p L = some (.lst (qs.map fun q => V.ref q.1)) := by rw [del_ne neL]; exact hL
    have hRr : RulesAt (del H1 p) qs := fun q hq => by
      have w := hR q hq
      have n : q.1 ≠ p := fun z => by
        rw [z, hp1] at w
        cases w
      rw [del_ne n]
      exact w
    have rp : del H1 p p = none := del_none
    generalize del H1 p = R at R1 hR0 hLr hRr rp
    clear hL hR neL
    refine gn1 ?_
    dsimp only
    refine seq1 (sFld1 ⟨_, rfl, _, rfl, p, C, dx, [], rfl, hp1, LC.cl, LC.nH, by decide, ?_⟩)
    have R2 := R1.mut (o := .ins C dx (putF "heap" (.int n) [])) rp
    have hp2 : upd H1 p (.ins C dx (putF "heap" (.int n) [])) p = some (.ins C dx [("heap", .int n)]) := upd_same
    generalize upd H1 p (.ins C dx (putF "heap" (.int n) [])) = H2 at R2 hp2
    dsimp only
    refine seq1 (sFld1 ⟨_, rfl, _, rfl, L, qs, n, rfl, R2 _ _ hLr, hRr.ex R2, hql, hqm, fun g H3 e3 hg => ⟨_, rfl, p, C, dx, _, rfl, e3 _ _ hp2, LC.cl, LC.nN, by show 1 < 1000; decide, ?_⟩⟩)
    have R3 := (R2.trans e3).mut (o := .ins C dx (putF "nothing" (.bl g) [("heap", .int n)])) rp
    have hp3 : upd H3 p (.ins C dx (putF "nothing" (.bl g) [("heap", .int n)])) p = some (.ins C dx [("heap", .int n), ("nothing", .bl g)]) := upd_same
    generalize upd H3 p (.ins C dx (putF "nothing" (.bl g) [("heap", .int n)])) = H4 at R3 hp3
    dsimp only
    refine seq1 (sFld1 ⟨_, rfl, _, rfl, L, qs, n, 1, "one", rfl, R3 _ _ hLr, hRr.ex R3, hql, hqm, fun S H5 ss nS e5 hS hSP hSO => ⟨_, rfl, p, C, dx, _, rfl, e5 _ _ hp3, LC.cl, LC.nS, by show 2 < 1000; decide, ?_⟩⟩)
    have neS : S ≠ p := fun z => by
      rw [z, hp3] at nS
      cases nS
    have hS6 : upd H5 p (.ins C dx (putF "singles" (.ref S) [("heap", .int n), ("nothing", .bl g)])) S = some (.lst (ss.map fun q => V.ref q.1)) := (upd_ne neS).trans hS
    have hSP6 : PairsAt (upd H5 p (.ins C dx (putF "singles" (.ref S) [("heap", .int n), ("nothing", .bl g)]))) ss := fun q hq => by
      have w := hSP q hq
      have n : q.1 ≠ p := fun z => by
        rw [z, e5 _ _ hp3] at w
        cases w
      rw [upd_ne n]
      exact w
    have R6 := (R3.trans e5).mut (o := .ins C dx (putF "singles" (.ref S) [("heap", .int n), ("nothing", .bl g)])) rp
    have hp6 : upd H5 p (.ins C dx (putF "singles" (.ref S) [("heap", .int n), ("nothing", .bl g)])) p = some (.ins C dx [("heap", .int n), ("nothing", .bl g), ("singles", .ref S)]) := upd_same
    generalize upd H5 p (.ins C dx (putF "singles" (.ref S) [("heap", .int n), ("nothing", .bl g)])) = H6 at R6 hp6 hS6 hSP6
    dsimp only
    refine sFld1 ⟨_, rfl, _, rfl, L, qs, n, 2, "two", rfl, R6 _ _ hLr, hRr.ex R6, hql, hqm, fun T H7 tt nT e7 hT hTP hTO => ⟨_, rfl, p, C, dx, _, rfl, e7 _ _ hp6, LC.cl, LC.nT, by show 3 < 1000; decide, ?_⟩⟩
    have neT : T ≠ p := fun z => by
      rw [z, hp6] at nT
      cases nT
    have keep : ∀ {z : Addr} {o : HO}, H7 z = some o → (∀ fs, o ≠ .ins C dx fs) → upd H7 p (.ins C dx (putF "totals" (.ref T) [("heap", .int n), ("nothing", .bl g), ("singles", .ref S)])) z = some o := fun {z o} hz ho => by
      have n : z ≠ p := fun w => by
        rw [w, e7 _ _ hp6] at hz
        cases hz
        exact ho _ rfl
      rw [upd_ne n]
      exact hz
    exact k _ (hR0.trans ((R6.trans e7).mut rp)) ⟨dx, S, T, g, ss, tt, upd_same, keep (e7 _ _ hS6) (fun _ z => by cases z), keep hT (fun _ z => by cases z), fun q hq => keep (e7 _ _ (hSP6 q hq)) (fun _ z => by cases z), fun q hq => keep (hTP q hq) (fun _ z => by cases z), hSO, hTO, hg⟩
end
end Ts


set_option Elab.async false
set_option linter.all false
set_option maxRecDepth 100000
set_option maxHeartbeats 4000000
namespace Ts
open PySem PySem.Spec L2
open Evl (Ex)
theorem map_one (ns : List Int) : (List.range ns.length).map (fun i => [ns.getD i 0]) = ns.map fun x => [x] := by
  refine List.ext_getElem? fun i => ?_
  rw [List.getElem?_map, List.getElem?_map]
  by_cases h : i < ns.length
  · rw [List.getElem?_range h, List.getElem?_eq_getElem h]
    show some [ns.getD i 0] = some [ns[i]]
    rw [List.getD_eq_getElem?_getD, List.getElem?_eq_getElem h]
    rfl
  · rw [List.getElem?_eq_none (by simpa using h), List.getElem?_eq_none (by omega)]
    rfl
/-- the ends ahead, the others sorted: just the options -/
theorem opts_of {rs : List Rl} {n : Int} {g : Bool} {ns tn : List Int} {l : List (List Int)} (hg : g = true ↔ LNone rs n) (hn : ns.Pairwise (· < ·)) (ht : tn.Pairwise (· < ·)) (mn : ∀ x, x ∈ ns ↔ ∃ r ∈ rs, V.str r.left = V.str "one" ∧ Leaves r n x ∧ 1 ≤ x)
    (mt : ∀ x, x ∈ tn ↔ ∃ r ∈ rs, V.str r.left = V.str "two" ∧ Leaves r n x ∧ 2 ≤ x) (hl : Asc l) (hp : l.Perm (ns.map (fun x => [x]) ++ pairsC tn)) : Opts (AOpt rs n) ((if g then [[]] else []) ++ l) := by
  have hp2 : ((if g then [[]] else []) ++ l).Perm (optsC g ns tn) := by
    have z := List.Perm.append_left (if g then [[]] else []) hp
    rw [← List.append_assoc] at z
    exact z
  refine ⟨?_, ?_, fun x => ?_⟩
  · refine List.pairwise_append.mpr ⟨?_, hl, fun a ha b _ => ?_⟩
    · cases g
      · exact .nil
      · exact List.pairwise_singleton _ _
    · cases g
      · cases ha
      · rw [List.mem_singleton.mp ha]
        rfl
  · rw [hp2.nodup_iff]
    exact optsC_nodup g (hn.imp fun h e => by omega) (ht.imp fun h e => by omega)
  · rw [hp2.mem_iff, optsC_mem]
    unfold AOpt
    refine or_congr (and_congr Iff.rfl hg) (or_congr ⟨fun ⟨x, hx, e⟩ => ⟨x, e, (mn x).mp hx⟩, fun ⟨x, e, hx⟩ => ⟨x, (mn x).mpr hx, e⟩⟩ ⟨fun ⟨u, hu, a, a1, a2, e⟩ => ⟨u, a, e, (mt u).mp hu, a1, a2⟩, fun ⟨u, a, e, hu, a1, a2⟩ => ⟨u, (mt u).mpr hu, a, a1, a2, e⟩⟩)
section
variable {P : Program} {w : World} {K : PySem.W.Frag} {mg : Str → Option Value} {base : Heap}
abbrev s_listed : Stmt := inClass (top 29) 1
abbrev NLi : List Str := ["self", "ends", "singles", "pairs", "number", "total", "first"]
theorem sc_listed : FnScope NLi ["self"] (defScope s_listed) := ⟨rfl, rfl, rfl, by decide +kernel, rfl, by decide +kernel, by decide +kernel⟩
def spListed (C : Addr) : Sp := fun vs H Q _ => ∃ (p : Addr) (rs : List Rl) (n : Int), vs = [.ref p] ∧ LvAt C H p rs n ∧ rs.length ≤ 1000 ∧ (∀ r ∈ rs, 0 ≤ r.low) ∧ n ≤ 1000 ∧
  ∀ (l : Addr) H' (bs : Bs), H l = none → News H H' l bs → bs.length ≤ 600000 → Opts (AOpt rs n) (bs.map (·.2)) → Q (.ref l) H'
theorem ok_listed {f fI fL fH C f1 : Addr} {fd fd1 : FuncData} (F : Fun K "listed" "Leavings.listed" s_listed f fd) (LC : LvC K mg C fI fL fH) (T : Bl mg) (hsorted : mg "sorted" = none)
    (F_nums : FD K mg "numbers_in" "numbers_in" s_nums f1 fd1) (G_nums : FnOk P w K mg base CX0 1 f1 fd1 ["spans"] spNums) : FnOk P w K mg base CX0 2 f fd ["self"] (spListed C) := by
  have b_nums : Binds K fd1 ["spans"] [] := F_nums.F.binds fun _ _ _ _ _ _ us hl => match us, hl with | [_], _ => rfl
  refine F.ok sc_listed (fun vs H Q E h => ?_) (fun cdv A outer s H vs Q E hr h => ?_)
  · obtain ⟨p, rs, n, rfl, _⟩ := h
    rfl
  · obtain ⟨p, rs, n, rfl, hLv, hz, hlow, hn, k⟩ := h
    have nd := sc_listed.nd
    refine ⟨_, (pss_cons (ps_set (i := 1) nd rfl (Or.inl rfl) (pe_ifExp (pt_val (pe_fld (pv 0) rfl)) (pe_lst (pa_cons (pe_lst pa_nil) pa_nil)) (pe_lst pa_nil)))
      (pss_cons (ps_setLc (i := 2) (own := [("number", 4)]) (g := gName 4) (tt := tYes) rfl nd rfl rfl (sw_true rfl rfl rfl (by decide +kernel)) (pi_list (pe_call G_nums (hr.mono (by decide)) (by rfl) F_nums.g F_nums.F.kp b_nums .nil pass0 (pa_cons (pe_fld (pv 0) rfl) pa_nil))) (blkOk_by (N := NLi) (sc := defScope s_listed) (by decide +kernel)) (fun _ _ _ _ _ => pg_name (i := 4) nd rfl (Or.inl rfl)) (fun _ _ _ _ _ => pts_nil) (fun _ _ _ _ _ => pe_lst (pa_cons (pv 4) pa_nil)))
      (pss_cons (ps_setLc2 (i := 3) (own := [("total", 5), ("first", 6)]) (vs1 := [6]) (g := gName 5) (g1 := gName 6) (tt := tYes) (tt1 := tYes) rfl nd rfl rfl (sw_true rfl rfl rfl (by decide +kernel)) (pi_list (pe_call G_nums (hr.mono (by decide)) (by rfl) F_nums.g F_nums.F.kp b_nums .nil pass0 (pa_cons (pe_fld (pv 0) rfl) pa_nil))) (blkOk_by (N := NLi) (sc := defScope s_listed) (by decide +kernel)) (by decide)
        (fun _ _ _ _ _ => pg_name (i := 5) nd rfl (Or.inl rfl)) (fun _ _ _ _ _ => pts_nil) (fun _ _ _ _ _ => pi_range2 (by rfl) T.range (pa_cons pe_int (pa_cons (pe_op op_add (pe_op op_fdiv (pv 5) pe_int) pe_int) pa_nil))) (fun _ _ _ _ _ => pg_name (i := 6) nd rfl (Or.inl rfl)) (fun _ _ _ _ _ => pts_nil)
        (fun _ _ _ _ _ => pe_lst (pa_cons (pv 6) (pa_cons (pe_op op_sub (pv 5) (pv 6)) pa_nil))))
      (pss_one (ps_ret (pe_op op_cat (pv 1) (pe_callB (cr_sortedDp (hr.mono (by decide))) (by rfl) hsorted (by decide +kernel) (pa_cons (pe_op op_cat (pv 2) (pv 3)) pa_nil)))))))), ?_⟩
    obtain ⟨dx, S, TT, g, ss, tt, hp, hS, hT, hSP, hTP, ⟨ap1, l1, m1⟩, ⟨ap2, l2, m2⟩, hg⟩ := id hLv
    rw [List.length_map] at l1 l2
    have bnd : ∀ {r : Rl} {x : Int}, r ∈ rs → Leaves r n x → x ≤ 1000 := fun {r x} hr' hl => by
      have h1 := hlow r hr'
      have h2 := hl.2.1
      omega
    have b1 : ∀ x, InS (ss.map (·.2)) x → 0 ≤ x ∧ x ≤ 1000 := fun x hx => by
      obtain ⟨r, hr', _, hl, h1⟩ := (m1 x).mp hx
      exact ⟨by omega, bnd hr' hl⟩
    have b2 : ∀ x, InS (tt.map (·.2)) x → 0 ≤ x ∧ x ≤ 1000 := fun x hx => by
      obtain ⟨r, hr', _, hl, h1⟩ := (m2 x).mp hx
      exact ⟨by omega, bnd hr' hl⟩
    -- the ends
    refine seq1 ?_
    have first : ∀ (Q : VK), (∀ (F : Addr) H' (bs : Bs), News H H' F bs → bs.map (·.2) = (if g then [[]] else []) → H F = none → Q (.ref F) H') → tIf (tB (tFld K (tVar 0) "nothing")) (tLst (tCons (tLst tNil) tNil)) (tLst tNil) (L2.start NLi [.ref p]) H Q := fun Q kk => by
      refine ⟨_, rfl, p, C, dx, _, _, rfl, hp, LC.cl, LC.nN, rfl, g, rfl, ?_⟩
      cases g with
      | false => exact ite_ff rfl ⟨Nat.zero_le _, fun F hF => kk F _ [] ⟨Ex.new hF, upd_same, fun q hq => absurd hq (by simp)⟩ rfl hF⟩
      | true =>
        refine ite_tt rfl ⟨Nat.zero_le _, fun z nz => ⟨by show 1 ≤ sizeLine; decide, fun F hF => kk F _ [(z, [])] ⟨(Ex.new nz).trans (Ex.new hF), upd_same, fun q hq => ?_⟩ rfl (none_of (Ex.new nz) hF)⟩⟩
        obtain rfl := List.mem_singleton.mp hq
        have n : z ≠ F := fun w => by
          rw [← w, upd_same] at hF
          cases hF
        exact ⟨n, nz, by rw [upd_ne n, upd_same]; rfl⟩
    refine first _ fun F H1 bs1 nw1 hb1 hF1 => ?_
    refine gn1 ?_
    dsimp only
    -- the single ones
    refine seq1 (asg1 ?_)
    refine ⟨_, rfl, p, C, dx, _, _, rfl, nw1.ex _ _ hp, LC.cl, LC.nS, rfl, S, ss, 1000, rfl, nw1.ex _ _ hS, hSP.ex nw1.ex, ap1, by omega, b1, by decide, by decide, fun D0 H2 ns nD0 e2 hD0 asc1 hns => ?_⟩
    refine ⟨D0, rfl, ⟨_, SqL.of hD0⟩, fun D1 nD1 => ?_⟩
    have ln : ns.length ≤ 1001 := by
      have := asc_len (a := 0) (b := 1000) asc1 (fun x hx => b1 x ((hns x).mp hx)) (by decide)
      omega
    refine lc_new (walk_list (xs := ns.map V.int)) (fun i => [ns.getD i 0]) (by rw [List.length_map]; omega) nD1 (fun H' e => SqL.of (e _ _ hD0)) (fun i y H3 H4 A B hi e3 yy => ?_) (fun H3 cs nwc hcs => ?_)
    · obtain ⟨e4, hx⟩ := yy
      subst e4
      rw [List.length_map] at hi
      rw [List.getElem?_map, List.getElem?_eq_getElem hi] at hx
      cases hx
      have ei : ns.getD i 0 = ns[i] := by rw [List.getD_eq_getElem?_getD, List.getElem?_eq_getElem hi]; rfl
      rw [ei]
      exact ⟨rfl, fun kA => ⟨rfl, yes_of ⟨_, rfl, by show 1 ≤ sizeLine; decide, fun z nz => kA z nz⟩⟩⟩
    rw [List.length_map, map_one] at hcs
    refine gn1 ?_
    dsimp only
    -- the pairs
    refine seq1 (asg1 ?_)
    have e03 := nw1.ex.trans (e2.trans nwc.ex)
    refine ⟨_, rfl, p, C, dx, _, _, rfl, e03 _ _ hp, LC.cl, LC.nT, rfl, TT, tt, 1000, rfl, e03 _ _ hT, hTP.ex e03, ap2, by omega, b2, by decide, by decide, fun D3 H4 tn nD3 e4 hD3 asc2 htn => ?_⟩
    refine ⟨D3, rfl, ⟨_, SqL.of hD3⟩, fun D2 nD2 => ?_⟩
    have lt : tn.length ≤ 1001 := by
      have := asc_len (a := 0) (b := 1000) asc2 (fun x hx => b2 x ((htn x).mp hx)) (by decide)
      omega
    have tb : ∀ t ∈ tn, 0 ≤ t ∧ t ≤ 1000 := fun t h => b2 t ((htn t).mp h)
    have lp : ∀ i, (pairsC (tn.take i)).length ≤ 500 * 1001 := fun i => by
      have h1 := pairsC_len (ts := tn.take i) (n := 500) fun t ht => by
        have := tb t (List.mem_of_mem_take ht)
        omega
      have h2 : (tn.take i).length ≤ 1001 := by
        rw [List.length_take]
        omega
      have h3 := Nat.mul_le_mul_left 500 h2
      omega
    refine it_gen (walk_list (xs := tn.map V.int)) (fun i H' => ∃ bs : Bs, News H4 H' D2 bs ∧ bs.map (·.2) = pairsC (tn.take i)) ⟨[], ⟨Ex.new nD2, upd_same, fun q hq => absurd hq (by simp)⟩, rfl⟩ (fun i H' _ q => by obtain ⟨bs, nw, _⟩ := q; exact SqL.of (nw.ex _ _ hD3)) (fun i x H5 H6 hi q y => ?_) (fun H5 q => ?_)
    · obtain ⟨bs, nw, hb⟩ := q
      obtain ⟨eH, hx⟩ := y
      subst eH
      rw [List.getElem?_map] at hx
      cases hu : tn[i]? with
      | none => rw [hu] at hx; cases hx
      | some u =>
        rw [hu] at hx
        cases hx
        have ub := tb u (List.mem_of_getElem? hu)
        have le1 := lp (i + 1)
        rw [pairsC_take hu, List.length_append, List.length_map, List.length_range] at le1
        refine ⟨rfl, yes_of ⟨_, rfl, _, _, rfl, rfl, ⟨by decide, by decide⟩, _, _, rfl, rfl, _, _, rfl, ⟨by decide, by decide, by omega, by omega⟩, ?_⟩⟩
        refine it_gen (walk_range (lo := 1) (n := (u / 2 + 1 - 1).toNat)) (fun j H' => ∃ bs : Bs, News H4 H' D2 bs ∧ bs.map (·.2) = pairsC (tn.take i) ++ (List.range j).map fun (j : Nat) => [1 + (j : Int), u - (1 + (j : Int))]) ⟨bs, nw, by rw [hb]; exact (List.append_nil _).symm⟩ (fun _ _ _ _ => trivial) (fun j x H5 H7 hj q y => ?_) (fun H5 q => ?_)
        · obtain ⟨bs, nw, hb⟩ := q
          obtain ⟨eH, rfl⟩ := y
          subst eH
          have lb : bs.length ≤ 500 * 1001 := by
            have z := congrArg List.length hb
            rw [List.length_map, List.length_append, List.length_map, List.length_range] at z
            omega
          refine ⟨rfl, yes_of ⟨_, rfl, _, rfl, _, rfl, _, _, rfl, rfl, by show 2 ≤ sizeLine; decide, fun z nz => ?_⟩⟩
          refine ⟨_, Ex.new nz _ _ nw.at_, by rw [List.length_map]; exact Nat.lt_of_le_of_lt lb (by decide), bs ++ [(z, [1 + (j : Int), u - (1 + (j : Int))])], nw.snoc nD2 nz [1 + (j : Int), u - (1 + (j : Int))], ?_⟩
          rw [List.map_append, hb, List.range_succ, List.map_append, ← List.append_assoc]
          rfl
        · obtain ⟨bs, nw, hb⟩ := q
          refine ⟨bs, nw, ?_⟩
          rw [hb, pairsC_take hu, show (u / 2 + 1 - 1).toNat = (u / 2).toNat by rw [Int.add_sub_cancel]]
    · obtain ⟨ps, nwp, hps⟩ := q
      rw [List.length_map, List.take_length] at hps
      refine gn1 ?_
      dsimp only
      have lcs : cs.length ≤ 1001 := by
        have z := congrArg List.length hcs
        rw [List.length_map, List.length_map] at z
        omega
      have lps : ps.length ≤ 500 * 1001 := by
        have z := congrArg List.length hps
        have y := lp tn.length
        rw [List.take_length] at y
        rw [List.length_map] at z
        omega
      have lb1 : bs1.length ≤ 1 := by
        have := congrArg List.length hb1
        rw [List.length_map] at this
        rw [this]
        cases g <;> decide
      have nwc5 := nwc.exr (e4.trans nwp.ex)
      refine ⟨_, rfl, _, rfl, _, rfl, D1, D2, _, _, rfl, rfl, nwc5.at_, nwp.at_, ?_, fun p3 np3 => ?_⟩
      · rw [List.length_map, List.length_map]
        exact Nat.le_trans (show cs.length + ps.length ≤ 600000 by omega) (by decide)
      have e6 := Ex.new (o := .lst (Bs.vs cs ++ Bs.vs ps)) np3
      have h6 : upd H5 p3 (.lst (Bs.vs cs ++ Bs.vs ps)) p3 = some (.lst ((cs ++ ps).map fun q => V.ref q.1)) := by
        rw [upd_same, List.map_append]
      have nwc6 := nwc5.exr e6
      have nwp6 := nwp.exr e6
      generalize upd H5 p3 (.lst (Bs.vs cs ++ Bs.vs ps)) = H6 at e6 h6 nwc6 nwp6 ⊢
      have at6 : ∀ q ∈ cs ++ ps, H2 q.1 = none ∧ H6 q.1 = some (.lst (q.2.map V.int)) := fun q hq => by
        rcases List.mem_append.mp hq with hq | hq
        · obtain ⟨_, h1, h2⟩ := nwc6.el q hq
          exact ⟨h1, h2⟩
        · obtain ⟨_, h1, h2⟩ := nwp6.el q hq
          exact ⟨none_of (nwc.ex.trans e4) h1, h2⟩
      refine ⟨Addr × List Int, fun q => .ref q.1, encI, p3, cs ++ ps, rfl, h6, fun q hq => .lst (SqL.of (at6 q hq).2) (dp_ints q.2), PySem.W.AllAlike.of alike_encI, PySem.W.Sortable.others fun q => ⟨fun z => (nomatch z), fun xs z => (nomatch z)⟩, fun q _ => depth_encI q, fun p4 np4 => ?_⟩
      have sa := sort_asc (cs ++ ps)
      have hpm : ((cs ++ ps).mergeSort (PySem.W.dataLe false encI)).Perm (cs ++ ps) := List.mergeSort_perm _ _
      generalize (cs ++ ps).mergeSort (PySem.W.dataLe false encI) = bs' at sa hpm np4 ⊢
      have e7 := Ex.new (o := .lst (bs'.map fun q => V.ref q.1)) np4
      have h7 : upd H6 p4 (.lst (bs'.map fun q => V.ref q.1)) p4 = some (.lst (bs'.map fun q => V.ref q.1)) := upd_same
      generalize upd H6 p4 (.lst (bs'.map fun q => V.ref q.1)) = H7 at e7 h7 ⊢
      have e16 := (e2.trans nwc.ex).trans ((e4.trans nwp.ex).trans (e6.trans e7))
      have nw7 := nw1.exr e16
      have lb' : bs'.length ≤ 500 * 1001 + 1001 := by
        rw [hpm.length_eq, List.length_append]
        omega
      refine ⟨F, p4, _, _, rfl, rfl, nw7.at_, h7, ?_, fun p5 np5 => ?_⟩
      · rw [List.length_map, List.length_map]
        exact Nat.le_trans (show bs1.length + bs'.length ≤ 600000 by omega) (by decide)
      have e8 := Ex.new (o := .lst (Bs.vs bs1 ++ Bs.vs bs')) np5
      refine k p5 _ (bs1 ++ bs') (none_of nw7.ex np5) ⟨nw7.ex.trans e8, by rw [upd_same]; show _ = some (HO.lst (List.map _ _)); rw [List.map_append], fun q hq => ?_⟩ (by rw [List.length_append]; omega) ?_
      · have ne : ∀ {z : Addr} {o : HO}, H7 z = some o → z ≠ p5 := fun {z o} hz w => by
          rw [w, np5] at hz
          cases hz
        rcases List.mem_append.mp hq with hq | hq
        · obtain ⟨_, h1, h2⟩ := nw7.el q hq
          exact ⟨ne h2, h1, e8 _ _ h2⟩
        · obtain ⟨h1, h2⟩ := at6 q (hpm.mem_iff.mp hq)
          exact ⟨ne (e7 _ _ h2), none_of (nw1.ex.trans e2) h1, e8 _ _ (e7 _ _ h2)⟩
      · rw [List.map_append, hb1]
        refine opts_of hg asc1 asc2 (fun x => (hns x).trans (m1 x)) (fun x => (htn x).trans (m2 x)) sa ?_
        rw [← hcs, ← hps, ← List.map_append]
        exact hpm.map _
end
end Ts


set_option Elab.async false
set_option linter.all false
set_option maxRecDepth 100000
set_option maxHeartbeats 4000000
namespace Ts
open PySem PySem.Spec L2
open Evl (Ex)
theorem range_getD {α β : Type} (l : List α) (d : α) (f : α → β) : (List.range l.length).map (fun j => f (l.getD j d)) = l.map f := by
  refine List.ext_getElem (by simp) fun i h1 h2 => ?_
  rw [List.length_map] at h2
  rw [List.getElem_map, List.getElem_range, List.getElem_map, List.getD_eq_getElem?_getD, List.getElem?_eq_getElem h2]
  rfl
theorem lc_pureD {J : It} {n : Nat} {G : Hp → Prop} {Y : Nat → Hp → V → Hp → Prop} (w : Walk J n G Y) {g : TG} {te : TE} {vs : List Nat} {σ : L2.St} {H1 : Hp} {out : Nat → V} {Qd : Addr → Hp → Prop} (hz : n ≤ sizeLine)
    (hG : ∀ H, Ex H1 H → G H)
    (hs : ∀ i x H H', i < n → Ex H1 H → Y i H x H' → Ex H H' ∧ g x (wipe σ vs) H' fun σ2 H2 => wipe σ2 vs = wipe σ vs ∧ Ex H' H2 ∧ ∀ q : VK, (∀ H4, Ex H2 H4 → q (out i) H4) → te σ2 H2 q)
    (hgm : ∀ (x : V) (H : Hp) (q q' : L2.St → Hp → Prop), (∀ σ2 H2, q σ2 H2 → q' σ2 H2) → g x (wipe σ vs) H q → g x (wipe σ vs) H q')
    (hq : ∀ D Hf, H1 D = none → Ex H1 Hf → Hf D = some (.lst ((List.range n).map out)) → Qd D Hf) :
    ∀ D, H1 D = none → ∃ W : Nat → Nat → Hp → Prop, (∃ m, W 0 m (upd H1 D (.lst []))) ∧ ∀ i m H, W i m H →
      (J.stop i H ∧ Qd D H) ∨ (J.go i H ∧ ∃ Nx : Hp → Prop, (∀ H', Nx H' → ∃ m', m' < m ∧ W (i + 1) m' H') ∧ ∀ x H', J.yld i H x H' → g x (wipe σ vs) H' fun σ2 H2 => wipe σ2 vs = wipe σ vs ∧ tYes σ2 H2 fun b H3 =>
        if b = true then te σ2 H3 fun y H4 => ∃ acc, H4 D = some (.lst acc) ∧ acc.length < sizeLine ∧ Nx (upd H4 D (.lst (acc ++ [y]))) else Nx H3) :=
  lc_pure (Q := fun v H => match v with
    | .ref a => Qd a H
    | _ => True) w hz hG hs hgm hq
open PySem.W (dataLe)
theorem off_tup {a c b : Addr} {n : Int} {H : Hp} {vs : List V} (S : Strm H a c n) (h : H b = some (.tup vs)) : off a c H b = some (.tup vs) := by
  obtain ⟨⟨cells, s1, s3, ha, hc, _⟩, _, _⟩ := S
  rw [off_ne]
  · exact h
  · intro z
    rw [z, ha] at h
    cases h
  · intro z
    rw [z, hc] at h
    cases h
theorem rule_dp {K : PySem.W.Frag} {H : Hp} {p : Addr} {r : Rl} (h : H p = some (.tup r.vs)) : Dp K H (.ref p) r.d := by
  refine .tup (SqT.of h) (.cons (.int _) (.cons ?_ (.cons (.str _) (.cons (.int _) (.cons (.int _) .nil)))))
  cases r.high with
  | none => exact .non
  | some i => exact .int _
theorem rules_dp {K : PySem.W.Frag} {H : Hp} : ∀ {qs : List (Addr × Rl)}, (∀ q ∈ qs, H q.1 = some (.tup q.2.vs)) → DpAll K H (qs.map fun q => V.ref q.1) (qs.map fun q => q.2.d)
  | [], _ => .nil
  | q :: t, h => .cons (rule_dp (h q List.mem_cons_self)) (rules_dp fun x hx => h x (List.mem_cons_of_mem _ hx))
theorem left_ok {l : Str} (h : inV (.str l) lefts = true) : PyData.strOk l = true := by
  obtain ⟨y, hy, e⟩ := List.any_eq_true.mp h
  unfold lefts at hy
  rcases List.mem_cons.mp hy with rfl | hy
  · have z : ("none" : Str) = l := by simpa [eqV] using e
    rw [← z]
    decide +kernel
  · rcases List.mem_cons.mp hy with rfl | hy
    · have z : ("one" : Str) = l := by simpa [eqV] using e
      rw [← z]
      decide +kernel
    · obtain rfl := List.mem_singleton.mp hy
      have z : ("two" : Str) = l := by simpa [eqV] using e
      rw [← z]
      decide +kernel
theorem rule_lay {r : Rl} (h : r.Ok) : PyData.canLay0 r.d = true ∧ PyData.depth r.d ≤ 2 := by
  have z := left_ok h.left
  unfold Rl.d
  cases r.high with
  | none => exact ⟨by simp [PyData.canLay0, PyData.canLayAll0, hiD, z], by simp [PyData.depth, PyData.depthAll, hiD]⟩
  | some i => exact ⟨by simp [PyData.canLay0, PyData.canLayAll0, hiD, z], by simp [PyData.depth, PyData.depthAll, hiD]⟩
theorem rules_lay : ∀ qs : List (Addr × Rl), (∀ q ∈ qs, q.2.Ok) → PyData.canLayAll0 (qs.map fun q => q.2.d) = true ∧ PyData.depthAll (qs.map fun q => q.2.d) ≤ 2
  | [], _ => ⟨rfl, by decide⟩
  | q :: t, h => by
    obtain ⟨h1, h2⟩ := rules_lay t fun x hx => h x (List.mem_cons_of_mem _ hx)
    obtain ⟨h3, h4⟩ := rule_lay (h q List.mem_cons_self)
    exact ⟨Bool.and_eq_true_iff.mpr ⟨h3, h1⟩, Nat.max_le.mpr ⟨h4, h2⟩⟩
theorem shaped_rule {r : Rl} (h : r.Ok) : SeqAt.shaped r.d = true := Bool.and_eq_true_iff.mpr ⟨(rule_lay h).1, decide_eq_true (by have := (rule_lay h).2; omega)⟩
theorem shaped_rules {qs : List (Addr × Rl)} (h : ∀ q ∈ qs, q.2.Ok) : SeqAt.shaped (.list (qs.map fun q => q.2.d)) = true :=
  Bool.and_eq_true_iff.mpr ⟨(rules_lay qs h).1, decide_eq_true (by have := (rules_lay qs h).2; show PyData.depthAll _ + 1 ≤ 64; omega)⟩
theorem rule_eqv (r : Rl) : PyData.eqv r.d r.d = true := by
  unfold Rl.d
  cases r.high with
  | none => simp [PyData.eqv, PyData.eqvAll, hiD]
  | some i => simp [PyData.eqv, PyData.eqvAll, hiD]
theorem not_met {qs : List (Addr × Rl)} {r : Rl} (h : ((qs.map fun q => q.2.d).any fun z => PyData.eqv z r.d) = false) : r ∉ qs.map (·.2) := fun m => by
  obtain ⟨q, hq, e⟩ := List.mem_map.mp m
  have z := List.any_eq_false.mp h q.2.d (List.mem_map.mpr ⟨q, hq, rfl⟩)
  rw [e] at z
  exact z (rule_eqv r)
/-- a drawn book's rules: none twice, none that grows beside one that splits -/
structure RsGood (qs : List (Addr × Rl)) : Prop where
  ok : ∀ q ∈ qs, RGood q.2
  nd : (qs.map (·.2)).Nodup
  gs : (∀ q ∈ qs, q.2.high ≠ none) ∨ ∀ q ∈ qs, V.str q.2.left ≠ V.str "two"
theorem RsGood.perm {qs qs' : List (Addr × Rl)} (h : RsGood qs) (p : qs'.Perm qs) : RsGood qs' :=
  ⟨fun q hq => h.ok q (p.mem_iff.mp hq), (p.map (·.2)).nodup_iff.mpr h.nd, h.gs.imp (fun g q hq => g q (p.mem_iff.mp hq)) fun g q hq => g q (p.mem_iff.mp hq)⟩
theorem RsGood.sub {qs qs' : List (Addr × Rl)} (h : RsGood qs) (p : qs'.Sublist qs) : RsGood qs' :=
  ⟨fun q hq => h.ok q (p.subset hq), h.nd.sublist (p.map _), h.gs.imp (fun g q hq => g q (p.subset hq)) fun g q hq => g q (p.subset hq)⟩
theorem RsGood.snoc {qs : List (Addr × Rl)} (h : RsGood qs) {p : Addr} {r : Rl} (hr : RGood r) (hn : r ∉ qs.map (·.2)) (hg : (∀ q ∈ qs ++ [(p, r)], q.2.high ≠ none) ∨ ∀ q ∈ qs ++ [(p, r)], V.str q.2.left ≠ V.str "two") : RsGood (qs ++ [(p, r)]) := by
  refine ⟨fun q hq => ?_, ?_, hg⟩
  · rcases List.mem_append.mp hq with hq | hq
    · exact h.ok q hq
    · obtain rfl := List.mem_singleton.mp hq
      exact hr
  · rw [List.map_append]
    refine List.nodup_append.mpr ⟨h.nd, List.pairwise_singleton _ _, fun x hx y hy e => ?_⟩
    have hy : y = r := List.mem_singleton.mp hy
    exact hn (hy ▸ e ▸ hx)
section
variable {P : Program} {w : World} {K : PySem.W.Frag} {mg : Str → Option Value} {base : Heap}
abbrev s_arules := top 40
theorem sc_arules : FnScope ["stream", "way", "many", "far", "turns", "lefts", "found", "k", "rule"] ["stream", "way", "many", "far", "turns"] (defScope s_arules) := ⟨rfl, rfl, rfl, by decide +kernel, rfl, by decide +kernel, by decide +kernel⟩
def spArules : Sp := fun vs H Q _ => ∃ (a c : Addr) (n way many far turns : Int), vs = [.ref a, .int way, .int many, .int far, .int turns] ∧ Strm H a c n ∧ 0 ≤ way ∧ way ≤ 2 ∧ 0 ≤ many ∧ many ≤ 6 ∧ 1 ≤ far ∧ far ≤ 10 ∧ 1 ≤ turns ∧ turns ≤ 10 ∧ n + 100 < 2 ^ 39 ∧
  ∀ H' n' (L : Addr) qs, Ex (off a c H) (off a c H') → Strm H' a c n' → n ≤ n' → n' ≤ n + 100 → H L = none → RsAt (off a c H') L qs → qs.length ≤ 10 → RsGood qs → Q (.ref L) H'
theorem ok_arules {f f1 f2 fl : Addr} {fd fd1 fd2 fdl : FuncData} (F : FD K mg "_law_a_rules" "_law_a_rules" s_arules f fd) (T : Bl mg) (hmax : mg "max" = none) (hall : mg "all" = none) (hsorted : mg "sorted" = none)
    (F_draw : FD K mg "_law_draw" "_law_draw" s_draw f1 fd1) (F_arule : FD K mg "_law_a_rule" "_law_a_rule" s_arule f2 fd2) (G_arule : FnOk P w K mg base CX0 3 f2 fd2 ["stream", "lefts", "far", "turns"] spArule)
    (F_aline : FD K mg "_law_a_line" "_law_a_line" s_aline fl fdl) (G_aline : FnOk P w K mg base CX0 1 fl fdl ["rule"] spAline) : FnOk P w K mg base CX0 4 f fd ["stream", "way", "many", "far", "turns"] spArules := by
  have G_draw : FnOk P w K mg base CX0 1 f1 fd1 ["stream", "many"] spDraw := ok_draw F_draw T
  have b_draw := b_draw F_draw
  have b_arule : Binds K fd2 ["stream", "lefts", "far", "turns"] [] := F_arule.F.binds fun _ _ _ _ _ _ us hl => match us, hl with | [_, _, _, _], _ => rfl
  have b_aline : Binds K fdl ["rule"] [] := F_aline.F.binds fun _ _ _ _ _ _ us hl => match us, hl with | [_], _ => rfl
  refine F.F.ok sc_arules (fun vs H Q E h => ?_) (fun cdv A outer s H vs Q E hr h => ?_)
  · obtain ⟨a, c, n, way, many, far, turns, rfl, _⟩ := h
    rfl
  · obtain ⟨a, c, n, way, many, far, turns, rfl, S, w0, w2, m0, m6, f0, f10, t0, t10, nz, k⟩ := h
    have nd := sc_arules.nd
    have hr3 : Room (1 + 2) _ := hr.mono (by decide)
    have hu : (A.deeper (PyProof.Rows.envOfC (Str.ofString "_law_a_rules") (defScope s_arules) s.heap.objs.size f cdv)).units + 65 < cLine := by
      have := hr.un
      omega
    refine ⟨_, (pss_cons (ps_par (i := 5) (j := 6) (by rfl) nd rfl rfl (by decide) rfl rfl (pa_cons (pe_ix (r := rIx K) ix_seq (pe_lst (pa_cons (pe_lst (pa_cons pe_str (pa_cons pe_str (pa_cons pe_str (pa_cons pe_str pa_nil))))) (pa_cons (pe_lst (pa_cons pe_str (pa_cons pe_str (pa_cons pe_str pa_nil)))) (pa_cons (pe_lst (pa_cons pe_str (pa_cons pe_str (pa_cons pe_str pa_nil)))) pa_nil)))) (pv 1) (fun _ _ => rfl)) (pa_cons (pe_lst pa_nil) pa_nil)) (by rfl))
      (pss_cons (ps_for PassesOwn.never rfl (pi_range1 (by rfl) T.range (pa_cons (pv 2) pa_nil)) (pg_name (i := 7) nd rfl (Or.inl rfl)) (pss_cons (ps_set (i := 8) nd rfl (Or.inl rfl) (pe_call G_arule (hr.mono (by decide)) (by rfl) F_arule.g F_arule.F.kp b_arule .nil pass0 (pa_cons (pv 0) (pa_cons (pv 5) (pa_cons (pv 3) (pa_cons (pv 4) pa_nil))))))
      (pss_one (ps_expr (pe_bm PySem.F.plainAttrs_list PySem.F.slot_list_extend PySem.F.type_list_extend mt_extend (pv 6) (pa_cons (pe_ifExp (pt_cmpR (op_notInD hu) (pv 8) (pv 6) (by rfl)) (pe_lst (pa_cons (pv 8) pa_nil)) (pe_lst pa_nil)) pa_nil))))))
      (pss_cons (ps_if (PW.pt (pw_and (pt_cmpR op_eq (pv 1) pe_int (nomark _)) (pw_and1 (pt_val (pe_callB (cr_all rfl) (by rfl) hall (by decide +kernel) (pa_cons (pe_lc (own := [("rule", 8)]) (g := gName 8) (tt := tYes) rfl nd (pi_list (pv 6)) (blkOk_by (N := ["stream", "way", "many", "far", "turns", "lefts", "found", "k", "rule"]) (sc := defScope s_arules) (by decide +kernel)) (fun _ _ _ _ _ => pg_name (i := 8) nd rfl (Or.inl rfl)) (fun _ _ _ _ _ => pts_nil) (fun _ _ _ _ _ => (pe_cmpR op_notN (pe_ix (r := rIx K) ix_seq (pv 8) pe_int (fun _ _ => rfl)) pe_non (nomark _)))) pa_nil)))))) (pss_one (ps_set (i := 6) nd rfl (Or.inl rfl) (pe_op op_cat (pe_slice (r := rSlL K) sl_list (pv 6) po_none (po_some (pe_callB (call_max2 rfl) (by rfl) hmax (by decide +kernel) (pa_cons pe_int (pa_cons (pe_op op_sub (pv 2) pe_int) pa_nil))))) (pe_lst (pa_cons (pe_tup (pa_cons (pe_op op_add pe_int (pe_call G_draw (hr.mono (by decide)) (by rfl) F_draw.g F_draw.F.kp b_draw .nil pass0 (pa_cons (pv 0) (pa_cons (pv 3) pa_nil)))) (pa_cons pe_non (pa_cons pe_str (pa_cons pe_int (pa_cons pe_int pa_nil)))))) pa_nil))))) pss_nil)
      (pss_one (ps_ret (pe_callBK (cr_sortedBy G_aline hr3 b_aline) (by rfl) hsorted (by decide +kernel) (pa_cons (pv 6) pa_nil) (pk_cons (pe_glob (v := .ref fl) rfl F_aline.g rfl) pk_nil))))))), ?_⟩
    have big : (2 : Int) ^ 39 + 1100 < 2 ^ 40 := by decide
    have big2 : (1000 : Int) < 2 ^ 60 := by decide
    refine ⟨by show 4 ≤ sizeLine; decide, fun p1 n1 => ⟨by show 3 ≤ sizeLine; decide, fun p2 n2 => ⟨by show 3 ≤ sizeLine; decide, fun p3 n3 => ⟨by show 3 ≤ sizeLine; decide, fun p4 n4 => ?_⟩⟩⟩⟩
    have e1 := Ex.new (o := .lst [.str "none", .str "one", .str "two", .str "two"]) n1
    have a1 : upd H p1 (.lst [.str "none", .str "one", .str "two", .str "two"]) p1 = _ := upd_same
    generalize upd H p1 (.lst [.str "none", .str "one", .str "two", .str "two"]) = H1 at e1 a1 n2 n3 n4 ⊢
    have e2 := Ex.new (o := .lst [.str "none", .str "one", .str "one"]) n2
    have a2 : upd H1 p2 (.lst [.str "none", .str "one", .str "one"]) p2 = _ := upd_same
    generalize upd H1 p2 (.lst [.str "none", .str "one", .str "one"]) = H2 at e2 a2 n3 n4 ⊢
    have e3 := Ex.new (o := .lst [.str "none", .str "one", .str "more"]) n3
    have a3 : upd H2 p3 (.lst [.str "none", .str "one", .str "more"]) p3 = _ := upd_same
    generalize upd H2 p3 (.lst [.str "none", .str "one", .str "more"]) = H3 at e3 a3 n4 ⊢
    have e4 := Ex.new (o := .lst [.ref p1, .ref p2, .ref p3]) n4
    have a4 : upd H3 p4 (.lst [.ref p1, .ref p2, .ref p3]) p4 = _ := upd_same
    generalize upd H3 p4 (.lst [.ref p1, .ref p2, .ref p3]) = H4 at e4 a4 ⊢
    obtain ⟨B, ws, hB, hBH, hBn, hw, w1, w10, wm, wt⟩ : ∃ (B : Addr) (ws : List V), atI [V.ref p1, .ref p2, .ref p3] way = some (.ref B) ∧ H4 B = some (.lst ws) ∧ H B = none ∧ (∀ x ∈ ws, x ∈ words) ∧ 1 ≤ ws.length ∧ ws.length ≤ 10 ∧ (way ≠ 2 → V.str "more" ∉ ws) ∧ (way = 2 → V.str "two" ∉ ws) := by
      have c : way = 0 ∨ way = 1 ∨ way = 2 := by omega
      rcases c with rfl | rfl | rfl
      · exact ⟨p1, _, rfl, e4 _ _ (e3 _ _ (e2 _ _ a1)), n1, by decide, by decide, by decide, fun _ => by decide, fun z => absurd z (by decide)⟩
      · exact ⟨p2, _, rfl, e4 _ _ (e3 _ _ a2), none_of e1 n2, by decide, by decide, by decide, fun _ => by decide, fun z => absurd z (by decide)⟩
      · exact ⟨p3, _, rfl, e4 _ _ a3, none_of e1 (none_of e2 n3), by decide, by decide, by decide, fun z => absurd rfl z, fun _ => by decide⟩
    refine ⟨_, rfl, ix_row (.inl a4) hB ⟨Nat.zero_le _, fun F0 nF => ?_⟩⟩
    have st0 : Stt a c n (off a c H) H := ⟨S, Ex.refl _⟩
    obtain ⟨Ba, Bc⟩ := S.nea hBn
    have st4 := ((((st0.ex e1).ex e2).ex e3).ex e4).hold hBH Ba Bc
    have eR : Ex (off a c H) (upd (off a c H) B (.lst ws)) := Ex.held (off_none hBn)
    have RB : upd (off a c H) B (.lst ws) B = some (.lst ws) := upd_same
    generalize upd (off a c H) B (.lst ws) = R at st4 eR RB
    obtain ⟨Fa, Fc⟩ := st4.s.nea nF
    have RF := st4.no nF
    have st5 := st4.ex (Ex.new (o := .lst []) nF)
    have aF : upd H4 F0 (.lst []) F0 = _ := upd_same
    generalize upd H4 F0 (.lst []) = H5 at st5 aF ⊢
    refine ⟨_, _, rfl, ?_⟩
    refine ⟨_, rfl, _, rfl, by omega, by omega, for_range (lo := 0) (n := many.toNat) (fun i σ H' => ∃ (n' : Int) (qs : List (Addr × Rl)) (v7 v8 : Option V), σ = [some (.ref a), some (.int way), some (.int many), some (.int far), some (.int turns), some (.ref B), some (.ref F0), v7, v8] ∧ Stt a c n' R H' ∧
        H' F0 = some (.lst (qs.map fun q => V.ref q.1)) ∧ (∀ q ∈ qs, H' q.1 = some (.tup q.2.vs)) ∧ RsGood qs ∧ ((way ≠ 2 ∧ ∀ q ∈ qs, q.2.high ≠ none) ∨ (way = 2 ∧ ∀ q ∈ qs, V.str q.2.left ≠ V.str "two")) ∧ qs.length ≤ i ∧ n ≤ n' ∧ n' ≤ n + 10 * (i : Nat))
      ⟨n, [], none, none, rfl, st5, aF, (fun q hq => absurd hq (by simp)), ⟨(fun q hq => absurd hq (by simp)), .nil, .inl fun q hq => absurd hq (by simp)⟩, ?_, Nat.le_refl _, Int.le_refl _, by omega⟩ (fun i σ H' hi q => ?_) (fun σ H' q => ?_)⟩
    · by_cases c : way = 2
      · exact .inr ⟨c, fun q hq => absurd hq (by simp)⟩
      · exact .inl ⟨c, fun q hq => absurd hq (by simp)⟩
    · obtain ⟨n', qs, v7, v8, rfl, st, hF, hq, good, way2, hl, b1, b2⟩ := q
      refine gn1 ?_
      dsimp only
      refine seq1 (asg1 ?_)
      refine ⟨_, rfl, _, rfl, _, rfl, _, rfl, a, c, B, n', far, turns, ws, rfl, st.s, st.r _ _ RB, hw, w1, w10, f0, f10, t0, t10, by omega, fun H2 z r n2 e2 S2 c1 c2 nz' hz rg g1 g2 => ?_⟩
      have st2 := st.drawn e2 S2
      have hF2 : H2 F0 = _ := off_of (e2 _ _ ((off_ne Fa Fc).trans hF))
      have hq2 : ∀ q ∈ qs, H2 q.1 = some (.tup q.2.vs) := fun q m => off_of (e2 _ _ (off_tup st.s (hq q m)))
      have hz2 := off_of hz
      refine gn1 ?_
      dsimp only
      refine ⟨_, rfl, .inl ⟨rfl, _, SqL.of hF2⟩, _, rfl, _, rfl, r.d, qs.map fun q => q.2.d, rule_dp hz2, .lst (SqL.of hF2) (rules_dp hq2), shaped_rule rg.ok, shaped_rules fun q m => (good.ok q m).ok, _, rfl, ?_⟩
      cases hm : (qs.map fun q => q.2.d).any fun z => PyData.eqv z r.d with
      | false =>
        refine ite_tt rfl ⟨_, rfl, by show 1 ≤ sizeLine; decide, fun l nl => ⟨F0, l, qs.map fun q => V.ref q.1, [V.ref z], rfl, rfl, Ex.new nl _ _ hF2, upd_same, ?_, ?_⟩⟩
        · rw [List.length_map]
          exact Nat.le_trans (show qs.length + 1 ≤ 100 by omega) (by decide)
        have way3 : (way ≠ 2 ∧ ∀ q ∈ qs ++ [(z, r)], q.2.high ≠ none) ∨ (way = 2 ∧ ∀ q ∈ qs ++ [(z, r)], V.str q.2.left ≠ V.str "two") := by
          refine way2.imp (fun h => ⟨h.1, fun q m => ?_⟩) fun h => ⟨h.1, fun q m => ?_⟩
          · rcases List.mem_append.mp m with m | m
            · exact h.2 q m
            · obtain rfl := List.mem_singleton.mp m
              exact fun w => wm h.1 (g1 w)
          · rcases List.mem_append.mp m with m | m
            · exact h.2 q m
            · obtain rfl := List.mem_singleton.mp m
              exact fun w => wt h.1 (g2 w)
        refine ⟨n2, qs ++ [(z, r)], _, _, rfl, (st2.ex (Ex.new nl)).mut RF Fa Fc, by rw [upd_same, List.map_append]; rfl, fun q m => ?_, good.snoc rg (not_met hm) (way3.imp (·.2) (·.2)), way3, by rw [List.length_append]; exact Nat.succ_le_succ hl, by omega, by omega⟩
        have w : upd H2 l (.lst [V.ref z]) q.1 = some (.tup q.2.vs) := by
          refine Ex.new nl _ _ ?_
          rcases List.mem_append.mp m with m | m
          · exact hq2 q m
          · obtain rfl := List.mem_singleton.mp m
            exact hz2
        rw [upd_ne]
        · exact w
        · intro e
          rw [e, Ex.new nl _ _ hF2] at w
          cases w
      | true =>
        refine ite_ff rfl ⟨Nat.zero_le _, fun l nl => ⟨F0, l, qs.map fun q => V.ref q.1, [], rfl, rfl, Ex.new nl _ _ hF2, upd_same, ?_, ?_⟩⟩
        · rw [List.length_map]
          exact Nat.le_trans (show qs.length + 0 ≤ 100 by omega) (by decide)
        refine ⟨n2, qs, _, _, rfl, (st2.ex (Ex.new nl)).mut RF Fa Fc, by rw [upd_same, List.append_nil], fun q m => ?_, good, way2, by omega, by omega, by omega⟩
        have w := Ex.new (o := .lst []) nl _ _ (hq2 q m)
        rw [upd_ne]
        · exact w
        · intro e
          rw [e, Ex.new nl _ _ hF2] at w
          cases w
    · obtain ⟨n', qs, v7, v8, rfl, st, hF, hq, good, way2, hl, b1, b2⟩ := q
      have fin : ∀ (Dn : Ends) (σ : L2.St) (H' : Hp) (n' : Int) (F' : Addr) (qs : List (Addr × Rl)), Dn.rt = Q → σ[6]? = some (some (.ref F')) → Stt a c n' R H' → H' F' = some (.lst (qs.map fun q => V.ref q.1)) → (∀ q ∈ qs, H' q.1 = some (.tup q.2.vs)) → RsGood qs → qs.length ≤ 10 → n ≤ n' → n' ≤ n + 100 →
          (tRet (tCKw (rSortBy K fl spAline) (tCons (tVar 6) tNil) (tCons (tC (.ref fl)) tNil)) : TS) Dn σ H' := fun Dn σ H' n' F' qs hD h6 st hF hq good hl b1 b2 => by
        refine ⟨_, h6, F', qs.map fun q => (V.ref q.1, q.2.aline), rfl, rfl, SqL.of (by rw [hF, List.map_map]; rfl), fun p hp H'' e Q' kk => ?_, fun L H3 nL e3 hL => ?_⟩
        · obtain ⟨q, m, rfl⟩ := List.mem_map.mp hp
          exact ⟨q.1, q.2, rfl, .inr (e _ _ (hq q m)), (good.ok q m).sm, fun H4 e4 => kk H4 e4⟩
        rw [hD]
        have st3 := st.ex e3
        obtain ⟨La, Lc⟩ := st.s.nea nL
        have pm := List.mergeSort_perm qs (dataLe false fun q => PyData.str q.2.aline)
        refine k H3 n' L (qs.mergeSort (dataLe false fun q => PyData.str q.2.aline)) (eR.trans st3.r) st3.s b1 b2 ?_ ⟨?_, fun q m => off_tup st3.s (e3 _ _ (hq q (pm.mem_iff.mp m)))⟩ (by rw [pm.length_eq]; exact hl) (good.perm pm)
        · exact off_back (eR.trans st.r) st.s nL
        · rw [off_ne La Lc, hL]
          have z := ms_map (fun q : Addr × Rl => (V.ref q.1, q.2.aline)) (fun p : V × Str => PyData.str p.2) qs
          rw [← z, List.map_map]
          rfl
      refine ⟨_, rfl, rfl, _, rfl, ?_⟩
      rw [dec_z]
      by_cases w : way = 2
      · refine ite_tt (decide_eq_true w) ?_
        have nt : ∀ q ∈ qs, V.str q.2.left ≠ V.str "two" := by
          rcases way2 with h | h
          · exact absurd w h.1
          · exact h.2
        refine ⟨_, rfl, F0, rfl, ⟨_, SqL.of hF⟩, ?_⟩
        refine lc_pureD (g := gName 8) (walk_list (xs := qs.map fun q => V.ref q.1)) (out := fun j => V.bl (!decide (((qs.map fun q => hiV q.2.high).getD j .non) = V.non))) (by rw [List.length_map]; exact Nat.le_trans (show qs.length ≤ 100 by omega) (by decide)) (fun H' e => SqL.of (e _ _ hF)) (fun j x H2 H3 hj e2 y => ?_) (fun _ _ _ _ h => h _ _) (fun D H2 nD e2 hD => ?_)
        · obtain ⟨rfl, hx⟩ := y
          rw [List.length_map] at hj
          rw [List.getElem?_map, List.getElem?_eq_getElem hj] at hx
          cases hx
          have eo : (qs.map fun q => hiV q.2.high).getD j .non = hiV qs[j].2.high := by
            rw [List.getD_eq_getElem?_getD, List.getElem?_map, List.getElem?_eq_getElem hj]
            rfl
          rw [eo]
          exact ⟨Ex.refl _, rfl, Ex.refl _, fun q kq => ⟨_, rfl, ix_row (.inr (e2 _ _ (hq _ (List.getElem_mem hj)))) rfl ⟨rfl, kq _ (Ex.refl _)⟩⟩⟩
        · rw [List.length_map] at hD
          have hD : H2 D = some (.lst ((qs.map fun q => !decide (hiV q.2.high = V.non)).map V.bl)) := by
            rw [hD]
            have z := range_getD (qs.map fun q => hiV q.2.high) .non fun x => V.bl (!decide (x = V.non))
            rw [List.length_map] at z
            rw [z, List.map_map, List.map_map]
            rfl
          refine ⟨D, _, rfl, SqL.of hD, _, rfl, ?_⟩
          cases ha : (qs.map fun q => !decide (hiV q.2.high = V.non)).all id with
          | false =>
            refine ite_ff rfl ?_
            have st2 := st.ex e2
            exact fin _ _ H2 n' F0 qs rfl rfl st2 (e2 _ _ hF) (fun q m => e2 _ _ (hq q m)) good (by omega) b1 (by omega)
          | true =>
            refine ite_tt rfl ?_
            have ng : ∀ q ∈ qs, q.2.high ≠ none := fun q m h => by
              have z := List.all_eq_true.mp ha _ (List.mem_map.mpr ⟨q, m, rfl⟩)
              rw [h] at z
              exact absurd z (by decide)
            refine seq1 (asg1 ?_)
            refine ⟨_, rfl, _, rfl, _, _, rfl, rfl, _, _, rfl, _, rfl, F0, _, rfl, SqL.of (e2 _ _ hF), fun p np => ?_⟩
            obtain ⟨cs, sub, ec⟩ : ∃ cs : List (Addr × Rl), cs.Sublist qs ∧ cutV (qs.map fun q => V.ref q.1) none (some (if many - 1 > 0 then many - 1 else 0)) = cs.map fun q => V.ref q.1 :=
              ⟨_, (List.take_sublist _ _).trans (List.drop_sublist _ _), by unfold cutV; rw [List.map_take, List.map_drop]⟩
            rw [ec]
            have lc := sub.length_le
            have st2 := st.ex e2
            obtain ⟨pa, pc⟩ := st2.s.nea np
            have st3 := st2.ex (Ex.new (o := .lst (cs.map fun q => V.ref q.1)) np)
            have hp3 : upd H2 p (.lst (cs.map fun q => V.ref q.1)) p = _ := upd_same
            have hq3 : ∀ q ∈ cs, upd H2 p (.lst (cs.map fun q => V.ref q.1)) q.1 = some (.tup q.2.vs) := fun q m => Ex.new np _ _ (e2 _ _ (hq q (sub.subset m)))
            generalize upd H2 p (.lst (cs.map fun q => V.ref q.1)) = H3 at st3 hp3 hq3
            refine ⟨_, rfl, _, rfl, a, c, n', far, rfl, st3.s, f0, by omega, by omega, fun H4 r e4 S4 r0 r1 => ⟨_, _, rfl, rfl, by show 5 ≤ sizeLine; decide, fun z nz4 => ⟨by show 1 ≤ sizeLine; decide, fun l nl => ?_⟩⟩⟩
            have st4 := st3.drawn e4 S4
            have hp4 : H4 p = _ := off_of (e4 _ _ ((off_ne pa pc).trans hp3))
            have hq4 : ∀ q ∈ cs, H4 q.1 = some (.tup q.2.vs) := fun q m => off_of (e4 _ _ (off_tup st3.s (hq3 q m)))
            have ez := Ex.new (o := .tup [V.int (1 + r), .non, .str "one", .int 0, .int 1]) nz4
            have hz : upd H4 z (.tup [V.int (1 + r), .non, .str "one", .int 0, .int 1]) z = _ := upd_same
            generalize upd H4 z (.tup [V.int (1 + r), .non, .str "one", .int 0, .int 1]) = H5 at ez hz nl ⊢
            have el := Ex.new (o := .lst [V.ref z]) nl
            have hl' : upd H5 l (.lst [V.ref z]) l = _ := upd_same
            generalize upd H5 l (.lst [V.ref z]) = H6 at el hl' ⊢
            refine ⟨p, l, _, _, rfl, rfl, el _ _ (ez _ _ hp4), hl', ?_, fun G nG => ?_⟩
            · rw [List.length_map]
              exact Nat.le_trans (show cs.length + 1 ≤ 100 by omega) (by decide)
            have eG := Ex.new (o := .lst ((cs.map fun q => V.ref q.1) ++ [V.ref z])) nG
            have hG : upd H6 G (.lst ((cs.map fun q => V.ref q.1) ++ [V.ref z])) G = _ := upd_same
            generalize upd H6 G (.lst ((cs.map fun q => V.ref q.1) ++ [V.ref z])) = H7 at eG hG ⊢
            have eall := (ez.trans el).trans eG
            refine gn1 ?_
            refine fin _ _ H7 (n' + 1) G (cs ++ [(z, ⟨1 + r, none, "one", 0, 1⟩)]) rfl rfl (st4.ex eall) (by rw [hG, List.map_append]; rfl) (fun q m => ?_) ((good.sub sub).snoc (p := z) (r := ⟨1 + r, none, "one", 0, 1⟩) ⟨⟨by show inV (.str "one") lefts = true; decide, by show 0 ≤ 1 + r; omega, (fun h => by have h : 1 + r = 0 := h; omega), Int.le_refl _, (by show (0 : Int) < 1; decide), fun _ => ⟨rfl, by show V.str "one" ≠ V.str "two"; decide⟩, (fun h z => by cases z)⟩, ⟨wr_small (by show 0 ≤ 1 + r; omega) (by show 1 + r ≤ _; omega), trivial, by show ("one" : Str).length ≤ 100; decide, wr_small (by show (0 : Int) ≤ 0; decide) (by show (0 : Int) ≤ 100000; decide), wr_small (by show (0 : Int) ≤ 1; decide) (by show (1 : Int) ≤ 100000; decide)⟩, by show 1 + r ≤ 100; omega⟩ (fun m => ?_) (.inr fun q m => ?_)) ?_ (by omega) (by omega)
            · rcases List.mem_append.mp m with m | m
              · exact eall _ _ (hq4 q m)
              · obtain rfl := List.mem_singleton.mp m
                exact eG _ _ (el _ _ hz)
            · obtain ⟨q, hq', e⟩ := List.mem_map.mp m
              refine ng q (sub.subset hq') ?_
              rw [e]
            · rcases List.mem_append.mp m with m | m
              · exact nt q (sub.subset m)
              · obtain rfl := List.mem_singleton.mp m
                show V.str "one" ≠ V.str "two"
                decide
            · rw [List.length_append]
              show cs.length + 1 ≤ 10
              omega
      · refine ite_ff (decide_eq_false w) ?_
        exact fin _ _ H' n' F0 qs rfl rfl st hF hq good (by omega) b1 (by omega)
end
end Ts


set_option Elab.async false
set_option linter.all false
set_option maxRecDepth 100000
set_option maxHeartbeats 4000000
namespace Ts
open PySem PySem.Spec L2
open Evl (Ex)
open PySem.W (dataLe)
abbrev Rl.ds (r : Rl) : List PyData := [.int r.low, hiD r.high, .str r.left, .int r.rest, .int r.mod]
theorem hiOf_hiD (h : Option Int) : hiOf (hiD h) = h := by cases h <;> rfl
theorem items_mk (k : Bool) (l : List PyData) : items (mk k l) = l := by cases k <;> rfl
theorem isRow_mk (k : Bool) (l : List PyData) : isRow (mk k l) = true := by cases k <;> rfl
theorem rlOf_mk (k : Bool) (r : Rl) : rlOf (mk k r.ds) = r := by
  unfold rlOf
  rw [items_mk]
  show (⟨r.low, hiOf (hiD r.high), r.left, r.rest, r.mod⟩ : Rl) = r
  rw [hiOf_hiD]
theorem isRule_mk (k : Bool) {r : Rl} (h : r.Ok) : isRule (mk k r.ds) = true := by
  unfold isRule
  rw [isRow_mk, items_mk]
  show (true && rule5 _ _ _ _ _) = true
  have h0 := h.low0
  have h1 := h.low1
  have h2 := h.rest0
  have h3 := h.rest1
  have m0 : 0 ≤ r.mod := by omega
  have z1 : isNum (.int r.low) = true := decide_eq_true h0
  have z2 : isNum (.int r.rest) = true := decide_eq_true h2
  have z3 : isNum (.int r.mod) = true := decide_eq_true m0
  have z4 : isLeft (.str r.left) = true := h.left
  unfold rule5
  rw [z1, z2, z3, z4]
  have z5 : (!(decide (intOf (.int r.low) = 0) && !isTwo (.str r.left))) = true := by
    show (!(decide (r.low = 0) && !decide (V.str r.left = V.str "two"))) = true
    by_cases c : r.low = 0
    · rw [decide_eq_true (h1 c)]
      simp
    · rw [decide_eq_false c]
      rfl
  have z6 : decide (intOf (.int r.rest) < intOf (.int r.mod)) = true := decide_eq_true h3
  rw [z5, z6]
  have z7 : (if isNon (hiD r.high) = true then decide (intOf (.int r.mod) = 1) && !isTwo (.str r.left) else isNum (hiD r.high) && decide (intOf (.int r.low) ≤ intOf (hiD r.high))) = true := by
    cases e : r.high with
    | none =>
      obtain ⟨g1, g2⟩ := h.grow e
      show (decide (r.mod = 1) && !decide (V.str r.left = V.str "two")) = true
      rw [decide_eq_true g1, decide_eq_false g2]
      rfl
    | some i =>
      have g := h.high i e
      have g0 : 0 ≤ i := by omega
      show (decide (0 ≤ i) && decide (r.low ≤ i)) = true
      rw [decide_eq_true g0, decide_eq_true g]
      rfl
  rw [z7]
  rfl
theorem fault_none : ∀ {ds : List PyData} {i : Nat} {seen : List Rl} {g s : Bool}, (∀ e ∈ ds, isRule e = true) → (ds.map rlOf).Nodup → (∀ e ∈ ds, rlOf e ∉ seen) → ((g = false ∧ ∀ e ∈ ds, (rlOf e).high ≠ none) ∨ (s = false ∧ ∀ e ∈ ds, V.str (rlOf e).left ≠ V.str "two")) → faultAt ds i seen g s = none
  | [], _, _, _, _, _, _, _, _ => rfl
  | d :: ds, i, seen, g, s, h1, h2, h3, h4 => by
    rw [faultAt_cons, if_pos (h1 d List.mem_cons_self), if_neg (by rw [decide_eq_false (h3 d List.mem_cons_self)]; decide)]
    rw [List.map_cons, List.nodup_cons] at h2
    have hq : ((g || (rlOf d).high.isNone) && (s || decide (V.str (rlOf d).left = V.str "two"))) = false := by
      rcases h4 with ⟨rfl, h⟩ | ⟨rfl, h⟩
      · have z := h d List.mem_cons_self
        cases e : (rlOf d).high with
        | none => exact absurd e z
        | some j => rfl
      · rw [decide_eq_false (h d List.mem_cons_self)]
        simp
    rw [if_neg (by rw [hq]; decide)]
    refine fault_none (fun e he => h1 e (List.mem_cons_of_mem _ he)) h2.2 (fun e he m => ?_) ?_
    · rcases List.mem_append.mp m with m | m
      · exact h3 e (List.mem_cons_of_mem _ he) m
      · have m : rlOf e = rlOf d := List.mem_singleton.mp m
        exact h2.1 (List.mem_map.mpr ⟨e, he, m⟩)
    · refine h4.imp (fun h => ⟨?_, fun e he => h.2 e (List.mem_cons_of_mem _ he)⟩) fun h => ⟨?_, fun e he => h.2 e (List.mem_cons_of_mem _ he)⟩
      · have z := h.2 d List.mem_cons_self
        rw [h.1]
        cases e : (rlOf d).high with
        | none => exact absurd e z
        | some j => rfl
      · rw [h.1, decide_eq_false (h.2 d List.mem_cons_self)]
        rfl
theorem loo_rule {r : Rl} {e : PyData} (h : Loo r.d e) : ∃ k, e = mk k r.ds := by
  cases h with
  | same h => cases h
  | row k _ h =>
    refine ⟨k, ?_⟩
    have flat : ∀ {d e : PyData}, isRow d = false → Loo d e → e = d := fun {d e} hd hl => by
      cases hl with
      | same _ => rfl
      | row _ h _ =>
        rw [hd] at h
        cases h
    have hh : isRow (hiD r.high) = false := by cases r.high <;> rfl
    replace h : LooAll r.ds _ := h
    cases h with
    | cons a1 h =>
      cases h with
      | cons a2 h =>
        cases h with
        | cons a3 h =>
          cases h with
          | cons a4 h =>
            cases h with
            | cons a5 h =>
              cases h
              rw [flat rfl a1, flat hh a2, flat rfl a3, flat rfl a4, flat rfl a5]
theorem loo_rules : ∀ {qs : List (Addr × Rl)} {es : List PyData}, LooAll (qs.map fun q => q.2.d) es → (∀ q ∈ qs, q.2.Ok) → (∀ e ∈ es, isRule e = true) ∧ es.map rlOf = qs.map (·.2)
  | [], _, .nil, _ => ⟨fun e he => absurd he (by simp), rfl⟩
  | q :: t, _, .cons h r, ok => by
    obtain ⟨h1, h2⟩ := loo_rules r fun x hx => ok x (List.mem_cons_of_mem _ hx)
    obtain ⟨k, rfl⟩ := loo_rule h
    refine ⟨fun e he => ?_, ?_⟩
    · rcases List.mem_cons.mp he with rfl | he
      · exact isRule_mk k (ok q List.mem_cons_self)
      · exact h1 e he
    · rw [List.map_cons, List.map_cons, h2, rlOf_mk]
theorem perm_map {α β : Type} {f : α → β} {xs : List α} {ys : List β} (h : ys.Perm (xs.map f)) : ∃ zs : List α, ys = zs.map f ∧ zs.Perm xs := by
  replace h := h.symm
  generalize e : xs.map f = ws at h
  induction h generalizing xs with
  | nil => exact ⟨[], rfl, by rw [List.map_eq_nil_iff.mp e]⟩
  | cons x _ ih =>
    cases xs with
    | nil => cases e
    | cons x' t =>
      rw [List.map_cons] at e
      injection e with e1 e2
      obtain ⟨zs, h1, h2⟩ := ih e2
      exact ⟨x' :: zs, by rw [List.map_cons, e1, h1], h2.cons _⟩
  | swap x y l =>
    cases xs with
    | nil => cases e
    | cons x1 t =>
      cases t with
      | nil => cases e
      | cons x2 t =>
        rw [List.map_cons, List.map_cons] at e
        injection e with e1 e2
        injection e2 with e2 e3
        exact ⟨x2 :: x1 :: t, by rw [List.map_cons, List.map_cons, e1, e2, e3], .swap _ _ _⟩
  | trans _ _ ih1 ih2 =>
    obtain ⟨zs, h1, h2⟩ := ih1 e
    obtain ⟨us, h3, h4⟩ := ih2 h1.symm
    exact ⟨us, h3, h4.trans h2⟩
theorem rules_D {H : Hp} : ∀ {qs : List (Addr × Rl)}, (∀ q ∈ qs, H q.1 = some (.tup q.2.vs)) → DAll H (qs.map fun q => V.ref q.1) (qs.map fun q => q.2.d)
  | [], _ => .nil
  | q :: t, h => by
    refine .cons ?_ (rules_D fun x hx => h x (List.mem_cons_of_mem _ hx))
    refine .tup (h q List.mem_cons_self) (.cons (.int _) (.cons ?_ (.cons (.str _) (.cons (.int _) (.cons (.int _) .nil)))))
    cases q.2.high with
    | none => exact .non
    | some i => exact .int _
theorem dr2 : dr 2 = 91 := by decide
theorem okL_rules {qs : List (Addr × Rl)} (h : qs.length ≤ 90) : okL 2 (.list (qs.map fun q => q.2.d)) = true := by
  show (decide ((qs.map fun q => q.2.d).length ≤ 90) && (qs.map fun q => q.2.d).all (okL 1)) = true
  rw [decide_eq_true (by rw [List.length_map]; exact h), Bool.true_and, List.all_eq_true]
  intro d hd
  obtain ⟨q, _, rfl⟩ := List.mem_map.mp hd
  unfold Rl.d
  cases q.2.high <;> rfl
/-- what is drawn is no fault, however loose -/
theorem loose_ok {qs : List (Addr × Rl)} {d : PyData} (good : RsGood qs) (hz : qs.length ≤ 10) (h : Loo (.list (qs.map fun q => q.2.d)) d) : faultV d = .non ∧ (items d).map rlOf = qs.map (·.2) ∧ (items d).length ≤ 60 ∧ ∀ e ∈ items d, isRule e = true → (rlOf e).Sml := by
  cases h with
  | same h => cases h
  | row k _ h =>
    rename_i es hrow
    obtain ⟨h1, h2⟩ := loo_rules (show LooAll (qs.map fun q => q.2.d) es from h) fun q m => (good.ok q m).ok
    rw [items_mk]
    have hm : ∀ e ∈ es, ∃ q ∈ qs, rlOf e = q.2 := fun e he => by
      have z : rlOf e ∈ qs.map (·.2) := by
        rw [← h2]
        exact List.mem_map.mpr ⟨e, he, rfl⟩
      obtain ⟨q, m, z⟩ := List.mem_map.mp z
      exact ⟨q, m, z.symm⟩
    refine ⟨?_, h2, ?_, fun e he _ => ?_⟩
    · unfold faultV
      rw [if_pos (isRow_mk k es), items_mk, fault_none h1 (by rw [h2]; exact good.nd) (fun e _ m => by cases m) ?_]
      refine good.gs.imp (fun g => ⟨rfl, fun e he => ?_⟩) fun g => ⟨rfl, fun e he => ?_⟩
      · obtain ⟨q, m, z⟩ := hm e he
        rw [z]
        exact g q m
      · obtain ⟨q, m, z⟩ := hm e he
        rw [z]
        exact g q m
    · have := congrArg List.length h2
      rw [List.length_map, List.length_map] at this
      omega
    · obtain ⟨q, m, z⟩ := hm e he
      rw [z]
      exact (good.ok q m).sm
section
variable {P : Program} {w : World} {K : PySem.W.Frag} {mg : Str → Option Value} {base : Heap}
abbrev s_abook := top 41
abbrev s_amade := top 42
theorem sc_abook : FnScope ["stream"] ["stream"] (defScope s_abook) := ⟨rfl, rfl, rfl, by decide +kernel, rfl, by decide +kernel, by decide +kernel⟩
theorem sc_amade : FnScope ["stream", "raw"] ["stream", "raw"] (defScope s_amade) := ⟨rfl, rfl, rfl, by decide +kernel, rfl, by decide +kernel, by decide +kernel⟩
/-- what is told of a drawn book -/
abbrev DrawnTo (a c : Addr) (n : Int) (H : Hp) (Q : VK) : Prop := ∀ H' n' (L : Addr) qs, Ex (off a c H) (off a c H') → Strm H' a c n' → n ≤ n' → n' ≤ n + 110 → H L = none → RsAt (off a c H') L qs → qs.length ≤ 10 → RsGood qs → Q (.ref L) H'
def spAbook : Sp := fun vs H Q _ => ∃ (a c : Addr) (n : Int), vs = [.ref a] ∧ Strm H a c n ∧ n + 200 < 2 ^ 39 ∧ DrawnTo a c n H Q
theorem ok_abook {f f1 f2 f3 : Addr} {fd fd1 fd2 fd3 : FuncData} (F : FD K mg "_law_a_book" "_law_a_book" s_abook f fd) (T : Bl mg)
    (F_draw : FD K mg "_law_draw" "_law_draw" s_draw f1 fd1) (F_pick : FD K mg "_law_pick" "_law_pick" s_pick f2 fd2) (F_arules : FD K mg "_law_a_rules" "_law_a_rules" s_arules f3 fd3) (G_arules : FnOk P w K mg base CX0 4 f3 fd3 ["stream", "way", "many", "far", "turns"] spArules) : FnOk P w K mg base CX0 5 f fd ["stream"] spAbook := by
  have G_draw : FnOk P w K mg base CX0 1 f1 fd1 ["stream", "many"] spDraw := ok_draw F_draw T
  have G_pick : FnOk P w K mg base CX0 2 f2 fd2 ["stream", "some"] spPick := ok_pick F_pick F_draw T
  have b_draw := b_draw F_draw
  have b_pick : Binds K fd2 ["stream", "some"] [] := F_pick.F.binds fun _ _ _ _ _ _ us hl => match us, hl with | [_, _], _ => rfl
  have b_arules : Binds K fd3 ["stream", "way", "many", "far", "turns"] [] := F_arules.F.binds fun _ _ _ _ _ _ us hl => match us, hl with | [_, _, _, _, _], _ => rfl
  refine F.F.ok sc_abook (fun vs H Q E h => ?_) (fun cdv A outer s H vs Q E hr h => ?_)
  · obtain ⟨a, c, n, rfl, _⟩ := h
    rfl
  · obtain ⟨a, c, n, rfl, S, nz, k⟩ := h
    have nd := sc_abook.nd
    have big : (2 : Int) ^ 39 + 1100 < 2 ^ 40 := by decide
    have big2 : (1000 : Int) < 2 ^ 60 := by decide
    refine ⟨_, (pss_one (ps_ret (pe_call G_arules (hr.mono (by decide)) (by rfl) F_arules.g F_arules.F.kp b_arules .nil pass0 (pa_cons (pv 0) (pa_cons (pe_call G_pick (hr.mono (by decide)) (by rfl) F_pick.g F_pick.F.kp b_pick .nil pass0 (pa_cons (pv 0) (pa_cons (pe_lst (pa_cons pe_int (pa_cons pe_int (pa_cons pe_int (pa_cons pe_int pa_nil))))) pa_nil))) (pa_cons (pe_call G_draw (hr.mono (by decide)) (by rfl) F_draw.g F_draw.F.kp b_draw .nil pass0 (pa_cons (pv 0) (pa_cons pe_int pa_nil))) (pa_cons pe_int (pa_cons pe_int pa_nil)))))))), ?_⟩
    refine ⟨_, rfl, _, rfl, by show 4 ≤ sizeLine; decide, fun p np => ?_⟩
    obtain ⟨pa, pc⟩ := S.nea np
    have e1 := Ex.new (o := .lst [V.int 0, .int 0, .int 1, .int 2]) np
    refine ⟨a, c, p, n, [.int 0, .int 0, .int 1, .int 2], rfl, S.upd pa pc, by rw [off_ne pa pc]; exact upd_same, by decide, by decide, by omega, fun H2 x e2 S2 hx => ?_⟩
    obtain ⟨wy, rfl, y0, y1⟩ : ∃ wy : Int, x = .int wy ∧ 0 ≤ wy ∧ wy ≤ 2 := by
      rcases List.mem_cons.mp hx with rfl | hx
      · exact ⟨_, rfl, by decide, by decide⟩
      · rcases List.mem_cons.mp hx with rfl | hx
        · exact ⟨_, rfl, by decide, by decide⟩
        · rcases List.mem_cons.mp hx with rfl | hx
          · exact ⟨_, rfl, by decide, by decide⟩
          · obtain rfl := List.mem_singleton.mp hx
            exact ⟨_, rfl, by decide, by decide⟩
    refine ⟨_, rfl, a, c, n + 1, 5, rfl, S2, by decide, by decide, by omega, fun H3 r e3 S3 r0 r1 => ?_⟩
    have e13 := ((Ex.offs e1).trans e2).trans e3
    refine ⟨a, c, n + 1 + 1, wy, r, 3, 3, rfl, S3, y0, y1, r0, by omega, by decide, by decide, by decide, by decide, by omega, fun H4 n4 L qs e4 S4 b1 b2 nL hL hz good => ?_⟩
    exact k H4 n4 L qs (e13.trans e4) S4 (by omega) (by omega) (off_back e13 S3 nL) hL hz good
structure BkMade (K : PySem.W.Frag) (mg : Str → Option Value) (CB fI : Addr) : Prop where
  g : mg "Book" = some (.ref CB)
  made : Mk K CB fI
/-- a made book: its rules are these -/
def spAmade (CB : Addr) : Sp := fun vs H Q _ => ∃ (a c L : Addr) (n : Int) (qs : List (Addr × Rl)), vs = [.ref a, .ref L] ∧ Strm H a c n ∧ RsAt (off a c H) L qs ∧ qs.length ≤ 10 ∧ RsGood qs ∧ n + 200 < 2 ^ 39 ∧
  ∀ H' n' (b : Addr) rs, Ex (off a c H) (off a c H') → Strm H' a c n' → n ≤ n' → n' ≤ n + 110 → H b = none → BookAt CB (off a c H') b rs → (∀ r, r ∈ rs ↔ r ∈ qs.map (·.2)) → rs.length ≤ 10 → Q (.ref b) H'
theorem ok_amade {f f1 f2 f3 fI CB CR : Addr} {fd fd1 fd2 fd3 fdI : FuncData} (F : FD K mg "_law_a_made" "_law_a_made" s_amade f fd) (T : Bl mg)
    (F_draw : FD K mg "_law_draw" "_law_draw" s_draw f1 fd1) (F_mixed : FD K mg "_law_mixed" "_law_mixed" s_mixed f2 fd2) (F_loose : FD K mg "_law_loose" "_law_loose" s_loose f3 fd3)
    (BC : BkMade K mg CB fI) (F_I : Fun K "__init__" "Book.__init__" s_binit fI fdI) (G_binit : FnOk P w K mg base (L2.CX P w) 5 fI fdI ["self", "rules"] (spBook CB CR)) : FnOk P w K mg base CX0 7 f fd ["stream", "raw"] (spAmade CB) := by
  have G_mixed : FnOk P w K mg base CX0 2 f2 fd2 ["stream", "some"] spMixed := ok_mixed F_mixed F_draw T
  have G_loose : FnOk P w K mg base CX0 4 f3 fd3 ["stream", "thing"] (spLoose 3) := ok_loose F_loose F_draw T 3
  have b_mixed : Binds K fd2 ["stream", "some"] [] := F_mixed.F.binds fun _ _ _ _ _ _ us hl => match us, hl with | [_, _], _ => rfl
  have b_loose : Binds K fd3 ["stream", "thing"] [] := F_loose.F.binds fun _ _ _ _ _ _ us hl => match us, hl with | [_, _], _ => rfl
  have b_binit : Binds K fdI ["self", "rules"] [] := F_I.binds fun _ _ _ _ _ _ us hl => match us, hl with | [_, _], _ => rfl
  refine F.F.ok sc_amade (fun vs H Q E h => ?_) (fun cdv A outer s H vs Q E hr h => ?_)
  · obtain ⟨a, c, L, n, qs, rfl, _⟩ := h
    rfl
  · obtain ⟨a, c, L, n, qs, rfl, S, ⟨hL, hR⟩, hz, good, nz, k⟩ := h
    have nd := sc_amade.nd
    refine ⟨_, (pss_one (ps_ret (pe_make BC.made G_binit (hr.mono (by decide)) (by rfl) BC.g b_binit .nil (passF rfl rfl) (pa_cons (pe_call G_loose (hr.mono (by decide)) (by rfl) F_loose.g F_loose.F.kp b_loose .nil pass0 (pa_cons (pv 0) (pa_cons (pe_call G_mixed (hr.mono (by decide)) (by rfl) F_mixed.g F_mixed.F.kp b_mixed .nil pass0 (pa_cons (pv 0) (pa_cons (pv 1) pa_nil))) pa_nil))) pa_nil)))), ?_⟩
    refine ⟨_, rfl, _, rfl, _, rfl, a, c, L, n, _, rfl, S, hL, by rw [List.length_map]; omega, by omega, fun H2 M ys nM e2 S2 hM hp => ?_⟩
    obtain ⟨qs2, rfl, p2⟩ : ∃ qs2 : List (Addr × Rl), ys = qs2.map (fun q => V.ref q.1) ∧ qs2.Perm qs := perm_map hp
    have hl2 := p2.length_eq
    have good2 := good.perm p2
    have hd2 : D (off a c H2) (.ref M) (.list (qs2.map fun q => q.2.d)) := .lst hM (rules_D fun q m => e2 _ _ (hR q (p2.mem_iff.mp m)))
    rw [List.length_map] at S2
    refine ⟨a, c, n + qs.length, .ref M, _, off a c H2, rfl, S2, Ex.refl _, hd2, okL_rules (by omega), by rw [dr2]; omega, fun H3 v' d' G3 n3 e3 S3 b1 b2 rg hd3 hl3 => ?_⟩
    obtain ⟨f1, f2, f3, f4⟩ := loose_ok good2 (by omega) hl3
    have hd3 := hd3.ex rg.i
    intro p dx np ndx hne
    obtain ⟨pa, pc⟩ := S3.nea np
    obtain ⟨da, dc⟩ := S3.nea ndx
    have e34 : Ex H3 (del (upd (upd H3 dx (.own p)) p (.ins CB dx [])) p) := fun z o hz => by
      have n1 : z ≠ p := fun w => by
        rw [w, np] at hz
        cases hz
      have n2 : z ≠ dx := fun w => by
        rw [w, ndx] at hz
        cases hz
      rw [del_ne n1, upd_ne n1, upd_ne n2]
      exact hz
    refine ⟨p, dx, v', d', rfl, upd_same, hd3.ex (off_ex.trans e34), f3, f4, fun z => absurd f1 z, fun _ H4 e4 bk newL => ⟨rfl, ?_⟩⟩
    have eH := e34.trans e4
    have S4 := S3.ex eH
    obtain ⟨dx', L', qs', h1, h2, h3, h4⟩ := bk
    have nL' : H3 L' = none := by
      have z := newL dx' L' h1
      by_cases c1 : L' = p
      · rw [c1]
        exact np
      · rw [upd_ne c1] at z
        by_cases c2 : L' = dx
        · rw [c2]
          exact ndx
        · rw [upd_ne c2] at z
          exact z
    obtain ⟨la, lc⟩ := S3.nea nL'
    have pm : (sortR ((items d').map rlOf)).Perm (qs2.map (·.2)) := by
      unfold sortR
      rw [← f2]
      exact List.mergeSort_perm _ _
    refine k H4 n3 p (sortR ((items d').map rlOf)) ((e2.trans e3).trans (Ex.offs eH)) S4 (by omega) (by rw [dr2] at b2; omega) (off_back (e2.trans e3) S3 np) ⟨dx', L', qs', by rw [off_ne pa pc]; exact h1, by rw [off_ne la lc]; exact h2, fun q m => off_tup S4 (h3 q m), h4⟩ (fun r => pm.mem_iff.trans ((p2.map (·.2)).mem_iff)) ?_
    rw [pm.length_eq, List.length_map]
    omega
end
end Ts


set_option Elab.async false
set_option linter.all false
set_option maxRecDepth 100000
set_option maxHeartbeats 4000000
namespace Ts
open PySem PySem.Spec L2
open Evl (Ex)
/-- what is never reached -/
theorem pss_dead {X : Cx} {st : List Stmt} : PSs X st (fun _ _ _ => False) := ⟨fun _ _ _ _ _ _ h => h.elim⟩
theorem ints_D {H : Hp} : ∀ ts : List Int, DAll H (ts.map V.int) (ts.map PyData.int)
  | [] => .nil
  | t :: r => .cons (.int t) (ints_D r)
theorem lst_ty {K : PySem.W.Frag} {H : Hp} {a : Addr} {xs : List V} (h : H a = some (.lst xs)) : TyX K H (.ref a) (.type "list") := by
  exact .base (.lst h)
section
variable {P : Program} {w : World} {K : PySem.W.Frag} {mg : Str → Option Value} {base : Heap}
abbrev s_spoil := top 48
theorem sc_spoil : FnScope ["thing", "part", "key"] ["thing"] (defScope s_spoil) := ⟨rfl, rfl, rfl, by decide +kernel, rfl, by decide +kernel, by decide +kernel⟩
/-- a number, a text -/
inductive Sc : V → PyData → Prop where
  | int (i : Int) : Sc (.int i) (.int i)
  | str (x : Str) : Sc (.str x) (.str x)
def ScL (xs : List V) : Prop := ∀ x ∈ xs, ∃ d, Sc x d
theorem Sc.D {H : Hp} {x : V} {d : PyData} (h : Sc x d) : D H x d := by
  cases h with
  | int i => exact .int i
  | str x => exact .str x
theorem scl_ints (ts : List Int) : ScL (ts.map V.int) := fun x hx => by
  obtain ⟨i, _, rfl⟩ := List.mem_map.mp hx
  exact ⟨_, .int i⟩
theorem ScL.snoc {xs : List V} (h : ScL xs) (s : Str) : ScL (xs ++ [.str s]) := fun x hx => by
  rcases List.mem_append.mp hx with hx | hx
  · exact h x hx
  · rw [List.mem_singleton.mp hx]
    exact ⟨_, .str s⟩
/-- the heap without some things -/
def cut (H : Hp) (S : List Addr) : Hp := fun b => if b ∈ S then none else H b
theorem cut_in {H : Hp} {S : List Addr} {b : Addr} (h : b ∈ S) : cut H S b = none := if_pos h
theorem cut_out {H : Hp} {S : List Addr} {b : Addr} (h : b ∉ S) : cut H S b = H b := if_neg h
theorem cut_ex {H : Hp} {S : List Addr} : Ex (cut H S) H := fun b o h => by
  unfold cut at h
  split at h
  · cases h
  · exact h
def spSpoil : Nat → Sp
  | 0 => fun _ _ _ _ => False
  | 1 => fun vs H Q _ => ∃ x d, vs = [x] ∧ Sc x d ∧ ∀ H', Ex H H' → Q .non H'
  | 2 => fun vs H Q _ => ∃ (l : Addr) (xs : List V), vs = [.ref l] ∧ H l = some (.lst xs) ∧ ScL xs ∧ xs.length ≤ 1000000 ∧ ∀ H' s, Ex (del H l) H' → H' l = some (.lst (xs ++ [.str s])) → Q .non H'
  | 3 => fun vs H Q _ => ∃ (l : Addr) (as : List Addr) (R : Hp), vs = [.ref l] ∧ H l = some (.lst (as.map V.ref)) ∧ as.length ≤ 600000 ∧ Ex R H ∧ R l = none ∧ (∀ a ∈ as, a ≠ l ∧ R a = none ∧ ∃ xs, H a = some (.lst xs) ∧ ScL xs ∧ xs.length ≤ 10) ∧ ∀ H', Ex R H' → Q .non H'
  | 4 => fun vs H Q _ => ∃ (F l m : Addr) (as bs : List Addr), vs = [.ref F] ∧ H F = some (.lst [.ref l, .ref m]) ∧ H l = some (.lst (as.map V.ref)) ∧ H m = some (.lst (bs.map V.ref)) ∧ as.length ≤ 600000 ∧ bs.length ≤ 600000 ∧
      (∀ a ∈ as, ∃ xs, H a = some (.lst xs) ∧ ScL xs ∧ xs.length ≤ 10) ∧ (∀ a ∈ bs, ∃ xs, H a = some (.lst xs) ∧ ScL xs ∧ xs.length ≤ 10) ∧ l ∉ as ∧ m ∉ bs ∧ l ≠ m ∧ F ≠ l ∧ F ≠ m ∧ F ∉ as ∧ F ∉ bs ∧ m ∉ as ∧ l ∉ bs ∧ (∀ a ∈ as, a ∉ bs) ∧
      ∀ H', Ex (cut H (F :: l :: m :: (as ++ bs))) H' → Q .non H'
  | _ + 5 => fun _ _ _ _ => False
theorem spSpoil_len : ∀ {k : Nat} {vs : List V} {H : Hp} {Q : VK} {E : XK}, spSpoil k vs H Q E → ∃ v, vs = [v]
  | 0, _, _, _, _, h => h.elim
  | 1, _, _, _, _, ⟨x, d, h, _⟩ => ⟨_, h⟩
  | 2, _, _, _, _, ⟨l, ts, h, _⟩ => ⟨_, h⟩
  | 3, _, _, _, _, ⟨l, as, R, h, _⟩ => ⟨_, h⟩
  | 4, _, _, _, _, ⟨F, l, m, as, bs, h, _⟩ => ⟨_, h⟩
  | _ + 5, _, _, _, _, h => h.elim
theorem ok_spoil {f : Addr} {fd : FuncData} (F : FD K mg "_law_a_spoiled" "_law_a_spoiled" s_spoil f fd) (T : Bl mg) : ∀ k, FnOk P w K mg base CX0 k f fd ["thing"] (spSpoil k)
  | 0 => ⟨fun _ _ _ _ h => h.elim, fun _ _ _ _ _ _ _ _ _ _ _ _ _ h => h.elim⟩
  | k + 1 => by
    have G0 := ok_spoil F T k
    have b0 : Binds K fd ["thing"] [] := F.F.binds fun _ _ _ _ _ _ us hl => match us, hl with | [_], _ => rfl
    refine F.F.ok sc_spoil (fun vs H Q E h => ?_) (fun cdv A outer s H vs Q E hr h => ?_)
    · obtain ⟨v, rfl⟩ := spSpoil_len h
      rfl
    · have nd := sc_spoil.nd
      refine ⟨_, (pss_cons (ps_if (pt_val (pe_callB call_isiT (by rfl) T.isinstance (by decide +kernel) (pa_cons (pv 0) (pa_cons (pe_tup (pa_cons (pe_bltn (v := .ty "list") (by rfl) T.list (by decide +kernel) rfl) (pa_cons (pe_bltn (v := .ty "tuple") (by rfl) T.tuple (by decide +kernel) rfl) pa_nil))) pa_nil)))) (pss_one (ps_for PassesOwn.never rfl (pi_or (pi_list (pv 0)) (pi_tup (pv 0))) (pg_name (i := 1) nd rfl (Or.inl rfl)) (pss_one (ps_expr (pe_call G0 hr (by rfl) F.g F.F.kp b0 .nil pass0 (pa_cons (pv 1) pa_nil)))))) pss_nil)
      (pss_cons (ps_if (pt_val (pe_callB call_isi (by rfl) T.isinstance (by decide +kernel) (pa_cons (pv 0) (pa_cons (pe_bltn (v := .ty "dict") (by rfl) T.dict (by decide +kernel) rfl) pa_nil)))) pss_dead pss_nil)
      (pss_one (ps_if (pt_val (pe_callB call_isi (by rfl) T.isinstance (by decide +kernel) (pa_cons (pv 0) (pa_cons (pe_bltn (v := .ty "list") (by rfl) T.list (by decide +kernel) rfl) pa_nil)))) (pss_one (ps_expr (pe_bm PySem.F.plainAttrs_list PySem.F.slot_list_append PySem.F.type_list_append mt_append (pv 0) (pa_cons pe_str pa_nil)))) pss_nil)))), ?_⟩
      -- a list, behind its parts: one thing more
      have fin : ∀ {a : Addr} {xs : List V} {v1 v2 : Option V} {H2 : Hp}, H2 a = some (.lst xs) → xs.length < sizeLine → (upd H2 a (.lst (xs ++ [.str "late9"])) a = some (.lst (xs ++ [.str "late9"])) → Q .non (upd H2 a (.lst (xs ++ [.str "late9"])))) →
          (tSeq (tIfS (tB (tCB (rIsi K) (tCons (tVar 0) (tCons (tC (.ty "dict")) tNil)))) (fun _ _ _ => False) tNext) (tIfS (tB (tCB (rIsi K) (tCons (tVar 0) (tCons (tC (.ty "list")) tNil)))) (tDrop (tBM K "list" rAppend (tVar 0) (tCons (tC (.str "late9")) tNil))) tNext) : TS) { nx := fun _ H' => Q .non H', rt := Q } [some (.ref a), v1, v2] H2 := fun {a xs v1 v2 H2} ha hl hk => by
        have hT : TyX K H2 (.ref a) (.type "list") := lst_ty ha
        refine ⟨_, rfl, _, _, _, _, _, rfl, .ty "dict", hT, kit_dict (.list []), _, rfl, ite_ff rfl ?_⟩
        refine ⟨_, rfl, _, _, _, _, _, rfl, .ty "list", hT, kit_list (.list []), _, rfl, ite_tt rfl ?_⟩
        exact ⟨_, rfl, .inl ⟨rfl, _, SqL.of ha⟩, a, _, _, rfl, rfl, ha, hl, hk upd_same⟩
      match k, h with
      | 0, h =>
        obtain ⟨x, d, rfl, hx, kq⟩ := h
        refine ⟨_, rfl, by show 2 ≤ sizeLine; decide, fun p np => ⟨_, p, _, _, _, _, rfl, upd_same, .cons (.ty "list") (.cons (.ty "tuple") .nil), (hx.D (H := upd H p (.tup [.ty "list", .ty "tuple"]))).ty, kit_row d, _, rfl, ?_⟩⟩
        have ep := Ex.new (o := .tup [.ty "list", .ty "tuple"]) np
        cases hx with
        | int i =>
          refine ite_ff rfl ?_
          refine ⟨_, rfl, _, _, _, _, _, rfl, .ty "dict", (D.int i).ty, kit_dict (.int i), _, rfl, ite_ff rfl ?_⟩
          refine ⟨_, rfl, _, _, _, _, _, rfl, .ty "list", (D.int i).ty, kit_list (.int i), _, rfl, ite_ff rfl ?_⟩
          exact kq _ ep
        | str i =>
          refine ite_ff rfl ?_
          refine ⟨_, rfl, _, _, _, _, _, rfl, .ty "dict", (D.str i).ty, kit_dict (.str i), _, rfl, ite_ff rfl ?_⟩
          refine ⟨_, rfl, _, _, _, _, _, rfl, .ty "list", (D.str i).ty, kit_list (.str i), _, rfl, ite_ff rfl ?_⟩
          exact kq _ ep
      | 1, h =>
        obtain ⟨l, xs, rfl, hl, hsc, hz, kq⟩ := h
        refine ⟨_, rfl, by show 2 ≤ sizeLine; decide, fun p np => ⟨_, p, _, _, _, _, rfl, upd_same, .cons (.ty "list") (.cons (.ty "tuple") .nil), lst_ty (Ex.new np _ _ hl), kit_row (.list []), _, rfl, ?_⟩⟩
        have ep := Ex.new (o := .tup [.ty "list", .ty "tuple"]) np
        generalize upd H p (.tup [.ty "list", .ty "tuple"]) = H0 at ep ⊢
        refine ite_tt rfl ?_
        refine .inl ⟨_, rfl, l, rfl, ⟨_, SqL.of (ep _ _ hl)⟩, for_list (a := l) (xs := xs) (fun i σ H' => ∃ v1 v2, σ = [some (.ref l), v1, v2] ∧ Ex H H') ⟨none, none, rfl, ep⟩ (fun i σ H' _ q => ?_) (fun i x σ H' hx q => ?_) (fun σ H' q => ?_)⟩
        · obtain ⟨v1, v2, rfl, e⟩ := q
          exact SqL.of (e _ _ hl)
        · obtain ⟨v1, v2, rfl, e⟩ := q
          obtain ⟨d, hd⟩ := hsc x (List.mem_of_getElem? hx)
          refine gn1 ?_
          exact ⟨_, rfl, x, d, rfl, hd, fun H2 e2 => ⟨_, _, rfl, e.trans e2⟩⟩
        · obtain ⟨v1, v2, rfl, e⟩ := q
          refine fin (e _ _ hl) (Nat.lt_of_le_of_lt hz (by decide)) fun z => kq _ _ (fun b o hb => ?_) z
          by_cases c : b = l
          · rw [c, del_same] at hb
            cases hb
          · rw [del_ne c] at hb
            rw [upd_ne c]
            exact e _ _ hb
      | 2, h =>
        obtain ⟨l, as, R, rfl, hl, hz, eR, rl, hA, kq⟩ := h
        refine ⟨_, rfl, by show 2 ≤ sizeLine; decide, fun p np => ⟨_, p, _, _, _, _, rfl, upd_same, .cons (.ty "list") (.cons (.ty "tuple") .nil), lst_ty (Ex.new np _ _ hl), kit_row (.list []), _, rfl, ?_⟩⟩
        have ep := Ex.new (o := .tup [.ty "list", .ty "tuple"]) np
        generalize upd H p (.tup [.ty "list", .ty "tuple"]) = H0 at ep ⊢
        refine ite_tt rfl ?_
        refine .inl ⟨_, rfl, l, rfl, ⟨_, SqL.of (ep _ _ hl)⟩, for_list (a := l) (xs := as.map V.ref) (fun i σ H' => ∃ v1 v2, σ = [some (.ref l), v1, v2] ∧ Ex R H' ∧ H' l = some (.lst (as.map V.ref)) ∧ ∀ a ∈ as, ∃ xs, H' a = some (.lst xs) ∧ ScL xs ∧ xs.length ≤ 10 + i)
          ⟨none, none, rfl, eR.trans ep, ep _ _ hl, fun a ha => by obtain ⟨_, _, xs, h1, h2, h3⟩ := hA a ha; exact ⟨xs, ep _ _ h1, h2, h3⟩⟩ (fun i σ H' _ q => ?_) (fun i x σ H' hx q => ?_) (fun σ H' q => ?_)⟩
        · obtain ⟨v1, v2, rfl, e, q, _⟩ := q
          exact SqL.of q
        · obtain ⟨v1, v2, rfl, e, q, hA'⟩ := q
          have hi : i < 600000 := by
            have := (List.getElem?_eq_some_iff.mp hx).1
            rw [List.length_map] at this
            omega
          obtain ⟨a, ha, rfl⟩ := List.mem_map.mp (List.mem_of_getElem? hx)
          obtain ⟨al, ra, _⟩ := hA a ha
          obtain ⟨xs, h1, h2, h3⟩ := hA' a ha
          refine gn1 ?_
          refine ⟨_, rfl, a, xs, rfl, h1, h2, by omega, fun H2 s e2 h4 => ⟨_, _, rfl, fun b o hb => ?_, ?_, fun b hb => ?_⟩⟩
          · have n : b ≠ a := fun w => by
              rw [w, ra] at hb
              cases hb
            exact e2 _ _ (by rw [del_ne n]; exact e _ _ hb)
          · exact e2 _ _ (by rw [del_ne (Ne.symm al)]; exact q)
          · by_cases c : b = a
            · subst c
              exact ⟨_, h4, h2.snoc s, by rw [List.length_append]; show xs.length + 1 ≤ _; omega⟩
            · obtain ⟨ys, g1, g2, g3⟩ := hA' b hb
              exact ⟨ys, e2 _ _ (by rw [del_ne c]; exact g1), g2, by omega⟩
        · obtain ⟨v1, v2, rfl, e, q, _⟩ := q
          exact fin q (by rw [List.length_map]; exact Nat.lt_of_le_of_lt hz (by decide)) fun _ => kq _ (e.mut rl)
      | 3, h =>
        obtain ⟨F0, l, m, as, bs, rfl, hF, hl, hm, za, zb, hA, hB, la, mb, lm, Fl, Fm, Fa, Fb, ma, lb, ab, kq⟩ := h
        refine ⟨_, rfl, by show 2 ≤ sizeLine; decide, fun p np => ⟨_, p, _, _, _, _, rfl, upd_same, .cons (.ty "list") (.cons (.ty "tuple") .nil), lst_ty (Ex.new np _ _ hF), kit_row (.list []), _, rfl, ?_⟩⟩
        have ep := Ex.new (o := .tup [.ty "list", .ty "tuple"]) np
        generalize upd H p (.tup [.ty "list", .ty "tuple"]) = H0 at ep ⊢
        refine ite_tt rfl ?_
        have sub : ∀ {S : List Addr} {H1 : Hp}, (∀ b ∈ S, b ∈ F0 :: l :: m :: (as ++ bs)) → Ex (cut H (F0 :: l :: m :: (as ++ bs))) H1 → Ex (cut H (F0 :: l :: m :: (as ++ bs))) (cut H1 S) := fun {S H1} hS e b o hb => by
          have n : b ∉ S := fun w => by
            rw [cut_in (hS b w)] at hb
            cases hb
          rw [cut_out n]
          exact e _ _ hb
        refine .inl ⟨_, rfl, F0, rfl, ⟨_, SqL.of (ep _ _ hF)⟩, for_list (a := F0) (xs := [V.ref l, .ref m]) (fun i σ H' => ∃ v1 v2, σ = [some (.ref F0), v1, v2] ∧ H' F0 = some (.lst [.ref l, .ref m]) ∧ (i = 0 → H' l = some (.lst (as.map V.ref)) ∧ ∀ a ∈ as, ∃ xs, H' a = some (.lst xs) ∧ ScL xs ∧ xs.length ≤ 10) ∧
            (i ≤ 1 → H' m = some (.lst (bs.map V.ref)) ∧ ∀ a ∈ bs, ∃ xs, H' a = some (.lst xs) ∧ ScL xs ∧ xs.length ≤ 10) ∧ Ex (cut H (F0 :: l :: m :: (as ++ bs))) H')
          ⟨none, none, rfl, ep _ _ hF, fun _ => ⟨ep _ _ hl, fun a ha => by obtain ⟨xs, h1, h2⟩ := hA a ha; exact ⟨xs, ep _ _ h1, h2⟩⟩, fun _ => ⟨ep _ _ hm, fun a ha => by obtain ⟨xs, h1, h2⟩ := hB a ha; exact ⟨xs, ep _ _ h1, h2⟩⟩, cut_ex.trans ep⟩ (fun i σ H' _ q => ?_) (fun i x σ H' hx q => ?_) (fun σ H' q => ?_)⟩
        · obtain ⟨v1, v2, rfl, q, _⟩ := q
          exact SqL.of q
        · obtain ⟨v1, v2, rfl, qF, ql, qm, e⟩ := q
          match i, hx with
          | 0, hx =>
            cases hx
            obtain ⟨ql1, ql2⟩ := ql rfl
            obtain ⟨qm1, qm2⟩ := qm (by decide)
            have at_ : ∀ {b : Addr} {o : HO}, b ≠ l → b ∉ as → H' b = some o → cut H' (l :: as) b = some o := fun {b o} n1 n2 h => by
              rw [cut_out fun w => (List.mem_cons.mp w).elim n1 n2]
              exact h
            refine gn1 ?_
            refine ⟨_, rfl, l, as, cut H' (l :: as), rfl, ql1, za, cut_ex, cut_in List.mem_cons_self, fun a ha => ⟨fun w => la (w ▸ ha), cut_in (List.mem_cons_of_mem _ ha), ql2 a ha⟩, fun H2 e2 => ⟨_, _, rfl, e2 _ _ (at_ Fl Fa qF), fun z => absurd z (by decide), fun _ => ⟨e2 _ _ (at_ (Ne.symm lm) ma qm1), fun a ha => ?_⟩, (sub (S := l :: as) (fun b hb => ?_) e).trans e2⟩⟩
            · obtain ⟨xs, h1, h2⟩ := qm2 a ha
              exact ⟨xs, e2 _ _ (at_ (fun w => lb (w ▸ ha)) (fun w => ab a w ha) h1), h2⟩
            · rcases List.mem_cons.mp hb with rfl | hb
              · simp
              · simp [hb]
          | 1, hx =>
            cases hx
            obtain ⟨qm1, qm2⟩ := qm (by decide)
            refine gn1 ?_
            refine ⟨_, rfl, m, bs, cut H' (m :: bs), rfl, qm1, zb, cut_ex, cut_in List.mem_cons_self, fun a ha => ⟨fun w => mb (w ▸ ha), cut_in (List.mem_cons_of_mem _ ha), qm2 a ha⟩, fun H2 e2 => ⟨_, _, rfl, e2 _ _ ?_, fun z => absurd z (by decide), fun z => absurd z (by decide), (sub (S := m :: bs) (fun b hb => ?_) e).trans e2⟩⟩
            · rw [cut_out fun w => (List.mem_cons.mp w).elim Fm Fb]
              exact qF
            · rcases List.mem_cons.mp hb with rfl | hb
              · simp
              · simp [hb]
          | i + 2, hx => cases hx
        · obtain ⟨v1, v2, rfl, qF, _, _, e⟩ := q
          exact fin qF (by show 2 < sizeLine; decide) fun _ => kq _ (e.mut (cut_in List.mem_cons_self))
      | k + 4, h => exact h.elim
end
end Ts


set_option Elab.async false
set_option linter.all false
set_option maxRecDepth 100000
set_option maxHeartbeats 4000000
namespace Ts
open PySem PySem.Spec L2
open Evl (Ex)
section
variable {P : Program} {w : World} {K : PySem.W.Frag} {mg : Str → Option Value} {base : Heap}
abbrev s_wide := top 55
theorem sc_wide : FnScope ["stream", "way"] ["stream"] (defScope s_wide) := ⟨rfl, rfl, rfl, by decide +kernel, rfl, by decide +kernel, by decide +kernel⟩
theorem ok_wide {f f1 f3 : Addr} {fd fd1 fd3 : FuncData} (F : FD K mg "_law_b_wide" "_law_b_wide" s_wide f fd) (T : Bl mg) (F_draw : FD K mg "_law_draw" "_law_draw" s_draw f1 fd1)
    (F_arules : FD K mg "_law_a_rules" "_law_a_rules" s_arules f3 fd3) (G_arules : FnOk P w K mg base CX0 4 f3 fd3 ["stream", "way", "many", "far", "turns"] spArules) : FnOk P w K mg base CX0 5 f fd ["stream"] spAbook := by
  have G_draw : FnOk P w K mg base CX0 1 f1 fd1 ["stream", "many"] spDraw := ok_draw F_draw T
  have b_draw := b_draw F_draw
  have b_arules : Binds K fd3 ["stream", "way", "many", "far", "turns"] [] := F_arules.F.binds fun _ _ _ _ _ _ us hl => match us, hl with | [_, _, _, _, _], _ => rfl
  refine F.F.ok sc_wide (fun vs H Q E h => ?_) (fun cdv A outer s H vs Q E hr h => ?_)
  · obtain ⟨a, c, n, rfl, _⟩ := h
    rfl
  · obtain ⟨a, c, n, rfl, S, nz, k⟩ := h
    have nd := sc_wide.nd
    have big : (2 : Int) ^ 39 + 1100 < 2 ^ 40 := by decide
    refine ⟨_, (pss_cons (ps_set (i := 1) nd rfl (Or.inl rfl) (pe_call G_draw (hr.mono (by decide)) (by rfl) F_draw.g F_draw.F.kp b_draw .nil pass0 (pa_cons (pv 0) (pa_cons pe_int pa_nil))))
      (pss_one (ps_ret (pe_call G_arules (hr.mono (by decide)) (by rfl) F_arules.g F_arules.F.kp b_arules .nil pass0 (pa_cons (pv 0) (pa_cons (pv 1) (pa_cons (pe_ifExp (pt_cmpR op_eq (pv 1) pe_int (nomark _)) pe_int pe_int) (pa_cons pe_int (pa_cons pe_int pa_nil))))))))), ?_⟩
    refine seq1 (asg1 ⟨_, rfl, a, c, n, 3, rfl, S, by decide, by decide, by omega, fun H1 r e1 S1 r0 r1 => gn1 ?_⟩)
    dsimp only
    have fin : ∀ many : Int, 0 ≤ many → many ≤ 6 → spArules [.ref a, .int r, .int many, .int 6, .int 6] H1 Q E0 := fun many m0 m1 =>
      ⟨a, c, n + 1, r, many, 6, 6, rfl, S1, r0, by omega, m0, m1, by decide, by decide, by decide, by decide, by omega, fun H4 n4 L qs e4 S4 b1 b2 nL hL hz good => k H4 n4 L qs (e1.trans e4) S4 (by omega) (by omega) (off_back e1 S1 nL) hL hz good⟩
    refine ⟨_, rfl, _, rfl, _, rfl, rfl, _, rfl, ?_⟩
    by_cases c1 : r = 2
    · exact ite_tt (by rw [dec_z]; exact decide_eq_true c1) (fin 5 (by decide) (by decide))
    · exact ite_ff (by rw [dec_z]; exact decide_eq_false c1) (fin 6 (by decide) (by decide))
end
end Ts


set_option Elab.async false
set_option linter.all false
set_option maxRecDepth 100000
set_option maxHeartbeats 4000000
namespace Ts
open PySem PySem.Spec PyProof.Rows L2 LamX
open Evl (Ex)
/-! ## a lambda of one parameter, handed to a def between two other things, called there -/
/-- the names of such a lambda: its parameter, captured ones, globals -/
structure LamP (sc scope : Scope) (b : Str) : Prop where
  kind : scope.kind = .function
  co : scope.isCoroutine = false
  gen : scope.isGenerator = false
  par : scope.names.lookup b = some .local
  own : ∀ y ∈ scope.names, y.2 ≠ .cell ∧ (y.2 = .local → y.1 = b)
  free : ∀ y ∈ scope.names, y.2 = .free → sc.names.lookup y.1 = some .cell ∨ sc.names.lookup y.1 = some .free
def lamPB (sc scope : Scope) (b : Str) : Bool :=
  decide (scope.kind = .function) && (!scope.isCoroutine && (!scope.isGenerator && (decide (scope.names.lookup b = some .local) && (scope.names.all (fun y => !decide (y.2 = .cell) && (!decide (y.2 = .local) || decide (y.1 = b))) && scope.names.all fun y => !decide (y.2 = .free) || (decide (sc.names.lookup y.1 = some .cell) || decide (sc.names.lookup y.1 = some .free))))))
theorem lamP_by {sc scope : Scope} {b : Str} (h : lamPB sc scope b = true) : LamP sc scope b := by
  unfold lamPB at h
  obtain ⟨h1, h⟩ := Bool.and_eq_true_iff.mp h
  obtain ⟨h2, h⟩ := Bool.and_eq_true_iff.mp h
  obtain ⟨h3, h⟩ := Bool.and_eq_true_iff.mp h
  obtain ⟨h4, h⟩ := Bool.and_eq_true_iff.mp h
  obtain ⟨h5, h6⟩ := Bool.and_eq_true_iff.mp h
  refine ⟨of_decide_eq_true h1, by simpa using h2, by simpa using h3, of_decide_eq_true h4, fun y hy => ?_, fun y hy e => ?_⟩
  · have z := List.all_eq_true.mp h5 y hy
    simp only [Bool.and_eq_true, Bool.or_eq_true, Bool.not_eq_true', decide_eq_true_eq, decide_eq_false_iff_not] at z
    exact ⟨z.1, fun e => z.2.elim (fun n => absurd e n) id⟩
  · have z := List.all_eq_true.mp h6 y hy
    simp only [Bool.or_eq_true, Bool.not_eq_true', decide_eq_true_eq, decide_eq_false_iff_not] at z
    rcases z with n | z
    · exact absurd e n
    · exact z
theorem LamP.has {X : Cx} {scope : Scope} {b : Str} (L : LamP X.env.scope scope b) (ok : X.Ok) : ∀ y ∈ scope.names, y.2 = .free → ∃ c, X.env.cells.lookup y.1 = some c := fun y hy e =>
  ok.has _ ((L.free y hy e).elim .inl .inr)
/-- where the body of such a lambda runs; nothing is raised there -/
def lamCx1 (X : Cx) (A : Around) (outer : List Env) (s : Shared) (H : Hp) (scope : Scope) (b : Str) (f c' : Addr) : Cx where
  prog := X.prog
  w := X.w
  K := X.K
  mg := X.mg
  base := X.base
  env := lamEnv X scope s.heap.objs.size f c'
  A := A.deeper (lamEnv X scope s.heap.objs.size f c')
  N := X.N ++ [b]
  s_0 := s
  H_0 := H
  outer := outer
  stack := lamEnv X scope s.heap.objs.size f c' :: outer
  ex := []
  pn := []
  fn := fun _ => false
  calm := true
  xe := fun _ _ => False
section
variable {X : Cx} {pins : List (Addr × Obj)} {σ : L2.St} {H HZ : Hp} {s s1 : Shared}
theorem clo_back {cells : List (Str × Addr)} {scope : Scope} (hfree : ∀ y ∈ scope.names, y.2 = .free → ∃ c, cells.lookup y.1 = some c) {y : Str} {c : Addr} (e : (cloFrom cells scope.names []).lookup y = some c) : cells.lookup y = some c := by
  rcases cloFrom_mem (PySem.mem_of_lookup e) with hm | ⟨h1, h2⟩
  · cases hm
  · obtain ⟨d, hd⟩ := hfree _ h1 rfl
    have hd : cells.lookup y = some d := hd
    rw [hd] at h2 ⊢
    rw [h2]
    rfl
theorem lam_in {A : Around} {outer : List Env} {scope : Scope} {b : Str} {f c' : Addr} {h₁ : Heap} {tk : Nat} {u : Value} {v : V} (I : Inv X pins σ H s) (L : LamP X.env.scope scope b) (hbN : b ∉ X.N) (e0 : Env0 X.prog X.w X.K X.mg X.base A outer s1 HZ) (hd : A.handled = none)
    (un : Un (frs X.stack) [] H HZ s.heap s1.heap) (rv : RelV v u) (hns : h₁.Ns s1.heap.objs.size fun y => ([(b, u)] : List (Str × Value)).reverse.lookup y) (kp : ∀ a o, s1.heap.get? a = some o → h₁.get? a = some o) :
    Inv (lamCx1 X A outer s1 HZ scope b f c') [] (σ ++ [some v]) HZ { s1 with heap := h₁, toks := tk } := by
  have hfree := L.has I.ok
  have back : ∀ {y c}, (cloFrom X.env.cells scope.names []).lookup y = some c → X.env.cells.lookup y = some c := fun {y c} e => clo_back hfree e
  have held : ∀ {c : Addr} {w' : Option Value}, H c = none → s.heap.IsCell c w' → h₁.IsCell c w' := fun {c w'} n z => by
    obtain ⟨o, ho, hd'⟩ := z
    obtain ⟨sl, q⟩ := un.any ho n (by simp)
    exact ⟨_, kp _ _ q, hd'⟩
  have seen : ∀ {y}, scope.names.lookup y = some .free → ∃ c, (cloFrom X.env.cells scope.names []).lookup y = some c := fun {y} hl =>
    mem_lookup (cloFrom_has (cells := X.env.cells) (acc := []) (PySem.mem_of_lookup hl))
  have noc : ∀ {y}, scope.names.lookup y ≠ some .cell := fun {y} z => (L.own _ (PySem.mem_of_lookup z)).1 rfl
  constructor
  case ok =>
    constructor
    case mod => exact e0.mod
    case kind => exact L.kind
    case glob => rfl
    case blt => rfl
    case above => exact Nat.le_refl _
    case inj => exact fun y z c e1 e2 => I.ok.inj y z c (back e1) (back e2)
    case has =>
      intro y hy
      have hy : scope.names.lookup y = some .cell ∨ scope.names.lookup y = some .free := hy
      exact hy.elim (fun z => absurd z noc) seen
    case cab => exact fun y c z _ => absurd (show false = true from z) (by decide)
    case hd => exact fun _ => hd
    case frames => exact Around.frames_deeper e0.frames
    case stk => exact .inr ⟨rfl, rfl⟩
    case exf => exact fun a z => absurd (show a ∈ ([] : List Addr) from z) (by simp)
    case bs => exact e0.bs
    case bsz => exact e0.bsz
    case noex => exact fun a _ _ z => absurd (show a ∈ ([] : List Addr) from z) (by simp)
    case exfs => exact fun a z => absurd (show a ∈ ([] : List Addr) from z) (by simp)
    case funs => exact e0.funs
    case frf => exact e0.frf
  case os => rfl
  case bare => exact e0.bare
  case base => exact Un.kept kp
  case loc =>
    refine ⟨_, hns, fun i y w' e1 e2 e3 => ?_⟩
    have e1 : (X.N ++ [b])[i]? = some y := e1
    have e3 : Vis scope y := e3
    by_cases hi : i < X.N.length
    · rw [List.getElem?_append_left hi] at e1
      rw [List.getElem?_append_left (by rw [I.len]; exact hi)] at e2
      have yb : y ≠ b := fun z => hbN (z ▸ List.mem_of_getElem? e1)
      rcases e3 with k | k | k
      · exact absurd ((L.own _ (PySem.mem_of_lookup k)).2 rfl) yb
      · exact absurd k noc
      · obtain ⟨m, _, hl⟩ := I.loc
        have hv := L.free _ (PySem.mem_of_lookup k) rfl
        obtain ⟨t, r, q⟩ := hl i y w' e1 e2 (hv.elim (fun z => .inr (.inl z)) fun z => .inr (.inr z))
        obtain ⟨c2, h2⟩ := seen k
        refine ⟨t, r, .inr ⟨.inr k, c2, h2, ?_⟩⟩
        rcases q with ⟨k', _⟩ | ⟨_, c3, e', z⟩
        · have k' : X.env.scope.names.lookup y = some .local := k'
          have hv : X.env.scope.names.lookup y = some .cell ∨ X.env.scope.names.lookup y = some .free := hv
          rw [k'] at hv
          rcases hv with z | z <;> cases z
        · have e2' := back h2
          rw [e'] at e2'
          cases e2'
          exact held (I.freeC y _ e') z
    · have hi' : i = X.N.length := by
        have h := (List.getElem?_eq_some_iff.mp e1).1
        rw [List.length_append, List.length_singleton] at h
        omega
      subst hi'
      rw [List.getElem?_append_right (Nat.le_refl _), Nat.sub_self] at e1
      rw [← I.len, List.getElem?_append_right (Nat.le_refl _), Nat.sub_self] at e2
      cases e1
      cases e2
      exact ⟨u, rv, .inl ⟨L.par, by simp [List.lookup]⟩⟩
  case cell =>
    intro y c e
    obtain ⟨w', z⟩ := I.cell y c (back e)
    exact ⟨w', held (I.freeC y c (back e)) z⟩
  case free => exact e0.hok.fresh (Nat.le_refl _)
  case freeC =>
    intro y c e
    obtain ⟨w', o, ho, _⟩ := I.cell y c (back e)
    exact un.free c o ho (I.freeC y c (back e)) (by simp)
  case pin => exact fun q hq => absurd (show q ∈ ([] : List (Addr × Obj)) ++ [] from hq) (by simp)
  case hok => exact e0.hok.kept kp
  case len =>
    show (σ ++ [some v]).length = (X.N ++ [b]).length
    rw [List.length_append, List.length_append, I.len]
    rfl
/-- f(e) in the def that got the lambda -/
theorem pe_act1 {Ng : List Str} {qg : Str} {sg : Scope} {g f c' : Addr} {cdg pm ctv : Value} {params : Arguments} {body : Expr} {scope : Scope} {k i : Nat} {a b : Str} {tb : TE} {e : Expr} {te : TE} {p1 p2 : Pos}
    (I : Inv X pins σ H s) (L : LamP X.env.scope scope b) (hbN : b ∉ X.N) (hf : s.heap.get? f = some (PySem.W.kla_obj "<lambda>" (X.env.qual ++ "<lambda>") params body scope (cloFrom X.env.cells scope.names []) pm c' ctv)) (hfn : H f = none) (hfr : f ∉ frs X.stack)
    (hbind : ∀ u : Value, bindArgs (PySem.W.kla_fn "<lambda>" (X.env.qual ++ "<lambda>") params body scope (cloFrom X.env.cells scope.names []) pm (.ref c') ctv) ⟨[u], []⟩ = pure [(b, u)])
    (hr : Room (k + 1) (X.A.deeper (envOfC qg sg s.heap.objs.size g cdg)))
    (hbody : ∀ (A : Around) (outer : List Env) (s : Shared) (H : Hp), Room k (A.deeper (lamEnv X scope s.heap.objs.size f c')) → PE (lamCx1 X A outer s H scope b f c') body tb)
    (hN : Ng[i]? = some a) (hv : Vis sg a)
    (he : PE (cxOf C8.CX0 X.prog X.w X.K X.mg X.base Ng qg sg g cdg X.A X.stack s H C8.E0).nox e te)
    (hs : starEach [e] (envOfC qg sg s.heap.objs.size g cdg) = (false, eval e (envOfC qg sg s.heap.objs.size g cdg)) :: starEach [] (envOfC qg sg s.heap.objs.size g cdg) := by rfl)
    (hd : (a == ("__debug__" : Str)) = false := by decide) (hcd : (a == ("__classdict__" : Str)) = false := by decide) :
    PE (cxOf C8.CX0 X.prog X.w X.K X.mg X.base Ng qg sg g cdg X.A X.stack s H C8.E0).nox (.Call (.Name a p1) [e] [] p2)
      (fun σZ HZ Q => σZ[i]? = some (some (.ref f)) ∧ te σZ HZ fun v HZ1 => HZ1 c' = some (CodeO c' (X.env.qual ++ "<lambda>")) ∧ tb (σ ++ [some v]) HZ1 Q) := by
  refine ⟨fun pinsZ sZ σZ HZ Q IZ h => ?_⟩
  obtain ⟨hsl, ht⟩ := h
  refine wpAny_Call_Name_kw (thn ((pe_var (pos := p1) (i := i) hN hv hd hcd).run pinsZ sZ σZ HZ (fun v H1 => v = .ref f ∧ H1 = HZ) IZ ⟨.ref f, hsl, rfl, rfl⟩) fun u0 s1 hz => ?_)
  obtain ⟨v0, H1, I1, r1, rfl, rfl⟩ := hz
  obtain rfl : u0 = Value.ref f := r1
  have at_ : ∀ {σ' : L2.St} {H' : Hp} {s' : Shared} {pins' : List (Addr × Obj)}, Inv (cxOf C8.CX0 X.prog X.w X.K X.mg X.base Ng qg sg g cdg X.A X.stack s H C8.E0).nox pins' σ' H' s' → s'.heap.get? f = some (PySem.W.kla_obj "<lambda>" (X.env.qual ++ "<lambda>") params body scope (cloFrom X.env.cells scope.names []) pm c' ctv) :=
    fun {σ' H' s' pins'} J => J.base.keep f _ hf hfn hfr (fun z => nomatch (show f ∈ ([] : List Addr) from z))
  refine PySem.W.callWith_F ⟨_, _, _, _, at_ I1⟩ ?_ hs (by rfl)
  rw [show starEach [e] (cxOf C8.CX0 X.prog X.w X.K X.mg X.base Ng qg sg g cdg X.A X.stack s H C8.E0).nox.env = _ from hs]
  show wpAny _ _ (spliced ((false, eval e _) :: backTo p2 (starEach [] _))) _ _ s1
  refine Calls.spliced_cons (thn (he.run pinsZ s1 σZ _ _ I1 ht) fun u s2 hz => ?_)
  obtain ⟨v, H2, I2, rv, hc, hq⟩ := hz
  refine Calls.spliced_nil ⟨⟨_, _, _, _, at_ I2⟩, ?_⟩
  have un : Un (frs X.stack) [] H H2 s.heap s2.heap := I2.base
  have okc : ObjOk X.prog X.w H2 s2.heap c' (.ext fun h => ∃ (oc : Obj) (vs : Array Value) (t : Tok), h.get? c' = some oc ∧ oc.data = .fields vs ∧ vs[1]? = some (.str (X.env.qual ++ "<lambda>") t)) := I2.hok c' _ hc
  obtain ⟨⟨oc, vs, t, hoc, hdc, hvc⟩, _, _⟩ := okc
  have rc : codeAny (model X.prog X.w) (X.A.deeper (envOfC qg sg s.heap.objs.size g cdg)) (.call (.ref f) ⟨[u], []⟩) (CR C8.CX0 (envOfC qg sg s.heap.objs.size g cdg :: X.stack) X.prog X.w H2 s2 Q C8.E0) s2 := by
    refine PySem.W.kla_callFunE hr.depth (at_ I2) rfl L.co L.gen rfl ⟨c', oc, vs, t, rfl, hoc, hdc, hvc⟩ ?_
    rw [hbind u]
    refine wpAny_pure (wpAny_newFunctionEnv (fun y hy => (L.own y hy).1) (fun y hy => ?_) (fun h₁ hns hsb => ⟨I2.nolimit.fresh _ hsb, ?_⟩) L.kind)
    · rw [List.mem_singleton] at hy
      rw [hy]
      exact L.par
    · show codeAny _ _ (.expr body (lamEnv X scope s2.heap.objs.size f c')) _ _
      have kp : ∀ a o, s2.heap.get? a = some o → h₁.get? a = some o := fun a o z => hsb.extBut a o (Nat.ne_of_lt (Heap.lt_size z)) (Heap.get?_push_of_some _ z)
      have J : Inv (lamCx1 X (X.A.deeper (envOfC qg sg s.heap.objs.size g cdg)) (envOfC qg sg s.heap.objs.size g cdg :: X.stack) s2 H2 scope b f c') [] (σ ++ [some v]) H2 { s2 with heap := h₁, toks := s2.toks + ([(b, u)] : List (Str × Value)).length } :=
        lam_in I L hbN I2.env0 hr.hd un rv hns kp
      refine PySem.W.kla_codeExpr (wpAny_mono ((hbody _ _ s2 H2 (hr.deeper _)).run [] _ _ H2 Q J hq) (fun x s' hz => ?_) fun e s' hz => (show False from hz).elim)
      obtain ⟨w', H', J', rw', q⟩ := hz
      exact ⟨w', H', J'.os, J'.bare, J'.base, J'.hok, rw', q⟩
  refine wpAny_call (codeAny_mono rc fun r s' hz => ?_)
  cases r with
  | error e => exact (show False from hz).elim
  | ok fl => cases fl <;> first
    | exact I2.after hz
    | exact (show False from hz).elim
end
/-- what a def makes of a lambda among what it got: a calls it -/
def Gives3 (X : Cx) (Ng : List Str) (x : Str) (sg : Scope) (g : Addr) (cdg : Value) (bg : List Stmt) (a : Str) (i : Nat) (q : Str) (TT : V → V → (V → Hp → VK → Prop) → Hp → VK → Prop) : Prop :=
  ∀ (f c' : Addr) (s : Shared) (H : Hp) (v0 v2 : V) (Q : VK) (tl : V → Hp → VK → Prop),
    (∀ {e : Expr} {te : TE} {p1 p2 : Pos}, PE (cxOf C8.CX0 X.prog X.w X.K X.mg X.base Ng x sg g cdg X.A X.stack s H C8.E0).nox e te →
      starEach [e] (envOfC x sg s.heap.objs.size g cdg) = (false, eval e (envOfC x sg s.heap.objs.size g cdg)) :: starEach [] (envOfC x sg s.heap.objs.size g cdg) →
      PE (cxOf C8.CX0 X.prog X.w X.K X.mg X.base Ng x sg g cdg X.A X.stack s H C8.E0).nox (.Call (.Name a p1) [e] [] p2) (fun σZ HZ Q => σZ[i]? = some (some (.ref f)) ∧ te σZ HZ fun v HZ1 => HZ1 c' = some (CodeO c' q) ∧ tl v HZ1 Q)) →
    Room 6 (X.A.deeper (envOfC x sg s.heap.objs.size g cdg)) → H c' = some (CodeO c' q) → TT v0 v2 tl H Q →
    ∃ t, PSs (cxOf C8.CX0 X.prog X.w X.K X.mg X.base Ng x sg g cdg X.A X.stack s H C8.E0).nox bg t ∧ t { nx := fun _ H' => Q .non H', rt := Q } (L2.start Ng [v0, .ref f, v2]) H
def tLam3 (T : List (Addr × Str)) (q : Str) (TT : V → V → (V → Hp → VK → Prop) → Hp → VK → Prop) (t0 t2 tb : TE) : TE := fun σ H Q => t0 σ H fun v0 H1 => Tabs T H1 ∧ ∀ H2 c', ExtN H1 H2 → Tabs T H2 → H2 c' = some (CodeO c' q) →
  t2 σ H2 fun v2 H3 => H3 c' = some (CodeO c' q) ∧ TT v0 v2 (fun v H' Q' => tb (σ ++ [some v]) H' Q') H3 Q
section
variable {X : Cx}
/-- x(e0, lambda b: .., e2) -/
theorem pe_lam3 {T : List (Addr × Str)} {TT : V → V → (V → Hp → VK → Prop) → Hp → VK → Prop} {x a b a0 a2 : Str} {g c P : Addr} {k : Nat} {pg : Arguments} {bg : List Stmt} {sg : Scope} {dV kV doc pm cdv ct oc : Value} {an od : Option Addr} {osl : Array (Option Value)} {Ng : List Str}
    {params : Arguments} {body e0 e2 : Expr} {scope : Scope} {t0 t2 tb : TE} {p lpos pos : Pos} (hg : Gl X x) (hm : X.mg x = some (.ref g)) (hk : PySem.W.keepIn X.K (.ref g) = true)
    (lk : X.K.lookup g = some ⟨oc, od, .func (PySem.W.fnOf x x pg bg sg dV kV doc pm an cdv ct), osl⟩) (hcg : PySem.W.codeIn X.K cdv x = true) (hb : L2.Binds X.K (PySem.W.fnOf x x pg bg sg dV kV doc pm an cdv ct) [a0, a, a2] []) (Sg : FnScope Ng [a0, a, a2] sg) (hNg : Ng[1]? = some a) (hva : Vis sg a)
    (hG : Gives3 X Ng x sg g cdv bg a 1 (X.env.qual ++ "<lambda>") TT)
    (TB : TabB X.base X.mg c P) (hcode : X.env.code = .ref c) (hmT : (P, X.env.qual ++ "<lambda>") ∈ T) (hu : ∀ p ∈ T, p.1 = P → p.2 = X.env.qual ++ "<lambda>") (hr : Room (6 + 1) X.A) (L : LamP X.env.scope scope b) (hbN : b ∉ X.N) (hdef : defaultsOf params X.env = ([], []))
    (hbind : ∀ (q : Str) (cl : List (Str × Addr)) (pm cv ctv u : Value), bindArgs (PySem.W.kla_fn "<lambda>" q params body scope cl pm cv ctv) ⟨[u], []⟩ = pure [(b, u)])
    (h0 : PE X e0 t0) (h2 : PE X e2 t2)
    (hbody : ∀ (A : Around) (outer : List Env) (s : Shared) (H : Hp) (f c' : Addr), Room 5 (A.deeper (lamEnv X scope s.heap.objs.size f c')) → PE (lamCx1 X A outer s H scope b f c') body tb)
    (hs0 : starEach [e0, .Lambda params body scope lpos, e2] X.env = (false, eval e0 X.env) :: (false, eval (.Lambda params body scope lpos) X.env) :: (false, eval e2 X.env) :: starEach [] X.env := by rfl)
    (hs1 : starEach [e0, .Lambda params body scope lpos, e2] X.env = (false, eval e0 X.env) :: starEach [.Lambda params body scope lpos, e2] X.env := by rfl) (hpl : (backTo pos (starEach [.Lambda params body scope lpos, e2] X.env)).any (·.1) = false := by rfl)
    (hdb : (x == ("__debug__" : Str)) = false := by decide) (hd : (a == ("__debug__" : Str)) = false := by decide) (hcd : (a == ("__classdict__" : Str)) = false := by decide) :
    PE X (.Call (.Name x p) [e0, .Lambda params body scope lpos, e2] [] pos) (tLam3 T (X.env.qual ++ "<lambda>") TT t0 t2 tb) := by
  refine ⟨fun pins s σ H Q I h => ?_⟩
  refine wpAny_Call_Name_kw (ld_glob I hg hm ?_ hdb)
  refine PySem.W.callWith_K (h₀ := X.base) I.ok.mod.kin hk ?_ hs1 hpl
  rw [hs0]
  show wpAny _ _ (spliced ((false, eval e0 X.env) :: (false, eval (.Lambda params body scope lpos) X.env) :: (false, eval e2 X.env) :: backTo pos (starEach [] X.env))) _ _ s
  refine Calls.spliced_cons (thn (h0.run pins s σ H _ I h) fun u0 s1 hz => ?_)
  obtain ⟨v0, H1, I1, r0, hT, hq⟩ := hz
  refine Calls.spliced_cons (lam_make2 I1 TB hcode hmT hu hT hdef (L.has I.ok) fun f c' pm' ctv H2 s2 I2 eN T2 hf hfn hfr hco => ?_)
  have nloc : f ≠ X.env.locals := fun z => by
    obtain ⟨m, ⟨o, es, ep, d1, d2, _⟩, _⟩ := I2.loc
    rw [← z, hf] at d1
    cases d1
    cases d2
  have nfs : f ∉ X.fs := fun z => by
    rcases I.ok.stk with e | ⟨e, _⟩
    · exact hfr (by rw [e]; exact z)
    · obtain ⟨en, q1, q2⟩ := List.mem_filterMap.mp z
      exact hfr (List.mem_filterMap.mpr ⟨en, by rw [e]; exact .tail _ q1, q2⟩)
  have I2p := I2.pins_of (pins' := (f, PySem.W.kla_obj "<lambda>" (X.env.qual ++ "<lambda>") params body scope (cloFrom X.env.cells scope.names []) pm' c' ctv) :: pins) fun p hp => by
    rcases List.mem_cons.mp hp with rfl | hp
    · exact ⟨hf, hfn, nloc, nfs, fun v z => by cases z⟩
    · exact I2.pin p (List.mem_append_right _ hp)
  refine Calls.spliced_cons (thn (h2.run _ s2 σ H2 _ I2p (hq H2 c' eN T2 hco)) fun u2 s3 hz => ?_)
  obtain ⟨v2, H3, I3p, r2, hc3, tt⟩ := hz
  obtain ⟨hf3, hfn3, _⟩ := I3p.pin _ (List.mem_append_right _ List.mem_cons_self)
  have I3 := I3p.pins_of (pins' := pins) fun p hp => I3p.pin p (List.mem_append_right _ (.tail _ hp))
  refine Calls.spliced_nil ⟨I3.kIn, ?_⟩
  have rc : codeAny (model X.prog X.w) X.A (.call (.ref g) ⟨[u0, .ref f, u2], []⟩) (CR C8.CX0 X.stack X.prog X.w H3 s3 Q C8.E0) s3 := by
    refine run_ofS (N := Ng) (ps := [a0, a, a2]) (us := [u0, .ref f, u2]) (vs := [v0, .ref f, v2]) lk hcg Sg hr I3.env0 (hb s3 [u0, .ref f, u2] I3.kIn rfl) (.cons r0 (.cons rfl (.cons r2 .nil))) rfl fun hr' => ?_
    obtain ⟨t', ht', hq'⟩ := hG f c' s3 H3 v0 v2 Q (fun v H' Q' => tb (σ ++ [some v]) H' Q') (fun {e te p1 p2} he hs => pe_act1 (k := 5) (i := 1) I3 L hbN hf3 hfn3 hfr (hbind _ _ _ _ _) hr' (fun A outer s H hr2 => hbody A outer s H f c' hr2) hNg hva he hs hd hcd) hr' hc3 tt
    exact ⟨t', ht'.nox, hq'⟩
  refine wpAny_call (codeAny_mono rc fun r s' hz => ?_)
  cases r with
  | error e => exact (show False from hz).elim
  | ok fl => cases fl <;> first
    | exact I3.after hz
    | exact (show False from hz).elim
end
end Ts


set_option Elab.async false
set_option linter.all false
set_option maxRecDepth 100000
set_option maxHeartbeats 4000000
namespace Ts
open PySem PySem.Spec L2
open Evl (Ex)
/-! ## what is written down: a value with its data, in a region that grows by what is new -/
structure Rg (G G' H H' : Hp) : Prop where
  e : Ex G G'
  i : Ex G' H'
  f : ∀ b, G' b ≠ none → G b ≠ none ∨ H b = none
  h : Ex H H'
theorem Rg.refl {G H : Hp} (e : Ex G H) : Rg G G H H := ⟨Ex.refl _, e, fun _ h => .inl h, Ex.refl _⟩
theorem Rg.trans {G G1 G2 H H1 H2 : Hp} (a : Rg G G1 H H1) (b : Rg G1 G2 H1 H2) : Rg G G2 H H2 :=
  ⟨a.e.trans b.e, b.i, fun z h => by
    rcases b.f z h with h | h
    · exact a.f z h
    · exact .inr (Evl.fresh_back a.h h), a.h.trans b.h⟩
theorem Rg.new {G H : Hp} {z : Addr} {o : HO} (e : Ex G H) (nz : H z = none) : Rg G (upd G z o) H (upd H z o) := by
  have gz : G z = none := Evl.fresh_back e nz
  refine ⟨Ex.new gz, fun b u hb => ?_, fun b hb => ?_, Ex.new nz⟩
  · by_cases c : b = z
    · rw [c, upd_same] at hb ⊢
      exact hb
    · rw [upd_ne c] at hb ⊢
      exact e _ _ hb
  · by_cases c : b = z
    · exact .inr (c ▸ nz)
    · rw [upd_ne c] at hb
      exact .inl hb
/-- te tells the data d, whatever stands -/
def Gv (σ : L2.St) (R : Hp) (te : TE) (d : PyData) : Prop := ∀ (G H : Hp) (Q : VK), Ex R G → Ex G H → (∀ v G' H', Rg G G' H H' → D G' v d → Q v H') → te σ H Q
def GvA (σ : L2.St) (R : Hp) (ta : TA) (ds : List PyData) : Prop := ∀ (G H : Hp) (Q : List V → Hp → Prop), Ex R G → Ex G H → (∀ vs G' H', Rg G G' H H' → DAll G' vs ds → Q vs H') → ta σ H Q
section
variable {σ : L2.St} {R : Hp} {te ta tb : TE} {tr : TA} {d : PyData} {ds : List PyData}
theorem DAll.len2 {H : Hp} : ∀ {vs : List V} {ds : List PyData}, DAll H vs ds → vs.length = ds.length
  | _, _, .nil => rfl
  | _, _, .cons _ r => by rw [List.length_cons, List.length_cons, DAll.len2 r]
theorem GvA.use {H G : Hp} {Q : List V → Hp → Prop} (h : GvA σ R tr ds) (eR : Ex R G) (e : Ex G H) (k : ∀ vs G' H', Rg G G' H H' → DAll G' vs ds → Q vs H') : tr σ H Q := h G H Q eR e k
theorem GvA.nil : GvA σ R tNil [] := fun G H Q _ e k => k [] G H (Rg.refl e) .nil
theorem GvA.cons (h : Gv σ R te d) (r : GvA σ R tr ds) : GvA σ R (tCons te tr) (d :: ds) := fun G H Q eR e k =>
  h G H _ eR e fun v G1 H1 r1 hv => r G1 H1 _ (eR.trans r1.e) r1.i fun vs G2 H2 r2 hvs => k _ G2 H2 (r1.trans r2) (.cons (hv.ex r2.e) hvs)
theorem Gv.lst (h : GvA σ R tr ds) (hl : ds.length ≤ 100000 := by exact Nat.le_of_ble_eq_true rfl) : Gv σ R (tLst tr) (.list ds) := fun G H Q eR e k =>
  h G H _ eR e fun vs G1 H1 r1 hvs => ⟨by rw [hvs.len2]; exact Nat.le_trans hl (by decide), fun p np => k _ (upd G1 p (.lst vs)) _ (r1.trans (Rg.new r1.i np)) (.lst upd_same (hvs.ex (Ex.new (Evl.fresh_back r1.i np))))⟩
theorem Gv.tup (h : GvA σ R tr ds) (hl : ds.length ≤ 100000 := by exact Nat.le_of_ble_eq_true rfl) : Gv σ R (tTup tr) (.tuple ds) := fun G H Q eR e k =>
  h G H _ eR e fun vs G1 H1 r1 hvs => ⟨by rw [hvs.len2]; exact Nat.le_trans hl (by decide), fun p np => k _ (upd G1 p (.tup vs)) _ (r1.trans (Rg.new r1.i np)) (.tup upd_same (hvs.ex (Ex.new (Evl.fresh_back r1.i np))))⟩
theorem Gv.dic : Gv σ R tDNewK (.dict []) := fun G H Q eR e k => fun p np => k _ (upd G p (.dK [])) _ (Rg.new e np) (.dic upd_same .nil)
theorem Gv.int {i : Int} : Gv σ R (tC (.int i)) (.int i) := fun G H Q _ e k => k _ G H (Rg.refl e) (.int i)
theorem Gv.str {x : Str} : Gv σ R (tC (.str x)) (.str x) := fun G H Q _ e k => k _ G H (Rg.refl e) (.str x)
theorem Gv.bl {b : Bool} : Gv σ R (tC (.bl b)) (.bool b) := fun G H Q _ e k => k _ G H (Rg.refl e) (.bl b)
theorem Gv.non : Gv σ R (tC .non) .none := fun G H Q _ e k => k _ G H (Rg.refl e) .non
theorem Gv.var {i : Nat} {v : V} (h : σ[i]? = some (some v)) (hd : D R v d) : Gv σ R (tVar i) d := fun G H Q eR e k => ⟨v, h, k v G H (Rg.refl e) (hd.ex eR)⟩
theorem Gv.op0 {f : Int → Int → Int} {i j : Int} (h1 : Gv σ R ta (.int i)) (h2 : Gv σ R tb (.int j)) : Gv σ R (tOp (rI0 fun i j => .int (f i j)) ta tb) (.int (f i j)) := fun G H Q eR e k =>
  h1 G H _ eR e fun v G1 H1 r1 hv => h2 G1 H1 _ (eR.trans r1.e) r1.i fun u G2 H2 r2 hu => by
    cases hv
    cases hu
    exact ⟨i, j, rfl, rfl, k _ G2 H2 (r1.trans r2) (.int _)⟩
theorem Gv.op1 {C : Int → Int → Prop} {f : Int → Int → Int} {i j : Int} (hC : C i j) (h1 : Gv σ R ta (.int i)) (h2 : Gv σ R tb (.int j)) : Gv σ R (tOp (rI C fun i j => .int (f i j)) ta tb) (.int (f i j)) := fun G H Q eR e k =>
  h1 G H _ eR e fun v G1 H1 r1 hv => h2 G1 H1 _ (eR.trans r1.e) r1.i fun u G2 H2 r2 hu => by
    cases hv
    cases hu
    exact ⟨i, j, rfl, rfl, hC, k _ G2 H2 (r1.trans r2) (.int _)⟩
theorem Gv.neg {i : Int} (h1 : Gv σ R ta (.int i)) : Gv σ R (tUn (rU fun i => .int (-i)) ta) (.int (-i)) := fun G H Q eR e k =>
  h1 G H _ eR e fun v G1 H1 r1 hv => by
    cases hv
    exact ⟨i, rfl, k _ G1 H1 r1 (.int _)⟩
end
end Ts


set_option Elab.async false
set_option linter.all false
set_option maxRecDepth 100000
set_option maxHeartbeats 4000000
/-! ## sorted, of a list of lists of ints -/
namespace Ts
open PySem PySem.Spec L2 PyProof.Rows
open PySem.W (dataLe)
open Evl (Ex)
theorem reads_ints {h : Heap} : ∀ {ns : List Int} {vs : List Value}, Vals (ns.map V.int) vs → ReadsAll h vs (ns.map PyData.int) []
  | [], _, r => by
    cases r
    exact .nil
  | n :: t, _, r => by
    rw [List.map_cons] at r
    cases r with
    | cons r rr =>
      obtain ⟨u, rfl⟩ := r
      exact .cons (as := []) (bs := []) (.int _ _) (reads_ints rr)
theorem refs_each {h : Heap} : ∀ {bs : List (Addr × List Int)} {vs : List Value}, Vals (bs.map fun q => V.ref q.1) vs → (∀ q ∈ bs, ∃ as, Reads h (.ref q.1) (.list (q.2.map .int)) as) →
    PySem.W.EachIs (fun (v : Value) (p : Addr × List Int) => v = .ref p.1) vs bs ∧ PySem.W.EachIs (fun v (b : Addr × List Int) => ∃ as, Reads h v (.list (b.2.map .int)) as) vs bs
  | [], _, r, _ => by
    cases r
    exact ⟨.nil, .nil⟩
  | q :: t, _, r, k => by
    rw [List.map_cons] at r
    cases r with
    | cons r rr =>
      obtain ⟨h1, h2⟩ := refs_each rr fun x hx => k x (List.mem_cons_of_mem _ hx)
      have e := r
      cases e
      exact ⟨.cons rfl h1, .cons (k q List.mem_cons_self) h2⟩
theorem each_refs : ∀ {vs : List Value} {bs : List (Addr × List Int)}, PySem.W.EachIs (fun (v : Value) (p : Addr × List Int) => v = .ref p.1) vs bs → Vals (bs.map fun q => V.ref q.1) vs
  | _, _, .nil => .nil
  | _, _, .cons r rr => by
    subst r
    exact .cons rfl (each_refs rr)
section
variable {X : Cx}
/-- sorted(xs), xs a list of lists of ints: a new list of the very lists, in some order -/
def rSortLs : List V → Hp → VK → Prop := fun vs H Q => ∃ (l : Addr) (bs : List (Addr × List Int)), vs = [.ref l] ∧ H l = some (.lst (bs.map fun q => V.ref q.1)) ∧ (∀ q ∈ bs, H q.1 = some (.lst (q.2.map V.int))) ∧
  ∀ (bs' : List (Addr × List Int)) (p : Addr), bs'.Perm bs → H p = none → Q (.ref p) (upd H p (.lst (bs'.map fun q => V.ref q.1)))
theorem cr_sortedLs (hr : Room 1 X.A) : CallR X (.builtin "sorted") rSortLs := by
  intro pins s σ H xs us Q I r h
  obtain ⟨l, bs, rfl, hl, hb, q⟩ := h
  obtain ⟨its, rv, hL, hz⟩ := I.list (show SqL X.K H l _ from .inl (.inl hl))
  rw [Vals.ref1 r]
  have hlen := rv.length
  rw [List.length_map] at hlen hz
  obtain ⟨e1, e2⟩ := refs_each (h := s.heap) rv fun p hp => by
    obtain ⟨jts, jv, jL, _⟩ := I.list (show SqL X.K H p.1 _ from .inl (.inl (hb p hp)))
    obtain ⟨o, ho, hc, _, hd⟩ := jL.isList
    exact ⟨_, .list ho hc hd (by simpa using reads_ints jv)⟩
  refine PySem.W.sorted_data (enc := fun p : Addr × List Int => PyData.list (p.2.map .int)) hL.isList e1 e2 (PySem.W.AllAlike.of fun b b' => PySem.W.alike_ints _ _) (PySem.W.Sortable.others fun b => ⟨nofun, nofun⟩) (by omega) (fun b hbm => ?_) fun out ho eo => ?_
  · have z := depth_ints b.2
    have := hr.un
    show _ + 2 + (PyData.depthAll (b.2.map .int) + 1) < cLine
    omega
  · obtain ⟨ep, he'⟩ := PyProof.Rows.sortedAll_at s.heap its out.toArray
    have hp : (bs.mergeSort (dataLe false fun p : Addr × List Int => PyData.list (p.2.map .int))).Perm bs := List.mergeSort_perm _ _
    refine ⟨.ref _, upd H (s.heap.objs.size + 1) (.lst (_ : List V)), I.laid (t' := s.toks) (fun _ _ => PyProof.Rows.sortedAll_old) (Nat.le_succ _) ⟨?_, out, ep, each_refs eo, by simpa using he'⟩, rfl, q _ _ hp (I.hok.fresh (Nat.le_succ _))⟩
    rw [List.length_map, hp.length_eq]
    exact hz
end
end Ts


set_option Elab.async false
set_option linter.all false
set_option maxRecDepth 100000
set_option maxHeartbeats 4000000
namespace Ts
open PySem PySem.Spec L2
open Evl (Ex)
theorem zero_xor (x : Int) : Builtin.bitXor 0 x = x := by
  rw [PyProof.Rows.bitXor_and, PyProof.Rows.bitAnd_comm, PyProof.Rows.bitAnd_zero]
  omega
/-- the value of an option -/
abbrev optv (ts : List Int) (ns : List Int) : Int := (ns.map fun x => ts.getD x.toNat 0).foldl Builtin.bitXor 0
theorem aopt_len {rs : List Rl} {n : Int} {ns : List Int} (h : AOpt rs n ns) : ns.length ≤ 2 := by
  rcases h with ⟨rfl, _⟩ | ⟨x, rfl, _⟩ | ⟨t, a, rfl, _⟩
  · exact Nat.zero_le _
  · exact Nat.le_succ _
  · exact Nat.le_refl _
theorem aopt_bd {rs : List Rl} (lo : ∀ r ∈ rs, r.Ok) {n : Int} {ns : List Int} (h : AOpt rs n ns) : ∀ x ∈ ns, 1 ≤ x ∧ x < n := by
  rcases h with ⟨rfl, _⟩ | ⟨x, rfl, r, hr, h4, ⟨_, h5, _⟩, h6⟩ | ⟨t, a, rfl, ⟨r, hr, h4, ⟨_, h5, _⟩, h6⟩, a1, a2⟩
  · exact fun x hx => absurd hx (by simp)
  · intro y hy
    obtain rfl := List.mem_singleton.mp hy
    have z0 := (lo r hr).low0
    have z1 : r.low ≠ 0 := fun z => by
      have z2 := (lo r hr).low1 z
      rw [h4] at z2
      exact absurd z2 (by decide)
    omega
  · intro y hy
    have z0 := (lo r hr).low0
    rcases List.mem_cons.mp hy with rfl | hy
    · omega
    · obtain rfl := List.mem_singleton.mp hy
      omega
theorem aopt_val {rs : List Rl} {ts : List Int} {n u : Int} : (∃ ns, AOpt rs n ns ∧ optv ts ns = u) ↔ OptVal rs ts n u := by
  constructor
  · rintro ⟨ns, h, rfl⟩
    rcases h with ⟨rfl, h⟩ | ⟨x, rfl, h⟩ | ⟨t, a, rfl, h, a1, a2⟩
    · exact .inr (.inl ⟨h, rfl⟩)
    · exact .inl ⟨x, h, zero_xor _⟩
    · refine .inr (.inr ⟨t, h, a, a1, a2, ?_⟩)
      show Builtin.bitXor (Builtin.bitXor 0 _) _ = _
      rw [zero_xor]
  · rintro (⟨x, h, rfl⟩ | ⟨h, rfl⟩ | ⟨t, h, a, a1, a2, rfl⟩)
    · exact ⟨[x], .inr (.inl ⟨x, rfl, h⟩), zero_xor _⟩
    · exact ⟨[], .inl ⟨rfl, h⟩, rfl⟩
    · refine ⟨[a, t - a], .inr (.inr ⟨t, a, rfl, h, a1, a2⟩), ?_⟩
      show Builtin.bitXor (Builtin.bitXor 0 _) _ = _
      rw [zero_xor]
theorem pigeon : ∀ (m : Nat) (hs : List Int), (∀ j : Nat, j < m → (j : Int) ∈ hs) → m ≤ hs.length
  | 0, _, _ => Nat.zero_le _
  | m + 1, hs, h => by
    have hm := h m (Nat.lt_succ_self m)
    have z := pigeon m (hs.erase (m : Int)) fun j hj => (List.mem_erase_of_ne (by omega)).mpr (h j (by omega))
    rw [List.length_erase_of_mem hm] at z
    have := List.length_pos_of_mem hm
    omega
theorem mex_le {hs : List Int} {m : Int} (h : IsMex (· ∈ hs) m) : m ≤ hs.length := by
  have z := pigeon m.toNat hs fun j hj => h.all j (by omega) (by have := h.pos; omega)
  have := h.pos
  omega
section
variable {P : Program} {w : World} {K : PySem.W.Frag} {mg : Str → Option Value} {base : Heap}
abbrev s_avals := top 47
theorem sc_avals : FnScope ["raw", "most", "found", "heap", "some", "option", "one"] ["raw", "most"] (defScope s_avals) := ⟨rfl, rfl, rfl, by decide +kernel, rfl, by decide +kernel, by decide +kernel⟩
def spAvals : Sp := fun vs H Q _ => ∃ (b : Addr) (qs : List (Addr × Rl)) (n : Int), vs = [.ref b, .int n] ∧ RsAt H b qs ∧ qs.length ≤ 100 ∧ (∀ q ∈ qs, q.2.Ok) ∧ (∀ q ∈ qs, q.2.low ≤ 1000) ∧ 0 ≤ n ∧ n ≤ 1000 ∧
  ∀ (l : Addr) H' (ts : List Int), Ex H H' → H l = none → H' l = some (.lst (ts.map V.int)) → (ts.length : Int) = n + 1 → Right (qs.map (·.2)) ts → (∀ t ∈ ts, 0 ≤ t ∧ t ≤ 600000) → Q (.ref l) H'
theorem ok_avals {f f1 f2 f3 : Addr} {fd fd1 fd2 fd3 : FuncData} (F : FD K mg "_law_a_values" "_law_a_values" s_avals f fd) (T : Bl mg)
    (F_aopts : FD K mg "_law_a_options" "_law_a_options" s_aopts f1 fd1) (G_aopts : FnOk P w K mg base CX0 2 f1 fd1 ["raw", "heap"] spAopts)
    (F_tog : FD K mg "_law_a_together" "_law_a_together" s_together f2 fd2) (G_tog : FnOk P w K mg base CX0 1 f2 fd2 ["numbers"] spTogether)
    (F_least : FD K mg "_law_a_least" "_law_a_least" s_aleast f3 fd3) (G_least : FnOk P w K mg base CX0 1 f3 fd3 ["numbers"] spAleast) : FnOk P w K mg base CX0 3 f fd ["raw", "most"] spAvals := by
  have b_aopts : Binds K fd1 ["raw", "heap"] [] := F_aopts.F.binds fun _ _ _ _ _ _ us hl => match us, hl with | [_, _], _ => rfl
  have b_tog : Binds K fd2 ["numbers"] [] := F_tog.F.binds fun _ _ _ _ _ _ us hl => match us, hl with | [_], _ => rfl
  have b_least : Binds K fd3 ["numbers"] [] := F_least.F.binds fun _ _ _ _ _ _ us hl => match us, hl with | [_], _ => rfl
  refine F.F.ok sc_avals (fun vs H Q E h => ?_) (fun cdv A outer s H vs Q E hr h => ?_)
  · obtain ⟨b, qs, n, rfl, _⟩ := h
    rfl
  · obtain ⟨b, qs, n, rfl, hb, qz, ok, lw, n0, n1, k⟩ := h
    have nd := sc_avals.nd
    refine ⟨_, (pss_cons (ps_set (i := 2) nd rfl (Or.inr rfl) (pe_lst (pa_cons pe_int pa_nil)))
      (pss_cons (ps_for PassesOwn.never rfl (pi_range2 (by rfl) T.range (pa_cons pe_int (pa_cons (pe_op op_add (pv 1) pe_int) pa_nil))) (pg_name (i := 3) nd rfl (Or.inl rfl)) (pss_cons (ps_setLc (i := 4) (own := [("option", 5)]) (g := gName 5) (tt := tYes) rfl nd rfl rfl (sw_true rfl rfl rfl (by decide +kernel)) (pi_list (pe_call G_aopts (hr.mono (by decide)) (by rfl) F_aopts.g F_aopts.F.kp b_aopts .nil pass0 (pa_cons (pv 0) (pa_cons (pv 3) pa_nil)))) (blkOk_by (N := ["raw", "most", "found", "heap", "some", "option", "one"]) (sc := defScope s_avals) (by decide +kernel)) (fun _ _ _ _ _ => pg_name (i := 5) nd rfl (Or.inl rfl)) (fun _ _ _ _ _ => pts_nil) (fun _ _ _ _ _ => (pe_call G_tog (hr.mono (by decide)) (by rfl) F_tog.g F_tog.F.kp b_tog .nil pass0 (pa_cons (pe_lc (wi := iList K (tVar 5)) (own := [("one", 6)]) (g := gName 6) (tt := tYes) rfl nd (pi_list (pv 5)) (blkOk_by (N := ["raw", "most", "found", "heap", "some", "option", "one"]) (by rfl)) (fun _ _ _ _ _ => pg_name (i := 6) nd rfl (Or.inl rfl)) (fun _ _ _ _ _ => pts_nil) (fun _ _ _ _ _ => (pe_ix (r := rIx K) ix_seq (pv 2) (pv 6) (fun _ _ => rfl)))) pa_nil))))
      (pss_one (ps_expr (pe_bm PySem.F.plainAttrs_list PySem.F.slot_list_append PySem.F.type_list_append mt_append (pv 2) (pa_cons (pe_call G_least (hr.mono (by decide)) (by rfl) F_least.g F_least.F.kp b_least .nil pass0 (pa_cons (pv 4) pa_nil)) pa_nil))))))
      (pss_one (ps_ret (pv 2))))), ?_⟩
    refine ⟨by show 1 ≤ sizeLine; decide, fun F0 hF0 => ?_⟩
    refine gn1 ?_
    dsimp only
    have lo : ∀ r ∈ qs.map (·.2), r.Ok := fun r hr => by
      obtain ⟨q, hq, rfl⟩ := List.mem_map.mp hr
      exact ok q hq
    refine ⟨_, rfl, _, _, rfl, rfl, _, _, rfl, ⟨by decide, by decide, by omega, by omega⟩, for_range (lo := 1) (n := (n + 1 - 1).toNat) (fun i σ H' => ∃ (ts : List Int) (v3 v4 : Option V), σ = [some (.ref b), some (.int n), some (.ref F0), v3, v4, none, none] ∧ Ex H H' ∧ H' F0 = some (.lst (ts.map V.int)) ∧ ts.length = i + 1 ∧ Right (qs.map (·.2)) ts ∧ ∀ t ∈ ts, 0 ≤ t ∧ t ≤ 600000)
      ⟨[0], none, none, rfl, Ex.new hF0, upd_same, rfl, Right.one _, fun t ht => by rw [List.mem_singleton.mp ht]; decide⟩ (fun i σ H' hi q => ?_) (fun σ H' q => ?_)⟩
    · obtain ⟨ts, v3, v4, rfl, e, hF, hl, rt, tb⟩ := q
      refine gn1 ?_
      refine seq1 (asg1 ?_)
      refine ⟨_, rfl, _, rfl, b, qs, 1 + (i : Int), rfl, ⟨e _ _ hb.1, fun q hq => e _ _ (hb.2 q hq)⟩, qz, ok, lw, by omega, by omega, fun l H1 bs _ nw lb ho => ⟨l, rfl, ⟨_, SqL.of nw.at_⟩, ?_⟩⟩
      have mm : ∀ ns, (∃ q ∈ bs, q.2 = ns) ↔ AOpt (qs.map (·.2)) (1 + (i : Int)) ns := fun ns => by
        rw [← ho.mem ns, List.mem_map]
      have hF1 := nw.ex _ _ hF
      refine lc_pureD (g := gName 5) (walk_list (xs := bs.vs)) (out := fun j => V.int (optv ts ((bs.map (·.2)).getD j []))) (by rw [List.length_map]; exact Nat.le_trans lb (by decide)) (fun H' e => SqL.of (e _ _ nw.at_)) (fun j x H2 H3 hj e2 y => ?_) (fun _ _ _ _ h => h _ _) (fun D H2 nD e2 hD => ?_)
      · obtain ⟨rfl, hx⟩ := y
        rw [List.length_map] at hj
        rw [List.getElem?_map, List.getElem?_eq_getElem hj] at hx
        cases hx
        have mq : bs[j] ∈ bs := List.getElem_mem hj
        have eo : (bs.map (·.2)).getD j [] = bs[j].2 := by
          rw [List.getD_eq_getElem?_getD, List.getElem?_map, List.getElem?_eq_getElem hj]
          rfl
        rw [eo]
        have hq := e2 _ _ (nw.el _ mq).2.2
        have bd := aopt_bd lo ((mm _).mp ⟨_, mq, rfl⟩)
        have bl := aopt_len ((mm _).mp ⟨_, mq, rfl⟩)
        generalize bs[j] = o at hq bd bl
        refine ⟨Ex.refl _, rfl, Ex.refl _, fun q kq => ?_⟩
        refine ⟨_, rfl, o.1, rfl, ⟨_, SqL.of hq⟩, ?_⟩
        refine lc_pureD (g := gName 6) (walk_list (xs := o.2.map V.int)) (out := fun j => V.int (ts.getD (o.2.getD j 0).toNat 0)) (by rw [List.length_map]; exact Nat.le_trans bl (by decide)) (fun H' e => SqL.of (e _ _ hq)) (fun j x H4 H5 hj e4 y => ?_) (fun _ _ _ _ h => h _ _) (fun D H4 nD e4 hD => ?_)
        · obtain ⟨rfl, hx⟩ := y
          rw [List.length_map] at hj
          rw [List.getElem?_map, List.getElem?_eq_getElem hj] at hx
          cases hx
          have ei : o.2.getD j 0 = o.2[j] := by rw [List.getD_eq_getElem?_getD, List.getElem?_eq_getElem hj]; rfl
          have bj := bd _ (List.getElem_mem hj)
          rw [ei]
          exact ⟨Ex.refl _, rfl, Ex.refl _, fun q kq => ⟨_, rfl, _, rfl, ix_row (.inl (e4 _ _ (e2 _ _ hF1))) (at_told (by omega) (by omega)) (kq _ (Ex.refl _))⟩⟩
        · rw [List.length_map] at hD
          refine ⟨D, o.2.map fun x => ts.getD x.toNat 0, rfl, ?_, kq _ e4⟩
          rw [hD]
          rw [List.map_map]
          exact congrArg (fun z => some (HO.lst z)) (range_getD o.2 0 fun x => V.int (ts.getD x.toNat 0))
      · rw [List.length_map] at hD
        have hD : H2 D = some (.lst ((bs.map fun o => optv ts o.2).map V.int)) := by
          rw [hD]
          have z := range_getD (bs.map (·.2)) [] fun x => V.int (optv ts x)
          rw [List.length_map] at z
          rw [z, List.map_map, List.map_map]
          rfl
        refine gn1 ?_
        refine ⟨_, rfl, .inl ⟨rfl, _, SqL.of (e2 _ _ hF1)⟩, _, rfl, D, _, rfl, hD, by rw [List.length_map]; exact Nat.le_trans lb (by decide), fun H3 m e3 hm => ?_⟩
        have e13 := e2.trans e3
        have tl : (ts.length : Int) = 1 + (i : Int) := by omega
        have mx : IsMex (OptVal (qs.map (·.2)) ts (ts.length : Nat)) m := by
          refine ⟨hm.pos, fun z => hm.no ?_, fun j j0 j1 => ?_⟩
          · rw [tl] at z
            obtain ⟨ns, h1, h2⟩ := aopt_val.mpr z
            obtain ⟨q, hq, rfl⟩ := (mm ns).mpr h1
            exact List.mem_map.mpr ⟨q, hq, h2⟩
          · obtain ⟨q, hq, h2⟩ := List.mem_map.mp (hm.all j j0 j1)
            rw [tl]
            exact aopt_val.mp ⟨q.2, (mm _).mp ⟨q, hq, rfl⟩, h2⟩
        refine ⟨F0, _, _, rfl, rfl, e13 _ _ hF1, ?_, ts ++ [m], _, _, rfl, ((e.trans nw.ex).trans e13).mut hF0, by rw [upd_same, List.map_append]; rfl, by rw [List.length_append, hl]; rfl, rt.add mx, fun t ht => ?_⟩
        · rw [List.length_map, hl]
          exact Nat.lt_of_le_of_lt (show i + 1 ≤ 2000 by omega) (by decide)
        · rcases List.mem_append.mp ht with ht | ht
          · exact tb t ht
          · rw [List.mem_singleton.mp ht]
            have z := mex_le hm
            rw [List.length_map] at z
            exact ⟨hm.pos, by omega⟩
    · obtain ⟨ts, v3, v4, rfl, e, hF, hl, rt, tb⟩ := q
      exact ⟨_, rfl, k F0 H' ts e hF0 hF (by omega) rt tb⟩
end
end Ts


set_option Elab.async false
set_option linter.all false
set_option maxRecDepth 100000
set_option maxHeartbeats 4000000
namespace Ts
open PySem PySem.Spec L2
open Evl (Ex)
abbrev s_numf := top 9
abbrev s_is_numbers := top 10

def numAt : List PyData → Nat → Option Nat
  | [], _ => none
  | d :: ds, i => if isNum d = true then numAt ds (i + 1) else some i
theorem numAt_none : ∀ (l : List PyData) (i : Nat), (numAt l i).isNone = l.all isNum
  | [], _ => rfl
  | d :: ds, i => by
    unfold numAt
    rw [List.all_cons]
    cases h : isNum d with
    | true => rw [if_pos rfl, Bool.true_and]; exact numAt_none ds (i + 1)
    | false => rw [if_neg (by decide), Bool.false_and]; rfl
def numF (d : PyData) : V := if isRow d = true then (match numAt (items d) 0 with
  | some i => .int (i : Nat)
  | none => .non) else .int 0
theorem numF_non (d : PyData) : decide (numF d = .non) = isNums d := by
  unfold numF isNums
  cases h : isRow d with
  | false => rfl
  | true =>
    rw [if_pos rfl, Bool.true_and, ← numAt_none _ 0]
    cases numAt (items d) 0 <;> rfl
section
variable {P : Program} {w : World} {K : PySem.W.Frag} {mg : Str → Option Value} {base : Heap}
theorem sc_is_numbers : FnScope ["thing"] ["thing"] (defScope s_is_numbers) := ⟨rfl, rfl, rfl, by decide +kernel, rfl, by decide +kernel, by decide +kernel⟩
theorem sc_numf : FnScope ["thing", "index", "part"] ["thing"] (defScope s_numf) := ⟨rfl, rfl, rfl, by decide +kernel, rfl, by decide +kernel, by decide +kernel⟩
def spNumF : Sp := fun vs H Q _ => ∃ v d, vs = [v] ∧ D H v d ∧ ∀ H', Ex H H' → Q (numF d) H'
theorem ok_numf {f f1 f2 f3 : Addr} {fd fd1 fd2 fd3 : FuncData} (F : FD K mg "numbers_fault" "numbers_fault" s_numf f fd) (F1 : FD K mg "is_row" "is_row" s_is_row f1 fd1) (F2 : FD K mg "is_number" "is_number" s_is_number f2 fd2)
    (F3 : FD K mg "is_integer" "is_integer" s_is_integer f3 fd3) (T : Bl mg) (henum : mg "enumerate" = none) : FnOk P w K mg base CX0 3 f fd ["thing"] spNumF := by
  have G1 : FnOk P w K mg base CX0 1 f1 fd1 ["thing"] (spAsk isRow) := ok_is_row F1 T
  have G2 : FnOk P w K mg base CX0 2 f2 fd2 ["thing"] (spAsk isNum) := ok_is_number F2 F3 T
  refine F.F.ok sc_numf (fun vs H Q E h => ?_) (fun cdv A outer s H vs Q E hr h => ?_)
  · obtain ⟨v, d, rfl, _⟩ := h
    rfl
  · obtain ⟨v, d, rfl, hd, k⟩ := h
    have nd := sc_numf.nd
    refine ⟨_, pss_cons (ps_if (pt_not (pt_val (pe_call G1 (hr.mono (by decide)) (by rfl) F1.g F1.F.kp (b_is_row F1) .nil pass0 (pa_cons (pv 0) pa_nil)))) (pss_one (ps_ret pe_int)) pss_nil)
      (pss_cons (ps_for PassesOwn.never rfl (pi_or (pi_enum (by rfl) henum (pa_cons (pv 0) pa_nil)) (pi_enumT (by rfl) henum (pa_cons (pv 0) pa_nil))) (pg_tup rfl (pgs_cons (pg_name (i := 1) nd rfl (Or.inl rfl)) (pgs_cons (pg_name (i := 2) nd rfl (Or.inl rfl)) pgs_nil)))
        (pss_one (ps_if (pt_not (pt_val (pe_call G2 (hr.mono (by decide)) (by rfl) F2.g F2.F.kp (b_is_number F2) .nil pass0 (pa_cons (pv 2) pa_nil)))) (pss_one (ps_ret (pv 1))) pss_nil)))
      (pss_one (ps_ret pe_non))), ?_⟩
    refine ⟨_, rfl, v, d, rfl, hd, fun H1 e1 => ⟨_, rfl, ?_⟩⟩
    by_cases hrw : isRow d = true
    · obtain ⟨a, xs, rfl, hrow, hall⟩ := hd.row hrw
      rw [hrw]
      refine iteF ?_
      have hlen := hall.len
      have hv : ∀ H', Ex H H' → Q (match numAt (items d) 0 with
          | some i => .int (i : Nat)
          | none => .non) H' := fun H' e => by
        have z := k H' e
        unfold numF at z
        rw [if_pos hrw] at z
        exact z
      have ha2 : ∀ H1 H', Ex H H1 → Ex H H' → ∀ o, H1 a = some o → H' a = some o := fun H1 H' e1 e o ho => by
        rcases hrow with h | h
        · rw [e1 _ _ h] at ho
          rw [← ho]
          exact e _ _ h
        · rw [e1 _ _ h] at ho
          rw [← ho]
          exact e _ _ h
      refine for_enum_row (K := K) (i := 0) (a := a) (xs := xs) rfl (hrow.ex e1) (fun j σ H' => ∃ (v4 v5 : Option V), σ = [some (.ref a), v4, v5] ∧ Ex H H' ∧ numAt (items d) 0 = numAt ((items d).drop j) j)
        ⟨none, none, rfl, e1, rfl⟩ (fun j σ' H' q' o ho => ?_) (fun j x σ' H' Tq hx q' nT => ?_) (fun σ' H' q' => ?_)
      · obtain ⟨v4, v5, _, e, _⟩ := q'
        exact ha2 _ H' e1 e o ho
      · obtain ⟨v4, v5, rfl, e, hf⟩ := q'
        obtain ⟨dx, hdx, Dx⟩ := hall.get hx
        have eT := Ex.new (o := .tup [.int (j : Nat), x]) nT
        have hT : upd H' Tq (.tup [.int (j : Nat), x]) Tq = some (.tup [.int (j : Nat), x]) := upd_same
        generalize upd H' Tq (.tup [.int (j : Nat), x]) = H3 at eT hT
        have hj : (items d).drop j = dx :: (items d).drop (j + 1) := by
          have q := (List.getElem?_eq_some_iff.mp hdx)
          obtain ⟨q1, q2⟩ := q
          rw [List.drop_eq_getElem_cons q1, q2]
        rw [hj] at hf
        have e3 := e.trans eT
        refine ⟨Tq, _, rfl, SqT.of hT, rfl, _, _, rfl, _, _, rfl, rfl, ?_⟩
        refine ⟨_, rfl, x, dx, rfl, Dx.ex e3, fun H4 e4 => ⟨_, rfl, ?_⟩⟩
        have e34 := e3.trans e4
        cases cr : isNum dx with
        | false =>
          refine iteT ?_
          have hf2 : numAt (items d) 0 = some j := by
            rw [hf]
            show (if isNum dx = true then numAt ((items d).drop (j + 1)) (j + 1) else some j) = _
            rw [cr, if_neg Bool.false_ne_true]
          have q := hv H4 e34
          rw [hf2] at q
          exact ⟨_, rfl, q⟩
        | true =>
          refine iteF ?_
          have hf2 : numAt (items d) 0 = numAt ((items d).drop (j + 1)) (j + 1) := by
            rw [hf]
            show (if isNum dx = true then numAt ((items d).drop (j + 1)) (j + 1) else some j) = _
            rw [if_pos cr]
          exact ⟨_, _, rfl, e34, hf2⟩
      · obtain ⟨v4, v5, rfl, e, hf⟩ := q'
        have q := hv H' e
        rw [hf, List.drop_of_length_le (by omega)] at q
        exact q
    · have hf : isRow d = false := by simpa using hrw
      rw [hf]
      have z := k H1 e1
      unfold numF at z
      rw [if_neg hrw] at z
      exact iteT z
theorem ok_is_numbers {f f1 f2 f3 f4 : Addr} {fd fd1 fd2 fd3 fd4 : FuncData} (F : FD K mg "is_numbers" "is_numbers" s_is_numbers f fd) (F1 : FD K mg "is_row" "is_row" s_is_row f1 fd1) (F2 : FD K mg "is_number" "is_number" s_is_number f2 fd2)
    (F3 : FD K mg "is_integer" "is_integer" s_is_integer f3 fd3) (F4 : FD K mg "numbers_fault" "numbers_fault" s_numf f4 fd4) (T : Bl mg) (henum : mg "enumerate" = none) : FnOk P w K mg base CX0 4 f fd ["thing"] (fun vs H Q E => ∃ v d, vs = [v] ∧ D H v d ∧ (items d).length ≤ 100000 ∧ ∀ H', Ex H H' → Q (.bl (isNums d)) H') := by
  have G4 : FnOk P w K mg base CX0 3 f4 fd4 ["thing"] spNumF := ok_numf F4 F1 F2 F3 T henum
  have b4 : Binds K fd4 ["thing"] [] := F4.F.binds fun _ _ _ _ _ _ us hl => match us, hl with | [_], _ => rfl
  refine F.F.ok sc_is_numbers (fun vs H Q E h => ?_) (fun cdv A outer s H vs Q E hr h => ?_)
  · obtain ⟨v, d, rfl, _⟩ := h
    rfl
  · obtain ⟨v, d, rfl, hd, hz, k⟩ := h
    refine ⟨_, pss_one (ps_ret (pe_cmpR op_isN (pe_call G4 hr (by rfl) F4.g F4.F.kp b4 .nil pass0 (pa_cons (pv 0) pa_nil)) pe_non (nomark _))), ?_⟩
    refine ⟨_, rfl, v, d, rfl, hd, fun H1 e1 => ⟨rfl, ?_⟩⟩
    have z := k H1 e1
    rw [← numF_non] at z
    exact z
end
end Ts


set_option Elab.async false
set_option linter.all false
set_option maxRecDepth 100000
set_option maxHeartbeats 4000000
namespace Ts
open PySem PySem.Spec L2
open Evl (Ex)
/-! ## what may be spoiled, and what of the heap is touched then -/
/-- no row, no dict -/
def flatD : PyData → Bool
  | .none => true | .bool _ => true | .int _ => true | .str _ => true | _ => false
mutual
inductive Spl (H : Hp) : Nat → V → List Addr → Prop
  | sc {k : Nat} {x : V} {d : PyData} : D H x d → flatD d = true → Spl H k x []
  | tup {k : Nat} {T : Addr} {xs : List V} {F : List Addr} : H T = some (.tup xs) → SplAll H k xs F → Spl H (k + 1) (.ref T) F
  | lst {k : Nat} {l : Addr} {xs : List V} {F : List Addr} : H l = some (.lst xs) → xs.length ≤ 600000 → SplAll H k xs F → l ∉ F → Spl H (k + 1) (.ref l) (l :: F)
inductive SplAll (H : Hp) : Nat → List V → List Addr → Prop
  | nil {k : Nat} : SplAll H k [] []
  | cons {k : Nat} {x : V} {xs : List V} {F G : List Addr} : Spl H k x F → SplAll H k xs G → (∀ a ∈ F, a ∉ G) → SplAll H k (x :: xs) (F ++ G)
end
theorem D.flat {H H' : Hp} {x : V} {d : PyData} (h : D H x d) (f : flatD d = true) : D H' x d := by
  cases h <;> first
    | (cases f; done)
    | constructor
mutual
theorem Spl.lists {H : Hp} : ∀ {k : Nat} {v : V} {F : List Addr}, Spl H k v F → ∀ a ∈ F, ∃ ys, H a = some (.lst ys)
  | _, _, _, .sc _ _, a, ha => by cases ha
  | _, _, _, .tup _ r, a, ha => SplAll.lists r a ha
  | _, _, _, .lst h _ r _, a, ha => by
    rcases List.mem_cons.mp ha with rfl | ha
    · exact ⟨_, h⟩
    · exact SplAll.lists r a ha
theorem SplAll.lists {H : Hp} : ∀ {k : Nat} {v : List V} {F : List Addr}, SplAll H k v F → ∀ a ∈ F, ∃ ys, H a = some (.lst ys)
  | _, _, _, .nil, a, ha => by cases ha
  | _, _, _, .cons h r _, a, ha => by
    rcases List.mem_append.mp ha with ha | ha
    · exact Spl.lists h a ha
    · exact SplAll.lists r a ha
end
mutual
theorem Spl.keep {H H' : Hp} {S : List Addr} (hS : ∀ a ∈ S, ∃ ys, H a = some (.lst ys)) (e : ∀ b o, b ∉ S → H b = some o → H' b = some o) : ∀ {k : Nat} {v : V} {F : List Addr}, Spl H k v F → (∀ a ∈ F, a ∉ S) → Spl H' k v F
  | _, _, _, .sc h f, _ => .sc (h.flat f) f
  | _, _, _, .tup h r, n => .tup (e _ _ (fun z => by obtain ⟨ys, q⟩ := hS _ z; rw [h] at q; cases q) h) (SplAll.keep hS e r n)
  | _, _, _, .lst h z r m, n => .lst (e _ _ (n _ List.mem_cons_self) h) z (SplAll.keep hS e r fun a ha => n a (List.mem_cons_of_mem _ ha)) m
theorem SplAll.keep {H H' : Hp} {S : List Addr} (hS : ∀ a ∈ S, ∃ ys, H a = some (.lst ys)) (e : ∀ b o, b ∉ S → H b = some o → H' b = some o) : ∀ {k : Nat} {v : List V} {F : List Addr}, SplAll H k v F → (∀ a ∈ F, a ∉ S) → SplAll H' k v F
  | _, _, _, .nil, _ => .nil
  | _, _, _, .cons h r d, n => .cons (Spl.keep hS e h fun a ha => n a (List.mem_append_left _ ha)) (SplAll.keep hS e r fun a ha => n a (List.mem_append_right _ ha)) d
end
theorem Spl.ex {H H' : Hp} (e : Ex H H') {k : Nat} {v : V} {F : List Addr} (h : Spl H k v F) : Spl H' k v F := h.keep (S := []) (fun a ha => by cases ha) (fun b o _ hb => e b o hb) fun a _ hn => by cases hn
theorem SplAll.ex {H H' : Hp} (e : Ex H H') {k : Nat} {v : List V} {F : List Addr} (h : SplAll H k v F) : SplAll H' k v F := h.keep (S := []) (fun a ha => by cases ha) (fun b o _ hb => e b o hb) fun a _ hn => by cases hn
theorem SplAll.head {H : Hp} {k : Nat} {xs : List V} {F : List Addr} {i : Nat} {x : V} (h : SplAll H k (xs.drop i) F) (hx : xs[i]? = some x) : ∃ F1 F2, Spl H k x F1 ∧ SplAll H k (xs.drop (i + 1)) F2 ∧ (∀ a ∈ F1, a ∉ F2) ∧ (∀ a ∈ F1, a ∈ F) ∧ ∀ a ∈ F2, a ∈ F := by
  obtain ⟨q1, q2⟩ := List.getElem?_eq_some_iff.mp hx
  rw [List.drop_eq_getElem_cons q1, q2] at h
  cases h with
  | cons h r d => exact ⟨_, _, h, r, d, fun a ha => List.mem_append_left _ ha, fun a ha => List.mem_append_right _ ha⟩
section
variable {P : Program} {w : World} {K : PySem.W.Frag} {mg : Str → Option Value} {base : Heap}
def spSpoilT : Nat → Sp
  | 0 => fun _ _ _ _ => False
  | k + 1 => fun vs H Q _ => ∃ v F, vs = [v] ∧ Spl H k v F ∧ ∀ H', (∀ b o, b ∉ F → H b = some o → H' b = some o) → Q .non H'
theorem ok_spoilT {f : Addr} {fd : FuncData} (F : FD K mg "_law_a_spoiled" "_law_a_spoiled" s_spoil f fd) (T : Bl mg) : ∀ k, FnOk P w K mg base CX0 k f fd ["thing"] (spSpoilT k)
  | 0 => ⟨fun _ _ _ _ h => h.elim, fun _ _ _ _ _ _ _ _ _ _ _ _ _ h => h.elim⟩
  | k + 1 => by
    have G0 := ok_spoilT F T k
    have b0 : Binds K fd ["thing"] [] := F.F.binds fun _ _ _ _ _ _ us hl => match us, hl with | [_], _ => rfl
    refine F.F.ok sc_spoil (fun vs H Q E h => ?_) (fun cdv A outer s H vs Q E hr h => ?_)
    · obtain ⟨v, F, rfl, _⟩ := h
      rfl
    · have nd := sc_spoil.nd
      refine ⟨_, (pss_cons (ps_if (pt_val (pe_callB call_isiT (by rfl) T.isinstance (by decide +kernel) (pa_cons (pv 0) (pa_cons (pe_tup (pa_cons (pe_bltn (v := .ty "list") (by rfl) T.list (by decide +kernel) rfl) (pa_cons (pe_bltn (v := .ty "tuple") (by rfl) T.tuple (by decide +kernel) rfl) pa_nil))) pa_nil)))) (pss_one (ps_for PassesOwn.never rfl (pi_or (pi_list (pv 0)) (pi_tup (pv 0))) (pg_name (i := 1) nd rfl (Or.inl rfl)) (pss_one (ps_expr (pe_call G0 hr (by rfl) F.g F.F.kp b0 .nil pass0 (pa_cons (pv 1) pa_nil)))))) pss_nil)
      (pss_cons (ps_if (pt_val (pe_callB call_isi (by rfl) T.isinstance (by decide +kernel) (pa_cons (pv 0) (pa_cons (pe_bltn (v := .ty "dict") (by rfl) T.dict (by decide +kernel) rfl) pa_nil)))) pss_dead pss_nil)
      (pss_one (ps_if (pt_val (pe_callB call_isi (by rfl) T.isinstance (by decide +kernel) (pa_cons (pv 0) (pa_cons (pe_bltn (v := .ty "list") (by rfl) T.list (by decide +kernel) rfl) pa_nil)))) (pss_one (ps_expr (pe_bm PySem.F.plainAttrs_list PySem.F.slot_list_append PySem.F.type_list_append mt_append (pv 0) (pa_cons pe_str pa_nil)))) pss_nil)))), ?_⟩
      have fin : ∀ {a : Addr} {xs : List V} {v1 v2 : Option V} {H2 : Hp}, H2 a = some (.lst xs) → xs.length < sizeLine → (upd H2 a (.lst (xs ++ [.str "late9"])) a = some (.lst (xs ++ [.str "late9"])) → Q .non (upd H2 a (.lst (xs ++ [.str "late9"])))) →
          (tSeq (tIfS (tB (tCB (rIsi K) (tCons (tVar 0) (tCons (tC (.ty "dict")) tNil)))) (fun _ _ _ => False) tNext) (tIfS (tB (tCB (rIsi K) (tCons (tVar 0) (tCons (tC (.ty "list")) tNil)))) (tDrop (tBM K "list" rAppend (tVar 0) (tCons (tC (.str "late9")) tNil))) tNext) : TS) { nx := fun _ H' => Q .non H', rt := Q } [some (.ref a), v1, v2] H2 := fun {a xs v1 v2 H2} ha hl hk => by
        have hT : TyX K H2 (.ref a) (.type "list") := lst_ty ha
        refine ⟨_, rfl, _, _, _, _, _, rfl, .ty "dict", hT, kit_dict (.list []), _, rfl, ite_ff rfl ?_⟩
        refine ⟨_, rfl, _, _, _, _, _, rfl, .ty "list", hT, kit_list (.list []), _, rfl, ite_tt rfl ?_⟩
        exact ⟨_, rfl, .inl ⟨rfl, _, SqL.of ha⟩, a, _, _, rfl, rfl, ha, hl, hk upd_same⟩
      obtain ⟨v, S, rfl, hv, kq⟩ := h
      cases hv with
      | @sc _ _ d hd fl =>
        refine ⟨_, rfl, by show 2 ≤ sizeLine; decide, fun p np => ⟨_, p, _, _, _, _, rfl, upd_same, .cons (.ty "list") (.cons (.ty "tuple") .nil), (hd.ex (Ex.new np)).ty, kit_row d, _, rfl, ?_⟩⟩
        have ep := Ex.new (o := .tup [.ty "list", .ty "tuple"]) np
        have hd2 := hd.ex ep
        generalize upd H p (.tup [.ty "list", .ty "tuple"]) = H0 at ep hd2 ⊢
        have r1 : isRow d = false := by cases d <;> first | rfl | (cases fl; done)
        have r2 : isTy "dict" d = false := by cases d <;> first | rfl | (cases fl; done) | decide
        have r3 : isTy "list" d = false := by cases d <;> first | rfl | (cases fl; done) | decide
        refine ite_ff r1 ?_
        refine ⟨_, rfl, _, _, _, _, _, rfl, .ty "dict", hd2.ty, kit_dict d, _, rfl, ite_ff r2 ?_⟩
        refine ⟨_, rfl, _, _, _, _, _, rfl, .ty "list", hd2.ty, kit_list d, _, rfl, ite_ff r3 ?_⟩
        exact kq _ fun b o _ hb => ep _ _ hb
      | @tup k T xs _ hT hx =>
        refine ⟨_, rfl, by show 2 ≤ sizeLine; decide, fun p np => ⟨_, p, _, _, _, _, rfl, upd_same, .cons (.ty "list") (.cons (.ty "tuple") .nil), .base (.tup (Ex.new np _ _ hT)), kit_row (.tuple []), _, rfl, ?_⟩⟩
        have ep := Ex.new (o := .tup [.ty "list", .ty "tuple"]) np
        generalize upd H p (.tup [.ty "list", .ty "tuple"]) = H0 at ep ⊢
        have nT : T ∉ S := fun z => by
          obtain ⟨ys, q⟩ := hx.lists _ z
          rw [hT] at q
          cases q
        refine ite_tt rfl ?_
        refine .inr ⟨_, rfl, T, rfl, ⟨_, SqT.of (ep _ _ hT)⟩, for_tup (a := T) (xs := xs) (fun i σ H' => ∃ v1 v2 G, σ = [some (.ref T), v1, v2] ∧ SplAll H' k (xs.drop i) G ∧ (∀ a ∈ G, a ∈ S) ∧ ∀ b o, b ∉ S → H b = some o → H' b = some o) ⟨none, none, S, rfl, hx.ex ep, fun _ h => h, fun b o _ h => ep _ _ h⟩ (fun i σ H' _ q => ?_) (fun i x σ H' hxi q => ?_) (fun σ H' q => ?_)⟩
        · obtain ⟨v1, v2, G, rfl, _, _, e⟩ := q
          exact SqT.of (e _ _ nT hT)
        · obtain ⟨v1, v2, G, rfl, hG, sub, e⟩ := q
          obtain ⟨F1, F2, h1, h2, dj, s1, s2⟩ := hG.head hxi
          refine gn1 ?_
          exact ⟨_, rfl, x, F1, rfl, h1, fun H2 e2 => ⟨_, _, F2, rfl, h2.keep h1.lists e2 fun a ha hn => dj a hn ha, fun a ha => sub a (s2 a ha), fun b o nb hb => e2 _ _ (fun z => nb (sub b (s1 b z))) (e _ _ nb hb)⟩⟩
        · obtain ⟨v1, v2, G, rfl, _, _, e⟩ := q
          have hT2 : TyX K H' (.ref T) (.type "tuple") := .base (.tup (e _ _ nT hT))
          refine ⟨_, rfl, _, _, _, _, _, rfl, .ty "dict", hT2, kit_dict (.tuple []), _, rfl, ite_ff rfl ?_⟩
          refine ⟨_, rfl, _, _, _, _, _, rfl, .ty "list", hT2, kit_list (.tuple []), _, rfl, ite_ff rfl ?_⟩
          exact kq _ e
      | @lst k l xs G hl hz hx nl =>
        refine ⟨_, rfl, by show 2 ≤ sizeLine; decide, fun p np => ⟨_, p, _, _, _, _, rfl, upd_same, .cons (.ty "list") (.cons (.ty "tuple") .nil), lst_ty (Ex.new np _ _ hl), kit_row (.list []), _, rfl, ?_⟩⟩
        have ep := Ex.new (o := .tup [.ty "list", .ty "tuple"]) np
        generalize upd H p (.tup [.ty "list", .ty "tuple"]) = H0 at ep ⊢
        refine ite_tt rfl ?_
        refine .inl ⟨_, rfl, l, rfl, ⟨_, SqL.of (ep _ _ hl)⟩, for_list (a := l) (xs := xs) (fun i σ H' => ∃ v1 v2 G', σ = [some (.ref l), v1, v2] ∧ SplAll H' k (xs.drop i) G' ∧ (∀ a ∈ G', a ∈ G) ∧ ∀ b o, b ∉ G → H b = some o → H' b = some o) ⟨none, none, G, rfl, hx.ex ep, fun _ h => h, fun b o _ h => ep _ _ h⟩ (fun i σ H' _ q => ?_) (fun i x σ H' hxi q => ?_) (fun σ H' q => ?_)⟩
        · obtain ⟨v1, v2, G', rfl, _, _, e⟩ := q
          exact SqL.of (e _ _ nl hl)
        · obtain ⟨v1, v2, G', rfl, hG, sub, e⟩ := q
          obtain ⟨F1, F2, h1, h2, dj, s1, s2⟩ := hG.head hxi
          refine gn1 ?_
          exact ⟨_, rfl, x, F1, rfl, h1, fun H2 e2 => ⟨_, _, F2, rfl, h2.keep h1.lists e2 fun a ha hn => dj a hn ha, fun a ha => sub a (s2 a ha), fun b o nb hb => e2 _ _ (fun z => nb (sub b (s1 b z))) (e _ _ nb hb)⟩⟩
        · obtain ⟨v1, v2, G', rfl, _, _, e⟩ := q
          refine fin (e _ _ nl hl) (Nat.lt_of_le_of_lt hz (by decide)) fun _ => kq _ fun b o nb hb => ?_
          have n1 : b ≠ l := fun z => nb (z ▸ List.mem_cons_self)
          rw [upd_ne n1]
          exact e _ _ (fun z => nb (List.mem_cons_of_mem _ z)) hb
end
end Ts


set_option Elab.async false
set_option linter.all false
set_option maxRecDepth 100000
set_option maxHeartbeats 4000000
namespace Ts
open PySem PySem.Spec L2
open Evl (Ex)
/-! ## what is wrong at a heap -/
/-- what is told of the heap n: l its options, t what was told, m what is right -/
def wrongAt (ts : List Int) (l : List (List Int)) (n t m : Int) : PyData := match l.find? (fun ns => decide (optv ts ns = t)) with
  | some ns => .tuple [.str "has", .int n, .list (ns.map .int)]
  | none => .tuple [.str "lacks", .int n, .int m]
/-- what is told, new since H0 -/
def FltAt (H0 H : Hp) (v : V) (d : PyData) : Prop := (v = .non ∧ d = .none) ∨ (∃ T, v = .ref T ∧ H T = some (.tup [.str "form"]) ∧ d = .tuple [.str "form"]) ∨
  (∃ (T : Addr) (n m : Int), v = .ref T ∧ H T = some (.tup [.str "lacks", .int n, .int m]) ∧ d = .tuple [.str "lacks", .int n, .int m]) ∨
  ∃ (T z : Addr) (n : Int) (ns : List Int), v = .ref T ∧ H T = some (.tup [.str "has", .int n, .ref z]) ∧ H0 z = none ∧ H z = some (.lst (ns.map V.int)) ∧ ns.length ≤ 2 ∧ d = .tuple [.str "has", .int n, .list (ns.map .int)]
theorem FltAt.ex {H0 H H' : Hp} {v : V} {d : PyData} (h : FltAt H0 H v d) (e : Ex H H') : FltAt H0 H' v d := by
  rcases h with h | ⟨T, h1, h2, h3⟩ | ⟨T, n, m, h1, h2, h3⟩ | ⟨T, z, n, ns, h1, h2, h3, h4, h5, h6⟩
  · exact .inl h
  · exact .inr (.inl ⟨T, h1, e _ _ h2, h3⟩)
  · exact .inr (.inr (.inl ⟨T, n, m, h1, e _ _ h2, h3⟩))
  · exact .inr (.inr (.inr ⟨T, z, n, ns, h1, e _ _ h2, h3, e _ _ h4, h5, h6⟩))
theorem FltAt.ground {H00 H0 H : Hp} {v : V} {d : PyData} (h : FltAt H0 H v d) (e : Ex H00 H0) : FltAt H00 H v d := by
  rcases h with h | h | h | ⟨T, z, n, ns, h1, h2, h3, h4⟩
  · exact .inl h
  · exact .inr (.inl h)
  · exact .inr (.inr (.inl h))
  · exact .inr (.inr (.inr ⟨T, z, n, ns, h1, h2, Evl.fresh_back e h3, h4⟩))
theorem FltAt.D {H0 H : Hp} {v : V} {d : PyData} (h : FltAt H0 H v d) : D H v d := by
  rcases h with ⟨rfl, rfl⟩ | ⟨T, rfl, h2, rfl⟩ | ⟨T, n, m, rfl, h2, rfl⟩ | ⟨T, z, n, ns, rfl, h2, h3, h4, h5, rfl⟩
  · exact .non
  · exact .tup h2 (.cons (.str _) .nil)
  · exact .tup h2 (.cons (.str _) (.cons (.int _) (.cons (.int _) .nil)))
  · exact .tup h2 (.cons (.str _) (.cons (.int _) (.cons (.lst h4 (ints_D ns)) .nil)))
/-- and it may be spoiled: nothing that stood is touched -/
theorem FltAt.spl {H0 H : Hp} {v : V} {d : PyData} (h : FltAt H0 H v d) : ∃ F, Spl H 3 v F ∧ ∀ a ∈ F, H0 a = none := by
  rcases h with ⟨rfl, rfl⟩ | ⟨T, rfl, h2, rfl⟩ | ⟨T, n, m, rfl, h2, rfl⟩ | ⟨T, z, n, ns, rfl, h2, h3, h4, h5, rfl⟩
  · exact ⟨[], .sc .non rfl, fun a ha => by cases ha⟩
  · exact ⟨_, .tup h2 (.cons (.sc (.str _) rfl) .nil fun a ha => by cases ha), fun a ha => by cases ha⟩
  · exact ⟨_, .tup h2 (.cons (.sc (.str _) rfl) (.cons (.sc (.int _) rfl) (.cons (.sc (.int _) rfl) .nil fun a ha => by cases ha) fun a ha => by cases ha) fun a ha => by cases ha), fun a ha => by cases ha⟩
  · have flat : ∀ ms : List Int, SplAll H 1 (ms.map V.int) [] := fun ms => by
      induction ms with
      | nil => exact .nil
      | cons m r ih => exact .cons (F := []) (.sc (.int m) rfl) ih fun a ha => by cases ha
    refine ⟨_, .tup h2 (.cons (.sc (.str _) rfl) (.cons (.sc (.int _) rfl) (.cons (.lst h4 (by rw [List.length_map]; omega) (flat ns) (by simp)) .nil fun a ha => by simp) fun a ha => by cases ha) fun a ha => by cases ha), fun a ha => ?_⟩
    have ha : a ∈ [z] := by simpa using ha
    rw [List.mem_singleton.mp ha]
    exact h3
section
variable {P : Program} {w : World} {K : PySem.W.Frag} {mg : Str → Option Value} {base : Heap}
abbrev s_sumof := top 31
abbrev s_tval : Stmt := inClass (top 32) 6
abbrev s_wrong := top 34
theorem sc_sumof : FnScope ["told", "total", "value"] ["told"] (defScope s_sumof) := ⟨rfl, rfl, rfl, by decide +kernel, rfl, by decide +kernel, by decide +kernel⟩
theorem sc_tval : FnScope ["self", "option", "heap"] ["self", "option"] (defScope s_tval) := ⟨rfl, rfl, rfl, by decide +kernel, rfl, by decide +kernel, by decide +kernel⟩
theorem sc_wrong : FnScope ["book", "table", "heap", "told", "option"] ["book", "table", "heap", "told"] (defScope s_wrong) := ⟨rfl, rfl, rfl, by decide +kernel, rfl, by decide +kernel, by decide +kernel⟩
theorem ok_sumof {f : Addr} {fd : FuncData} (F : FD K mg "sum_of" "sum_of" s_sumof f fd) : FnOk P w K mg base CX0 1 f fd ["told"] spTogether := by
  refine F.F.ok sc_sumof (fun vs H Q E h => ?_) (fun cdv A outer s H vs Q E hr h => ?_)
  · obtain ⟨b, ns, rfl, _⟩ := h
    rfl
  · obtain ⟨b, ns, rfl, hb, k⟩ := h
    have nd := sc_sumof.nd
    refine ⟨_, (pss_cons (ps_set (i := 1) nd rfl (Or.inl rfl) pe_int)
      (pss_cons (ps_for PassesOwn.never rfl (pi_list (pv 0)) (pg_name (i := 2) nd rfl (Or.inl rfl)) (pss_one (ps_set (i := 1) nd rfl (Or.inl rfl) (pe_op op_xor (pv 1) (pv 2)))))
      (pss_one (ps_ret (pv 1))))), ?_⟩
    refine ⟨_, rfl, b, rfl, ⟨_, SqL.of hb⟩, for_list (K := K) (a := b) (xs := ns.map V.int) (fun i σ H' => ∃ v2, σ = [some (.ref b), some (.int ((ns.take i).foldl Builtin.bitXor 0)), v2] ∧ H' = H) ⟨none, by rw [List.take_zero]; rfl, rfl⟩ (fun i σ H' _ q => ?_) (fun i x σ H' hx q => ?_) (fun σ H' q => ?_)⟩
    · obtain ⟨v2, rfl, rfl⟩ := q
      exact SqL.of hb
    · obtain ⟨v2, rfl, rfl⟩ := q
      rw [List.getElem?_map] at hx
      cases hq : ns[i]? with
      | none => rw [hq] at hx; cases hx
      | some n =>
        rw [hq] at hx
        cases hx
        refine ⟨_, rfl, _, rfl, _, _, rfl, rfl, some (.int n), ?_, rfl⟩
        rw [List.take_add_one, hq, List.foldl_append]
        rfl
    · obtain ⟨v2, rfl, rfl⟩ := q
      rw [List.length_map, List.take_length]
      exact ⟨_, rfl, k⟩
def spTval (C : Addr) : Sp := fun vs H Q _ => ∃ (p dx GL OL TL BT GR l : Addr) (bs : Int) (ts ns : List Int), vs = [.ref p, .ref l] ∧ H p = some (.ins C dx (tbF GL OL TL BT GR bs)) ∧ H TL = some (.lst (ts.map V.int)) ∧ H l = some (.lst (ns.map V.int)) ∧ ns.length ≤ 1000 ∧ (∀ x ∈ ns, 0 ≤ x ∧ x < ts.length) ∧ ∀ H', Ex H H' → Q (.int (optv ts ns)) H'
theorem ok_tval {f fI fS fG fO fN fT C f1 : Addr} {fd fd1 : FuncData} (F : Fun K "value_of" "Table.value_of" s_tval f fd) (TC : TbC K mg C fI fS fG fO fN fT) (F_sum : FD K mg "sum_of" "sum_of" s_sumof f1 fd1) : FnOk P w K mg base CX0 2 f fd ["self", "option"] (spTval C) := by
  have G_sum : FnOk P w K mg base CX0 1 f1 fd1 ["told"] spTogether := ok_sumof F_sum
  have b_sum : Binds K fd1 ["told"] [] := F_sum.F.binds fun _ _ _ _ _ _ us hl => match us, hl with | [_], _ => rfl
  refine F.ok sc_tval (fun vs H Q E h => ?_) (fun cdv A outer s H vs Q E hr h => ?_)
  · obtain ⟨p, dx, GL, OL, TL, BT, GR, l, bs, ts, ns, rfl, _⟩ := h
    rfl
  · obtain ⟨p, dx, GL, OL, TL, BT, GR, l, bs, ts, ns, rfl, hp, hT, hl, lz, bd, k⟩ := h
    have nd := sc_tval.nd
    refine ⟨_, pss_one (ps_ret (pe_call G_sum (hr.mono (by decide)) (by rfl) F_sum.g F_sum.F.kp b_sum .nil pass0 (pa_cons (pe_lc (own := [("heap", 2)]) (g := gName 2) (tt := tYes) rfl nd (pi_list (pv 1)) (blkOk_by (N := ["self", "option", "heap"]) (sc := defScope s_tval) (by decide +kernel)) (fun _ _ _ _ _ => pg_name (i := 2) nd rfl (Or.inl rfl)) (fun _ _ _ _ _ => pts_nil)
      (fun _ _ _ _ _ => pe_ix (r := rIx K) ix_seq (show PE _ _ (tFld K (tVar 0) "told") from pe_fld (pv 0) rfl) (pv 2) (fun _ _ => rfl))) pa_nil))), ?_⟩
    refine ⟨_, rfl, l, rfl, ⟨_, SqL.of hl⟩, ?_⟩
    refine lc_pureD (g := gName 2) (walk_list (xs := ns.map V.int)) (out := fun j => V.int (ts.getD (ns.getD j 0).toNat 0)) (by rw [List.length_map]; exact Nat.le_trans lz (by decide)) (fun H' e => SqL.of (e _ _ hl)) (fun j x H4 H5 hj e4 y => ?_) (fun _ _ _ _ h => h _ _) (fun D H4 nD e4 hD => ?_)
    · obtain ⟨rfl, hx⟩ := y
      rw [List.length_map] at hj
      rw [List.getElem?_map, List.getElem?_eq_getElem hj] at hx
      cases hx
      have ei : ns.getD j 0 = ns[j] := by rw [List.getD_eq_getElem?_getD, List.getElem?_eq_getElem hj]; rfl
      have bj := bd _ (List.getElem_mem hj)
      rw [ei]
      exact ⟨Ex.refl _, rfl, Ex.refl _, fun q kq => ⟨_, rfl, p, C, dx, _, _, rfl, e4 _ _ hp, TC.cl, TC.nT, rfl, _, rfl, ix_row (.inl (e4 _ _ hT)) (at_told bj.1 bj.2) (kq _ (Ex.refl _))⟩⟩
    · rw [List.length_map] at hD
      refine ⟨D, ns.map fun x => ts.getD x.toNat 0, rfl, ?_, k _ e4⟩
      rw [hD, List.map_map]
      exact congrArg (fun z => some (HO.lst z)) (range_getD ns 0 fun x => V.int (ts.getD x.toNat 0))
/-- a table's told values, whatever else -/
def spWrong (C CB : Addr) : Sp := fun vs H Q _ => ∃ (b p dx GL OL TL BT GR : Addr) (bs n t : Int) (rs : List Rl) (ts : List Int), vs = [.ref b, .ref p, .int n, .int t] ∧ BookAt CB H b rs ∧ rs.length ≤ 1000 ∧ (∀ r ∈ rs, r.Ok) ∧ H p = some (.ins C dx (tbF GL OL TL BT GR bs)) ∧ H TL = some (.lst (ts.map V.int)) ∧ 0 ≤ n ∧ n < ts.length ∧ n ≤ 1000 ∧
  ∀ H' v l, Ex H H' → Opts (AOpt rs n) l → FltAt H H' v (wrongAt ts l n t (ts.getD n.toNat 0)) → Q v H'
theorem ok_wrong {f fI fS fG fO fN fT fV C CB CL lI lL lH : Addr} {fd fdV fdI fdL : FuncData} (F : FD K mg "wrong_value" "wrong_value" s_wrong f fd) (TC : TbC K mg C fI fS fG fO fN fT) (mV : Meth K C "value_of" fV) (LC : LvC K mg CL lI lL lH)
    (F_V : Fun K "value_of" "Table.value_of" s_tval fV fdV) (G_V : FnOk P w K mg base CX0 2 fV fdV ["self", "option"] (spTval C))
    (F_I : Fun K "__init__" "Leavings.__init__" s_linit lI fdI) (G_I : FnOk P w K mg base CX0 4 lI fdI ["self", "book", "heap"] (spLinit CL CB))
    (F_L : Fun K "listed" "Leavings.listed" s_listed lL fdL) (G_L : FnOk P w K mg base CX0 2 lL fdL ["self"] (spListed CL)) : FnOk P w K mg base CX0 6 f fd ["book", "table", "heap", "told"] (spWrong C CB) := by
  have b_V : Binds K fdV ["self", "option"] [] := F_V.binds fun _ _ _ _ _ _ us hl => match us, hl with | [_, _], _ => rfl
  have b_I : Binds K fdI ["self", "book", "heap"] [] := F_I.binds fun _ _ _ _ _ _ us hl => match us, hl with | [_, _, _], _ => rfl
  have b_L : Binds K fdL ["self"] [] := F_L.binds fun _ _ _ _ _ _ us hl => match us, hl with | [_], _ => rfl
  refine F.F.ok sc_wrong (fun vs H Q E h => ?_) (fun cdv A outer s H vs Q E hr h => ?_)
  · obtain ⟨b, p, dx, GL, OL, TL, BT, GR, bs, n, t, rs, ts, rfl, _⟩ := h
    rfl
  · obtain ⟨b, p, dx, GL, OL, TL, BT, GR, bs, n, t, rs, ts, rfl, hb, hz, ok, hp, hT, n0, n1, n2, k⟩ := h
    have nd := sc_wrong.nd
    have hmod : ∀ r ∈ rs, 0 < r.mod := fun r h => Int.lt_of_le_of_lt (ok r h).rest0 (ok r h).rest1
    have hlow : ∀ r ∈ rs, 0 ≤ r.low := fun r h => (ok r h).low0
    refine ⟨_, (pss_cons (ps_for PassesOwn.never rfl (pi_list (pe_meth0 (pe_make LC.made G_I (hr.mono (by decide)) (by rfl) LC.gC b_I .nil pass0 (pa_cons (pv 0) (pa_cons (pv 2) pa_nil))) LC.cl LC.mL G_L (hr.mono (by decide)) b_L .nil pass0)) (pg_name (i := 4) nd rfl (Or.inl rfl))
        (pss_one (ps_if (pt_cmpR op_eq (pe_meth (pv 1) TC.cl mV G_V (hr.mono (by decide)) b_V .nil pass0 (pa_cons (pv 4) pa_nil)) (pv 3) (nomark _)) (pss_one (ps_ret (pe_tup (pa_cons pe_str (pa_cons (pv 2) (pa_cons (pv 4) pa_nil)))))) pss_nil)))
      (pss_one (ps_ret (pe_tup (pa_cons pe_str (pa_cons (pv 2) (pa_cons (pe_ix (r := rIx K) ix_seq (pe_fld (pv 1) rfl) (pv 2) (fun _ _ => rfl)) pa_nil))))))), ?_⟩
    refine ⟨_, rfl, _, rfl, fun q dq nq ndq hne => ?_⟩
    have nq' : upd H dq (.own q) q = none := by rw [upd_ne hne.symm]; exact nq
    have e3 := (Ex.new (o := .own q) ndq).trans (Ex.new (o := .ins CL dq []) nq')
    have hdel : Ex H (del (upd (upd H dq (.own q)) q (.ins CL dq [])) q) := fun z o hz' => by
      have n1 : z ≠ q := fun w => by
        rw [w, nq] at hz'
        cases hz'
      rw [del_ne n1]
      exact e3 _ _ hz'
    refine ⟨q, dq, b, rs, n, rfl, upd_same, hb.ex hdel, hz, hmod, fun H4 e4 hLv => ⟨rfl, ?_⟩⟩
    obtain ⟨dx', S, T', g, ss, tt, h1, _⟩ := id hLv
    refine ⟨q, dx', _, rfl, h1, rfl, q, rs, n, rfl, hLv, hz, hlow, n2, fun l H5 os nl nw lb ho => ?_⟩
    have e5 : Ex H H5 := (hdel.trans e4).trans nw.ex
    have bdo : ∀ q ∈ os, q.2.length ≤ 2 ∧ ∀ x ∈ q.2, 0 ≤ x ∧ x < ts.length := fun q hq => by
      have a := (ho.mem _).mp (List.mem_map.mpr ⟨q, hq, rfl⟩)
      exact ⟨aopt_len a, fun x hx => by have := aopt_bd ok a x hx; omega⟩
    have newq : ∀ q ∈ os, H q.1 = none := fun q hq => Evl.fresh_back (hdel.trans e4) (nw.el q hq).2.1
    refine ⟨l, rfl, ⟨_, SqL.of nw.at_⟩, for_list (K := K) (a := l) (xs := os.vs) (fun i σ H' => ∃ v4, σ = [some (.ref b), some (.ref p), some (.int n), some (.int t), v4] ∧ Ex H5 H' ∧ ∀ j, j < i → ∀ o, os[j]? = some o → optv ts o.2 ≠ t) ⟨none, rfl, Ex.refl _, fun j hj => absurd hj (Nat.not_lt_zero j)⟩ (fun i σ H' _ q => ?_) (fun i x σ H' hx q => ?_) (fun σ H' q => ?_)⟩
    · obtain ⟨v4, rfl, e, _⟩ := q
      exact SqL.of (e _ _ nw.at_)
    · obtain ⟨v4, rfl, e, no⟩ := q
      rw [List.getElem?_map] at hx
      cases ho' : os[i]? with
      | none => rw [ho'] at hx; cases hx
      | some o =>
        rw [ho'] at hx
        cases hx
        have mo := List.mem_of_getElem? ho'
        have e6 := e5.trans e
        have hq := e _ _ (nw.el o mo).2.2
        refine gn1 ?_
        refine ⟨_, rfl, p, dx, _, rfl, e6 _ _ hp, rfl, _, rfl, p, dx, GL, OL, TL, BT, GR, o.1, bs, ts, o.2, rfl, e6 _ _ hp, e6 _ _ hT, hq, by have := (bdo o mo).1; omega, (bdo o mo).2, fun H7 e7 => ⟨_, rfl, rfl, _, rfl, ?_⟩⟩
        rw [dec_int]
        by_cases c : optv ts o.2 = t
        · rw [beq_iff_eq.mpr c]
          refine iteT ?_
          refine ⟨_, rfl, _, rfl, by show 3 ≤ sizeLine; decide, fun z nz => k _ _ (os.map (·.2)) (e6.trans (e7.trans (Ex.new nz))) ho ?_⟩
          have fnd : (os.map (·.2)).find? (fun ns => decide (optv ts ns = t)) = some o.2 := by
            rw [List.find?_eq_some_iff_getElem]
            refine ⟨decide_eq_true c, i, ?_, ?_, fun j hj => ?_⟩
            · rw [List.length_map]
              exact (List.getElem?_eq_some_iff.mp ho').1
            · rw [List.getElem_map, (List.getElem?_eq_some_iff.mp ho').2]
            · have hj' : j < os.length := Nat.lt_trans hj (List.getElem?_eq_some_iff.mp ho').1
              have z := no j hj os[j] (List.getElem?_eq_getElem hj')
              rw [List.getElem_map]
              simpa using z
          unfold wrongAt
          rw [fnd]
          exact .inr (.inr (.inr ⟨z, o.1, n, o.2, rfl, upd_same, newq o mo, Ex.new nz _ _ (e7 _ _ hq), (bdo o mo).1, rfl⟩))
        · rw [beq_eq_false_iff_ne.mpr c]
          refine iteF ?_
          refine ⟨_, rfl, e.trans e7, fun j hj u hu => ?_⟩
          by_cases ji : j = i
          · rw [ji, ho'] at hu
            cases hu
            exact c
          · exact no j (by omega) u hu
    · obtain ⟨v4, rfl, e, no⟩ := q
      have e6 := e5.trans e
      have fnd : (os.map (·.2)).find? (fun ns => decide (optv ts ns = t)) = none := by
        rw [List.find?_eq_none]
        intro ns hns
        obtain ⟨o, mo, rfl⟩ := List.mem_map.mp hns
        obtain ⟨j, hj⟩ := List.mem_iff_getElem?.mp mo
        have hj2 : j < os.vs.length := by
          rw [List.length_map]
          exact (List.getElem?_eq_some_iff.mp hj).1
        simpa using no j hj2 o hj
      refine ⟨_, rfl, _, rfl, p, C, dx, _, _, rfl, e6 _ _ hp, TC.cl, TC.nT, rfl, _, rfl, ix_row (.inl (e6 _ _ hT)) (at_told n0 n1) ⟨by show 3 ≤ sizeLine; decide, fun z nz => k _ _ (os.map (·.2)) (e6.trans (Ex.new nz)) ho ?_⟩⟩
      unfold wrongAt
      rw [fnd]
      exact .inr (.inr (.inl ⟨z, n, _, rfl, upd_same, rfl⟩))
end
end Ts


set_option Elab.async false
set_option linter.all false
set_option maxRecDepth 100000
set_option maxHeartbeats 4000000
namespace Ts
open PySem PySem.Spec L2 LamX
open Evl (Ex)
/-! ## the first wrong heap -/
/-- what is told of some values -/
def FR (rs : List Rl) (xs : List Int) (d : PyData) : Prop := (Right rs xs ∧ d = .none) ∨ ∃ (n : Nat) (ts : List Int) (l : List (List Int)), n < xs.length ∧ Right rs ts ∧ ts.length = n + 1 ∧ ts.take n = xs.take n ∧ xs.getD n 0 ≠ ts.getD n 0 ∧ Opts (AOpt rs n) l ∧ d = wrongAt ts l n (xs.getD n 0) (ts.getD n 0)
theorem getD_take {l : List Int} {n k : Nat} (h : n < k) : (l.take k).getD n 0 = l.getD n 0 := by
  rw [List.getD_eq_getElem?_getD, List.getD_eq_getElem?_getD, List.getElem?_take, if_pos h]
theorem wrong_first {rs : List Rl} {xs ts us : List Int} {n k : Nat} (h : Right rs us) (hk : n < us.length) (e : us.take k = xs.take k) (nk : n < k) (r : Right rs ts) (l : ts.length = n + 1) (ne : xs.getD n 0 ≠ ts.getD n 0) : False := by
  have z := (h.take (n := n + 1) (by omega) (by omega)).uniq r (by rw [List.length_take, l]; omega)
  refine ne ?_
  rw [← z, getD_take (by omega), ← getD_take (l := us) nk, e, getD_take nk]
theorem FR.uniq {rs : List Rl} {xs : List Int} {d d' : PyData} (h : FR rs xs d) (h' : FR rs xs d') : d = d' := by
  rcases h with ⟨r, rfl⟩ | ⟨n, ts, l, a1, a2, a3, a4, a5, a6, rfl⟩ <;> rcases h' with ⟨r', rfl⟩ | ⟨n', ts', l', b1, b2, b3, b4, b5, b6, rfl⟩
  · rfl
  · exact (wrong_first (k := n' + 1) r b1 rfl (by omega) b2 b3 b5).elim
  · exact (wrong_first (k := n + 1) r' a1 rfl (by omega) a2 a3 a5).elim
  · rcases Nat.lt_trichotomy n n' with c | c | c
    · exact (wrong_first b2 (by omega) b4 c a2 a3 a5).elim
    · subst c
      obtain rfl := a2.uniq b2 (by omega)
      obtain rfl := Opts.uniq a6 b6
      rfl
    · exact (wrong_first a2 (by omega) a4 c b2 b3 b5).elim
theorem Opts.congr {p p' : List Int → Prop} {l : List (List Int)} (h : Opts p l) (e : ∀ ns, p ns ↔ p' ns) : Opts p' l := ⟨h.asc, h.nd, fun ns => (h.mem ns).trans (e ns)⟩
theorem aopt_congr {rs rs' : List Rl} {n : Int} {ns : List Int} (h : ∀ r, r ∈ rs ↔ r ∈ rs') : AOpt rs n ns ↔ AOpt rs' n ns := by
  have one : ∀ {rs rs' : List Rl}, (∀ r, r ∈ rs → r ∈ rs') → AOpt rs n ns → AOpt rs' n ns := fun {rs rs'} h a => by
    rcases a with ⟨a, r, hr, b⟩ | ⟨x, a, r, hr, b⟩ | ⟨t, a, e, ⟨r, hr, b⟩, c⟩
    · exact .inl ⟨a, r, h r hr, b⟩
    · exact .inr (.inl ⟨x, a, r, h r hr, b⟩)
    · exact .inr (.inr ⟨t, a, e, ⟨r, h r hr, b⟩, c⟩)
  exact ⟨one fun r z => (h r).mp z, one fun r z => (h r).mpr z⟩
theorem FR.congr {rs rs' : List Rl} (h : ∀ r, r ∈ rs ↔ r ∈ rs') {xs : List Int} {d : PyData} (f : FR rs xs d) : FR rs' xs d := by
  rcases f with ⟨r, e⟩ | ⟨n, ts, l, a1, a2, a3, a4, a5, a6, e⟩
  · exact .inl ⟨r.congr h, e⟩
  · exact .inr ⟨n, ts, l, a1, a2.congr h, a3, a4, a5, a6.congr fun ns => aopt_congr h, e⟩
theorem take_snoc {xs : List Int} {i : Nat} (h : i < xs.length) : xs.take (i + 1) = xs.take i ++ [xs.getD i 0] := by
  rw [List.take_add_one, List.getElem?_eq_getElem h, List.getD_eq_getElem?_getD, List.getElem?_eq_getElem h]
  rfl
section
variable {P : Program} {w : World} {K : PySem.W.Frag} {mg : Str → Option Value} {base : Heap}
abbrev s_first := top 35
theorem sc_first : FnScope ["book", "told_at", "end", "table", "heap", "told"] ["book", "told_at", "end"] (defScope s_first) := ⟨rfl, rfl, rfl, by decide +kernel, rfl, by decide +kernel, by decide +kernel⟩
/-- a table that was just made -/
theorem tb_start {C CB p dx b : Addr} {rs : List Rl} {H : Hp} {Q : VK} {E : XK} (np : H p = none) (ndx : H dx = none) (hb : BookAt CB H b rs) (hz : rs.length ≤ 1000) (hok : ∀ r ∈ rs, r.Ok)
    (k : ∀ H4 dx' GL OL TL BT GR gs os, Ex H H4 → H TL = none → H BT = none → H GR = none → TbS C p dx' GL OL TL BT GR gs os H4 [0] [] [] 0 → TC0 TL BT GR GL OL gs os → (∀ r, r ∈ rs ↔ r ∈ gs.map (·.2) ∨ r ∈ os.map (·.2)) → Q .non H4) :
    spTinit C CB [.ref p, .ref b] (upd (upd H dx (.own p)) p (.ins C dx [])) Q E := by
  have e3 : Ex H (del (upd (upd H dx (.own p)) p (.ins C dx [])) p) := fun a o ha => by
    have n1 : a ≠ p := ne_of_none ha np
    have n2 : a ≠ dx := ne_of_none ha ndx
    rw [del_ne n1, upd_ne n1, upd_ne n2]
    exact ha
  have fr : ∀ a, upd (upd H dx (.own p)) p (.ins C dx []) a = none → H a = none := fun a ha => by
    by_cases n1 : a = p
    · rw [n1, upd_same] at ha
      cases ha
    · rw [upd_ne n1] at ha
      by_cases n2 : a = dx
      · rw [n2, upd_same] at ha
        cases ha
      · rw [upd_ne n2] at ha
        exact ha
  refine ⟨p, dx, b, rs, rfl, upd_same, hb.ex e3, hz, fun H4 GL OL TL BT GR gs os e4 nTL nBT nGR mk hgs hos => ?_⟩
  obtain ⟨dx', hp⟩ := mk.at_
  have hrs : ∀ r, r ∈ rs ↔ r ∈ gs.map (·.2) ∨ r ∈ os.map (·.2) := fun r => by
    rw [hgs, hos, List.mem_filter, List.mem_filter]
    cases r.high.isNone <;> simp
  have gok : ∀ q ∈ gs, Grw q.2 := fun q hq => by
    have z : q.2 ∈ gs.map (·.2) := List.mem_map.mpr ⟨q, hq, rfl⟩
    rw [hgs] at z
    obtain ⟨z1, z2⟩ := List.mem_filter.mp z
    exact ⟨hok _ z1, by
      cases e : q.2.high with
      | none => rfl
      | some h =>
        rw [e] at z2
        cases z2⟩
  have ook : ∀ q ∈ os, q.2.Ok := fun q hq => hok _ ((hrs _).mpr (.inr (List.mem_map.mpr ⟨q, hq, rfl⟩)))
  have gz : gs.length ≤ 1000 := by
    have z := congrArg List.length hgs
    rw [List.length_map] at z
    have := List.length_filter_le (fun r : Rl => r.high.isNone) rs
    omega
  have oz : os.length ≤ 1000 := by
    have z := congrArg List.length hos
    rw [List.length_map] at z
    have := List.length_filter_le (fun r : Rl => !r.high.isNone) rs
    omega
  have gall : ∀ r ∈ gs.map (·.2), Grw r := fun r hr => by
    obtain ⟨q, hq, rfl⟩ := List.mem_map.mp hr
    exact gok q hq
  exact k H4 dx' GL OL TL BT GR gs os (e3.trans e4) (fr _ nTL) (fr _ nBT) (fr _ nGR) ⟨hp, mk.gs, mk.os, mk.told, mk.by_, mk.gr, ⟨.nil, fun kv h => by cases h⟩, fun u => ⟨fun z => (by cases z), fun z => absurd z (grow_none gall)⟩, Int.le_refl _, fun j h0 h1 => by omega, Nat.zero_le _⟩
    ⟨mk.ne3, mk.ne1, mk.ne2, gz, oz, gok, ook⟩ hrs
/-- what was there before the table stays, whatever it reckons -/
theorem ex_del4 {p GR BT TL : Addr} {H H1 H2 : Hp} (e : Ex H H1) (np : H p = none) (n1 : H GR = none) (n2 : H BT = none) (n3 : H TL = none) (e2 : Ex (del4 p GR BT TL H1) H2) : Ex H H2 := fun a o ha =>
  e2 a o (del4_in (ne_of_none ha np) (ne_of_none ha n1) (ne_of_none ha n2) (ne_of_none ha n3) (e _ _ ha))
/-- what first_wrong makes of the lambda -/
def TFirst (CB : Addr) : V → V → (V → Hp → VK → Prop) → Hp → VK → Prop := fun v0 v2 tl H Q => ∃ (b : Addr) (rs : List Rl) (xs : List Int), v0 = .ref b ∧ v2 = .int (xs.length : Nat) ∧ BookAt CB H b rs ∧ rs.length ≤ 1000 ∧ (∀ r ∈ rs, r.Ok) ∧ 1 ≤ xs.length ∧ xs.length ≤ 900 ∧
  (∀ (i : Nat) H' Q', i < xs.length → Ex H H' → Q' (.int (xs.getD i 0)) H' → tl (.int (i : Nat)) H' Q') ∧ ∀ H' v d, Ex H H' → FR rs xs d → FltAt H H' v d → Q v H'
theorem first_gives {X : Cx} {C CB fI fS fG fO fN fT f1 g : Addr} {fdI fdT fd1 : FuncData} {cdg : Value} {q : Str} (TC : TbC X.K X.mg C fI fS fG fO fN fT) (T : Bl X.mg)
    (F_init : Fun X.K "__init__" "Table.__init__" s_tinit fI fdI) (G_init : FnOk X.prog X.w X.K X.mg X.base CX0 2 fI fdI ["self", "book"] (spTinit C CB))
    (F_to : Fun X.K "reckon_to" "Table.reckon_to" s_tto fT fdT) (G_to : FnOk X.prog X.w X.K X.mg X.base CX0 6 fT fdT ["self", "most"] (spTo C))
    (F_wrong : FD X.K X.mg "wrong_value" "wrong_value" s_wrong f1 fd1) (G_wrong : FnOk X.prog X.w X.K X.mg X.base CX0 6 f1 fd1 ["book", "table", "heap", "told"] (spWrong C CB)) :
    Gives3 X ["book", "told_at", "end", "table", "heap", "told"] "first_wrong" (defScope s_first) g cdg (defBody s_first) "told_at" 1 q (TFirst CB) := by
  intro f c' s H v0 v2 Q tl act hr6 hc h
  have b_init : Binds X.K fdI ["self", "book"] [] := F_init.binds fun _ _ _ _ _ _ us hl => match us, hl with | [_, _], _ => rfl
  have b_to : Binds X.K fdT ["self", "most"] [] := F_to.binds fun _ _ _ _ _ _ us hl => match us, hl with | [_, _], _ => rfl
  have b_wrong : Binds X.K fd1 ["book", "table", "heap", "told"] [] := F_wrong.F.binds fun _ _ _ _ _ _ us hl => match us, hl with | [_, _, _, _], _ => rfl
  have nd := sc_first.nd
  have hr3 : Room 3 (X.A.deeper (PyProof.Rows.envOfC "first_wrong" (defScope s_first) s.heap.objs.size g cdg)) := hr6.mono (by decide)
  refine ⟨_, (pss_cons (ps_set (i := 3) nd rfl (Or.inl rfl) (pe_make TC.made G_init hr3 (by rfl) TC.gC b_init .nil pass0 (pa_cons (pv 0) pa_nil)))
    (pss_cons (ps_for PassesOwn.never rfl (pi_range1 (by rfl) T.range (pa_cons (pv 2) pa_nil)) (pg_name (i := 4) nd rfl (Or.inl rfl))
      (pss_cons (ps_expr (pe_meth (pv 3) TC.cl TC.mT G_to hr6 b_to .nil pass0 (pa_cons (pv 4) pa_nil)))
      (pss_cons (ps_set (i := 5) nd rfl (Or.inl rfl) (act (pv 4) rfl))
      (pss_one (ps_if (pt_cmpR op_ne (pv 5) (pe_ix (r := rIx X.K) ix_seq (pe_fld (pv 3) rfl) (pv 4) (fun _ _ => rfl)) (nomark _)) (pss_one (ps_ret (pe_call G_wrong hr6 (by rfl) F_wrong.g F_wrong.F.kp b_wrong .nil pass0 (pa_cons (pv 0) (pa_cons (pv 3) (pa_cons (pv 4) (pa_cons (pv 5) pa_nil))))))) pss_nil)))))
    (pss_one (ps_ret pe_non)))), ?_⟩
  obtain ⟨b, rs, xs, rfl, rfl, hb, hz, ok, x1, x9, hl, k⟩ := h
  refine ⟨_, rfl, fun p dx np ndx hne => ?_⟩
  refine tb_start np ndx hb hz ok fun H4 dx' GL OL TL BT GR gs os e4 n1 n2 n3 S0 c0 hrs => ⟨rfl, ?_⟩
  refine gn1 ?_
  dsimp only
  refine ⟨_, rfl, _, rfl, by omega, by omega, for_range (lo := 0) (n := ((xs.length : Nat) : Int).toNat) (fun i σ H' => ∃ (ts : List Int) (kvs : List (Key × V)) (gk : List Int) (bs : Int) (v4 v5 : Option V), σ = [some (.ref b), some (.ref f), some (.int (xs.length : Nat)), some (.ref p), v4, v5] ∧ Ex H H' ∧ TbS C p dx' GL OL TL BT GR gs os H' ts kvs gk bs ∧ Right rs ts ∧ ts.length ≤ i + 1 ∧ (i = 0 ∨ Right rs (xs.take i)))
    ⟨[0], [], [], 0, none, none, rfl, e4, S0, Right.one _, Nat.le_refl _, .inl rfl⟩ (fun i σ H' hi q => ?_) (fun σ H' q => ?_)⟩
  · obtain ⟨ts, kvs, gk, bs, v4, v5, rfl, e, S, rt, lt, pr⟩ := q
    have hi : i < xs.length := by simpa using hi
    refine gn1 ?_
    rw [Int.zero_add]
    refine ⟨_, rfl, p, dx', _, rfl, S.at_, rfl, _, rfl, p, dx', GL, OL, TL, BT, GR, gs, os, ts, kvs, gk, bs, (i : Int), rs, rfl, S, c0, hrs, rt, by omega, by omega, fun H5 ts5 kv5 gk5 bs5 e5 S5 l5 r5 => ?_⟩
    have eH : Ex H H5 := ex_del4 e np n3 n2 n1 e5
    have l5 : ts5.length = i + 1 := by omega
    have pref : ts5.take i = xs.take i := by
      rcases pr with z | pr
      · rw [z, List.take_zero, List.take_zero]
      · by_cases z : i = 0
        · rw [z, List.take_zero, List.take_zero]
        · exact (r5.take (n := i) (by omega) (by omega)).uniq pr (by rw [List.length_take, List.length_take]; omega)
    dsimp only
    refine seq1 (asg1 ⟨rfl, _, rfl, eH _ _ hc, hl i H5 _ hi eH ?_⟩)
    refine gn1 ?_
    refine ⟨_, rfl, _, rfl, p, C, dx', _, _, rfl, S5.at_, TC.cl, TC.nT, rfl, _, rfl, ix_row (.inl S5.told) (at_told (by omega) (by omega)) ⟨rfl, _, rfl, ?_⟩⟩
    by_cases c : xs.getD i 0 = ts5.getD i 0
    · have z : decide (V.int (xs.getD i 0) = V.int (ts5.getD (i : Int).toNat 0)) = true := by
        rw [dec_int]
        exact beq_iff_eq.mpr c
      refine ite_ff (by rw [z]; rfl) ?_
      refine ⟨ts5, kv5, gk5, bs5, _, _, rfl, eH, S5, r5, by omega, .inr ?_⟩
      have w : xs.take (i + 1) = ts5 := by
        rw [take_snoc hi, ← pref, c, ← take_snoc (by omega)]
        exact List.take_of_length_le (by omega)
      rw [w]
      exact r5
    · have z : decide (V.int (xs.getD i 0) = V.int (ts5.getD (i : Int).toNat 0)) = false := by
        rw [dec_int]
        exact beq_eq_false_iff_ne.mpr c
      refine ite_tt (by rw [z]; rfl) ?_
      exact ⟨_, rfl, _, rfl, _, rfl, _, rfl, b, p, dx', GL, OL, TL, BT, GR, bs5, (i : Int), xs.getD i 0, rs, ts5, rfl, hb.ex eH, hz, ok, S5.at_, S5.told, by omega, by omega, by omega, fun H6 v l e6 ho fl => k H6 v _ (eH.trans e6) (.inr ⟨i, ts5, l, hi, r5, l5, pref, c, ho, rfl⟩) (fl.ground eH)⟩
  · obtain ⟨ts, kvs, gk, bs, v4, v5, rfl, e, S, rt, lt, pr⟩ := q
    refine k H' .non .none e (.inl ⟨?_, rfl⟩) (.inl ⟨rfl, rfl⟩)
    rcases pr with z | pr
    · omega
    · rw [List.take_of_length_le (by omega)] at pr
      exact pr
end
end Ts


set_option Elab.async false
set_option linter.all false
set_option maxRecDepth 100000
set_option maxHeartbeats 4000000
namespace Ts
open PySem PySem.Spec L2
open Evl (Ex)
/-! ## several except clauses, with and without a name; nothing else may come -/
abbrev Suite := Addr → Value → Option Addr → TS
/-- the ends behind a suite whose name is let go -/
def lets (i : Nat) (D : Ends) : Ends := { nx := fun σ H => D.nx (σ.set i none) H, rt := D.rt, bk := fun σ H => D.bk (σ.set i none) H, ct := fun σ H => D.ct (σ.set i none) H }
def wClauses (K : PySem.W.Frag) (i : Nat) (D : Ends) : List (Value × Bool × Suite) → WX
  | [] => fun _ _ _ _ => False
  | (c, true, ts) :: r => fun cls d σ H => ∃ b, PySem.W.exmOne K cls c = some b ∧ (b = true → ∀ a, H a = none → i < σ.length → ts a cls d (lets i D) (σ.set i (some (.ref a))) H) ∧ (b = false → wClauses K i D r cls d σ H)
  | (c, false, ts) :: r => fun cls d σ H => ∃ b, PySem.W.exmOne K cls c = some b ∧ (b = true → ∀ a, H a = none → ts a cls d D σ H) ∧ (b = false → wClauses K i D r cls d σ H)
def SuiteOk (X : Cx) (st : List Stmt) (ts : Suite) : Prop := ∀ (a : Addr) (oe : Obj) (cls : Value) (d : Option Addr) (pn : List (Addr × Obj)), Zc cls d oe → (∃ vs, oe.data = .fields vs) → PSs (X.suite a ((a, oe) :: pn)) st (ts a cls d)
inductive Clauses (X : Cx) (n : Str) : List ExceptHandler → List (Value × Bool × Suite) → Prop
  | nil : Clauses X n [] []
  | as_ {x : Str} {c : Value} {ts : Suite} {b₀ : Stmt} {st : List Stmt} {np p : Pos} {hds : List ExceptHandler} {l : List (Value × Bool × Suite)} (hc : Names X x c) (hs : SuiteOk X (b₀ :: st) ts) (r : Clauses X n hds l) :
      Clauses X n (.ExceptHandler (some (.Name x np)) (some n) (b₀ :: st) p :: hds) ((c, true, ts) :: l)
  | bare {x : Str} {c : Value} {ts : Suite} {b₀ : Stmt} {st : List Stmt} {np p : Pos} {hds : List ExceptHandler} {l : List (Value × Bool × Suite)} (hc : Names X x c) (hs : SuiteOk X (b₀ :: st) ts) (r : Clauses X n hds l) :
      Clauses X n (.ExceptHandler (some (.Name x np)) none (b₀ :: st) p :: hds) ((c, false, ts) :: l)
section
variable {X : Cx} {n : Str} {i : Nat} {body : List Stmt} {h₀ : ExceptHandler} {hds : List ExceptHandler} {l : List (Value × Bool × Suite)} {pos : Pos} {tb : WX → TS}
theorem ps_clauses (hs : X.stack = X.env :: X.outer) (hf : X.env.frame = some X.env.locals) (hN : X.N.Nodup) (hi : X.N[i]? = some n) (hln : X.env.kindOf n = some .local)
    (hb : ∀ (W : WX) (pn : List (Addr × Obj)) (xe : Value → Shared → Prop), Takes (X.tr pn xe) W → PSs (X.tr pn xe) body (tb W))
    (hh : Clauses X n (h₀ :: hds) l) : L2.PS X (.Try body (h₀ :: hds) [] [] pos) (fun D σ H => tb (wClauses X.K i D l) D σ H) := by
  refine ⟨fun pins s σ H D I h => wpAny_Try_except ?_⟩
  have hfr : X.A.frames = some (X.env :: X.outer) := by rw [I.ok.frames, hs]
  have hloc : Loc X.env.scope n := .inl hln
  let now : Value → Shared → Prop := fun e s1 => wpAny (model X.prog X.w) X.A (noteFrame e X.env) (fun _ s2 => wpAny (model X.prog X.w) X.A (setFlight e none) (fun _ s3 => wpAny (model X.prog X.w) X.A (handleBy e X.env (h₀ :: hds)) (SP X pins D) X.xe s3) X.xe s2) X.xe s1
  have got : Takes (X.tr (X.pn ++ pins) now) (wClauses X.K i D l) := by
    intro u s' xx
    obtain ⟨a, B, sI, pins', σ', H', cls, d, rfl, J', nb, up, sky, na, os, ag, w⟩ := xx
    have J : Inv X pins σ' H' sI := J'.ofTry I.ok
    show wpAny (model X.prog X.w) X.A (noteFrame (.ref a) X.env) _ _ _
    refine Sky.land Zc.steady hfr hf (show Sky B (X.env :: X.outer) a (Zc cls d) X.env.locals s'.heap from hs ▸ sky) fun h3 fl up3 => ?_
    have J3 : Inv X pins σ' H' { s' with heap := h3 } := J.landed nb fl.1 (up.trans up3) os ag
    obtain ⟨oe, vs, he, hz, hd⟩ := fl.there
    have aside : a ∉ frs (X.env :: X.outer) := fun hm => by
      obtain ⟨_, o2, g1, g2⟩ := fl.2.2.1.mem hm
      rw [he] at g1
      cases g1
      exact g2 _ hd
    have nL : a ≠ X.env.locals := fun z => aside (List.mem_filterMap.mpr ⟨X.env, .head _, by rw [hf, z]⟩)
    have nF : a ∉ X.fs := fun hm => by
      obtain ⟨e, q1, q2⟩ := List.mem_filterMap.mp hm
      exact aside (List.mem_filterMap.mpr ⟨e, .tail _ q1, q2⟩)
    have S3 := J3.suite he hd na nL nF
    -- a clause's class, looked up
    have named : ∀ {x : Str} {c : Value} {np : Pos} {Q E : Value → Shared → Prop}, Names X x c → Q c { s' with heap := h3 } → wpAny (model X.prog X.w) (X.A.mark (some (.ref a))) (eval (.Name x np) X.env) Q E { s' with heap := h3 } := by
      intro x c np Q E hc q
      rcases hc with ⟨g, gd, g2 | ⟨g2, g3, g4⟩⟩
      · exact ld_glob (X := X.suite a ((a, oe) :: (X.pn ++ pins))) S3 g g2 q gd
      · exact ld_blt (X := X.suite a ((a, oe) :: (X.pn ++ pins))) S3 g g2 g3 q g4 gd
    have asks : ∀ {c : Value} {b : Bool}, PySem.W.exmOne X.K cls c = some b → _ := fun {c b} hb1 =>
      PySem.W.exm_one (M := model X.prog X.w) J3.kIn (fun A Q E s k q => wpAny_typeOf_ref (k _ _ he) (by rw [hz.1]; exact q)) hb1
    have turn : ∀ {hk : List ExceptHandler} {lk : List (Value × Bool × Suite)}, Clauses X n hk lk → wClauses X.K i D lk cls d σ' H' → wpAny (model X.prog X.w) X.A (handleBy (.ref a) X.env hk) (SP X pins D) X.xe { s' with heap := h3 } := by
      intro hk lk hc
      induction hc with
      | nil => exact fun w => w.elim
      | @as_ x c ts b₀ st np p hds2 l2 hc hsu r ih =>
        rintro ⟨b, hb1, yes, no⟩
        refine wpAny_handleBy_cons (codeAny_handlers_test ?_) (fun q => nomatch q)
        refine named hc ((asks hb1).here ?_)
        cases b with
        | false => exact ih (no rfl)
        | true =>
          refine codeAny_handlers_suite_as (HandSPX.lands_againZ fl fun h4 fl4 up4 => ?_)
          have J4 : Inv X pins σ' H' { s' with heap := h4 } := J.landed nb fl4.1 ((up.trans up3).trans up4) os ag
          obtain ⟨oe4, vs4, he4, hz4, hd4⟩ := fl4.there
          refine store_ok (X := X.suite a ((a, oe4) :: (X.pn ++ pins))) (v := .ref a) (J4.suite he4 hd4 na nL nF) hN hi hloc rfl (fun s5 S5 => ?_) (.inr hln)
          refine wpAny_mono ((hsu a oe4 cls d (X.pn ++ pins) hz4 ⟨_, hd4⟩).run [] s5 _ H' _ S5 (yes rfl a na (by rw [J.len]; exact (List.getElem?_eq_some_iff.mp hi).1))) (fun f s6 hsp => ?_) (fun _ _ z => z.elim)
          have fin : ∀ {σ6 : L2.St} {H6 : Hp} {Q : Shared → Prop}, Inv (X.suite a ((a, oe4) :: (X.pn ++ pins))) [] σ6 H6 s6 → (∀ s7, Inv X pins (σ6.set i none) H6 s7 → Q s7) →
              wpAny (model X.prog X.w) X.A (do bindName X.env n .none; unbindBehindTheSuite X.env n p) (fun _ s7 => Q s7) X.xe s6 := fun S6 hq => gone_ok (S6.unsuite I.ok) hN hi hln hq
          cases f <;> first
            | (obtain ⟨σ6, H6, S6, q6⟩ := hsp; exact fin S6 fun s7 J7 => ⟨_, _, J7, q6⟩)
            | (obtain ⟨v6, σ6, H6, S6, r6, q6⟩ := hsp; exact fin S6 fun s7 J7 => ⟨_, _, _, J7, r6, q6⟩)
      | @bare x c ts b₀ st np p hds2 l2 hc hsu r ih =>
        rintro ⟨b, hb1, yes, no⟩
        refine wpAny_handleBy_cons (codeAny_handlers_test ?_) (fun q => nomatch q)
        refine named hc ((asks hb1).here ?_)
        cases b with
        | false => exact ih (no rfl)
        | true =>
          refine codeAny_handlers_suite (HandSPX.lands_againZ fl fun h4 fl4 up4 => ?_)
          have J4 : Inv X pins σ' H' { s' with heap := h4 } := J.landed nb fl4.1 ((up.trans up3).trans up4) os ag
          obtain ⟨oe4, vs4, he4, hz4, hd4⟩ := fl4.there
          refine wpAny_mono ((hsu a oe4 cls d (X.pn ++ pins) hz4 ⟨_, hd4⟩).run [] _ _ H' _ (J4.suite he4 hd4 na nL nF) (yes rfl a na)) (fun f s6 hsp => ?_) (fun _ _ z => z.elim)
          cases f <;> first
            | (obtain ⟨σ6, H6, S6, q6⟩ := hsp; exact ⟨_, _, S6.unsuite I.ok, q6⟩)
            | (obtain ⟨v6, σ6, H6, S6, r6, q6⟩ := hsp; exact ⟨_, _, _, S6.unsuite I.ok, r6, q6⟩)
    exact turn hh w
  refine wpAny_mono ((hb (wClauses X.K i D l) (X.pn ++ pins) now got).run [] s σ H D (I.toTry _) h) (fun f s1 hsp => ?_) (fun e s1 he => he)
  cases f <;> first
    | (obtain ⟨σ', H', J', q⟩ := hsp; exact wpAny_execs_nil ⟨σ', H', J'.ofTry I.ok, q⟩)
    | (obtain ⟨σ', H', J', q⟩ := hsp; exact ⟨σ', H', J'.ofTry I.ok, q⟩)
    | (obtain ⟨v, σ', H', J', r, q⟩ := hsp; exact ⟨v, σ', H', J'.ofTry I.ok, r, q⟩)
end
end Ts


set_option Elab.async false
set_option linter.all false
set_option maxRecDepth 100000
set_option maxHeartbeats 4000000
namespace Ts
open PySem PySem.Spec L2
open Evl (Ex)
/-! ## what is told, or how it is refused -/
structure Errs (K : PySem.W.Frag) (mg : Str → Option Value) (CN gN : Addr) : Prop where
  n : XC K mg "BadBook" "thing" CN gN
  nn : PySem.W.exmOne K (.ref CN) (.ref CN) = some true
def EM (CN : Addr) (Q : VK) : XK := fun cls d H' => cls = .ref CN ∧ ∃ dd v, d = some dd ∧ H' dd = some (.xd [(("thing" : Str), v)]) ∧ ∀ p, H' p = none → Q (.ref p) (upd H' p (.tup [.str "book", v]))
def TMet (CN : Addr) : (XK → Hp → VK → Prop) → Hp → VK → Prop := fun tl H Q => tl (EM CN Q) H fun v H' => 2 ≤ sizeLine ∧ ∀ p, H' p = none → Q (.ref p) (upd H' p (.tup [.str "told", v]))
section
variable {X : Cx} {CN gN : Addr}
abbrev s_met := top 56
theorem sc_met : FnScope ["ask", "e"] ["ask"] (defScope s_met) := ⟨rfl, rfl, rfl, by decide +kernel, rfl, by decide +kernel, by decide +kernel⟩
/-- return (word, e.thing) -/
def tSaid (C : Addr) (w : Str) : Suite := fun a cls d => tRet (tTup (tCons (tC (.str w)) (tCons (tXf a cls d C "thing" (tVar 1)) tNil)))
theorem said {C : Addr} {w : Str} {a dd : Addr} {v : V} {σ : L2.St} {H : Hp} {D : Ends} (hl : 1 < σ.length) (hx : H dd = some (.xd [(("thing" : Str), v)])) (q : ∀ p, H p = none → D.rt (.ref p) (upd H p (.tup [.str w, v]))) :
    tSaid C w a (.ref C) (some dd) (lets 1 D) (σ.set 1 (some (.ref a))) H :=
  ⟨.ref a, List.getElem?_set_self hl, rfl, rfl, dd, _, v, rfl, hx, by simp [List.lookup], by show 2 ≤ sizeLine; decide, q⟩
theorem met_gives (M : Errs X.K X.mg CN gN) {g : Addr} {cdg : Value} {q : Str} :
    LamX.GivesTo X ["ask", "e"] "_law_met" (defScope s_met) g cdg (defBody s_met) "ask" q (TMet CN) := by
  intro f c' s H Q tl act hc h
  refine ⟨_, pss_one (ps_clauses (X := (cxOf C8.CX0 X.prog X.w X.K X.mg X.base ["ask", "e"] "_law_met" (defScope s_met) g cdg X.A X.stack s H C8.E0).nox) (i := 1) (n := "e")
      (l := [(.ref CN, true, tSaid CN "book")])
      (tb := fun W D σ H => ∃ Ech : XK, (∀ cls d σ' H', Ech cls d H' → W cls d σ' H') ∧ σ[0]? = some (some (.ref f)) ∧ H c' = some (LamX.CodeO c' q) ∧ tl Ech H fun v H1 => 2 ≤ sizeLine ∧ ∀ p, H1 p = none → D.rt (.ref p) (upd H1 p (.tup [.str "told", v])))
      rfl rfl sc_met.nd rfl rfl (fun W pn xe tk => ?_) ?_), ?_⟩
  · refine ⟨fun pins s' σ H' D I h' => ?_⟩
    obtain ⟨Ech, hW, h1, h2, h3⟩ := h'
    have hp := fun p1 p2 => act W pn xe Ech p1 p2 tk hW
    exact (pss_one (ps_ret (pe_tup (pa_cons pe_str (pa_cons (hp _ _) pa_nil))))).run pins s' σ H' D I ⟨h1, h2, h3⟩
  · have sd : ∀ {x : Str} {C gg : Addr}, XC X.K X.mg x "thing" C gg → Gl (cxOf C8.CX0 X.prog X.w X.K X.mg X.base ["ask", "e"] "_law_met" (defScope s_met) g cdg X.A X.stack s H C8.E0).nox x → (x == ("__debug__" : Str)) = false → Names (cxOf C8.CX0 X.prog X.w X.K X.mg X.base ["ask", "e"] "_law_met" (defScope s_met) g cdg X.A X.stack s H C8.E0).nox x (.ref C) :=
      fun T hg hd => ⟨hg, hd, .inl T.gC⟩
    refine .as_ (sd M.n rfl rfl) (fun a oe cls d pn hz hf => pss_one (ps_ret (pe_tup (pa_cons pe_str (pa_cons (pe_xf M.n.xf M.n.nF hz hf (pv 1)) pa_nil))))) ?_
    exact .nil
  · refine ⟨EM CN Q, ?_, rfl, hc, ?_⟩
    · rintro cls d σ' H' ⟨rfl, dd, v, rfl, hx, k⟩
      exact ⟨_, M.nn, fun _ a na hl => said hl hx k, fun z => (nomatch z)⟩
    · exact h
end
end Ts


set_option Elab.async false
set_option linter.all false
set_option maxRecDepth 100000
set_option maxHeartbeats 4000000
namespace Ts
open PySem PySem.Spec L2 LamX
open Evl (Ex)
section
variable {P : Program} {w : World} {K : PySem.W.Frag} {mg : Str → Option Value} {base : Heap}
/-- a def whose code object is known -/
theorem okC {x q : Str} {st : Stmt} {f c : Addr} {N ps : List Str} {k : Nat} {sp : Sp} {oc kV doc pm ct : Value} {od an : Option Addr} {osl : Array (Option Value)}
    (lk : K.lookup f = some ⟨oc, od, .func (PySem.W.fnOf x q (defArgs st) (defBody st) (defScope st) .none kV doc pm an (.ref c) ct), osl⟩) (hcd : PySem.W.codeIn K (.ref c) q = true) (S : FnScope N ps (defScope st)) (ln : ∀ vs H Q E, sp vs H Q E → vs.length = ps.length)
    (hb : ∀ (A : Around) (outer : List Env) (s : Shared) (H : Hp) (vs : List V) (Q : VK) (E : XK), Room k (A.deeper (PyProof.Rows.envOfC q (defScope st) s.heap.objs.size f (.ref c))) → sp vs H Q E →
      ∃ t, PSs (cxOf CX0 P w K mg base N q (defScope st) f (.ref c) A outer s H E).nox (defBody st) t ∧ t { nx := fun _ H' => Q .non H', rt := Q } (L2.start N vs) H) :
    FnOk P w K mg base CX0 (k + 1) f (PySem.W.fnOf x q (defArgs st) (defBody st) (defScope st) .none kV doc pm an (.ref c) ct) ps sp :=
  fn_of lk hcd S ln fun A outer s H vs Q E hr hsp => by
    obtain ⟨t, h, q⟩ := hb A outer s H vs Q E hr hsp
    exact ⟨t, h.nox, q⟩
end
section
variable {X : Cx} {CN gN : Addr}
theorem pe_met (M : Errs X.K X.mg CN gN) {g c T : Addr} {fd : FuncData} {k : Nat} {params : Arguments} {body : Expr} {scope : Scope} {t : XK → TE} {p lpos pos : Pos}
    (F : FD X.K X.mg "_law_met" "_law_met" s_met g fd) (hg : Gl X "_law_met") (TB : TabB X.base X.mg c T) (hcode : X.env.code = .ref c) (hr : Room (k + 2) X.A) (L : LamS X.env.scope scope) (hdef : defaultsOf params X.env = ([], []))
    (hbind : ∀ (q : Str) (cl : List (Str × Addr)) (pm cv ctv : Value), bindArgs (PySem.W.kla_fn "<lambda>" q params body scope cl pm cv ctv) ⟨[], []⟩ = pure [])
    (hbody : ∀ (A : Around) (outer : List Env) (s : Shared) (H : Hp) (E : XK) (f c' : Addr), Room k (A.deeper (lamEnv X scope s.heap.objs.size f c')) → PE (lamCx X A outer s H E scope f c') body (t E)) :
    PE X (.Call (.Name "_law_met" p) [.Lambda params body scope lpos] [] pos) (tLam [(T, X.env.qual ++ "<lambda>")] (TMet CN) t) := by
  obtain ⟨oc, od, kV, doc, pm, an, cdv, ct, osl, hfd, lk, hcd⟩ := F.F.ex
  subst hfd
  refine pe_lamcall (a := "ask") (Ng := ["ask", "e"]) hg F.g F.F.kp lk hcd (F.F.binds fun _ _ _ _ _ _ us hl => match us, hl with | [_], _ => rfl) sc_met rfl (Or.inl rfl) (met_gives M) TB hcode (.head _) (fun p hp _ => ?_) hr L hdef hbind hbody
  rw [List.mem_singleton] at hp
  rw [hp]
end
/-! ## what stands where tables grow -/
/-- a heap without its tables -/
def nt (H : Hp) : Hp := fun b => match H b with
  | some (.tbl _) => none
  | o => o
theorem nt_of {H : Hp} {b : Addr} {o : HO} (h : nt H b = some o) : H b = some o ∧ ∀ ps, o ≠ .tbl ps := by
  unfold nt at h
  cases e : H b with
  | none =>
    rw [e] at h
    cases h
  | some u =>
    rw [e] at h
    cases u <;> first
      | (cases h; done)
      | (cases h; exact ⟨rfl, fun ps z => by cases z⟩)
theorem nt_at {H : Hp} {b : Addr} {o : HO} (h : H b = some o) (hn : ∀ ps, o ≠ .tbl ps) : nt H b = some o := by
  unfold nt
  rw [h]
  cases o <;> first
    | rfl
    | exact (hn _ rfl).elim
mutual
theorem D.nt {H : Hp} : ∀ {v : V} {d : PyData}, D H v d → D (Ts.nt H) v d
  | _, _, .non => .non
  | _, _, .bl b => .bl b
  | _, _, .int i => .int i
  | _, _, .str x => .str x
  | _, _, .lst h r => .lst (nt_at h fun _ z => by cases z) (DAll.nt r)
  | _, _, .tup h r => .tup (nt_at h fun _ z => by cases z) (DAll.nt r)
  | _, _, .dic h r => .dic (nt_at h fun _ z => by cases z) (DKv.nt r)
theorem DAll.nt {H : Hp} : ∀ {v : List V} {d : List PyData}, DAll H v d → DAll (Ts.nt H) v d
  | _, _, .nil => .nil
  | _, _, .cons h r => .cons (D.nt h) (DAll.nt r)
theorem DKv.nt {H : Hp} : ∀ {v : List (Key × V)} {d : List (PyData × PyData)}, DKv H v d → DKv (Ts.nt H) v d
  | _, _, .nil => .nil
  | _, _, .cons h r => .cons (D.nt h) (DKv.nt r)
end
/-- what a region holds is no table -/
def NoT (R : Hp) : Prop := ∀ b o, R b = some o → ∀ ps, o ≠ .tbl ps
theorem nt_no (H : Hp) : NoT (nt H) := fun _ _ h => (nt_of h).2
/-- a region held, the tables told -/
structure Tst (T : List (Addr × Str)) (R H : Hp) : Prop where
  n : NoT R
  r : Ex R H
  t : Tabs T H
theorem Tst.ex {T : List (Addr × Str)} {R H H' : Hp} (s : Tst T R H) (e : Ex H H') : Tst T R H' := ⟨s.n, s.r.trans e, s.t.ext e⟩
theorem Tst.extN {T : List (Addr × Str)} {R H H' : Hp} (s : Tst T R H) (e : ExtN H H') (t : Tabs T H') : Tst T R H' := ⟨s.n, fun b o h => e b o (s.r b o h) (s.n b o h), t⟩
/-- what is new is held from now on -/
theorem Tst.add {T : List (Addr × Str)} {R H : Hp} {z : Addr} {o : HO} (s : Tst T R H) (hz : H z = some o) (hn : ∀ ps, o ≠ .tbl ps) (hr : R z = none) : Tst T (upd R z o) H :=
  ⟨fun b u h => by
    by_cases hb : b = z
    · rw [hb, upd_same] at h
      cases h
      exact hn
    · rw [upd_ne hb] at h
      exact s.n b u h, fun b u h => by
    by_cases hb : b = z
    · rw [hb, upd_same] at h
      cases h
      rw [hb]
      exact hz
    · rw [upd_ne hb] at h
      exact s.r b u h, s.t⟩
theorem Tst.no {T : List (Addr × Str)} {R H : Hp} (s : Tst T R H) {z : Addr} (h : H z = none) : R z = none := Evl.fresh_back s.r h
/-- an object that is no table and of no region changes -/
theorem Tst.mut {T : List (Addr × Str)} {R H : Hp} {z : Addr} {xs ys : List V} (s : Tst T R H) (hz : H z = some (.lst xs)) (hr : R z = none) : Tst T R (upd H z (.lst ys)) :=
  ⟨s.n, s.r.mut hr, fun p hp => by
    obtain ⟨ps, h1, h2, h3⟩ := s.t p hp
    have n1 : p.1 ≠ z := fun q => by
      rw [q, hz] at h1
      cases h1
    refine ⟨ps, by rw [upd_ne n1]; exact h1, h2, fun po cv hc => ?_⟩
    obtain ⟨cc, e1, e2⟩ := h3 po cv hc
    refine ⟨cc, e1, ?_⟩
    have n2 : cc ≠ z := fun q => by
      rw [q, hz] at e2
      cases e2
    rw [upd_ne n2]
    exact e2⟩
end Ts


set_option Elab.async false
set_option linter.all false
set_option maxRecDepth 100000
set_option maxHeartbeats 8000000
namespace Ts
open PySem PySem.Spec L2 LamX
open Evl (Ex)
theorem Tst.weak {T : List (Addr × Str)} {R R' H : Hp} (s : Tst T R H) (e : Ex R' R) : Tst T R' H := ⟨fun b o h => s.n b o (e b o h), e.trans s.r, s.t⟩
theorem met_ref {CN : Addr} {x : V} {T : List (Addr × Str)} {R H : Hp} {Q : VK} {tt : XK → TE} {σ : L2.St} (t : Tst T R H)
    (hc : ∀ (H2 : Hp) (E : XK) (q : VK), Tst T R H2 → (∀ Hc, Ex H2 Hc → Raised Hc "thing" x CN E) → tt E σ H2 q)
    (k : ∀ H' p, Tst T (upd R p (.tup [.str "book", x])) H' → R p = none → Q (.ref p) H') : tLam T (TMet CN) tt σ H Q :=
  ⟨t.t, fun H2 eN t2 => hc H2 _ _ (t.extN eN t2) fun Hc ec d H3 e3 nd hd => ⟨rfl, d, x, rfl, hd, fun p np =>
    have t3 : Tst T R H3 := (t.extN eN t2).ex (ec.trans e3)
    k _ p ((t3.ex (Ex.new np)).add upd_same (fun _ z => by cases z) (t3.no np)) (t3.no np)⟩⟩
theorem d_pair {H : Hp} {p : Addr} {w : Str} {x : V} {d : PyData} (h : H p = some (.tup [.str w, x])) (hx : D H x d) : D H (.ref p) (.tuple [.str w, d]) := .tup h (.cons (.str w) (.cons hx .nil))
theorem ok_pair {w : Str} {d : PyData} (h : okD 3 d = true) : okD 4 (.tuple [.str w, d]) = true := by
  refine Bool.and_eq_true_iff.mpr ⟨decide_eq_true (by show 2 ≤ 90000; decide), ?_⟩
  show (true && (okD 3 d && true)) = true
  rw [h]
  rfl
theorem okD_up : ∀ {k : Nat} {d : PyData}, okD k d = true → okD (k + 1) d = true
  | _, .none, _ => rfl
  | _, .bool _, _ => rfl
  | _, .int _, _ => rfl
  | _, .str _, _ => rfl
  | 0, .list _, h => by cases h
  | 0, .tuple _, h => by cases h
  | 0, .dict _, h => by cases h
  | k + 1, .list l, h => by
    obtain ⟨h1, h2⟩ := Bool.and_eq_true_iff.mp h
    exact Bool.and_eq_true_iff.mpr ⟨h1, List.all_eq_true.mpr fun e he => okD_up (List.all_eq_true.mp h2 e he)⟩
  | k + 1, .tuple l, h => by
    obtain ⟨h1, h2⟩ := Bool.and_eq_true_iff.mp h
    exact Bool.and_eq_true_iff.mpr ⟨h1, List.all_eq_true.mpr fun e he => okD_up (List.all_eq_true.mp h2 e he)⟩
  | k + 1, .dict l, h => by
    obtain ⟨h1, h2⟩ := Bool.and_eq_true_iff.mp h
    exact Bool.and_eq_true_iff.mpr ⟨h1, okD_up h2⟩
theorem tabs_off {T : List (Addr × Str)} {H : Hp} {a c : Addr} {n : Int} (S : Strm H a c n) (t : Tabs T H) : Tabs T (off a c H) := fun p hp => by
  obtain ⟨ps, h1, h2, h3⟩ := t p hp
  obtain ⟨⟨cells, s1, s3, g1, g2, _⟩, _, _⟩ := S
  have k : ∀ (z : Addr) (o : HO), H z = some o → (∀ xs, o ≠ .lst xs) → off a c H z = some o := fun z o hz ho => by
    have n1 : z ≠ a := fun q => by
      rw [q, g1] at hz
      cases hz
      exact ho _ rfl
    have n2 : z ≠ c := fun q => by
      rw [q, g2] at hz
      cases hz
      exact ho _ rfl
    rw [off_ne n1 n2]
    exact hz
  refine ⟨ps, k _ _ h1 (fun _ z => by cases z), h2, fun pos cv hc => ?_⟩
  obtain ⟨cc, e1, e2⟩ := h3 pos cv hc
  exact ⟨cc, e1, k _ _ e2 (fun _ z => by unfold CodeO at z; cases z)⟩
theorem tabs_drawn {T : List (Addr × Str)} {H H' : Hp} {a c : Addr} {n : Int} (S : Strm H a c n) (t : Tabs T H) (e : Ex (off a c H) (off a c H')) : Tabs T H' := (tabs_off S t).ext fun b o h => off_of (e b o h)
end Ts


set_option Elab.async false
set_option linter.all false
set_option maxRecDepth 100000
set_option maxHeartbeats 4000000
namespace Ts
open PySem PySem.Spec L2 LamX
open Evl (Ex)
/-! ## values_fault -/
/-- what is told of any thing -/
def VD (rs : List Rl) (d e : PyData) : Prop := ((isNums d = false ∨ items d = []) ∧ e = .tuple [.str "form"]) ∨ ∃ xs : List Int, isNums d = true ∧ items d = xs.map .int ∧ 1 ≤ xs.length ∧ FR rs xs e
theorem VD.uniq {rs : List Rl} {d e e' : PyData} (h : VD rs d e) (h' : VD rs d e') : e = e' := by
  have no : ∀ {xs : List Int}, items d = xs.map .int → 1 ≤ xs.length → items d ≠ [] := fun {xs} a b c => by
    rw [c] at a
    have z := congrArg List.length a
    rw [List.length_map] at z
    simp at z
    omega
  rcases h with ⟨h, rfl⟩ | ⟨xs, h1, h2, h3, h4⟩ <;> rcases h' with ⟨g, rfl⟩ | ⟨ys, g1, g2, g3, g4⟩
  · rfl
  · rcases h with h | h
    · rw [h] at g1
      cases g1
    · exact (no g2 g3 h).elim
  · rcases g with h | h
    · rw [h] at h1
      cases h1
    · exact (no h2 h3 h).elim
  · have e : xs = ys := by
      have z := h2.symm.trans g2
      have inj : ∀ {a b : List Int}, a.map PyData.int = b.map PyData.int → a = b := fun {a} => by
        induction a with
        | nil => intro b h; cases b <;> simp_all
        | cons x r ih =>
          intro b h
          cases b with
          | nil => simp at h
          | cons y s =>
            simp only [List.map_cons, List.cons.injEq, PyData.int.injEq] at h
            rw [h.1, ih h.2]
      exact inj z
    rw [← e] at g4
    exact h4.uniq g4
theorem VD.congr {rs rs' : List Rl} (h : ∀ r, r ∈ rs ↔ r ∈ rs') {d e : PyData} (f : VD rs d e) : VD rs' d e := by
  rcases f with f | ⟨xs, h1, h2, h3, h4⟩
  · exact .inl f
  · exact .inr ⟨xs, h1, h2, h3, h4.congr h⟩
theorem nums_ints {d : PyData} (h : isNums d = true) : isRow d = true ∧ ∃ xs : List Int, items d = xs.map .int ∧ ∀ x ∈ xs, 0 ≤ x := by
  obtain ⟨h1, h2⟩ := Bool.and_eq_true_iff.mp h
  refine ⟨h1, ?_⟩
  generalize items d = l at h2
  induction l with
  | nil => exact ⟨[], rfl, fun x hx => by cases hx⟩
  | cons e r ih =>
    rw [List.all_cons, Bool.and_eq_true] at h2
    obtain ⟨xs, e1, e2⟩ := ih h2.2
    have z := h2.1
    cases e <;> first
      | (cases z; done)
      | skip
    rename_i i
    refine ⟨i :: xs, by rw [e1]; rfl, fun x hx => ?_⟩
    rcases List.mem_cons.mp hx with rfl | hx
    · exact of_decide_eq_true z
    · exact e2 x hx
theorem dall_ints {H : Hp} : ∀ {vs : List V} {xs : List Int}, DAll H vs (xs.map .int) → vs = xs.map V.int
  | [], [], .nil => rfl
  | v :: vs, x :: xs, .cons h r => by
    rw [h.int_of, dall_ints r]
    rfl
theorem ex_nt {H H' : Hp} (e : ExtN H H') : Ex (nt H) H' := fun b o h => e b o (nt_of h).1 (nt_of h).2
theorem BookAt.nt {C p : Addr} {H : Hp} {rs : List Rl} (h : BookAt C H p rs) : BookAt C (Ts.nt H) p rs := by
  obtain ⟨dx, L, qs, h1, h2, h3, h4⟩ := h
  exact ⟨dx, L, qs, nt_at h1 (fun _ z => by cases z), nt_at h2 (fun _ z => by cases z), fun q hq => nt_at (h3 q hq) (fun _ z => by cases z), h4⟩
section
variable {P : Program} {w : World} {K : PySem.W.Frag} {mg : Str → Option Value} {base : Heap}
abbrev s_vf := top 36
theorem sc_vf : FnScope ["book", "thing"] ["book", "thing"] (defScope s_vf) := ⟨rfl, rfl, rfl, by decide +kernel, rfl, by decide +kernel, by decide +kernel⟩
def lamV : Str := (PyProof.Rows.envOfC "values_fault" (defScope s_vf) 0 0 .none).qual ++ "<lambda>"
def spVf (CB CX : Addr) (TS : List (Addr × Str)) : Sp := fun vs H Q E => ∃ x y, vs = [x, y] ∧ ((∃ d, D H x d ∧ ∀ H', Ex H H' → Raised H' "thing" x CX E) ∨
  ∃ (b : Addr) (rs : List Rl) (d : PyData), x = .ref b ∧ Tabs TS H ∧ BookAt CB H b rs ∧ rs.length ≤ 1000 ∧ (∀ r ∈ rs, r.Ok) ∧ D H y d ∧ (items d).length ≤ 900 ∧ ∀ H' v e, ExtN H H' → Tabs TS H' → VD rs d e → FltAt (nt H) H' v e → Q v H')
theorem ok_vf {TS : List (Addr × Str)} {tab f c fI fS fG fO fN fT C CB CX f1 f2 f3 f4 : Addr} {fdI fdT fd1 fd2 fd3 fd4 : FuncData} {oc kV doc pm ct : Value} {od an : Option Addr} {osl : Array (Option Value)}
    (lk : K.lookup f = some ⟨oc, od, .func (PySem.W.fnOf "values_fault" "values_fault" (defArgs s_vf) (defBody s_vf) (defScope s_vf) .none kV doc pm an (.ref c) ct), osl⟩) (hcd : PySem.W.codeIn K (.ref c) "values_fault" = true) (TB : TabB base mg c tab)
    (hmT : (tab, lamV) ∈ TS) (hu : ∀ p ∈ TS, p.1 = tab → p.2 = lamV) (TC : TbC K mg C fI fS fG fO fN fT) (T : Bl mg)
    (F_nb : FD K mg "need_book" "need_book" s_need_book f1 fd1) (G_nb : FnOk P w K mg base (L2.CX P w) 3 f1 fd1 ["thing"] (spNeedB CB CX))
    (F_nums : FD K mg "is_numbers" "is_numbers" s_is_numbers f2 fd2) (G_nums : FnOk P w K mg base CX0 4 f2 fd2 ["thing"] (fun vs H Q E => ∃ v d, vs = [v] ∧ D H v d ∧ (items d).length ≤ 100000 ∧ ∀ H', Ex H H' → Q (.bl (isNums d)) H'))
    (F_first : FD K mg "first_wrong" "first_wrong" s_first f3 fd3)
    (F_init : Fun K "__init__" "Table.__init__" s_tinit fI fdI) (G_init : FnOk P w K mg base CX0 2 fI fdI ["self", "book"] (spTinit C CB))
    (F_to : Fun K "reckon_to" "Table.reckon_to" s_tto fT fdT) (G_to : FnOk P w K mg base CX0 6 fT fdT ["self", "most"] (spTo C))
    (F_wrong : FD K mg "wrong_value" "wrong_value" s_wrong f4 fd4) (G_wrong : FnOk P w K mg base CX0 6 f4 fd4 ["book", "table", "heap", "told"] (spWrong C CB)) :
    FnOk P w K mg base (L2.CX P w) 8 f (PySem.W.fnOf "values_fault" "values_fault" (defArgs s_vf) (defBody s_vf) (defScope s_vf) .none kV doc pm an (.ref c) ct) ["book", "thing"] (spVf CB CX TS) := by
  have b_nb : Binds K fd1 ["thing"] [] := F_nb.F.binds fun _ _ _ _ _ _ us hl => match us, hl with | [_], _ => rfl
  have b_nums : Binds K fd2 ["thing"] [] := F_nums.F.binds fun _ _ _ _ _ _ us hl => match us, hl with | [_], _ => rfl
  refine fn_of lk hcd sc_vf (fun vs H Q E h => ?_) (fun A outer s H vs Q E hr h => ?_)
  · obtain ⟨x, y, rfl, _⟩ := h
    rfl
  · obtain ⟨x, y, rfl, h⟩ := h
    have nd := sc_vf.nd
    have hr7 : Room (6 + 1) _ := hr
    obtain ⟨oc3, od3, kV3, doc3, pm3, an3, cdv3, ct3, osl3, hfd3, lk3, hcd3⟩ := F_first.F.ex
    subst hfd3
    refine ⟨_, (pss_cons (ps_expr (pe_call G_nb (hr.mono (by decide)) (by rfl) F_nb.g F_nb.F.kp b_nb .nil (passes_call (takes_of rfl rfl rfl rfl) (fun _ _ _ _ h => h)) (pa_cons (pv 0) pa_nil)))
      (pss_cons (ps_if (PW.pt (pw_or (pt_not (pt_val (pe_call G_nums (hr.mono (by decide)) (by rfl) F_nums.g F_nums.F.kp b_nums .nil pass0 (pa_cons (pv 1) pa_nil)))) (pw_or1 (pt_cmpR op_eq (pe_callB call_len_seq (by rfl) T.len PySem.boot_len (pa_cons (pv 1) pa_nil)) pe_int (nomark _))))) (pss_one (ps_ret (pe_tup (pa_cons pe_str pa_nil)))) pss_nil)
      (pss_one (ps_ret (pe_lam3 (k := 0) (a := "told_at") (b := "heap") (TT := TFirst CB) (by rfl) F_first.g F_first.F.kp lk3 hcd3 (F_first.F.binds fun _ _ _ _ _ _ us hl => match us, hl with | [_, _, _], _ => rfl) sc_first rfl (Or.inl rfl) (first_gives TC T F_init G_init F_to G_to F_wrong G_wrong)
        TB rfl hmT hu hr7 (lamP_by (by show lamPB (defScope s_vf) _ _ = true; decide +kernel)) (by show ("heap" : Str) ∉ [("book" : Str), "thing"]; decide) rfl (fun _ _ _ _ _ _ => rfl) (pv 0) (pe_callB call_len_seq (by rfl) T.len PySem.boot_len (pa_cons (pv 1) pa_nil)) (fun A outer s H f c' hr2 => pe_ix (r := rIx K) ix_seq (pv 1) (pv 2) (fun _ _ => rfl))))))), ?_⟩
    rcases h with ⟨d, hd, k⟩ | ⟨b, rs, d, rfl, hT, hb, hz, ok, hd, dz, k⟩
    · exact ⟨_, rfl, x, rfl, .inr ⟨d, hd, k⟩⟩
    · obtain ⟨dB, Lb, qb, hb1, _⟩ := id hb
      refine ⟨_, rfl, _, rfl, .inl ⟨b, dB, _, rfl, hb1, fun H1 e1 => ?_⟩⟩
      refine ⟨_, rfl, y, d, rfl, hd.ex e1, by omega, fun H2 e2 => ⟨_, rfl, ?_⟩⟩
      have e12 := e1.trans e2
      have form : ∀ {z : Addr}, H2 z = none → (isNums d = false ∨ items d = []) → Q (.ref z) (upd H2 z (.tup [.str "form"])) := fun {z} nz w => by
        have e := e12.trans (Ex.new (o := .tup [.str "form"]) nz)
        exact k _ _ (.tuple [.str "form"]) (ExtN.of e) (hT.ext e) (.inl ⟨w, rfl⟩) (.inr (.inl ⟨z, rfl, upd_same, rfl⟩))
      by_cases c : isNums d = true
      · rw [c]
        obtain ⟨hrow, xs, hx, pos⟩ := nums_ints c
        obtain ⟨a, vs, rfl, hrw, hall⟩ := hd.row hrow
        rw [hx] at hall
        obtain rfl := dall_ints hall
        refine ite_ff rfl ?_
        have sq : SqL K H2 a (xs.map V.int) ∨ SqT K H2 a (xs.map V.int) := (hrw.ex e12).imp (fun h => SqL.of h) fun h => SqT.of h
        refine ⟨_, rfl, a, _, rfl, sq, rfl, _, rfl, ?_⟩
        rw [dec_int, List.length_map]
        by_cases z : xs.length = 0
        · refine ite_tt (by rw [z]; rfl) ?_
          exact ⟨by show 1 ≤ sizeLine; decide, fun z1 nz => form nz (.inr (by rw [hx, List.eq_nil_of_length_eq_zero z]; rfl))⟩
        · refine ite_ff (beq_eq_false_iff_ne.mpr (by omega)) ?_
          have xz : xs.length ≤ 900 := by
            have w := congrArg List.length hx
            rw [List.length_map] at w
            omega
          refine ⟨_, rfl, hT.ext e12, fun H3 c' eN T3 hc => ?_⟩
          have eR := ex_nt eN
          have hb3 := (hb.ex e12).nt.ex eR
          have hr3 : Row H3 a (xs.map V.int) := (hrw.ex e12).imp (fun h => eR _ _ (nt_at h fun _ w => by cases w)) fun h => eR _ _ (nt_at h fun _ w => by cases w)
          refine ⟨_, rfl, a, _, rfl, hr3.imp (fun h => SqL.of h) (fun h => SqT.of h), hc, b, rs, xs, rfl, by rw [List.length_map], hb3, hz, ok, by omega, xz, fun i H' Q' hi e q => ?_, fun H' v e e4 fr fl => ?_⟩
          · refine ⟨_, rfl, _, rfl, ix_row (hr3.ex e) (at_told (Int.natCast_nonneg i) (by omega)) ?_⟩
            exact q
          · have eH : ExtN H H' := (ExtN.of e12).trans (eN.trans (ExtN.of e4))
            refine k H' v e eH (T3.ext e4) (.inr ⟨xs, c, hx, by omega, fr⟩) ?_
            rcases fl with fl | fl | fl | ⟨T0, z0, n, ns, h1, h2, h3, h4⟩
            · exact .inl fl
            · exact .inr (.inl fl)
            · exact .inr (.inr (.inl fl))
            · refine .inr (.inr (.inr ⟨T0, z0, n, ns, h1, h2, ?_, h4⟩))
              cases w : nt H z0 with
              | none => rfl
              | some o =>
                have t := eR z0 o (nt_at (e12 _ _ (nt_of w).1) (nt_of w).2)
                rw [h3] at t
                cases t
      · have cf : isNums d = false := by simpa using c
        rw [cf]
        refine ite_tt rfl ?_
        exact ⟨by show 1 ≤ sizeLine; decide, fun z1 nz => form nz (.inl cf)⟩
end
end Ts


set_option Elab.async false
set_option linter.all false
set_option maxRecDepth 100000
set_option maxHeartbeats 2000000
namespace Ts
open PySem PySem.Spec L2
/-! ## one heap of _law_due -/
theorem optv_congr {xs ys ns : List Int} (h : ∀ x ∈ ns, xs.getD x.toNat 0 = ys.getD x.toNat 0) : optv xs ns = optv ys ns := congrArg (List.foldl Builtin.bitXor 0) (List.map_congr_left h)
theorem aopt_zero {rs : List Rl} (ok : ∀ r ∈ rs, r.Ok) {ns : List Int} : ¬ AOpt rs 0 ns := by
  rintro (⟨_, r, hr, hl, h⟩ | ⟨x, _, r, hr, hl, h, h1⟩ | ⟨t, a, _, ⟨r, hr, hl, h, h2⟩, _⟩)
  · have z := (ok r hr).low0
    have w := h.2.1
    have z1 : r.low = 0 := by omega
    have z2 := (ok r hr).low1 z1
    rw [hl] at z2
    exact absurd z2 (by decide)
  · have z := (ok r hr).low0
    have w := h.2.1
    omega
  · have z := (ok r hr).low0
    have w := h.2.1
    omega
theorem due_step {rs : List Rl} {xs : List Int} {i : Nat} {l : List (List Int)} (ok : ∀ r ∈ rs, r.Ok) (hi : i < xs.length) (pr : i = 0 ∨ Right rs (xs.take i)) (ho : Opts (AOpt rs i) l) :
    ∃ m : Int, IsMex (· ∈ l.map (optv xs)) m ∧ m ≤ l.length ∧ Right rs (xs.take i ++ [m]) ∧
      (∀ (j : Nat) ns, l[j]? = some ns → optv xs ns = xs.getD i 0 → (∀ (k : Nat) ms, k < j → l[k]? = some ms → optv xs ms ≠ xs.getD i 0) → FR rs xs (.tuple [.str "has", .int i, .list (ns.map .int)])) ∧
      (xs.getD i 0 ∉ l.map (optv xs) → xs.getD i 0 ≠ m → FR rs xs (.tuple [.str "lacks", .int i, .int m])) := by
  obtain ⟨m, hm⟩ := mex_ex (l.map (optv xs))
  have len : (xs.take i).length = i := by rw [List.length_take]; omega
  have low : ∀ {m : Int}, ∀ ns ∈ l, optv (xs.take i ++ [m]) ns = optv xs ns := fun {m} ns hns => optv_congr fun x hx => by
    have b := aopt_bd ok ((ho.mem ns).mp hns) x hx
    have b2 : x.toNat < i := by omega
    rw [List.getD_eq_getElem?_getD, List.getElem?_append_left (by omega), ← List.getD_eq_getElem?_getD, getD_take b2]
  have low0 : ∀ ns ∈ l, optv (xs.take i) ns = optv xs ns := fun ns hns => optv_congr fun x hx => by
    have b := aopt_bd ok ((ho.mem ns).mp hns) x hx
    exact getD_take (by omega)
  have rt : Right rs (xs.take i ++ [(m : Int)]) := by
    rcases pr with rfl | pr
    · have e : l = [] := by
        cases l with
        | nil => rfl
        | cons ns r => exact (aopt_zero ok ((ho.mem ns).mp List.mem_cons_self)).elim
      subst e
      have z : (m : Int) = 0 := by
        by_cases c : 0 < (m : Int)
        · have := hm.all 0 (Int.le_refl _) c
          simp at this
        · have := hm.pos
          omega
      rw [z, List.take_zero]
      exact Right.one rs
    · refine pr.add ?_
      rw [len]
      have iff : ∀ u : Int, OptVal rs (xs.take i) i u ↔ u ∈ l.map (optv xs) := fun u => by
        rw [← aopt_val, List.mem_map]
        exact ⟨fun ⟨ns, a, b⟩ => ⟨ns, (ho.mem ns).mpr a, by rw [← low0 ns ((ho.mem ns).mpr a)]; exact b⟩, fun ⟨ns, a, b⟩ => ⟨ns, (ho.mem ns).mp a, by rw [low0 ns a]; exact b⟩⟩
      exact ⟨hm.pos, fun z => hm.no ((iff _).mp z), fun j a b => (iff _).mpr (hm.all j a b)⟩
  have get : (xs.take i ++ [(m : Int)]).getD i 0 = m := by
    rw [List.getD_eq_getElem?_getD, List.getElem?_append_right (by omega), len, Nat.sub_self]
    rfl
  have tk : (xs.take i ++ [(m : Int)]).take i = xs.take i := by
    rw [List.take_append_of_le_length (by omega), List.take_of_length_le (by omega)]
  have wrong : xs.getD i 0 ≠ m → FR rs xs (wrongAt (xs.take i ++ [(m : Int)]) l i (xs.getD i 0) m) := fun ne =>
    .inr ⟨i, _, l, hi, rt, by rw [List.length_append, len]; rfl, tk, by rw [get]; exact ne, ho, by rw [get]⟩
  refine ⟨m, hm, ?_, rt, fun j ns hj e first => ?_, fun no ne => ?_⟩
  · have z := pigeon m (l.map (optv xs)) fun j hj => hm.all j (by omega) (by omega)
    rw [List.length_map] at z
    omega
  · have mem := List.mem_of_getElem? hj
    have ne : xs.getD i 0 ≠ m := fun z => hm.no (by
      rw [← z, ← e]
      exact List.mem_map.mpr ⟨ns, mem, rfl⟩)
    have z := wrong ne
    have fnd : l.find? (fun ms => decide (optv (xs.take i ++ [(m : Int)]) ms = xs.getD i 0)) = some ns := by
      obtain ⟨q1, q2⟩ := List.getElem?_eq_some_iff.mp hj
      rw [List.find?_eq_some_iff_getElem]
      refine ⟨decide_eq_true (by rw [low ns mem]; exact e), j, q1, q2, fun k hk => ?_⟩
      have w := first k l[k] hk (List.getElem?_eq_getElem (by omega))
      rw [← low (m := (m : Int)) _ (List.getElem_mem _)] at w
      simpa using w
    unfold wrongAt at z
    rw [fnd] at z
    exact z
  · have z := wrong ne
    have fnd : l.find? (fun ms => decide (optv (xs.take i ++ [(m : Int)]) ms = xs.getD i 0)) = none := by
      rw [List.find?_eq_none]
      intro ns hns
      have w : optv xs ns ≠ xs.getD i 0 := fun w => no (w ▸ List.mem_map.mpr ⟨ns, hns, rfl⟩)
      rw [← low (m := (m : Int)) ns hns] at w
      simpa using w
    unfold wrongAt at z
    rw [fnd] at z
    exact z
/-- the numbers up to a bound that are not had -/
def gaps (hs : List Int) (n : Nat) : List Int := ((List.range n).map fun (j : Nat) => (j : Int)).filter fun j => decide (j ∉ hs)
theorem gaps_succ (hs : List Int) (n : Nat) : gaps hs (n + 1) = gaps hs n ++ (if (n : Int) ∈ hs then [] else [(n : Int)]) := by
  unfold gaps
  rw [List.range_succ, List.map_append, List.filter_append]
  by_cases c : (n : Int) ∈ hs
  · simp [c]
  · simp [c]
theorem mem_gaps {hs : List Int} {n : Nat} {j : Int} : j ∈ gaps hs n ↔ 0 ≤ j ∧ j < n ∧ j ∉ hs := by
  unfold gaps
  rw [List.mem_filter, List.mem_map]
  constructor
  · rintro ⟨⟨k, hk, rfl⟩, h⟩
    have hk := List.mem_range.mp hk
    exact ⟨by omega, by omega, by simpa using h⟩
  · rintro ⟨a, b, c⟩
    exact ⟨⟨j.toNat, List.mem_range.mpr (by omega), Int.toNat_of_nonneg a⟩, by simpa using c⟩
/-- the first gap is the least number that none has -/
theorem gaps_head {hs : List Int} {n : Nat} {m g : Int} {r : List Int} (hm : IsMex (· ∈ hs) m) (h : gaps hs n = g :: r) : g = m ∧ m < n := by
  have hg : g ∈ gaps hs n := by rw [h]; exact List.mem_cons_self
  obtain ⟨g0, g1, g2⟩ := mem_gaps.mp hg
  have mg : m ≤ g := Int.not_lt.mp fun z => g2 (hm.all g g0 z)
  have mm : m ∈ gaps hs n := mem_gaps.mpr ⟨hm.pos, by omega, hm.no⟩
  have asc : (gaps hs n).Pairwise (· < ·) := by
    unfold gaps
    refine List.Pairwise.filter _ ?_
    rw [List.pairwise_map]
    exact (List.pairwise_lt_range).imp fun h => by omega
  rw [h] at mm asc
  rcases List.mem_cons.mp mm with e | mm
  · exact ⟨e.symm, by omega⟩
  · have := (List.pairwise_cons.mp asc).1 m mm
    omega
theorem gaps_nil {hs : List Int} {n : Nat} {m : Int} (hm : IsMex (· ∈ hs) m) (h : gaps hs n = []) : (n : Int) ≤ m := Int.not_lt.mp fun z => by
  have : m ∈ gaps hs n := mem_gaps.mpr ⟨hm.pos, z, hm.no⟩
  rw [h] at this
  cases this
end Ts


set_option Elab.async false
set_option linter.all false
set_option maxRecDepth 100000
set_option maxHeartbeats 8000000
namespace Ts
open PySem PySem.Spec L2
open Evl (Ex)
section
variable {P : Program} {w : World} {K : PySem.W.Frag} {mg : Str → Option Value} {base : Heap}
abbrev s_due := top 57
abbrev ND : List Str := ["raw", "thing", "heap", "value", "some", "had", "left", "one", "option", "number"]
theorem sc_due : FnScope ND ["raw", "thing"] (defScope s_due) := ⟨rfl, rfl, rfl, by decide +kernel, rfl, by decide +kernel, by decide +kernel⟩
def spDue : Sp := fun vs H Q _ => ∃ (L : Addr) (v : V) (qs : List (Addr × Rl)) (d : PyData), vs = [.ref L, v] ∧ RsAt H L qs ∧ qs.length ≤ 100 ∧ (∀ q ∈ qs, q.2.Ok) ∧ (∀ q ∈ qs, q.2.low ≤ 1000) ∧ D H v d ∧ (items d).length ≤ 900 ∧
  ∀ H' u e, Ex H H' → VD (qs.map (·.2)) d e → D H' u e → Q u H'
theorem due_opts {σ : L2.St} {H : Hp} {Q : VK} {L : Addr} {qs : List (Addr × Rl)} {j : Nat} (h0 : σ[0]? = some (some (.ref L))) (h2 : σ[2]? = some (some (.int (j : Nat)))) (hL : RsAt H L qs) (qz : qs.length ≤ 100) (ok : ∀ q ∈ qs, q.2.Ok) (lw : ∀ q ∈ qs, q.2.low ≤ 1000) (jz : j ≤ 900)
    (k : ∀ (F0 : Addr) H4 (bs : Bs), News H H4 F0 bs → bs.length ≤ 600000 → Opts (AOpt (qs.map (·.2)) (j : Nat)) (bs.map (·.2)) → Q (.ref F0) H4) :
    tIf (tTest (tOp (rI0 fun i j => V.bl (decide (j < i))) (tVar 2) (tC (V.int 0)))) (tCall spAopts [] E0 (tCons (tVar 0) (tCons (tVar 2) tNil))) (tLst tNil) σ H Q := by
  refine ⟨_, h2, _, _, rfl, rfl, _, rfl, ?_⟩
  by_cases c : j = 0
  · have lo : ∀ r ∈ qs.map (·.2), r.Ok := fun r hr => by
      obtain ⟨q, hq, rfl⟩ := List.mem_map.mp hr
      exact ok q hq
    refine ite_ff (decide_eq_false (by omega)) ⟨Nat.zero_le _, fun F0 nF => k F0 _ [] ⟨Ex.new nF, upd_same, fun q hq => by cases hq⟩ (Nat.zero_le _) ⟨by decide, by decide, fun ns => ⟨fun h => (by cases h), fun h => ?_⟩⟩⟩
    subst c
    exact (aopt_zero lo h).elim
  · exact ite_tt (decide_eq_true (by omega)) ⟨_, h0, _, h2, L, qs, (j : Nat), rfl, hL, qz, ok, lw, by omega, by omega, fun l H1 bs _ nw lb ho => k l H1 bs nw lb ho⟩
theorem inV_ints (v : Int) (hs : List Int) : inV (.int v) (hs.map V.int) = decide (v ∈ hs) := by
  unfold inV
  rw [List.any_map, Bool.eq_iff_iff]
  simp only [List.any_eq_true, Function.comp, decide_eq_true_eq]
  constructor
  · rintro ⟨x, hx, e⟩
    have e : (x == v) = true := e
    rw [← beq_iff_eq.mp e]
    exact hx
  · exact fun h => ⟨v, h, beq_iff_eq.mpr rfl⟩
theorem flat_ints (hs : List Int) : (hs.map V.int).all flatV = true := by
  rw [List.all_map, List.all_eq_true]
  exact fun _ _ => rfl
theorem first_at : ∀ {hs : List Int} {v : Int}, v ∈ hs → ∃ j : Nat, hs[j]? = some v ∧ ∀ (m : Nat) z, m < j → hs[m]? = some z → z ≠ v
  | [], _, h => by cases h
  | x :: r, v, h => by
    by_cases c : x = v
    · exact ⟨0, by rw [c]; rfl, fun m z hm => absurd hm (Nat.not_lt_zero m)⟩
    · obtain ⟨j, h1, h2⟩ := first_at ((List.mem_cons.mp h).resolve_left (Ne.symm c))
      refine ⟨j + 1, h1, fun m z hm hz => ?_⟩
      cases m with
      | zero => cases hz; exact c
      | succ m => exact h2 m z (by omega) hz
theorem ok_due {f f1 f2 : Addr} {fd fd1 fd2 : FuncData} (F : FD K mg "_law_due" "_law_due" s_due f fd) (T : Bl mg) (hmin : mg "min" = none) (henum : mg "enumerate" = none)
    (F_aopts : FD K mg "_law_a_options" "_law_a_options" s_aopts f1 fd1) (G_aopts : FnOk P w K mg base CX0 2 f1 fd1 ["raw", "heap"] spAopts)
    (F_tog : FD K mg "_law_a_together" "_law_a_together" s_together f2 fd2) (G_tog : FnOk P w K mg base CX0 1 f2 fd2 ["numbers"] spTogether) : FnOk P w K mg base CX0 3 f fd ["raw", "thing"] spDue := by
  have b_aopts : Binds K fd1 ["raw", "heap"] [] := F_aopts.F.binds fun _ _ _ _ _ _ us hl => match us, hl with | [_, _], _ => rfl
  have b_tog : Binds K fd2 ["numbers"] [] := F_tog.F.binds fun _ _ _ _ _ _ us hl => match us, hl with | [_], _ => rfl
  refine F.F.ok sc_due (fun vs H Q E h => ?_) (fun cdv A outer s H vs Q E hr h => ?_)
  · obtain ⟨L, v, qs, d, rfl, _⟩ := h
    rfl
  · obtain ⟨L, v, qs, d, rfl, hL, qz, ok, lw, hd, dz, k⟩ := h
    have nd := sc_due.nd
    have hu64 := Nat.lt_of_le_of_lt (Nat.add_le_add_left (by decide : 64 ≤ 64) _) hr.units
    refine ⟨_, (pss_cons (ps_if (PW.pt (pw_or (pt_not (pt_val (pe_callB call_isiT (by rfl) T.isinstance (by decide +kernel) (pa_cons (pv 1) (pa_cons (pe_tup (pa_cons (pe_bltn (v := .ty "list") (by rfl) T.list PyProof.Rows.boot_list rfl) (pa_cons (pe_bltn (v := .ty "tuple") (by rfl) T.tuple PyProof.Rows.boot_tuple rfl) pa_nil))) pa_nil))))) (pw_or1 (pt_cmpR op_eq (pe_callB call_len_seq (by rfl) T.len PySem.boot_len (pa_cons (pv 1) pa_nil)) pe_int (nomark _))))) (pss_one (ps_ret (pe_tup (pa_cons pe_str pa_nil)))) pss_nil)
      (pss_cons (ps_if (pt_not (pt_val (pe_callB (cr_all rfl) (by rfl) T.all (by decide +kernel) (pa_cons (pe_lc (own := [("one", 7)]) (g := gName 7) (tt := tYes) rfl nd (pi_or (pi_list (pv 1)) (pi_tup (pv 1))) (blkOk_by (N := ND) (sc := defScope s_due) (by decide +kernel)) (fun _ _ _ _ _ => pg_name (i := 7) nd rfl (Or.inl rfl)) (fun _ _ _ _ _ => pts_nil)
          (fun _ _ _ _ _ => pe_and (pe_callB (r := rIsi K) call_isi (by rfl) T.isinstance (by decide +kernel) (pa_cons (pv 7) (pa_cons (pe_bltn (v := .ty "int") (by rfl) T.int PyProof.Rows.boot_int rfl) pa_nil))) (pe_and (pe_not (pe_callB (r := rIsi K) call_isi (by rfl) T.isinstance (by decide +kernel) (pa_cons (pv 7) (pa_cons (pe_bltn (v := .ty "bool") (by rfl) T.bool (by decide +kernel) rfl) pa_nil)))) (pe_one (pe_cmpR op_ge (pv 7) pe_int (nomark _)))))) pa_nil)))) (pss_one (ps_ret (pe_tup (pa_cons pe_str pa_nil)))) pss_nil)
      (pss_cons (ps_for PassesOwn.never rfl (pi_or (pi_enum (by rfl) henum (pa_cons (pv 1) pa_nil)) (pi_enumT (by rfl) henum (pa_cons (pv 1) pa_nil))) (pg_tup rfl (pgs_cons (pg_name (i := 2) nd rfl (Or.inl rfl)) (pgs_cons (pg_name (i := 3) nd rfl (Or.inl rfl)) pgs_nil)))
        (pss_cons (ps_set (i := 4) nd rfl (Or.inl rfl) (pe_ifExp (pt_cmpR op_gt (pv 2) pe_int (nomark _)) (pe_call G_aopts (hr.mono (by decide)) (by rfl) F_aopts.g F_aopts.F.kp b_aopts .nil pass0 (pa_cons (pv 0) (pa_cons (pv 2) pa_nil))) (pe_lst pa_nil)))
        (pss_cons (ps_set (i := 5) nd rfl (Or.inr rfl) (pe_lc (own := [("option", 8)]) (g := gName 8) (tt := tYes) rfl nd (pi_list (pv 4)) (blkOk_by (N := ND) (sc := defScope s_due) (by decide +kernel)) (fun _ _ _ _ _ => pg_name (i := 8) nd rfl (Or.inl rfl)) (fun _ _ _ _ _ => pts_nil)
          (fun _ _ _ _ _ => pe_call G_tog (hr.mono (by decide)) (by rfl) F_tog.g F_tog.F.kp b_tog .nil pass0 (pa_cons (pe_lc (wi := iList K (tVar 8)) (own := [("one", 7)]) (g := gName 7) (tt := tYes) rfl nd (pi_list (pv 8)) (blkOk_by (N := ND) (by rfl)) (fun _ _ _ _ _ => pg_name (i := 7) nd rfl (Or.inl rfl)) (fun _ _ _ _ _ => pts_nil) (fun _ _ _ _ _ => pe_ix (r := rIx K) ix_seq (pv 1) (pv 7) (fun _ _ => rfl))) pa_nil))))
        (pss_cons (ps_if (pt_cmpR op_in_seq (pv 3) (pv 5) (by with_unfolding_all rfl)) (pss_one (ps_ret (pe_tup (pa_cons pe_str (pa_cons (pv 2) (pa_cons (pe_ix (r := rIx K) ix_seq (pv 4) (pe_bm PySem.F.plainAttrs_list PySem.F.slot_list_index PySem.F.type_list_index mt_index (pv 5) (pa_cons (pv 3) pa_nil)) (fun _ _ => rfl)) pa_nil)))))) pss_nil)
        (pss_cons (ps_setLc (i := 6) (own := [("number", 9)]) (g := gName 9) rfl nd rfl rfl (sw_true rfl rfl rfl (by decide +kernel)) (pi_range1 (by rfl) T.range (pa_cons (pe_callB (call_min2 rfl) (by rfl) hmin (by decide +kernel) (pa_cons (pv 3) (pa_cons (pe_op op_add (pe_callB call_len_seq (by rfl) T.len PySem.boot_len (pa_cons (pv 5) pa_nil)) pe_int) pa_nil))) pa_nil)) (blkOk_by (N := ND) (sc := defScope s_due) (by decide +kernel)) (fun _ _ _ _ _ => pg_name (i := 9) nd rfl (Or.inl rfl)) (fun _ _ _ _ _ => pts_one (pt_cmpR (r := rIn K true) op_notIn_seq (pv 9) (pv 5) (by with_unfolding_all rfl))) (fun _ _ _ _ _ => pv 9))
        (pss_one (ps_if (pt_cmpR (op_neD hu64) (pv 6) (pe_lst pa_nil) (nomark _)) (pss_one (ps_ret (pe_tup (pa_cons pe_str (pa_cons (pv 2) (pa_cons (pe_ix (r := rIx K) ix_seq (pv 6) pe_int (fun _ _ => rfl)) pa_nil)))))) pss_nil)))))))
      (pss_one (ps_ret pe_non))))), ?_⟩
    have form : ∀ {H1 : Hp} {z : Addr}, Ex H H1 → H1 z = none → (isNums d = false ∨ items d = []) → Q (.ref z) (upd H1 z (.tup [.str "form"])) := fun {H1 z} e nz w => k _ _ _ (e.trans (Ex.new nz)) (.inl ⟨w, rfl⟩) (.tup upd_same (.cons (.str _) .nil))
    refine ⟨_, rfl, by show 2 ≤ sizeLine; decide, fun p np => ⟨_, p, _, _, _, _, rfl, upd_same, .cons (.ty "list") (.cons (.ty "tuple") .nil), (hd.ex (Ex.new np)).ty, kit_row d, _, rfl, ?_⟩⟩
    have ep := Ex.new (o := .tup [.ty "list", .ty "tuple"]) np
    generalize upd H p (.tup [.ty "list", .ty "tuple"]) = H0 at ep ⊢
    by_cases hrow : isRow d = true
    case neg =>
      have hf : isRow d = false := by simpa using hrow
      rw [hf]
      refine ite_tt rfl ?_
      exact ⟨by show 1 ≤ sizeLine; decide, fun z nz => form ep nz (.inl (by unfold isNums; rw [hf]; rfl))⟩
    rw [hrow]
    obtain ⟨l, xs, rfl, hl, hall⟩ := hd.row hrow
    refine ite_ff rfl ?_
    refine ⟨_, rfl, l, xs, rfl, (hl.ex ep).imp (fun h => SqL.of h) (fun h => SqT.of h), rfl, _, rfl, ?_⟩
    rw [dec_int]
    have hlen := hall.len
    by_cases z : xs.length = 0
    case pos =>
      refine ite_tt (by rw [z]; rfl) ?_
      exact ⟨by show 1 ≤ sizeLine; decide, fun z1 nz => form ep nz (.inr (List.eq_nil_of_length_eq_zero (by omega)))⟩
    refine ite_ff (beq_eq_false_iff_ne.mpr (by omega)) (next1 ?_)
    dsimp only
    refine seq1 ?_
    refine tcb1 (r := rAll K) ?_
    refine lc_row (out := fun j => V.bl (isNum ((items d).getD j .none))) (by rfl) (hl.ex ep) (by rw [hall.len]; exact Nat.le_trans dz (by decide)) (fun j x H2 hx e2 => ?_) (fun x H q q' z => g_name_mono z) (fun Dd Hf _ e3 hD => ?_)
    · refine ⟨rfl, Ex.refl _, fun q hq => ?_⟩
      obtain ⟨dx, hdx, hx'⟩ := hall.get hx
      have Dx := hx'.ex (ep.trans e2)
      have z := hq H2 (Ex.refl _)
      rw [getD_of hdx] at z
      refine ⟨_, rfl, _, _, _, _, _, rfl, .ty "int", Dx.ty, kit_int dx, _, rfl, ?_⟩
      cases dx with
      | int i =>
        obtain rfl : x = .int i := by cases Dx; rfl
        exact iteT ⟨_, rfl, _, _, _, _, _, rfl, .ty "bool", Dx.ty, kit_bool _, _, rfl, _, rfl, iteT ⟨_, rfl, _, _, rfl, rfl, z⟩⟩
      | bool c => exact iteT ⟨_, rfl, _, _, _, _, _, rfl, .ty "bool", Dx.ty, kit_bool _, _, rfl, _, rfl, iteF z⟩
      | _ => exact iteF z
    refine ⟨Dd, (items d).map isNum, rfl, SqL.of ?_, _, rfl, ?_⟩
    · rw [hD, hall.len, List.map_map, ← map_getD (V.bl ∘ isNum) PyData.none (items d)]
      rfl
    rw [all_id]
    have e03 := ep.trans e3
    by_cases c2 : (items d).all isNum = true
    case neg =>
      have hf : (items d).all isNum = false := by simpa using c2
      rw [hf]
      refine iteT ?_
      exact ⟨by show 1 ≤ sizeLine; decide, fun z1 nz => form e03 nz (.inl (by unfold isNums; rw [hrow, hf]; rfl))⟩
    rw [c2]
    have hn : isNums d = true := by unfold isNums; rw [hrow, c2]; rfl
    obtain ⟨_, ns, he, pos⟩ := nums_ints hn
    obtain rfl : xs = ns.map V.int := dall_ints (by have h2 := hall; rw [he] at h2; exact h2)
    rw [List.length_map] at hlen z
    refine iteF (next1 ?_)
    dsimp only
    refine seq1 ?_
    have lo : ∀ r ∈ qs.map (·.2), r.Ok := fun r hr => by
      obtain ⟨q, hq, rfl⟩ := List.mem_map.mp hr
      exact ok q hq
    have keep : ∀ H', Ex H H' → ∀ o, Hf l = some o → H' l = some o := fun H' e o ho => by
      rcases hl with h | h
      · rw [e03 _ _ h] at ho
        rw [← ho]
        exact e _ _ h
      · rw [e03 _ _ h] at ho
        rw [← ho]
        exact e _ _ h
    refine for_enum_row (K := K) (i := 1) (a := l) (xs := ns.map V.int) rfl (hl.ex e03) (fun j σ H' => ∃ v2 v3 v4 v5 v6, σ = [some (.ref L), some (.ref l), v2, v3, v4, v5, v6, none, none, none] ∧ Ex H H' ∧ (j = 0 ∨ Right (qs.map (·.2)) (ns.take j)))
      ⟨none, none, none, none, none, rfl, e03, .inl rfl⟩ (fun j σ' H' q' o ho => ?_) (fun j x σ' H' Tq hx q' nT => ?_) (fun σ' H' q' => ?_)
    · obtain ⟨v2, v3, v4, v5, v6, _, e, _⟩ := q'
      exact keep H' e o ho
    · obtain ⟨v2, v3, v4, v5, v6, rfl, e, pr⟩ := q'
      have hj : j < ns.length := by
        have := (List.getElem?_eq_some_iff.mp hx).1
        rw [List.length_map] at this
        exact this
      obtain rfl : x = .int (ns.getD j 0) := by
        rw [List.getElem?_map, List.getElem?_eq_getElem hj] at hx
        cases hx
        rw [List.getD_eq_getElem?_getD, List.getElem?_eq_getElem hj]
        rfl
      have eT := Ex.new (o := .tup [.int (j : Nat), .int (ns.getD j 0)]) nT
      have hT : upd H' Tq (.tup [.int (j : Nat), .int (ns.getD j 0)]) Tq = some (.tup [.int (j : Nat), .int (ns.getD j 0)]) := upd_same
      generalize upd H' Tq (.tup [.int (j : Nat), .int (ns.getD j 0)]) = H3 at eT hT ⊢
      have e3 := e.trans eT
      refine ⟨Tq, _, rfl, SqT.of hT, rfl, _, _, rfl, _, _, rfl, rfl, ?_⟩
      dsimp only
      refine seq1 (asg1 ?_)
      refine due_opts rfl rfl ⟨e3 _ _ hL.1, fun q hq => e3 _ _ (hL.2 q hq)⟩ qz ok lw (by omega) fun F0 H4 bs nw lb ho => ?_
      have e4 := e3.trans nw.ex
      refine gn1 ?_
      dsimp only
      refine seq1 (asg1 ?_)
      refine ⟨_, rfl, F0, rfl, ⟨_, SqL.of nw.at_⟩, ?_⟩
      refine lc_pureD (g := gName 8) (walk_list (xs := bs.vs)) (out := fun j => V.int (optv ns ((bs.map (·.2)).getD j []))) (by rw [List.length_map]; exact Nat.le_trans lb (by decide)) (fun H' e => SqL.of (e _ _ nw.at_)) (fun j x H5 H6 hj' e5 y => ?_) (fun _ _ _ _ h => h _ _) (fun Dh H5 nD e5 hD => ?_)
      · obtain ⟨rfl, hx⟩ := y
        rw [List.length_map] at hj'
        rw [List.getElem?_map, List.getElem?_eq_getElem hj'] at hx
        cases hx
        have mq : bs[j] ∈ bs := List.getElem_mem hj'
        have eo : (bs.map (·.2)).getD j [] = bs[j].2 := by
          rw [List.getD_eq_getElem?_getD, List.getElem?_map, List.getElem?_eq_getElem hj']
          rfl
        rw [eo]
        have hq := e5 _ _ (nw.el _ mq).2.2
        have bd := aopt_bd lo ((ho.mem _).mp (List.mem_map.mpr ⟨_, mq, rfl⟩))
        have bl := aopt_len ((ho.mem _).mp (List.mem_map.mpr ⟨_, mq, rfl⟩))
        generalize bs[j] = o at hq bd bl
        refine ⟨Ex.refl _, rfl, Ex.refl _, fun q kq => ?_⟩
        refine ⟨_, rfl, o.1, rfl, ⟨_, SqL.of hq⟩, ?_⟩
        refine lc_pureD (g := gName 7) (walk_list (xs := o.2.map V.int)) (out := fun j => V.int (ns.getD (o.2.getD j 0).toNat 0)) (by rw [List.length_map]; exact Nat.le_trans bl (by decide)) (fun H' e => SqL.of (e _ _ hq)) (fun j x H7 H8 hj2 e7 y => ?_) (fun _ _ _ _ h => h _ _) (fun D H7 nD e7 hD => ?_)
        · obtain ⟨rfl, hx⟩ := y
          rw [List.length_map] at hj2
          rw [List.getElem?_map, List.getElem?_eq_getElem hj2] at hx
          cases hx
          have ei : o.2.getD j 0 = o.2[j] := by rw [List.getD_eq_getElem?_getD, List.getElem?_eq_getElem hj2]; rfl
          have bj := bd _ (List.getElem_mem hj2)
          rw [ei]
          exact ⟨Ex.refl _, rfl, Ex.refl _, fun q kq => ⟨_, rfl, _, rfl, ix_row ((hl.ex (e4.trans (e5.trans e7)))) (at_told (by omega) (by omega)) (kq _ (Ex.refl _))⟩⟩
        · rw [List.length_map] at hD
          refine ⟨D, o.2.map fun x => ns.getD x.toNat 0, rfl, ?_, kq _ e7⟩
          rw [hD]
          rw [List.map_map]
          exact congrArg (fun z => some (HO.lst z)) (range_getD o.2 0 fun x => V.int (ns.getD x.toNat 0))
      rw [List.length_map] at hD
      have hD : H5 Dh = some (.lst (((bs.map (·.2)).map (optv ns)).map V.int)) := by
        rw [hD]
        have z := range_getD (bs.map (·.2)) [] fun x => V.int (optv ns x)
        rw [List.length_map] at z
        rw [z, List.map_map, List.map_map, List.map_map]
        rfl
      have e05 := e4.trans e5
      obtain ⟨m, hm, mz, rtm, has, lacks⟩ := due_step lo hj pr ho
      refine gn1 ?_
      dsimp only
      refine seq1 ?_
      refine ⟨_, rfl, _, rfl, Dh, _, rfl, .inl (SqL.of hD), rfl, flat_ints _, _, rfl, ?_⟩
      show (if inV (.int (ns.getD j 0)) (((bs.map (·.2)).map (optv ns)).map V.int) = true then _ else _)
      rw [inV_ints]
      by_cases cin : ns.getD j 0 ∈ (bs.map (·.2)).map (optv ns)
      · refine ite_tt (decide_eq_true cin) ?_
        obtain ⟨i, hi, first⟩ := first_at cin
        obtain ⟨o, ho', eo⟩ : ∃ o, bs[i]? = some o ∧ optv ns o.2 = ns.getD j 0 := by
          rw [List.getElem?_map, List.getElem?_map] at hi
          cases h : bs[i]? with
          | none => rw [h] at hi; cases hi
          | some o =>
            rw [h] at hi
            have hi : some (optv ns o.2) = some (ns.getD j 0) := hi
            exact ⟨o, rfl, Option.some.inj hi⟩
        have mo := List.mem_of_getElem? ho'
        refine ⟨_, rfl, _, rfl, _, rfl, .inl ⟨rfl, _, SqL.of hD⟩, _, rfl, Dh, _, _, i, .int (ns.getD j 0), rfl, rfl, SqL.of hD, rfl, flat_ints _, by rw [List.getElem?_map, hi]; rfl, beq_iff_eq.mpr rfl, fun m z' hm hz => ?_, ?_⟩
        · rw [List.getElem?_map] at hz
          cases h : ((bs.map (·.2)).map (optv ns))[m]? with
          | none => rw [h] at hz; cases hz
          | some u =>
            rw [h] at hz
            cases hz
            exact beq_eq_false_iff_ne.mpr (first m u hm h)
        · refine ix_row (v := .ref o.1) (.inl (e5 _ _ nw.at_)) ?_ ⟨by show 3 ≤ sizeLine; decide, fun z1 nz => ?_⟩
          · refine atI_nat ?_
            rw [List.getElem?_map, ho']
            rfl
          · refine k _ _ _ (e05.trans (Ex.new nz)) (.inr ⟨ns, hn, he, by omega, has i o.2 (by rw [List.getElem?_map, ho']; rfl) eo fun k' ms hk hms => ?_⟩) (.tup upd_same (.cons (.str _) (.cons (.int _) (.cons (.lst (Ex.new nz _ _ (e5 _ _ (nw.el o mo).2.2)) (ints_D o.2)) .nil))))
            exact first k' _ hk (by rw [List.getElem?_map, hms]; rfl)
      refine ite_ff (decide_eq_false cin) (next1 ?_)
      dsimp only
      refine seq1 (asg1 ?_)
      generalize hhs : (bs.map (·.2)).map (optv ns) = hs at hD cin hm
      have hlen2 : hs.length ≤ 600000 := by rw [← hhs, List.length_map, List.length_map]; exact lb
      have v0 : 0 ≤ ns.getD j 0 := by
        rw [List.getD_eq_getElem?_getD, List.getElem?_eq_getElem hj]
        exact pos _ (List.getElem_mem hj)
      generalize hv : ns.getD j 0 = v at *
      refine ⟨_, rfl, _, rfl, Dh, _, rfl, .inl (SqL.of hD), _, _, rfl, rfl, _, _, rfl, _, rfl, ?_, ?_, fun Dl nDl => ?_⟩
      · rw [List.length_map]; split <;> omega
      · rw [List.length_map]; split <;> omega
      generalize hN : (if ((List.map V.int hs).length : Int) + 1 < v then ((List.map V.int hs).length : Int) + 1 else v) = N
      rw [List.length_map] at hN
      have N0 : 0 ≤ N := by rw [← hN]; split <;> omega
      have Nv : N ≤ v := by rw [← hN]; split <;> omega
      have Nl : N ≤ hs.length + 1 := by rw [← hN]; split <;> omega
      have Nm : N < v → N = hs.length + 1 := fun h => by
        rw [← hN] at h ⊢
        split at h
        · rw [if_pos (by assumption)]
        · omega
      refine lc_it (walk_range (lo := 0) (n := N.toNat)) (Pv := fun i H' => Ex H5 H' ∧ H' Dl = some (.lst ((gaps hs i).map V.int))) ⟨Ex.new nDl, upd_same⟩ (fun _ _ _ _ => trivial) (fun i x H6 H7 hi p y => ?_) (fun H6 p => ?_)
      · obtain ⟨e6, hd⟩ := p
        obtain ⟨rfl, rfl⟩ := y
        have ex : (0 : Int) + (i : Nat) = (i : Nat) := by omega
        dsimp only
        rw [ex]
        refine gn1 ?_
        refine ⟨rfl, ?_⟩
        refine ⟨_, rfl, _, rfl, Dh, _, rfl, .inl (SqL.of (e6 _ _ hD)), rfl, flat_ints _, _, rfl, ?_⟩
        rw [inV_ints]
        have gs := gaps_succ hs i
        by_cases c : (i : Int) ∈ hs
        · rw [decide_eq_true c]
          rw [if_pos c, List.append_nil] at gs
          refine ite_ff rfl ⟨e6, ?_⟩
          rw [gs]
          exact hd
        · rw [decide_eq_false c]
          rw [if_neg c] at gs
          refine ite_tt rfl ⟨_, rfl, _, hd, ?_, e6.mut nDl, ?_⟩
          · have := List.length_filter_le (fun j => decide (j ∉ hs)) ((List.range i).map fun (j : Nat) => (j : Int))
            rw [List.length_map, List.length_range] at this
            rw [List.length_map]
            refine Nat.lt_of_le_of_lt (m := 600001) ?_ (by decide)
            unfold gaps
            omega
          · rw [upd_same, gs, List.map_append]
            rfl
      · obtain ⟨e6, hd⟩ := p
        refine gn1 ?_
        dsimp only
        refine ⟨_, rfl, Nat.zero_le _, fun z nz => ⟨.list ((gaps hs N.toNat).map PyData.int), .list [], .lst (SqL.of (Ex.new nz _ _ hd)) (dp_ints _), .lst (SqL.of upd_same) .nil, shaped_ints _, shaped_ints [], _, rfl, ?_⟩⟩
        dsimp only
        rw [eqv_nil]
        have e57 := (e05.trans e6).trans (Ex.new nz (o := .lst []))
        have hd2 := Ex.new nz (o := .lst []) _ _ hd
        cases hg : gaps hs N.toNat with
        | cons g r =>
          obtain ⟨rfl, gm⟩ := gaps_head hm hg
          rw [hg] at hd2
          refine ite_tt rfl ⟨_, rfl, _, rfl, ix_row (v := .int g) (.inl hd2) (atI_nat (j := 0) rfl) ⟨by show 3 ≤ sizeLine; decide, fun z1 nz1 => ?_⟩⟩
          rw [hhs] at lacks
          exact k _ _ _ (e57.trans (Ex.new nz1)) (.inr ⟨ns, hn, he, by omega, lacks cin (by omega)⟩) (.tup upd_same (.cons (.str _) (.cons (.int _) (.cons (.int _) .nil))))
        | nil =>
          have gm := gaps_nil hm hg
          have hl2 : (bs.map (·.2)).length = hs.length := by rw [← hhs]; simp
          have vm : v = m := by
            by_cases c : N < v
            · have := Nm c
              omega
            · by_cases c2 : v = m
              · exact c2
              · exact absurd (hm.all v v0 (by omega)) cin
          refine ite_ff rfl ⟨_, _, _, _, _, rfl, e57, .inr ?_⟩
          rw [take_snoc hj, hv, vm]
          exact rtm
    · obtain ⟨v2, v3, v4, v5, v6, rfl, e, pr⟩ := q'
      refine k _ _ .none e (.inr ⟨ns, hn, he, by omega, .inl ⟨?_, rfl⟩⟩) .non
      rw [List.length_map] at pr
      rcases pr with w | pr
      · omega
      · rw [List.take_of_length_le (Nat.le_refl _)] at pr
        exact pr
end
end Ts


set_option Elab.async false
set_option linter.all false
set_option maxRecDepth 100000
set_option maxHeartbeats 4000000
namespace Ts
open PySem PySem.Spec PyProof.Rows L2
open Evl (Ex)
/-- a region that is grown by one -/
theorem Rg.at {G H H' : Hp} {z : Addr} {o : HO} (e : Ex G H) (nz : H z = none) (eH : Ex H H') (hz : H' z = some o) : Rg G (upd G z o) H H' := by
  refine ⟨Ex.new (Evl.fresh_back e nz), fun b u hb => ?_, fun b hb => ?_, eH⟩
  · by_cases c : b = z
    · rw [c, upd_same] at hb
      rw [c, hz]
      exact hb
    · rw [upd_ne c] at hb
      exact eH _ _ (e _ _ hb)
  · by_cases c : b = z
    · exact .inr (c ▸ nz)
    · rw [upd_ne c] at hb
      exact .inl hb
theorem dints {H : Hp} {z : Addr} {os : List Int} (h : H z = some (.lst (os.map V.int))) : D H (.ref z) (.list (os.map .int)) := .lst h (ints_D os)
section
variable {K : PySem.W.Frag} {σ : L2.St} {R : Hp} {i j : Nat} {b : Addr} {os : List Int}
theorem Gv.rev (h : σ[i]? = some (some (.ref b))) (hb : R b = some (.lst (os.map V.int))) : Gv σ R (tRevL K (tVar i)) (.list (os.reverse.map .int)) := fun G H Q eR e k => by
  refine ⟨_, h, b, os.map V.int, rfl, SqL.of (e _ _ (eR _ _ hb)), fun p np => k _ (upd G p (.lst (os.reverse.map V.int))) _ (Rg.at e np (Ex.new np) ?_) (dints upd_same)⟩
  rw [upd_same, List.map_reverse]
theorem Gv.snoc {te : TE} {x : Int} (h : σ[i]? = some (some (.ref b))) (hb : R b = some (.lst (os.map V.int))) (hl : os.length ≤ 1000) (hx : Gv σ R te (.int x)) : Gv σ R (tOp rCat (tVar i) (tLst (tCons te tNil))) (.list ((os ++ [x]).map .int)) := fun G H Q eR e k => by
  refine ⟨_, h, ?_⟩
  refine hx G H _ eR e fun v G1 H1 r1 hv => ?_
  cases hv
  refine ⟨by show 1 ≤ sizeLine; decide, fun z nz => ?_⟩
  have e1 := Ex.new (o := .lst [V.int x]) nz
  refine ⟨b, z, _, _, rfl, rfl, e1 _ _ (r1.h _ _ (e _ _ (eR _ _ hb))), upd_same, by rw [List.length_map]; exact Nat.le_trans (show os.length + 1 ≤ 1001 by omega) (by decide), fun p np => ?_⟩
  refine k _ (upd G1 p (.lst ((os ++ [x]).map V.int))) _ (r1.trans (Rg.at r1.i (Evl.fresh_back e1 np) (e1.trans (Ex.new np)) ?_)) (dints upd_same)
  rw [upd_same, List.map_append]
  rfl
theorem Gv.at {ti : TE} {j x : Int} (h : σ[i]? = some (some (.ref b))) (hb : R b = some (.lst (os.map V.int))) (hi : Gv σ R ti (.int j)) (hx : atI (os.map V.int) j = some (.int x)) : Gv σ R (tOp (rIx K) (tVar i) ti) (.int x) := fun G H Q eR e k => by
  refine ⟨_, h, ?_⟩
  refine hi G H _ eR e fun v G1 H1 r1 hv => ?_
  cases hv
  exact ix_row (.inl (r1.h _ _ (e _ _ (eR _ _ hb)))) hx (k _ G1 H1 r1 (.int x))
end
theorem lst1 {ta : TA} {σ : L2.St} {H : Hp} {Q : VK} (h : ta σ H fun xs H1 => xs.length ≤ sizeLine ∧ ∀ p, H1 p = none → Q (.ref p) (upd H1 p (.lst xs))) : tLst ta σ H Q := h
theorem Rg.off {G G' H H' : Hp} {a c : Addr} {n : Int} (S : Strm H a c n) (eG : Ex G (Ts.off a c H)) (r : Rg G G' H H') : Ex G' (Ts.off a c H') := fun b o hb => by
  obtain ⟨⟨cells, s1, s3, ha, hc, _⟩, _, _⟩ := S
  have no : ∀ {z : Addr} {u : HO}, (z = a ∨ z = c) → H z = some u → G' z = none := fun {z u} hz hu => by
    cases e : G' z with
    | none => rfl
    | some w =>
      rcases r.f z (by rw [e]; exact fun q => by cases q) with h | h
      · cases e2 : G z with
        | none => exact absurd e2 h
        | some x =>
          have y := eG _ _ e2
          unfold Ts.off at y
          rw [if_pos hz] at y
          cases y
      · rw [hu] at h
        cases h
  have n1 : b ≠ a := fun q => by
    rw [q, no (.inl rfl) ha] at hb
    cases hb
  have n2 : b ≠ c := fun q => by
    rw [q, no (.inr rfl) hc] at hb
    cases hb
  rw [off_ne n1 n2]
  exact r.i _ _ hb
theorem Rg.keep {G G' H H' : Hp} {z : Addr} {o : HO} (r : Rg G G' H H') (hG : G z = none) (hH : H z = some o) : G' z = none := by
  cases e : G' z with
  | none => rfl
  | some w =>
    rcases r.f z (by rw [e]; exact fun q => by cases q) with h | h
    · exact absurd hG h
    · rw [hH] at h
      cases h
theorem okL_ints {os : List Int} {k : Nat} (h : os.length ≤ 90) : okL (k + 1) (.list (os.map .int)) = true := by
  show (decide ((os.map PyData.int).length ≤ 90) && (os.map PyData.int).all (okL k)) = true
  rw [decide_eq_true (by rw [List.length_map]; exact h), Bool.true_and, List.all_eq_true]
  intro d hd
  obtain ⟨i, _, rfl⟩ := List.mem_map.mp hd
  cases k <;> rfl
/-! ## repr of what stands alone, of rows, of an empty dict -/
def txt : PyData → Str
  | .none => "None"
  | .bool b => if b then "True" else "False"
  | .int i => toString i
  | .str s => reprText s
  | d => d.shown
def ShowOk (K : PySem.W.Frag) (H : Hp) (x : V) (d : PyData) : Prop :=
  (x = .non ∧ d = .none) ∨ (∃ b, x = .bl b ∧ d = .bool b) ∨ (∃ i : Int, x = .int i ∧ d = .int i ∧ i.natAbs.log2 < 1920) ∨ (∃ s, x = .str s ∧ d = .str s ∧ (reprText s).length ≤ sizeLine) ∨
  (∃ a, x = .ref a ∧ isRow d = true ∧ Dp K H x d ∧ d.showable = true ∧ d.hasDict = false ∧ d.depth ≤ 60 ∧ d.shown.length ≤ sizeLine) ∨ ∃ a, x = .ref a ∧ H a = some (.dK []) ∧ d = .dict []
section
variable {X : Cx}
def rShowD (K : PySem.W.Frag) : List V → Hp → VK → Prop := fun xs H Q => ∃ x d, xs = [x] ∧ ShowOk K H x d ∧ Q (.str (txt d)) H
theorem call_showD (hg : X.A.guards = some []) (hu : X.A.units + 64 < cLine) : CallR X (.builtin "repr") (rShowD X.K) := by
  intro pins s σ H xs us Q I r h
  obtain ⟨x, d, rfl, h, q⟩ := h
  obtain ⟨u, rfl, e⟩ := vals1 r
  rcases h with ⟨rfl, rfl⟩ | ⟨b, rfl, rfl⟩ | ⟨i, rfl, rfl, hi⟩ | ⟨t, rfl, rfl, ht⟩ | ⟨a, rfl, hr, hd, hs, hn, hdp, hz⟩ | ⟨a, rfl, ha, rfl⟩
  · cases (show u = Value.none from e)
    exact PySem.P.repr_of_none ⟨.str _, H, I.tok _, ⟨_, rfl⟩, q⟩
  · cases (show u = Value.bool b from e)
    exact PySem.P.repr_of_bool ⟨.str _, H, I.tok _, ⟨_, rfl⟩, q⟩
  · obtain ⟨t, rfl⟩ := (show ∃ t, u = Value.int i t from e)
    exact PySem.P.repr_of_int hi ⟨.str _, H, I.tok _, ⟨_, rfl⟩, q⟩
  · obtain ⟨t', rfl⟩ := (show ∃ t', u = Value.str t t' from e)
    exact PySem.P.repr_of_str ⟨.str _, H, I.tok _, ⟨_, rfl⟩, q⟩ ht
  · cases (show u = Value.ref a from e)
    obtain ⟨as, rd⟩ := Dp.reads I d _ _ hd rfl
    have ed : txt d = d.shown := by
      cases d <;> first
        | rfl
        | cases hr
    rw [ed] at q
    exact repr_of_reads' rd hs (fun z => by rw [hn] at z; cases z) hg (by omega) (fun b o e => e) (fun h' u tk hk => ⟨.str _, H, I.kept hk, ⟨_, rfl⟩, q⟩) hz
  · cases (show u = Value.ref a from e)
    obtain ⟨z, lo, vs, rel, dd⟩ := dk_of I.hok ha
    cases rel
    obtain ⟨o, es, ep, ho, hx, hd, _, hp, _⟩ := dd
    have e0 : es.toList = [] := by
      cases hes : es.toList with
      | nil => rfl
      | cons y ys =>
        rw [hes] at hp
        cases hp
    have rd : Reads s.heap (.ref a) (.dict []) ([a] ++ []) := .dict (es := es) ho hx.1 hd (by rw [e0]; exact .nil) (by rw [e0]; exact .nil)
    have et : PyData.shown (.dict []) = txt (.dict []) := rfl
    rw [← et] at q
    refine repr_of_reads' rd (by decide +kernel) (fun _ hm => ?_) hg (by show X.A.units + (_ + 1) < cLine; exact Nat.lt_of_le_of_lt (Nat.add_le_add_left (by decide +kernel) _) hu) (fun b o e => e) (fun h' u tk hk => ⟨.str _, H, I.kept hk, ⟨_, rfl⟩, q⟩) (by decide +kernel)
    have hm : sysModules = a := by simpa using hm
    rw [hm] at lo
    simp at lo
end
/-! ## short things: what repr asks of them, however loosely they are passed -/
def nice : Nat → PyData → Bool
  | _, .none => true
  | _, .bool _ => true
  | _, .int i => decide (i.natAbs < 10 ^ 19)
  | _, .str x => decide (x.cps.size ≤ 10) && x.cps.toList.all fun c => decide (c < 16 ^ 8)
  | k + 1, .list l => decide (l.length ≤ 30) && l.all (nice k)
  | k + 1, .tuple l => decide (l.length ≤ 30) && l.all (nice k)
  | _, _ => false
theorem nice_int {i : Int} (h : i.natAbs < 10 ^ 19) : i.natAbs.log2 < 64 := by
  by_cases z : i.natAbs = 0
  · rw [z]
    decide
  · rw [Nat.log2_lt z]
    exact Nat.lt_of_lt_of_le h (by decide)
def wt : Nat → Nat
  | 0 => 100
  | k + 1 => 30 * (wt k + 1)
structure Nc (k : Nat) (d : PyData) : Prop where
  s : d.showable = true
  n : d.hasDict = false
  dp : d.depth ≤ k
  l : d.leavesShort 24 = true
  w : d.weight ≤ wt k
theorem wt_mono : ∀ k, 100 ≤ wt k
  | 0 => Nat.le_refl _
  | k + 1 => by
    have := wt_mono k
    show 100 ≤ 30 * (wt k + 1)
    omega
theorem nc_all {k : Nat} : ∀ {l : List PyData}, (∀ d ∈ l, Nc k d) → PyData.showableAll l = true ∧ PyData.hasDictAll l = false ∧ PyData.depthAll l ≤ k ∧ PyData.leavesShortAll 24 l = true ∧ PyData.weightAll l ≤ l.length * (wt k + 1)
  | [], _ => ⟨rfl, rfl, Nat.zero_le _, rfl, Nat.zero_le _⟩
  | d :: l, h => by
    obtain ⟨h1, h2, h3, h4, h5⟩ := nc_all (l := l) fun x hx => h x (List.mem_cons_of_mem _ hx)
    obtain ⟨g1, g2, g3, g4, g5⟩ := h d List.mem_cons_self
    refine ⟨?_, ?_, ?_, ?_, ?_⟩
    · simp only [PyData.showableAll, g1, h1, Bool.and_self]
    · simp only [PyData.hasDictAll, g2, h2, Bool.or_self]
    · simp only [PyData.depthAll]
      exact Nat.max_le.mpr ⟨g3, h3⟩
    · simp only [PyData.leavesShortAll, g4, h4, Bool.and_self]
    · simp only [PyData.weightAll, List.length_cons]
      have e : (l.length + 1) * (wt k + 1) = l.length * (wt k + 1) + (wt k + 1) := Nat.succ_mul ..
      omega
theorem nice_nc : ∀ (k : Nat) (d : PyData), nice k d = true → Nc k d
  | k, .none, _ => ⟨by simp [PyData.showable], by simp [PyData.hasDict], by simp [PyData.depth], by simp [PyData.leavesShort], by simp [PyData.weight]⟩
  | k, .bool b, _ => ⟨by simp [PyData.showable], by simp [PyData.hasDict], by simp [PyData.depth], by simp [PyData.leavesShort], by simp [PyData.weight]⟩
  | k, .int i, h => by
    have h : decide (i.natAbs < 10 ^ 19) = true := by cases k <;> exact h
    have h := of_decide_eq_true h
    have h2 := nice_int h
    refine ⟨by simp only [PyData.showable]; exact decide_eq_true (by omega), by simp [PyData.hasDict], by simp [PyData.depth], ?_, ?_⟩
    · simp only [PyData.leavesShort]
      refine decide_eq_true ?_
      have e := int_text_length_le10 (a := i) (k := 19) (by decide) h
      show (Str.ofString (toString i)).length ≤ 24
      rw [PySem.ofString_length]
      omega
    · simp only [PyData.weight]
      have := wt_mono k
      split <;> omega
  | k, .str x, h => by
    have h : (decide (x.cps.size ≤ 10) && x.cps.toList.all fun c => decide (c < 16 ^ 8)) = true := by cases k <;> exact h
    rw [Bool.and_eq_true] at h
    have h1 := of_decide_eq_true h.1
    have := wt_mono k
    exact ⟨by simp [PyData.showable], by simp [PyData.hasDict], by simp [PyData.depth], by simp only [PyData.leavesShort]; exact h.2, by simp only [PyData.weight]; omega⟩
  | 0, .list l, h => by cases h
  | 0, .tuple l, h => by cases h
  | 0, .dict l, h => by cases h
  | k + 1, .dict l, h => by cases h
  | k + 1, .list l, h => by
    have h : (decide (l.length ≤ 30) && l.all (nice k)) = true := h
    rw [Bool.and_eq_true] at h
    have hl := of_decide_eq_true h.1
    obtain ⟨h1, h2, h3, h4, h5⟩ := nc_all (l := l) fun d hd => nice_nc k d (List.all_eq_true.mp h.2 d hd)
    refine ⟨by simp only [PyData.showable]; exact h1, by simp only [PyData.hasDict]; exact h2, by simp only [PyData.depth]; omega, by simp only [PyData.leavesShort]; exact h4, ?_⟩
    simp only [PyData.weight]
    exact Nat.le_trans h5 (Nat.mul_le_mul_right _ hl)
  | k + 1, .tuple l, h => by
    have h : (decide (l.length ≤ 30) && l.all (nice k)) = true := h
    rw [Bool.and_eq_true] at h
    have hl := of_decide_eq_true h.1
    obtain ⟨h1, h2, h3, h4, h5⟩ := nc_all (l := l) fun d hd => nice_nc k d (List.all_eq_true.mp h.2 d hd)
    refine ⟨by simp only [PyData.showable]; exact h1, by simp only [PyData.hasDict]; exact h2, by simp only [PyData.depth]; omega, by simp only [PyData.leavesShort]; exact h4, ?_⟩
    simp only [PyData.weight]
    exact Nat.le_trans h5 (Nat.mul_le_mul_right _ hl)
theorem Nc.len {k : Nat} {d : PyData} (h : Nc k d) (hk : k ≤ 2) : d.shown.length ≤ sizeLine := by
  have z := PyData.shown_le 24 (by decide) d h.l
  have w := h.w
  have w3 : wt k ≤ 110000 := by
    have : k = 0 ∨ k = 1 ∨ k = 2 := by omega
    rcases this with rfl | rfl | rfl <;> decide
  have : (24 + 2) * d.weight ≤ 26 * 110000 := Nat.mul_le_mul_left 26 (Nat.le_trans w w3)
  exact Nat.le_trans z (Nat.le_trans (show _ ≤ 26 * 110000 + 24 by omega) (by decide))
mutual
theorem Loo.nice : ∀ {d e : PyData} {k : Nat}, Loo d e → Ts.nice k d = true → Ts.nice k e = true
  | _, _, _, .same _, h => h
  | d, _, k, .row b hr hl, h => by
    cases k with
    | zero => cases d <;> first | (cases hr; done) | (cases h; done)
    | succ k =>
      have h2 : (decide ((items d).length ≤ 30) && (items d).all (Ts.nice k)) = true := by
        cases d <;> first | (cases hr; done) | exact h
      rw [Bool.and_eq_true] at h2
      obtain ⟨g1, g2⟩ := LooAll.nice hl h2.2
      have h3 := of_decide_eq_true h2.1
      cases b
      · show (decide (_ ≤ 30) && List.all _ (Ts.nice k)) = true
        rw [g1, decide_eq_true (by omega)]
        rfl
      · show (decide (_ ≤ 30) && List.all _ (Ts.nice k)) = true
        rw [g1, decide_eq_true (by omega)]
        rfl
theorem LooAll.nice : ∀ {ds es : List PyData} {k : Nat}, LooAll ds es → ds.all (Ts.nice k) = true → es.all (Ts.nice k) = true ∧ es.length = ds.length
  | _, _, _, .nil, _ => ⟨rfl, rfl⟩
  | _, _, _, .cons h r, hh => by
    rw [List.all_cons, Bool.and_eq_true] at hh
    obtain ⟨g1, g2⟩ := LooAll.nice r hh.2
    refine ⟨?_, by rw [List.length_cons, List.length_cons, g2]⟩
    rw [List.all_cons, Loo.nice h hh.1, g1]
    rfl
end

def Short (d : PyData) : Prop := okL 3 d = true ∧ (nice 2 d = true ∨ d = .dict [])
theorem nice_i {i : Int} (h1 : -5000000000 ≤ i) (h2 : i ≤ 5000000000) : ∀ k, nice k (.int i) = true := fun k => by
  have z : decide (i.natAbs < 10 ^ 19) = true := decide_eq_true (by
    have : (10 : Nat) ^ 19 = 10000000000000000000 := by decide
    omega)
  cases k <;> exact z
theorem nice_l {k : Nat} {l : List PyData} (h : l.length ≤ 30) (hh : ∀ d ∈ l, nice k d = true) : nice (k + 1) (.list l) = true := by
  show (decide (l.length ≤ 30) && l.all (nice k)) = true
  rw [decide_eq_true h, List.all_eq_true.mpr hh]
  rfl
theorem okL_l {k : Nat} {l : List PyData} (h : l.length ≤ 90) (hh : ∀ d ∈ l, okL k d = true) : okL (k + 1) (.list l) = true := by
  show (decide (l.length ≤ 90) && l.all (okL k)) = true
  rw [decide_eq_true h, List.all_eq_true.mpr hh]
  rfl
theorem short_ints {os : List Int} (h : os.length ≤ 30) (hh : ∀ x ∈ os, -5000000000 ≤ x ∧ x ≤ 5000000000) : Short (.list (os.map .int)) :=
  ⟨okL_ints (by omega), .inl (nice_l (by rw [List.length_map]; exact h) fun d hd => by
    obtain ⟨x, hx, rfl⟩ := List.mem_map.mp hd
    exact nice_i (hh x hx).1 (hh x hx).2 _)⟩
/-- what is handed on, however loosely, has its repr -/
theorem nice_items {k : Nat} {ds : List PyData} (h : (decide (ds.length ≤ 30) && ds.all (nice k)) = true) : ds.all (nice k) = true := (Bool.and_eq_true_iff.mp h).2
mutual
theorem D.dp {K : PySem.W.Frag} {H : Hp} : ∀ {k : Nat} {v : V} {d : PyData}, D H v d → nice k d = true → Dp K H v d
  | _, _, _, .non, _ => .non
  | _, _, _, .bl b, _ => .bl b
  | _, _, _, .int i, _ => .int i
  | _, _, _, .str x, _ => .str x
  | 0, _, _, .lst _ _, h => by cases h
  | 0, _, _, .tup _ _, h => by cases h
  | _ + 1, _, _, .lst hh r, h => .lst (SqL.of hh) (DAll.dp r (nice_items h))
  | _ + 1, _, _, .tup hh r, h => .tup (SqT.of hh) (DAll.dp r (nice_items h))
  | 0, _, _, .dic _ _, h => by cases h
  | _ + 1, _, _, .dic _ _, h => by cases h
theorem DAll.dp {K : PySem.W.Frag} {H : Hp} : ∀ {k : Nat} {vs : List V} {ds : List PyData}, DAll H vs ds → ds.all (nice k) = true → DpAll K H vs ds
  | _, _, _, .nil, _ => .nil
  | _, _, _, .cons h r, hh => by
    rw [List.all_cons, Bool.and_eq_true] at hh
    exact .cons (D.dp h hh.1) (DAll.dp r hh.2)
end
theorem show_ok {K : PySem.W.Frag} {H : Hp} {v : V} {d : PyData} (hd : D H v d) (h : nice 2 d = true ∨ d = .dict []) : ShowOk K H v d := by
  rcases h with h | rfl
  · have nc := nice_nc 2 d h
    have hdp : Dp K H v d := D.dp hd h
    cases hd with
    | non => exact .inl ⟨rfl, rfl⟩
    | bl b => exact .inr (.inl ⟨b, rfl, rfl⟩)
    | int i =>
      refine .inr (.inr (.inl ⟨i, rfl, rfl, ?_⟩))
      have := nice_int (of_decide_eq_true (show decide (i.natAbs < 10 ^ 19) = true from h))
      omega
    | str x => exact .inr (.inr (.inr (.inl ⟨x, rfl, rfl, nc.len (by omega)⟩)))
    | lst hh r => exact .inr (.inr (.inr (.inr (.inl ⟨_, rfl, rfl, hdp, nc.s, nc.n, Nat.le_trans nc.dp (by decide), nc.len (by omega)⟩))))
    | tup hh r => exact .inr (.inr (.inr (.inr (.inl ⟨_, rfl, rfl, hdp, nc.s, nc.n, Nat.le_trans nc.dp (by decide), nc.len (by omega)⟩))))
    | dic hh r => cases h
  · cases hd with
    | dic hh r =>
      cases r
      exact .inr (.inr (.inr (.inr (.inr ⟨_, rfl, hh, rfl⟩))))
theorem Short.loo {d e : PyData} (h : Short d) (l : Loo d e) : nice 2 e = true ∨ e = .dict [] := by
  rcases h.2 with h | rfl
  · exact .inl (l.nice h)
  · cases l with
    | same _ => exact .inr rfl
    | row b hr _ => cases hr
end Ts


set_option Elab.async false
set_option linter.all false
set_option maxRecDepth 100000
set_option maxHeartbeats 8000000
namespace Ts
open PySem PySem.Spec L2
open Evl (Ex)
/-! ## the things that are handed to values_fault -/
theorem short_snoc {os : List Int} {x : Int} (h : os.length ≤ 25) (hh : ∀ t ∈ os, 0 ≤ t ∧ t ≤ 600000) (h1 : 0 ≤ x) (h2 : x ≤ 999999999) : Short (.list ((os ++ [x]).map .int)) :=
  short_ints (by rw [List.length_append]; show os.length + 1 ≤ 30; omega) fun t ht => by
    rcases List.mem_append.mp ht with ht | ht
    · have := hh t ht
      omega
    · rw [List.mem_singleton.mp ht]
      omega
def thing1 : List PyData := [.none, .int 5, .str "values", .bool true, .dict [], .list [], .tuple [], .list [.none], .list [.bool true], .list [.int 0, .int (-1)], .list [.int 0, .str "1"], .list [.int 0, .list [.int 1]], .list [.int 0, .none], .list [.int 0, .bool true]]
def thing2 (os : List Int) (l : Int) : List PyData := [.list [.int 1], .list [.int 0, .int 5], .list [.int 999999999], .list ((os ++ [l + 1]).map .int), .list ((os ++ [0]).map .int), .list ((os ++ [999999999]).map .int), .list (os.reverse.map .int)]
theorem thing1_ok : ∀ d ∈ thing1, Short d := by
  intro d hd
  unfold thing1 at hd
  simp only [List.mem_cons, List.not_mem_nil, or_false] at hd
  rcases hd with rfl | rfl | rfl | rfl | rfl | rfl | rfl | rfl | rfl | rfl | rfl | rfl | rfl | rfl
  · exact ⟨rfl, .inl rfl⟩
  · exact ⟨rfl, .inl rfl⟩
  · exact ⟨rfl, .inl (by decide +kernel)⟩
  · exact ⟨rfl, .inl rfl⟩
  · exact ⟨rfl, .inr rfl⟩
  · exact ⟨rfl, .inl rfl⟩
  · exact ⟨rfl, .inl rfl⟩
  · exact ⟨rfl, .inl rfl⟩
  · exact ⟨rfl, .inl rfl⟩
  · exact ⟨rfl, .inl (by decide +kernel)⟩
  · exact ⟨rfl, .inl (by decide +kernel)⟩
  · exact ⟨rfl, .inl (by decide +kernel)⟩
  · exact ⟨rfl, .inl (by decide +kernel)⟩
  · exact ⟨rfl, .inl (by decide +kernel)⟩
theorem thing2_ok {os : List Int} {l : Int} (h : os.length ≤ 25) (hh : ∀ t ∈ os, 0 ≤ t ∧ t ≤ 600000) (h1 : 0 ≤ l) (h2 : l ≤ 600000) : ∀ d ∈ thing2 os l, Short d := by
  intro d hd
  unfold thing2 at hd
  simp only [List.mem_cons, List.not_mem_nil, or_false] at hd
  rcases hd with rfl | rfl | rfl | rfl | rfl | rfl | rfl
  · exact short_ints (os := [1]) (Nat.le_of_ble_eq_true rfl) fun x hx => by simp at hx; omega
  · exact short_ints (os := [0, 5]) (Nat.le_of_ble_eq_true rfl) fun x hx => by simp at hx; omega
  · exact short_ints (os := [999999999]) (Nat.le_of_ble_eq_true rfl) fun x hx => by simp at hx; omega
  · exact short_snoc h hh (by omega) (by omega)
  · exact short_snoc h hh (by omega) (by omega)
  · exact short_snoc h hh (by omega) (by omega)
  · exact short_ints (by rw [List.length_reverse]; omega) fun x hx => by
      have := hh x (List.mem_reverse.mp hx)
      omega
section
variable {P : Program} {w : World} {K : PySem.W.Frag} {mg : Str → Option Value} {base : Heap}
abbrev s_things := top 58
abbrev NT : List Str := ["stream", "due", "found", "k", "some", "step", "at"]
theorem sc_things : FnScope NT ["stream", "due"] (defScope s_things) := ⟨rfl, rfl, rfl, by decide +kernel, rfl, by decide +kernel, by decide +kernel⟩
def spThings : Sp := fun vs H Q _ => ∃ (a c L : Addr) (n : Int) (ts : List Int) (G : Hp), vs = [.ref a, .ref L] ∧ Strm H a c n ∧ Ex G (off a c H) ∧ G L = some (.lst (ts.map V.int)) ∧ 1 ≤ ts.length ∧ ts.length ≤ 25 ∧ (∀ t ∈ ts, 0 ≤ t ∧ t ≤ 600000) ∧ n + 60 < 2 ^ 39 ∧
  ∀ (F : Addr) H' G' n' vs ds, Ex G G' → Ex G' (off a c H') → Ex (off a c H) (off a c H') → Strm H' a c n' → n ≤ n' → n' ≤ n + 50 → H F = none → F ≠ a → F ≠ c → G' F = none → H' F = some (.lst vs) → DAll G' vs ds → ds.length = 29 → (∀ d ∈ ds, Short d) → Q (.ref F) H'
theorem ok_things {f f1 f2 : Addr} {fd fd1 fd2 : FuncData} (F : FD K mg "_law_things" "_law_things" s_things f fd) (T : Bl mg) (hmax : mg "max" = none) (F_draw : FD K mg "_law_draw" "_law_draw" s_draw f1 fd1) (F_pick : FD K mg "_law_pick" "_law_pick" s_pick f2 fd2) : FnOk P w K mg base CX0 3 f fd ["stream", "due"] spThings := by
  have G_draw : FnOk P w K mg base CX0 1 f1 fd1 ["stream", "many"] spDraw := ok_draw F_draw T
  have G_pick : FnOk P w K mg base CX0 2 f2 fd2 ["stream", "some"] spPick := ok_pick F_pick F_draw T
  have b_draw := b_draw F_draw
  have b_pick : Binds K fd2 ["stream", "some"] [] := F_pick.F.binds fun _ _ _ _ _ _ us hl => match us, hl with | [_, _], _ => rfl
  refine F.F.ok sc_things (fun vs H Q E h => ?_) (fun cdv A outer s H vs Q E hr h => ?_)
  · obtain ⟨a, c, L, n, ts, G, rfl, _⟩ := h
    rfl
  · obtain ⟨a, c, L, n, ts, G, rfl, S, eG, hL, l1, l2, tb, nz, k⟩ := h
    have nd := sc_things.nd
    refine ⟨_, (pss_cons (ps_set (i := 2) nd rfl (Or.inl rfl) (pe_lst (pa_cons pe_non (pa_cons pe_int (pa_cons pe_str (pa_cons pe_bl (pa_cons pe_dnewK (pa_cons (pe_lst pa_nil) (pa_cons (pe_tup pa_nil) (pa_cons (pe_lst (pa_cons pe_non pa_nil)) (pa_cons (pe_lst (pa_cons pe_bl pa_nil)) (pa_cons (pe_lst (pa_cons pe_int (pa_cons (pe_un un_neg pe_int) pa_nil))) (pa_cons (pe_lst (pa_cons pe_int (pa_cons pe_str pa_nil))) (pa_cons (pe_lst (pa_cons pe_int (pa_cons (pe_lst (pa_cons pe_int pa_nil)) pa_nil))) (pa_cons (pe_lst (pa_cons pe_int (pa_cons pe_non pa_nil))) (pa_cons (pe_lst (pa_cons pe_int (pa_cons pe_bl pa_nil))) pa_nil))))))))))))))))
      (pss_cons (ps_expr (pe_bm PySem.F.plainAttrs_list PySem.F.slot_list_extend PySem.F.type_list_extend mt_extend (pv 2) (pa_cons (pe_lst (pa_cons (pe_lst (pa_cons pe_int pa_nil)) (pa_cons (pe_lst (pa_cons pe_int (pa_cons pe_int pa_nil))) (pa_cons (pe_lst (pa_cons pe_int pa_nil)) (pa_cons (pe_op op_cat (pv 1) (pe_lst (pa_cons (pe_op op_add (pe_ix (r := rIx K) ix_seq (pv 1) (pe_un un_neg pe_int) (fun _ _ => rfl)) pe_int) pa_nil))) (pa_cons (pe_op op_cat (pv 1) (pe_lst (pa_cons pe_int pa_nil))) (pa_cons (pe_op op_cat (pv 1) (pe_lst (pa_cons pe_int pa_nil))) (pa_cons (pe_revL (pv 1)) pa_nil)))))))) pa_nil)))
      (pss_cons (ps_for PassesOwn.never rfl (pi_range1 (by rfl) T.range (pa_cons pe_int pa_nil)) (pg_name (i := 3) nd rfl (Or.inl rfl))
        (pss_cons (ps_set (i := 4) nd rfl (Or.inl rfl) (pe_callTy call_list_of (by rfl) T.list PyProof.Rows.boot_list (pa_cons (pe_slice (r := rSlL K) sl_list (pv 1) po_none (po_some (pe_op op_add pe_int (pe_call G_draw (hr.mono (by decide)) (by rfl) F_draw.g F_draw.F.kp b_draw .nil pass0 (pa_cons (pv 0) (pa_cons (pe_callB call_len_seq (by rfl) T.len PySem.boot_len (pa_cons (pv 1) pa_nil)) pa_nil)))))) pa_nil)))
        (pss_cons (ps_for PassesOwn.never rfl (pi_range1 (by rfl) T.range (pa_cons (pe_call G_pick (hr.mono (by decide)) (by rfl) F_pick.g F_pick.F.kp b_pick .nil pass0 (pa_cons (pv 0) (pa_cons (pe_lst (pa_cons pe_int (pa_cons pe_int (pa_cons pe_int (pa_cons pe_int (pa_cons pe_int pa_nil)))))) pa_nil))) pa_nil)) (pg_name (i := 5) nd rfl (Or.inl rfl))
          (pss_cons (ps_set (i := 6) nd rfl (Or.inl rfl) (pe_call G_draw (hr.mono (by decide)) (by rfl) F_draw.g F_draw.F.kp b_draw .nil pass0 (pa_cons (pv 0) (pa_cons (pe_callB call_len_seq (by rfl) T.len PySem.boot_len (pa_cons (pv 4) pa_nil)) pa_nil))))
          (pss_one (ps_asg (pe_callB (call_max2 rfl) (by rfl) hmax (by decide +kernel) (pa_cons pe_int (pa_cons (pe_op op_add (pe_ix (r := rIx K) ix_seq (pv 4) (pv 6) (fun _ _ => rfl)) (pe_call G_pick (hr.mono (by decide)) (by rfl) F_pick.g F_pick.F.kp b_pick .nil pass0 (pa_cons (pv 0) (pa_cons (pe_lst (pa_cons (pe_un un_neg pe_int) (pa_cons (pe_un un_neg pe_int) (pa_cons pe_int (pa_cons pe_int (pa_cons pe_int (pa_cons pe_int (pa_cons pe_int pa_nil)))))))) pa_nil)))) pa_nil))) (pg_sub (pv 4) (pv 6) set_list)))))
        (pss_one (ps_expr (pe_bm PySem.F.plainAttrs_list PySem.F.slot_list_append PySem.F.type_list_append mt_append (pv 2) (pa_cons (pv 4) pa_nil)))))))
      (pss_one (ps_ret (pv 2)))))), ?_⟩
    obtain ⟨xs0, x0, rfl⟩ : ∃ xs x, ts = xs ++ [x] := ⟨ts.dropLast, ts.getLast (fun z => by rw [z] at l1; exact absurd l1 (by decide)), (List.dropLast_concat_getLast _).symm⟩
    have bx := tb x0 (List.mem_append_right _ (List.mem_singleton.mpr rfl))
    generalize hts : xs0 ++ [x0] = ts at *
    have at0 : atI (ts.map V.int) (-1) = some (.int x0) := by
      rw [← hts, List.map_append]
      exact atI_last _ _
    -- the first ones
    refine seq1 (asg1 (GvA.use (ds := thing1) (R := G) ?_ (Ex.refl _) (eG.trans off_ex) fun vs1 G1 H1 r1 hd1 => ⟨by rw [hd1.len2]; show 14 ≤ sizeLine; decide, fun F nF => gn1 ?_⟩))
    · exact .cons .non (.cons .int (.cons .str (.cons .bl (.cons .dic (.cons (.lst .nil) (.cons (.tup .nil) (.cons (.lst (.cons .non .nil)) (.cons (.lst (.cons .bl .nil)) (.cons (.lst (.cons .int (.cons (.neg .int) .nil))) (.cons (.lst (.cons .int (.cons .str .nil))) (.cons (.lst (.cons .int (.cons (.lst (.cons .int .nil)) .nil))) (.cons (.lst (.cons .int (.cons .non .nil))) (.cons (.lst (.cons .int (.cons .bl .nil))) .nil)))))))))))))
    dsimp only
    have S1 := S.ex r1.h
    have o1 := r1.off S eG
    obtain ⟨Fa, Fc⟩ := S1.nea nF
    have FH : H F = none := Evl.fresh_back r1.h nF
    have G1F : G1 F = none := Evl.fresh_back r1.i nF
    have hF2 : upd H1 F (.lst vs1) F = some (.lst vs1) := upd_same
    have e2 := Ex.new (o := .lst vs1) nF
    have S2 := S1.ex e2
    have o2 := o1.trans (Ex.offs (a := a) (c := c) e2)
    have oH2 := Ex.offs (a := a) (c := c) (r1.h.trans e2)
    have eG1 := r1.e
    generalize upd H1 F (.lst vs1) = H2 at hF2 e2 S2 o2 oH2 ⊢
    clear e2 S1 o1 nF r1
    -- the others that are told at once
    refine seq1 ⟨_, rfl, .inl ⟨rfl, _, SqL.of hF2⟩, tcons1 (lst1 (GvA.use (ds := thing2 ts x0) (R := G) (G := G1) ?_ eG1 (o2.trans off_ex) fun vs2 G2 H3 r2 hd2 => ⟨by rw [hd2.len2]; show 7 ≤ sizeLine; decide, fun D nD => ?_⟩))⟩
    · exact .cons (.lst (.cons .int .nil)) (.cons (.lst (.cons .int (.cons .int .nil))) (.cons (.lst (.cons .int .nil)) (.cons (.snoc (i := 1) rfl hL (by omega) (.op0 (.at (i := 1) rfl hL (.neg .int) at0) .int)) (.cons (.snoc (i := 1) rfl hL (by omega) .int) (.cons (.snoc (i := 1) rfl hL (by omega) .int) (.cons (.rev (i := 1) rfl hL) .nil))))))
    have x7 := r2.h _ _ hF2
    have eD := Ex.new (o := .lst vs2) nD
    have g3 := r2.keep G1F hF2
    have o3 := r2.off S2 o2
    refine ⟨F, D, vs1, vs2, rfl, rfl, eD _ _ x7, upd_same, by rw [hd1.len2, hd2.len2]; show 21 ≤ sizeLine; decide, ?_⟩
    have hF5 : upd (upd H3 D (.lst vs2)) F (.lst (vs1 ++ vs2)) F = some (.lst (vs1 ++ vs2)) := upd_same
    have x1 := eG1.trans r2.e
    have x2 : Ex G2 (off a c (upd (upd H3 D (.lst vs2)) F (.lst (vs1 ++ vs2)))) := by
      rw [off_upd_ne Fa Fc]
      exact (o3.trans (Ex.offs eD)).mut g3
    have x3 : Ex (off a c H) (off a c (upd (upd H3 D (.lst vs2)) F (.lst (vs1 ++ vs2)))) := by
      rw [off_upd_ne Fa Fc]
      exact ((oH2.trans (Ex.offs r2.h)).trans (Ex.offs eD)).mut (off_none FH)
    have x4 : Strm (upd (upd H3 D (.lst vs2)) F (.lst (vs1 ++ vs2))) a c n := ((S2.ex r2.h).ex eD).upd Fa Fc
    have x6 : DAll G2 (vs1 ++ vs2) (thing1 ++ thing2 ts x0) := (hd1.ex r2.e).app hd2
    have x8 : ∀ d ∈ thing1 ++ thing2 ts x0, Short d := fun d hd => (List.mem_append.mp hd).elim (thing1_ok d) (thing2_ok l2 tb bx.1 bx.2 d)
    have x9 : (thing1 ++ thing2 ts x0).length = 21 := rfl
    generalize upd (upd H3 D (.lst vs2)) F (.lst (vs1 ++ vs2)) = H5 at x2 x3 x4 hF5 ⊢
    clear hF2 S2 o2 oH2 eG1 hd1 r2 hd2 nD x7 G1F eD o3
    generalize vs1 ++ vs2 = ws at hF5 x6
    generalize thing1 ++ thing2 ts x0 = ds0 at x6 x8 x9
    dsimp only
    refine seq1 ⟨8, rfl, by decide, by decide, for_range (lo := 0) (n := (8 : Int).toNat) (fun i σ H' => ∃ (v3 v4 v5 v6 : Option V) (G' : Hp) (n' : Int) (vs : List V) (ds : List PyData), σ = [some (V.ref a), some (.ref L), some (.ref F), v3, v4, v5, v6] ∧ Ex G G' ∧ Ex G' (off a c H') ∧ Ex (off a c H) (off a c H') ∧ Strm H' a c n' ∧ n ≤ n' ∧ n' ≤ n + 6 * (i : Nat) ∧ G' F = none ∧ H' F = some (.lst vs) ∧ DAll G' vs ds ∧ ds.length = 21 + i ∧ ∀ d ∈ ds, Short d)
        ⟨none, none, none, none, _, n, ws, ds0, rfl, x1, x2, x3, x4, Int.le_refl _, by omega, g3, hF5, x6, x9, x8⟩ (fun i σ H' hi q => ?_) (fun σ H' q => ?_)⟩
    · obtain ⟨v3, v4, v5, v6, G', n', vs, ds, rfl, e2, e3, e4, e5, e6, e7, e8, e9, e10, e11, e12⟩ := q
      have hi : i < 8 := hi
      refine gn1 ?_
      dsimp only
      have big : (2 : Int) ^ 39 + 1100 < 2 ^ 40 := by decide
      have big2 : (100 : Int) < 2 ^ 60 := by decide
      have hLH := off_of (e3 _ _ (e2 _ _ hL))
      refine seq1 (asg1 ?_)
      refine ⟨_, rfl, _, rfl, _, rfl, L, _, rfl, .inl (SqL.of hLH), a, c, n', _, rfl, e5, by rw [List.length_map]; omega, by rw [List.length_map]; omega, by omega, fun H6 r q6 S6 r0 r1 => ?_⟩
      have hL6 : H6 L = some (.lst (ts.map V.int)) := off_of (q6 _ _ (e3 _ _ (e2 _ _ hL)))
      have hF6 : H6 F = some (.lst vs) := off_of (q6 _ _ (by rw [off_ne Fa Fc]; exact e9))
      obtain ⟨m, rfl⟩ := Int.eq_ofNat_of_zero_le r0
      refine ⟨_, _, rfl, rfl, _, rfl, L, _, rfl, SqL.of hL6, fun p np => ⟨p, _, rfl, .inl (SqL.of upd_same), fun D nD => gn1 ?_⟩⟩
      obtain ⟨xs, hxs, xl1, xl2, xb⟩ : ∃ xs : List Int, cutV (ts.map V.int) none (some (1 + (m : Int))) = xs.map V.int ∧ 1 ≤ xs.length ∧ xs.length ≤ 25 ∧ ∀ t ∈ xs, 0 ≤ t ∧ t ≤ 600000 + 8 * (0 : Nat) := by
        refine ⟨ts.take (m + 1), ?_, by rw [List.length_take]; omega, by rw [List.length_take]; omega, fun t ht => by have := tb t (List.mem_of_mem_take ht); omega⟩
        rw [List.length_map] at r1
        unfold cutV
        rw [HT.sIx_none, show (1 : Int) + (m : Int) = ((m + 1 : Nat) : Int) by omega, HT.sIx_nat, List.drop_zero, List.length_map, Nat.sub_zero, Nat.min_eq_left (by omega), List.map_take]
      rw [hxs] at nD ⊢
      have ep := Ex.new (o := .lst (xs.map V.int)) np
      have eD := Ex.new (o := .lst (xs.map V.int)) nD
      have S8 := (S6.ex ep).ex eD
      obtain ⟨Da, Dc⟩ := (S6.ex ep).nea nD
      have D6 : H6 D = none := Evl.fresh_back ep nD
      have x3 := (e3.trans q6).trans (Ex.offs (ep.trans eD))
      have x4 := (e4.trans q6).trans (Ex.offs (ep.trans eD))
      have hD8 : upd (upd H6 p (.lst (xs.map V.int))) D (.lst (xs.map V.int)) D = some (.lst (xs.map V.int)) := upd_same
      have G'D : G' D = none := Evl.fresh_back (e3.trans q6) (off_none D6)
      have HD : H D = none := by
        have z := Evl.fresh_back (e4.trans q6) (off_none D6)
        rw [off_ne Da Dc] at z
        exact z
      have hF8 := (ep.trans eD) _ _ hF6
      have DF : F ≠ D := ne_of_none hF6 D6
      generalize upd (upd H6 p (.lst (xs.map V.int))) D (.lst (xs.map V.int)) = H8 at S8 x3 x4 hD8 hF8 ⊢
      clear nD ep eD np S6 q6 hL6 hF6 hxs D6
      dsimp only
      refine seq1 ?_
      refine ⟨_, rfl, by show 5 ≤ sizeLine; decide, fun z nz2 => ?_⟩
      have ez := Ex.new (o := .lst [V.int 0, V.int 1, V.int 1, V.int 1, V.int 2]) nz2
      obtain ⟨za, zc⟩ := S8.nea nz2
      refine ⟨a, c, z, n' + 1, _, rfl, S8.ex ez, by rw [off_ne za zc]; exact upd_same, by show 1 ≤ 5; decide, by show 5 ≤ 1000000; decide, by omega, fun H9 x q9 S9 hx => ?_⟩
      obtain ⟨st, rfl, s0, s2⟩ : ∃ st : Int, x = .int st ∧ 0 ≤ st ∧ st ≤ 2 := by
        simp only [List.mem_cons, List.not_mem_nil, or_false] at hx
        rcases hx with rfl | rfl | rfl | rfl | rfl
        · exact ⟨0, rfl, by decide, by decide⟩
        · exact ⟨1, rfl, by decide, by decide⟩
        · exact ⟨1, rfl, by decide, by decide⟩
        · exact ⟨1, rfl, by decide, by decide⟩
        · exact ⟨2, rfl, by decide, by decide⟩
      have y3 := (x3.trans (Ex.offs ez)).trans q9
      have y4 := (x4.trans (Ex.offs ez)).trans q9
      have hD9 : H9 D = some (.lst (xs.map V.int)) := off_of (q9 _ _ (by rw [off_ne Da Dc]; exact ez _ _ hD8))
      have hF9 : H9 F = some (.lst vs) := off_of (q9 _ _ (by rw [off_ne Fa Fc]; exact ez _ _ hF8))
      refine ⟨st, rfl, by omega, by omega, for_range (lo := 0) (n := st.toNat) (fun j σ H' => ∃ (v5 v6 : Option V) (n3 : Int) (xs : List Int), σ = [some (V.ref a), some (.ref L), some (.ref F), some (.int (0 + (i : Nat))), some (.ref D), v5, v6] ∧ Ex G' (off a c H') ∧ Ex (off a c H) (off a c H') ∧ Strm H' a c n3 ∧ n' + 2 ≤ n3 ∧ n3 ≤ n' + 2 + 2 * (j : Nat) ∧ H' F = some (.lst vs) ∧ H' D = some (.lst (xs.map V.int)) ∧ 1 ≤ xs.length ∧ xs.length ≤ 25 ∧ ∀ t ∈ xs, 0 ≤ t ∧ t ≤ 600000 + 8 * (j : Nat))
        ⟨_, _, n' + 1 + 1, xs, rfl, y3, y4, S9, by omega, by omega, hF9, hD9, xl1, xl2, xb⟩ (fun j σ H' hj q => ?_) (fun σ H' q => ?_)⟩
      · obtain ⟨v5, v6, n3, xs, rfl, z3, z4, S3, n31, n32, hF, hD, xl1, xl2, xb⟩ := q
        have hj : j < 2 := by omega
        refine gn1 ?_
        dsimp only
        refine seq1 (asg1 ?_)
        refine ⟨_, rfl, _, rfl, D, _, rfl, .inl (SqL.of hD), a, c, n3, _, rfl, S3, by rw [List.length_map]; omega, by rw [List.length_map]; omega, by omega, fun H6 r q6 S6 r0 r1 => gn1 ?_⟩
        obtain ⟨t, rfl⟩ := Int.eq_ofNat_of_zero_le r0
        rw [List.length_map] at r1
        have ht : t < xs.length := by omega
        have hF6 : H6 F = some (.lst vs) := off_of (q6 _ _ (by rw [off_ne Fa Fc]; exact hF))
        have hD6 : H6 D = some (.lst (xs.map V.int)) := off_of (q6 _ _ (by rw [off_ne Da Dc]; exact hD))
        dsimp only
        refine asg1 ?_
        refine ⟨_, rfl, _, rfl, ix_row (v := .int (xs.getD t 0)) (.inl hD6) (atI_nat (by rw [List.getElem?_map, List.getD_eq_getElem?_getD, List.getElem?_eq_getElem ht]; rfl)) ?_⟩
        have bt := xb (xs.getD t 0) (by rw [List.getD_eq_getElem?_getD, List.getElem?_eq_getElem ht]; exact List.getElem_mem ht)
        generalize xs.getD t 0 = xt at bt ⊢
        refine ⟨_, rfl, _, rfl, _, rfl, by show 7 ≤ sizeLine; decide, fun z nz2 => ?_⟩
        have ez := Ex.new (o := .lst [V.int (-2), V.int (-1), V.int 1, V.int 1, V.int 2, V.int 3, V.int 8]) nz2
        obtain ⟨za, zc⟩ := S6.nea nz2
        refine ⟨a, c, z, n3 + 1, _, rfl, S6.ex ez, by rw [off_ne za zc]; exact upd_same, by show 1 ≤ 7; decide, by show 7 ≤ 1000000; decide, by omega, fun H9 x q9 S9 hx => ?_⟩
        obtain ⟨sv, rfl, s0, s2⟩ : ∃ st : Int, x = .int st ∧ -2 ≤ st ∧ st ≤ 8 := by
          simp only [List.mem_cons, List.not_mem_nil, or_false] at hx
          rcases hx with rfl | rfl | rfl | rfl | rfl | rfl | rfl
          · exact ⟨-2, rfl, by decide, by decide⟩
          · exact ⟨-1, rfl, by decide, by decide⟩
          · exact ⟨1, rfl, by decide, by decide⟩
          · exact ⟨1, rfl, by decide, by decide⟩
          · exact ⟨2, rfl, by decide, by decide⟩
          · exact ⟨3, rfl, by decide, by decide⟩
          · exact ⟨8, rfl, by decide, by decide⟩
        have y3 := ((z3.trans q6).trans (Ex.offs ez)).trans q9
        have y4 := ((z4.trans q6).trans (Ex.offs ez)).trans q9
        have hD9 : H9 D = some (.lst (xs.map V.int)) := off_of (q9 _ _ (by rw [off_ne Da Dc]; exact ez _ _ hD6))
        have hF9 : H9 F = some (.lst vs) := off_of (q9 _ _ (by rw [off_ne Fa Fc]; exact ez _ _ hF6))
        refine ⟨_, _, rfl, rfl, _, _, rfl, ?_⟩
        generalize hnv : (if xt + sv > 0 then xt + sv else 0) = nv
        have nv0 : 0 ≤ nv ∧ nv ≤ 600000 + 8 * ((j + 1 : Nat) : Int) := by rw [← hnv]; split <;> omega
        refine ⟨_, rfl, _, rfl, D, _, _, t, rfl, rfl, hD9, Evl.ixN_nat (by rw [List.length_map]; exact ht), _, _, n3 + 1 + 1, xs.set t nv, rfl, ?_, ?_, S9.upd Da Dc, by omega, by omega, by rw [upd_ne DF]; exact hF9, by rw [upd_same, List.map_set], by rw [List.length_set]; exact xl1, by rw [List.length_set]; exact xl2, fun u hu => ?_⟩
        · rw [off_upd_ne Da Dc]
          exact y3.mut G'D
        · rw [off_upd_ne Da Dc]
          exact y4.mut (off_none HD)
        · rcases List.mem_or_eq_of_mem_set hu with hu | rfl
          · have := xb u hu
            omega
          · exact nv0
      · obtain ⟨v5, v6, n3, xs, rfl, z3, z4, S3, n31, n32, hF, hD, xl1, xl2, xb⟩ := q
        have ss : st.toNat ≤ 2 := by omega
        have eG2 : Ex G' (upd G' D (.lst (xs.map V.int))) := Ex.new G'D
        have eG3 : Ex (upd G' D (.lst (xs.map V.int))) (off a c H') := fun b u hb => by
          by_cases w : b = D
          · rw [w, upd_same] at hb
            rw [w, off_ne Da Dc, hD]
            exact hb
          · rw [upd_ne w] at hb
            exact z3 _ _ hb
        have G'F : upd G' D (.lst (xs.map V.int)) F = none := by rw [upd_ne DF]; exact e8
        dsimp only
        refine ⟨_, rfl, .inl ⟨rfl, _, SqL.of hF⟩, _, rfl, F, _, _, rfl, rfl, hF, ?_, _, _, _, _, upd G' D (.lst (xs.map V.int)), n3, vs ++ [.ref D], ds ++ [.list (xs.map .int)], rfl, e2.trans eG2, ?_, ?_, S3.upd Fa Fc, by omega, by omega, G'F, upd_same, (e10.ex eG2).app (.cons (dints upd_same) .nil), ?_, fun d hd => ?_⟩
        · rw [e10.len2, e11]
          exact Nat.lt_of_le_of_lt (show 21 + i ≤ 100 by omega) (by decide)
        · rw [off_upd_ne Fa Fc]
          exact eG3.mut G'F
        · rw [off_upd_ne Fa Fc]
          exact z4.mut (off_none FH)
        · rw [List.length_append, e11]
          rfl
        · rcases List.mem_append.mp hd with hd | hd
          · exact e12 d hd
          · rw [List.mem_singleton.mp hd]
            exact short_ints (by omega) fun x hx => by
              have := xb x hx
              omega
    · obtain ⟨v3, v4, v5, v6, G', n', vs, ds, rfl, e2, e3, e4, e5, e6, e7, e8, e9, e10, e11, e12⟩ := q
      have e7 : n' ≤ n + 6 * 8 := e7
      exact ⟨_, rfl, k F H' G' n' vs ds e2 e3 e4 e5 e6 (by omega) FH Fa Fc e8 e9 e10 e11 e12⟩
end
end Ts


set_option Elab.async false
set_option linter.all false
set_option maxRecDepth 100000
set_option maxHeartbeats 4000000
namespace Ts
open PySem PySem.Spec L2 LamX
open Evl (Ex)
/-! ## values of written books, reckoned -/
def leavesB (r : Rl) (n x : Int) : Bool := decide (n % r.mod = r.rest) && decide (r.low ≤ n - x) && (match r.high with
  | none => true
  | some h => decide (n - x ≤ h))
theorem leavesB_iff {r : Rl} {n x : Int} : leavesB r n x = true ↔ Leaves r n x := by
  unfold leavesB Leaves
  rw [Bool.and_eq_true, Bool.and_eq_true, decide_eq_true_iff, decide_eq_true_iff, and_assoc]
  refine and_congr Iff.rfl (and_congr Iff.rfl ?_)
  cases r.high with
  | none => exact ⟨fun _ h z => (by cases z), fun _ => rfl⟩
  | some i => exact ⟨fun z h e => (by cases e; exact of_decide_eq_true z), fun z => decide_eq_true (z i rfl)⟩
def anyB (rs : List Rl) (s : Str) (n x : Int) : Bool := rs.any fun r => decide (V.str r.left = V.str s) && leavesB r n x
theorem anyB_iff {rs : List Rl} {s : Str} {n x : Int} : anyB rs s n x = true ↔ ∃ r ∈ rs, V.str r.left = V.str s ∧ Leaves r n x := by
  unfold anyB
  rw [List.any_eq_true]
  refine exists_congr fun r => and_congr Iff.rfl ?_
  rw [Bool.and_eq_true, decide_eq_true_iff, leavesB_iff]
/-- the values of the options of n -/
def optL (rs : List Rl) (ts : List Int) (n : Nat) : List Int :=
  ((List.range n).filterMap fun (x : Nat) => if anyB rs "one" n ((x : Int) + 1) = true then some (ts.getD (x + 1) 0) else none) ++ ((if anyB rs "none" n 0 = true then [0] else []) ++
    (List.range n).flatMap fun (x : Nat) => if anyB rs "two" n ((x : Int) + 1) = true then (List.range ((x + 1) / 2)).map fun (a : Nat) => Builtin.bitXor (ts.getD (a + 1) 0) (ts.getD (x - a) 0) else [])
theorem optL_iff {rs : List Rl} (lo : ∀ r ∈ rs, 0 ≤ r.low) {ts : List Int} {n : Nat} {u : Int} : u ∈ optL rs ts n ↔ OptVal rs ts (n : Int) u := by
  unfold optL OptVal
  rw [List.mem_append, List.mem_append]
  refine or_congr ?_ (or_congr ?_ ?_)
  · rw [List.mem_filterMap]
    constructor
    · rintro ⟨x, hx, h⟩
      split at h
      · rename_i c
        cases h
        obtain ⟨r, hr, h1, h2⟩ := anyB_iff.mp c
        exact ⟨(x : Int) + 1, ⟨r, hr, h1, h2, by omega⟩, by rw [show ((x : Int) + 1).toNat = x + 1 by omega]⟩
      · cases h
    · rintro ⟨x, ⟨r, hr, h1, h2, h3⟩, rfl⟩
      have l := lo r hr
      have l2 := h2.2.1
      refine ⟨(x - 1).toNat, List.mem_range.mpr (by omega), ?_⟩
      have e : (((x - 1).toNat : Nat) : Int) + 1 = x := by omega
      have e2 : (x - 1).toNat + 1 = x.toNat := by omega
      rw [e, e2, if_pos (anyB_iff.mpr ⟨r, hr, h1, h2⟩)]
  · constructor
    · intro h
      split at h
      · rename_i c
        exact ⟨anyB_iff.mp c, List.mem_singleton.mp h⟩
      · cases h
    · rintro ⟨h, rfl⟩
      rw [if_pos (anyB_iff.mpr h)]
      exact List.mem_singleton.mpr rfl
  · rw [List.mem_flatMap]
    constructor
    · rintro ⟨x, hx, h⟩
      split at h
      · rename_i c
        obtain ⟨r, hr, h1, h2⟩ := anyB_iff.mp c
        obtain ⟨a, ha, rfl⟩ := List.mem_map.mp h
        rw [List.mem_range] at ha
        refine ⟨(x : Int) + 1, ⟨r, hr, h1, h2, by omega⟩, (a : Int) + 1, by omega, by omega, ?_⟩
        rw [show ((a : Int) + 1).toNat = a + 1 by omega, show ((x : Int) + 1 - ((a : Int) + 1)).toNat = x - a by omega]
      · cases h
    · rintro ⟨x, ⟨r, hr, h1, h2, h3⟩, a, a1, a2, rfl⟩
      have l := lo r hr
      have l2 := h2.2.1
      refine ⟨(x - 1).toNat, List.mem_range.mpr (by omega), ?_⟩
      have e : (((x - 1).toNat : Nat) : Int) + 1 = x := by omega
      rw [e, if_pos (anyB_iff.mpr ⟨r, hr, h1, h2⟩)]
      refine List.mem_map.mpr ⟨(a - 1).toNat, List.mem_range.mpr (by omega), ?_⟩
      rw [show (a - 1).toNat + 1 = a.toNat by omega, show (x - 1).toNat - (a - 1).toNat = (x - a).toNat by omega]
def mexB (L : List Int) (m : Int) : Bool := decide (0 ≤ m) && (!decide (m ∈ L) && (List.range m.toNat).all fun (j : Nat) => decide ((j : Int) ∈ L))
theorem mexB_of {L : List Int} {m : Int} (h : mexB L m = true) : IsMex (· ∈ L) m := by
  unfold mexB at h
  obtain ⟨h1, h⟩ := Bool.and_eq_true_iff.mp h
  obtain ⟨h2, h3⟩ := Bool.and_eq_true_iff.mp h
  refine ⟨of_decide_eq_true h1, fun z => ?_, fun j j0 j1 => ?_⟩
  · have z : m ∈ L := z
    rw [decide_eq_true z] at h2
    cases h2
  · have z := List.all_eq_true.mp h3 j.toNat (List.mem_range.mpr (by omega))
    have z := of_decide_eq_true z
    rw [show ((j.toNat : Nat) : Int) = j by omega] at z
    exact z
def rightB (rs : List Rl) (ts : List Int) : Bool := decide (0 < ts.length) && (decide (ts.getD 0 0 = 0) && ((List.range ts.length).all fun n => decide (n = 0) || mexB (optL rs (ts.take n) n) (ts.getD n 0)))
theorem rightB_of {rs : List Rl} {ts : List Int} (lo : ∀ r ∈ rs, 0 ≤ r.low) (h : rightB rs ts = true) : Right rs ts := by
  unfold rightB at h
  obtain ⟨h1, h⟩ := Bool.and_eq_true_iff.mp h
  obtain ⟨h2, h3⟩ := Bool.and_eq_true_iff.mp h
  refine ⟨of_decide_eq_true h1, of_decide_eq_true h2, fun n n1 n2 => ?_⟩
  have z := List.all_eq_true.mp h3 n (List.mem_range.mpr n2)
  rw [decide_eq_false (by omega), Bool.false_or] at z
  have m := mexB_of z
  exact ⟨m.pos, fun w => m.no ((optL_iff lo).mpr w), fun j a b => (optL_iff lo).mp (m.all j a b)⟩
def wr1 : Rl := ⟨1, some 2, "one", 0, 1⟩
def wr2 : Rl := ⟨2, some 2, "none", 0, 1⟩
def wr3 : Rl := ⟨0, some 0, "two", 1, 3⟩
/-- what Book makes of written rules -/
theorem book_wr {rs : List Rl} (h : rs = [wr1, wr2, wr3] ∨ rs = []) : faultV (.list (rs.map Rl.d)) = .non ∧ (rs.map Rl.d).map rlOf = rs ∧ (rs.map Rl.d).length ≤ 60 ∧ (∀ e ∈ rs.map Rl.d, isRule e = true → (rlOf e).Sml) ∧ ∀ r ∈ rs, r.Ok := by
  have ok1 : wr1.Ok := ⟨by decide, by decide, (fun h => absurd h (by decide)), by decide, by decide, (fun h => absurd h (by decide)), (fun h e => by cases e; decide)⟩
  have ok2 : wr2.Ok := ⟨by decide, by decide, (fun h => absurd h (by decide)), by decide, by decide, (fun h => absurd h (by decide)), (fun h e => by cases e; decide)⟩
  have ok3 : wr3.Ok := ⟨by decide, by decide, (fun _ => rfl), by decide, by decide, (fun h => absurd h (by decide)), (fun h e => by cases e; decide)⟩
  have w : ∀ i : Int, 0 ≤ i → i ≤ 100 → Wr i := fun i h0 h1 => wr_small h0 (by omega)
  have s1 : wr1.Sml := ⟨w _ (by decide) (by decide), w _ (by decide) (by decide), by decide, w _ (by decide) (by decide), w _ (by decide) (by decide)⟩
  have s2 : wr2.Sml := ⟨w _ (by decide) (by decide), w _ (by decide) (by decide), by decide, w _ (by decide) (by decide), w _ (by decide) (by decide)⟩
  have s3 : wr3.Sml := ⟨w _ (by decide) (by decide), w _ (by decide) (by decide), by decide, w _ (by decide) (by decide), w _ (by decide) (by decide)⟩
  have rl : ∀ r : Rl, rlOf r.d = r := fun r => rlOf_mk false r
  have all : ∀ r ∈ rs, r.Ok ∧ r.Sml := by
    rcases h with rfl | rfl
    · intro r hr
      rcases List.mem_cons.mp hr with rfl | hr
      · exact ⟨ok1, s1⟩
      · rcases List.mem_cons.mp hr with rfl | hr
        · exact ⟨ok2, s2⟩
        · obtain rfl := List.mem_singleton.mp hr
          exact ⟨ok3, s3⟩
    · exact fun r hr => absurd hr (by simp)
  have e2 : (rs.map Rl.d).map rlOf = rs := by
    rw [List.map_map]
    exact (List.map_congr_left fun r _ => rl r).trans (List.map_id rs)
  have hm : ∀ e ∈ rs.map Rl.d, ∃ r ∈ rs, e = r.d := fun e he => by
    obtain ⟨r, hr, z⟩ := List.mem_map.mp he
    exact ⟨r, hr, z.symm⟩
  refine ⟨?_, e2, ?_, fun e he _ => ?_, fun r hr => (all r hr).1⟩
  · have z : faultAt (rs.map Rl.d) 0 [] false false = none := by
      refine fault_none (fun e he => ?_) ?_ (fun e _ m => by cases m) ?_
      · obtain ⟨r, hr, rfl⟩ := hm e he
        exact isRule_mk false (all r hr).1
      · rw [e2]
        rcases h with rfl | rfl <;> decide
      · rcases h with rfl | rfl
        · refine .inl ⟨rfl, fun e he => ?_⟩
          obtain ⟨r, hr, rfl⟩ := hm e he
          rw [rl]
          have z : [wr1, wr2, wr3].all (fun r => !decide (r.high = none)) = true := by decide
          have z := List.all_eq_true.mp z r hr
          exact fun w => by rw [w] at z; exact absurd z (by decide)
        · exact .inl ⟨rfl, fun e he => absurd he (by simp)⟩
    unfold faultV
    rw [show isRow (.list (rs.map Rl.d)) = true from rfl, show items (.list (rs.map Rl.d)) = rs.map Rl.d from rfl, z]
    rfl
  · rcases h with rfl | rfl <;> decide
  · obtain ⟨r, hr, rfl⟩ := hm e he
    rw [rl]
    exact (all r hr).2
/-- what the written rules leave -/
theorem aopt_w {n : Int} {ns : List Int} : AOpt [wr1, wr2, wr3] n ns ↔ (ns = [] ∧ n = 2) ∨ (∃ x, ns = [x] ∧ 1 ≤ n - x ∧ n - x ≤ 2 ∧ 1 ≤ x) ∨ ∃ a, ns = [a, n - a] ∧ n % 3 = 1 ∧ 2 ≤ n ∧ 1 ≤ a ∧ a ≤ n / 2 := by
  have c1 : V.str wr1.left ≠ V.str "none" ∧ V.str wr1.left ≠ V.str "two" := by decide
  have c2 : V.str wr2.left ≠ V.str "one" ∧ V.str wr2.left ≠ V.str "two" := by decide
  have c3 : V.str wr3.left ≠ V.str "none" ∧ V.str wr3.left ≠ V.str "one" := by decide
  have m : ∀ {r : Rl}, r ∈ [wr1, wr2, wr3] → r = wr1 ∨ r = wr2 ∨ r = wr3 := fun h => by simpa using h
  constructor
  · rintro (⟨rfl, r, hr, h1, h2⟩ | ⟨x, rfl, r, hr, h1, h2, h3⟩ | ⟨t, a, rfl, ⟨r, hr, h1, h2, h3⟩, h4, h5⟩)
    · rcases m hr with rfl | rfl | rfl
      · exact (c1.1 h1).elim
      · have a : 2 ≤ n - 0 := h2.2.1
        have b : n - 0 ≤ 2 := h2.2.2 2 rfl
        exact .inl ⟨rfl, by omega⟩
      · exact (c3.1 h1).elim
    · rcases m hr with rfl | rfl | rfl
      · have a : 1 ≤ n - x := h2.2.1
        have b : n - x ≤ 2 := h2.2.2 2 rfl
        exact .inr (.inl ⟨x, rfl, a, b, h3⟩)
      · exact (c2.1 h1).elim
      · exact (c3.2 h1).elim
    · rcases m hr with rfl | rfl | rfl
      · exact (c1.2 h1).elim
      · exact (c2.2 h1).elim
      · have a1 : n % 3 = 1 := h2.1
        have a2 : 0 ≤ n - t := h2.2.1
        have a3 : n - t ≤ 0 := h2.2.2 0 rfl
        obtain rfl : t = n := by omega
        exact .inr (.inr ⟨a, rfl, a1, h3, h4, h5⟩)
  · rintro (⟨rfl, rfl⟩ | ⟨x, rfl, h1, h2, h3⟩ | ⟨a, rfl, h1, h2, h3, h4⟩)
    · exact .inl ⟨rfl, wr2, by simp, rfl, rfl, by decide, fun h e => by cases e; decide⟩
    · exact .inr (.inl ⟨x, rfl, wr1, by simp, rfl, ⟨Int.emod_one _, h1, fun h e => by cases e; exact h2⟩, h3⟩)
    · exact .inr (.inr ⟨n, a, rfl, ⟨wr3, by simp, rfl, ⟨h1, by show 0 ≤ n - n; omega, fun h e => by cases e; show n - n ≤ 0; omega⟩, h2⟩, h3, h4⟩)
theorem opts_w4 : Opts (AOpt [wr1, wr2, wr3] 4) [[1, 3], [2], [2, 2], [3]] := by
  refine ⟨by decide, by decide, fun ns => ?_⟩
  rw [aopt_w]
  constructor
  · intro h
    simp only [List.mem_cons, List.not_mem_nil, or_false] at h
    rcases h with rfl | rfl | rfl | rfl
    · exact .inr (.inr ⟨1, rfl, by decide, by decide, by decide, by decide⟩)
    · exact .inr (.inl ⟨2, rfl, by decide, by decide, by decide⟩)
    · exact .inr (.inr ⟨2, rfl, by decide, by decide, by decide, by decide⟩)
    · exact .inr (.inl ⟨3, rfl, by decide, by decide, by decide⟩)
  · rintro (⟨rfl, h⟩ | ⟨x, rfl, h1, h2, h3⟩ | ⟨a, rfl, _, _, h3, h4⟩)
    · cases h
    · have : x = 2 ∨ x = 3 := by omega
      rcases this with rfl | rfl <;> decide
    · have : a = 1 ∨ a = 2 := by omega
      rcases this with rfl | rfl <;> decide
theorem opts_w3 : Opts (AOpt [wr1, wr2, wr3] 3) [[1], [2]] := by
  refine ⟨by decide, by decide, fun ns => ?_⟩
  rw [aopt_w]
  constructor
  · intro h
    simp only [List.mem_cons, List.not_mem_nil, or_false] at h
    rcases h with rfl | rfl
    · exact .inr (.inl ⟨1, rfl, by decide, by decide, by decide⟩)
    · exact .inr (.inl ⟨2, rfl, by decide, by decide, by decide⟩)
  · rintro (⟨rfl, h⟩ | ⟨x, rfl, h1, h2, h3⟩ | ⟨a, rfl, h, _⟩)
    · cases h
    · have : x = 1 ∨ x = 2 := by omega
      rcases this with rfl | rfl <;> decide
    · exact absurd h (by decide)
theorem opts_w0 : Opts (AOpt [wr1, wr2, wr3] 0) [] := by
  refine ⟨by decide, by decide, fun ns => ?_⟩
  rw [aopt_w]
  constructor
  · intro h
    cases h
  · rintro (⟨rfl, h⟩ | ⟨x, rfl, h1, h2, h3⟩ | ⟨a, rfl, h, _⟩)
    · cases h
    · omega
    · exact absurd h (by decide)
theorem right_w4 : Right [wr1, wr2, wr3] [0, 0, 1, 2, 3] := rightB_of (by decide) (by decide +kernel)
theorem right_w3 : Right [wr1, wr2, wr3] [0, 0, 1, 2] := rightB_of (by decide) (by decide +kernel)
theorem right_w0 : Right [wr1, wr2, wr3] [0] := rightB_of (by decide) (by decide +kernel)
theorem wrong_has {ts : List Int} {l : List (List Int)} {n t m : Int} {ns : List Int} (h : l.find? (fun ns => decide (optv ts ns = t)) = some ns) : PyData.tuple [.str "has", .int n, .list (ns.map .int)] = wrongAt ts l n t m := by
  unfold wrongAt
  rw [h]
theorem wrong_lacks {ts : List Int} {l : List (List Int)} {n t m : Int} (h : l.find? (fun ns => decide (optv ts ns = t)) = none) : PyData.tuple [.str "lacks", .int n, .int m] = wrongAt ts l n t m := by
  unfold wrongAt
  rw [h]
theorem vd_w1 : VD [wr1, wr2, wr3] (.list ([0, 0, 1, 2, 2].map .int)) (.tuple [.str "has", .int 4, .list ([1, 3].map .int)]) :=
  .inr ⟨[0, 0, 1, 2, 2], by decide, rfl, by decide, .inr ⟨4, _, _, by decide, right_w4, rfl, rfl, by decide, opts_w4, wrong_has (by decide +kernel)⟩⟩
theorem vd_w2 : VD [wr1, wr2, wr3] (.list ([0, 0, 1, 3].map .int)) (.tuple [.str "lacks", .int 3, .int 2]) :=
  .inr ⟨[0, 0, 1, 3], by decide, rfl, by decide, .inr ⟨3, _, _, by decide, right_w3, rfl, rfl, by decide, opts_w3, wrong_lacks (by decide +kernel)⟩⟩
theorem vd_w3 : VD [wr1, wr2, wr3] (.list ([1].map .int)) (.tuple [.str "lacks", .int 0, .int 0]) :=
  .inr ⟨[1], by decide, rfl, by decide, .inr ⟨0, _, _, by decide, right_w0, rfl, rfl, by decide, opts_w0, wrong_lacks (by decide +kernel)⟩⟩
/-! ## what is told, whatever it is -/
theorem okD_ints (k : Nat) (ns : List Int) : (ns.map PyData.int).all (okD k) = true := by
  rw [List.all_map, List.all_eq_true]
  intro x _
  cases k <;> rfl
theorem FR.okD {rs : List Rl} {xs : List Int} {e : PyData} (h : FR rs xs e) : Ts.okD 3 e = true := by
  rcases h with ⟨_, rfl⟩ | ⟨n, ts, l, _, _, _, _, _, ho, rfl⟩
  · rfl
  · unfold wrongAt
    cases hf : l.find? (fun ns => decide (optv ts ns = xs.getD n 0)) with
    | none => rfl
    | some ns =>
      have hl := aopt_len ((ho.mem _).mp (List.mem_of_find?_eq_some hf))
      show (true && (true && (true && ((decide ((ns.map PyData.int).length ≤ 90000) && (ns.map PyData.int).all (Ts.okD 1)) && true)))) = true
      rw [okD_ints, decide_eq_true (by rw [List.length_map]; omega)]
      rfl
theorem VD.okD {rs : List Rl} {d e : PyData} (h : VD rs d e) : Ts.okD 3 e = true := by
  rcases h with ⟨_, rfl⟩ | ⟨xs, _, _, _, h⟩
  · rfl
  · exact h.okD
theorem isNum_row {d : PyData} (h : isRow d = true) : isNum d = false := by
  cases d <;> first | (cases h; done) | rfl
theorem mk_row2 (b : Bool) (es : List PyData) : isRow (mk b es) = true ∧ items (mk b es) = es := by
  cases b <;> exact ⟨rfl, rfl⟩
theorem Loo.num {d e : PyData} (h : Loo d e) : isNum e = isNum d ∧ (isNum d = true → e = d) := by
  cases h with
  | same _ => exact ⟨rfl, fun _ => rfl⟩
  | row b hr _ => exact ⟨by rw [isNum_row (mk_row2 b _).1, isNum_row hr], fun h => by rw [isNum_row hr] at h; cases h⟩
theorem LooAll.num : ∀ {ds es : List PyData}, LooAll ds es → es.all isNum = ds.all isNum ∧ (ds.all isNum = true → es = ds) ∧ es.length = ds.length
  | _, _, .nil => ⟨rfl, fun _ => rfl, rfl⟩
  | _, _, .cons h r => by
    obtain ⟨h1, h2⟩ := h.num
    obtain ⟨r1, r2, r3⟩ := LooAll.num r
    refine ⟨by rw [List.all_cons, List.all_cons, h1, r1], fun z => ?_, by rw [List.length_cons, List.length_cons, r3]⟩
    rw [List.all_cons, Bool.and_eq_true] at z
    rw [h2 z.1, r2 z.2]
theorem Loo.nums {d e : PyData} (h : Loo d e) : isNums e = isNums d ∧ (isNums d = true → items e = items d) ∧ (items e).length = (items d).length := by
  cases h with
  | same _ => exact ⟨rfl, fun _ => rfl, rfl⟩
  | row b hr hl =>
    obtain ⟨h1, h2, h3⟩ := LooAll.num hl
    obtain ⟨m1, m2⟩ := mk_row2 b ‹List PyData›
    unfold isNums
    rw [m1, m2, hr]
    refine ⟨by rw [h1], fun z => h2 (by simpa using z), h3⟩
theorem VD.loo {rs : List Rl} {d d' e : PyData} (l : Loo d d') (h : VD rs d' e) : VD rs d e := by
  obtain ⟨n1, n2, n3⟩ := l.nums
  rcases h with ⟨h | h, he⟩ | ⟨xs, h1, h2, h3, h4⟩
  · exact .inl ⟨.inl (n1.symm.trans h), he⟩
  · exact .inl ⟨.inr (List.eq_nil_of_length_eq_zero (by rw [← n3, h]; rfl)), he⟩
  · have h1' := n1.symm.trans h1
    exact .inr ⟨xs, h1', by rw [← n2 h1']; exact h2, h3, h4⟩
theorem FltAt.nt {H0 H : Hp} {v : V} {d : PyData} (h : FltAt H0 H v d) : FltAt H0 (Ts.nt H) v d := by
  rcases h with h | ⟨T, h1, h2, h3⟩ | ⟨T, n, m, h1, h2, h3⟩ | ⟨T, z, n, ns, h1, h2, h3, h4, h5⟩
  · exact .inl h
  · exact .inr (.inl ⟨T, h1, nt_at h2 fun _ z => (by cases z), h3⟩)
  · exact .inr (.inr (.inl ⟨T, n, m, h1, nt_at h2 fun _ z => (by cases z), h3⟩))
  · exact .inr (.inr (.inr ⟨T, z, n, ns, h1, nt_at h2 (fun _ z => (by cases z)), h3, nt_at h4 (fun _ z => (by cases z)), h5⟩))
theorem nt_extN {H H' : Hp} (e : ExtN H H') : Ex (Ts.nt H) H' := fun b o h => by
  obtain ⟨h1, h2⟩ := nt_of h
  exact e b o h1 h2
theorem FltAt.extN {H0 H H' : Hp} {v : V} {d : PyData} (h : FltAt H0 H v d) (e : ExtN H H') : FltAt H0 H' v d := h.nt.ex (nt_extN e)
theorem Strm.extN {H H' : Hp} {a c : Addr} {n : Int} (e : ExtN H H') (h : Strm H a c n) : Strm H' a c n := by
  obtain ⟨⟨cells, s1, s3, h1, h2, h3⟩, h4, h5⟩ := h
  exact ⟨⟨cells, s1, s3, e _ _ h1 (fun _ z => by cases z), e _ _ h2 (fun _ z => by cases z), h3⟩, h4, h5⟩
/-- what is spoiled is new lists: tables stay -/
theorem tabs_spoil {T : List (Addr × Str)} {H H' : Hp} {F : List Addr} (t : Tabs T H) (hF : ∀ a ∈ F, ∃ ys, H a = some (.lst ys)) (k : ∀ b o, b ∉ F → H b = some o → H' b = some o) : Tabs T H' := fun p hp => by
  obtain ⟨ps, h1, h2, h3⟩ := t p hp
  have keep : ∀ (z : Addr) (o : HO), H z = some o → (∀ xs, o ≠ .lst xs) → H' z = some o := fun z o hz ho => k z o (fun m => by
    obtain ⟨ys, e⟩ := hF z m
    rw [hz] at e
    cases e
    exact ho _ rfl) hz
  refine ⟨ps, keep _ _ h1 (fun _ z => by cases z), h2, fun pos cv hc => ?_⟩
  obtain ⟨cc, e1, e2⟩ := h3 pos cv hc
  exact ⟨cc, e1, keep _ _ e2 (fun _ z => by unfold CodeO at z; cases z)⟩
section
variable {X : Cx} {CN gN : Addr}
theorem pe_metT {TS : List (Addr × Str)} (M : Errs X.K X.mg CN gN) {g c T : Addr} {fd : FuncData} {k : Nat} {params : Arguments} {body : Expr} {scope : Scope} {t : XK → TE} {p lpos pos : Pos}
    (F : FD X.K X.mg "_law_met" "_law_met" s_met g fd) (hg : Gl X "_law_met") (TB : TabB X.base X.mg c T) (hcode : X.env.code = .ref c) (hmT : (T, X.env.qual ++ "<lambda>") ∈ TS) (hu : ∀ p ∈ TS, p.1 = T → p.2 = X.env.qual ++ "<lambda>") (hr : Room (k + 2) X.A) (L : LamS X.env.scope scope) (hdef : defaultsOf params X.env = ([], []))
    (hbind : ∀ (q : Str) (cl : List (Str × Addr)) (pm cv ctv : Value), bindArgs (PySem.W.kla_fn "<lambda>" q params body scope cl pm cv ctv) ⟨[], []⟩ = pure [])
    (hbody : ∀ (A : Around) (outer : List Env) (s : Shared) (H : Hp) (E : XK) (f c' : Addr), Room k (A.deeper (lamEnv X scope s.heap.objs.size f c')) → PE (lamCx X A outer s H E scope f c') body (t E)) :
    PE X (.Call (.Name "_law_met" p) [.Lambda params body scope lpos] [] pos) (tLam TS (TMet CN) t) := by
  obtain ⟨oc, od, kV, doc, pm, an, cdv, ct, osl, hfd, lk, hcd⟩ := F.F.ex
  subst hfd
  exact pe_lamcall (a := "ask") (Ng := ["ask", "e"]) hg F.g F.F.kp lk hcd (F.F.binds fun _ _ _ _ _ _ us hl => match us, hl with | [_], _ => rfl) sc_met rfl (Or.inl rfl) (met_gives M) TB hcode hmT hu hr L hdef hbind hbody
end
section
variable {P : Program} {w : World} {K : PySem.W.Frag} {mg : Str → Option Value} {base : Heap}
theorem okCG {x q : Str} {st : Stmt} {f c : Addr} {N ps : List Str} {k : Nat} {sp : Sp} {oc kV doc pm ct : Value} {od an : Option Addr} {osl : Array (Option Value)}
    (lk : K.lookup f = some ⟨oc, od, .func (PySem.W.fnOf x q (defArgs st) (defBody st) (defScope st) .none kV doc pm an (.ref c) ct), osl⟩) (hcd : PySem.W.codeIn K (.ref c) q = true) (S : FnScope N ps (defScope st)) (ln : ∀ vs H Q E, sp vs H Q E → vs.length = ps.length)
    (hb : ∀ (A : Around) (outer : List Env) (s : Shared) (H : Hp) (vs : List V) (Q : VK) (E : XK), A.guards = some [] → Room k (A.deeper (PyProof.Rows.envOfC q (defScope st) s.heap.objs.size f (.ref c))) → sp vs H Q E →
      ∃ t, PSs (cxOf CX0 P w K mg base N q (defScope st) f (.ref c) A outer s H E).nox (defBody st) t ∧ t { nx := fun _ H' => Q .non H', rt := Q } (L2.start N vs) H) :
    GOk P w K mg base CX0 (k + 1) f (PySem.W.fnOf x q (defArgs st) (defBody st) (defScope st) .none kV doc pm an (.ref c) ct) ps sp :=
  ⟨ln, fun A outer s H args us vs Q E hg hr e0 hbi hv hsp => LamX.run_ofS lk hcd S hr e0 hbi hv (ln _ _ _ _ hsp) fun hr' => by
    obtain ⟨t, ht, q⟩ := hb A outer s H vs Q E hg hr' hsp
    exact ⟨t, ht.nox, q⟩⟩
end
theorem new_del {H : Hp} {p dx : Addr} {C : Addr} (np : H p = none) (ndx : H dx = none) : Ex H (del (upd (upd H dx (.own p)) p (.ins C dx [])) p) := fun z o hz => by
  have n1 : z ≠ p := ne_of_none hz np
  have n2 : z ≠ dx := ne_of_none hz ndx
  rw [del_ne n1, upd_ne n1, upd_ne n2]
  exact hz
theorem sort_len {rs : List Rl} : (sortR rs).length = rs.length := (List.mergeSort_perm _ _).length_eq
theorem sort_mem {rs : List Rl} : ∀ r, r ∈ sortR rs ↔ r ∈ rs := fun _ => mem_sortR
theorem rule_D {H : Hp} {p : Addr} {r : Rl} (h : H p = some (.tup r.vs)) : D H (.ref p) r.d := by
  refine .tup h (.cons (.int _) (.cons ?_ (.cons (.str _) (.cons (.int _) (.cons (.int _) .nil)))))
  cases r.high with
  | none => exact .non
  | some i => exact .int _
end Ts


set_option Elab.async false
set_option linter.all false
set_option maxRecDepth 100000
set_option maxHeartbeats 8000000
namespace Ts
open PySem PySem.Spec L2 LamX
open Evl (Ex)
section
variable {X : Cx} {CX : CXT} {k : Nat} {f : Addr} {fd : FuncData} {ps ks : List Str} {sp : Sp} {E : XK} {x : Str} {p pos : Pos} {kws : List Keyword} {tk : TA} {g : List Value → List Value → List Value} {gV : List V → List V → List V}
/-- f(k = v, ..) -/
theorem pe_callN0 (F : FnOk X.prog X.w X.K X.mg X.base CX k f fd ps sp) (hr : Room k X.A) (hg : Gl X x) (hm : X.mg x = some (.ref f)) (hk : PySem.W.keepIn X.K (.ref f) = true) (hb : KBn X.K fd ps 0 ks g gV) (hx : Passes CX X E)
    (hkw : PK X kws tk) (hall : (backToKw pos (keywordEach kws X.env)).all (·.1.isSome) = true := by rfl) (hks : (backToKw pos (keywordEach kws X.env)).filterMap (·.1) = ks := by rfl)
    (hdb : (x == ("__debug__" : Str)) = false := by decide)
    (hpl : ((backTo pos (starEach [] X.env)).any (·.1) || (backToKw pos (keywordEach kws X.env)).any (·.1.isNone)) = false := by rfl) :
    PE X (.Call (.Name x p) [] kws pos) (tCallN 0 ks.length sp gV E tNil tk) := by
  refine ⟨fun pins s σ H Q I h => ?_⟩
  refine wpAny_Call_Name_kw (ld_glob I hg hm ?_ hdb)
  refine PySem.W.callWith_KW0 (h₀ := X.base) I.ok.mod.kin hk hall ?_ hpl
  refine thn (hkw.run pos pins s σ H _ I h) fun ws s2 ⟨zs, H2, I2, rz, l1, l2, q2⟩ => ⟨I2.kIn, ?_⟩
  rw [hks]
  exact run_fnN (us := []) (vs := []) F hr hb hx I2 .nil rz rfl l2 q2
end
def swp {α : Type} (ws : List α) : List α := match ws with
  | [a, b] => [b, a]
  | ws => ws
theorem swp_rel : ∀ {zs : List V} {ws : List Value}, Vals zs ws → Vals (swp zs) (swp ws)
  | [], _, .nil => .nil
  | [_], _, .cons h .nil => .cons h .nil
  | [_, _], _, .cons h (.cons h2 .nil) => .cons h2 (.cons h .nil)
  | _ :: _ :: _ :: _, _, .cons h (.cons h2 (.cons h3 r)) => .cons h (.cons h2 (.cons h3 r))
theorem ex_off {a c : Addr} {R H : Hp} (ra : R a = none) (rc : R c = none) (e : Ex R H) : Ex R (off a c H) := fun b o h => by
  rw [off_ne (ne_of_none h ra) (ne_of_none h rc)]
  exact e b o h
theorem Strm.nt {H : Hp} {a c : Addr} {n : Int} (h : Strm H a c n) : Strm (Ts.nt H) a c n := by
  obtain ⟨⟨cells, s1, s3, h1, h2, h3⟩, h4, h5⟩ := h
  exact ⟨⟨cells, s1, s3, nt_at h1 (fun _ z => by cases z), nt_at h2 (fun _ z => by cases z), h3⟩, h4, h5⟩
theorem nt_nt {H H' : Hp} (e : Ex (Ts.nt H) H') : Ex (Ts.nt H) (Ts.nt H') := fun b o h => nt_at (e b o h) (nt_of h).2
theorem rule_okD (r : Rl) : Ts.okD 2 r.d = true := by
  obtain ⟨lo, hi, le, re, mo⟩ := r
  cases hi <;> rfl
theorem rules_okD {rs : List Rl} (h : rs.length ≤ 90000) : Ts.okD 3 (.list (rs.map Rl.d)) = true := by
  show (decide ((rs.map Rl.d).length ≤ 90000) && (rs.map Rl.d).all (Ts.okD 2)) = true
  rw [decide_eq_true (by rw [List.length_map]; exact h), Bool.true_and, List.all_eq_true]
  intro d hd
  obtain ⟨r, _, rfl⟩ := List.mem_map.mp hd
  exact rule_okD r
theorem okL_items {d : PyData} (h : okL 3 d = true) : (items d).length ≤ 90 := by
  by_cases c : isRow d = true
  · obtain ⟨_, _, z, _⟩ := okL_row c h
    exact z
  · cases d <;> first
      | exact absurd rfl c
      | exact Nat.zero_le _
section
variable {P : Program} {w : World} {K : PySem.W.Frag} {mg : Str → Option Value} {base : Heap}
abbrev s_law := top 59
abbrev NL : List Str := ["script", "stream", "turn", "raw", "made", "told", "thing", "handed", "due", "was", "found", "odd"]
theorem sc_law : FnScope NL ["script"] (defScope s_law) := ⟨rfl, rfl, rfl, by decide +kernel, rfl, by decide +kernel, by decide +kernel⟩
def lamL : Str := (PyProof.Rows.envOfC "law" (defScope s_law) 0 0 .none).qual ++ "<lambda>"
def spLaw (K : PySem.W.Frag) (TS : List (Addr × Str)) : Sp := fun vs H Q _ => ∃ (s : Addr) (ns : List Int), vs = [.ref s] ∧ SqL K H s (ns.map V.int) ∧ Tabs TS H ∧ ∀ H', Q (.bl true) H'
theorem kb_of {f : Addr} {fd : FuncData} (F : FD K mg "values_fault" "values_fault" s_vf f fd) : KBn K fd ["book", "thing"] 0 ["thing", "book"] (fun _ ws => swp ws) (fun _ zs => swp zs) := by
  obtain ⟨oc, od, kV, doc, pm, an, cdv, ct, osl, rfl, lk, hcd⟩ := F.F.ex
  refine ⟨fun s us ws _ l1 l2 => ?_, fun _ r => swp_rel r⟩
  match us, ws, l1, l2 with
  | [], [a, b], _, _ => exact .of_eq rfl
/-- Book(raw), raw the written rules -/
theorem made_wr {CB CR p dx rw : Addr} {rs : List Rl} (h : rs = [wr1, wr2, wr3] ∨ rs = []) {H : Hp} (np : H p = none) (ndx : H dx = none) (Dr : D H (.ref rw) (.list (rs.map Rl.d))) {Q : VK} {E : XK}
    (k : ∀ H', Ex H H' → BookAt CB H' p (sortR rs) → Q .non H') : spBook CB CR [.ref p, .ref rw] (upd (upd H dx (.own p)) p (.ins CB dx [])) Q E := by
  have bw := book_wr h
  have eb := new_del (C := CB) np ndx
  refine ⟨p, dx, .ref rw, _, rfl, upd_same, Dr.ex eb, bw.2.2.1, bw.2.2.2.1, fun z => absurd bw.1 z, fun _ J ec bk _ => k J (eb.trans ec) ?_⟩
  have z : (items (.list (rs.map Rl.d))).map rlOf = rs := bw.2.1
  rw [z] at bk
  exact bk
theorem ok_law {TS : List (Addr × Str)} {tab f c f0 f1 f2 f3 f4 f5 f6 f7 f8 f9 f10 f11 fv fI fR CB CR CX gX : Addr} {fd0 fd1 fd2 fd3 fd4 fd5 fd6 fd7 fd8 fd9 fd10 fd11 fdv fdI fdR : FuncData} {oc kV doc pm ct : Value} {od an : Option Addr} {osl : Array (Option Value)}
    (lk : K.lookup f = some ⟨oc, od, .func (PySem.W.fnOf "law" "law" (defArgs s_law) (defBody s_law) (defScope s_law) .none kV doc pm an (.ref c) ct), osl⟩) (hcd : PySem.W.codeIn K (.ref c) "law" = true)
    (M : Errs K mg CX gX) (TB : TabB base mg c tab) (hmT : (tab, lamL) ∈ TS) (hu : ∀ p ∈ TS, p.1 = tab → p.2 = lamL)
    (F_met : FD K mg "_law_met" "_law_met" s_met f0 fd0)
    (F_start : FD K mg "_law_start" "_law_start" s_start f1 fd1) (G_start : FnOk P w K mg base CX0 1 f1 fd1 ["script"] (spStart K))
    (F_draw : FD K mg "_law_draw" "_law_draw" s_draw f2 fd2)
    (F_abook : FD K mg "_law_a_book" "_law_a_book" s_abook f3 fd3) (G_abook : FnOk P w K mg base CX0 5 f3 fd3 ["stream"] spAbook)
    (F_wide : FD K mg "_law_b_wide" "_law_b_wide" s_wide f4 fd4) (G_wide : FnOk P w K mg base CX0 5 f4 fd4 ["stream"] spAbook)
    (F_amade : FD K mg "_law_a_made" "_law_a_made" s_amade f5 fd5) (G_amade : FnOk P w K mg base CX0 7 f5 fd5 ["stream", "raw"] (spAmade CB))
    (F_avals : FD K mg "_law_a_values" "_law_a_values" s_avals f6 fd6) (G_avals : FnOk P w K mg base CX0 3 f6 fd6 ["raw", "most"] spAvals)
    (F_things : FD K mg "_law_things" "_law_things" s_things f7 fd7) (G_things : FnOk P w K mg base CX0 3 f7 fd7 ["stream", "due"] spThings)
    (F_loose : FD K mg "_law_loose" "_law_loose" s_loose f8 fd8)
    (F_due : FD K mg "_law_due" "_law_due" s_due f9 fd9) (G_due : FnOk P w K mg base CX0 3 f9 fd9 ["raw", "thing"] spDue)
    (F_same : FD K mg "_law_same" "_law_same" s_same f10 fd10)
    (F_spoil : FD K mg "_law_a_spoiled" "_law_a_spoiled" s_spoil f11 fd11)
    (F_vf : FD K mg "values_fault" "values_fault" s_vf fv fdv) (G_vf : FnOk P w K mg base (L2.CX P w) 8 fv fdv ["book", "thing"] (spVf CB CX TS))
    (B : BkC K mg CB fI fR) (F_I : Fun K "__init__" "Book.__init__" s_binit fI fdI) (G_binit : FnOk P w K mg base (L2.CX P w) 5 fI fdI ["self", "rules"] (spBook CB CR))
    (F_R : Fun K "rules" "Book.rules" s_brules fR fdR) (G_rules : FnOk P w K mg base CX0 1 fR fdR ["self"] (spBrules CB)) (T : Bl mg) :
    GOk P w K mg base CX0 11 f (PySem.W.fnOf "law" "law" (defArgs s_law) (defBody s_law) (defScope s_law) .none kV doc pm an (.ref c) ct) ["script"] (spLaw K TS) := by
  have G_draw : FnOk P w K mg base CX0 1 f2 fd2 ["stream", "many"] spDraw := ok_draw F_draw T
  have G_loose : FnOk P w K mg base CX0 5 f8 fd8 ["stream", "thing"] (spLoose 4) := ok_loose F_loose F_draw T 4
  have G_same : FnOk P w K mg base CX0 6 f10 fd10 ["found", "due"] (spSame 6) := ok_same F_same T 6
  have G_spoil : FnOk P w K mg base CX0 5 f11 fd11 ["thing"] (spSpoilT 5) := ok_spoilT F_spoil T 5
  have b_start : Binds K fd1 ["script"] [] := F_start.F.binds fun _ _ _ _ _ _ us hl => match us, hl with | [_], _ => rfl
  have b_draw := b_draw F_draw
  have b_abook : Binds K fd3 ["stream"] [] := F_abook.F.binds fun _ _ _ _ _ _ us hl => match us, hl with | [_], _ => rfl
  have b_wide : Binds K fd4 ["stream"] [] := F_wide.F.binds fun _ _ _ _ _ _ us hl => match us, hl with | [_], _ => rfl
  have b_amade : Binds K fd5 ["stream", "raw"] [] := F_amade.F.binds fun _ _ _ _ _ _ us hl => match us, hl with | [_, _], _ => rfl
  have b_avals : Binds K fd6 ["raw", "most"] [] := F_avals.F.binds fun _ _ _ _ _ _ us hl => match us, hl with | [_, _], _ => rfl
  have b_things : Binds K fd7 ["stream", "due"] [] := F_things.F.binds fun _ _ _ _ _ _ us hl => match us, hl with | [_, _], _ => rfl
  have b_loose : Binds K fd8 ["stream", "thing"] [] := F_loose.F.binds fun _ _ _ _ _ _ us hl => match us, hl with | [_, _], _ => rfl
  have b_due : Binds K fd9 ["raw", "thing"] [] := F_due.F.binds fun _ _ _ _ _ _ us hl => match us, hl with | [_, _], _ => rfl
  have b_same : Binds K fd10 ["found", "due"] [] := F_same.F.binds fun _ _ _ _ _ _ us hl => match us, hl with | [_, _], _ => rfl
  have b_spoil : Binds K fd11 ["thing"] [] := F_spoil.F.binds fun _ _ _ _ _ _ us hl => match us, hl with | [_], _ => rfl
  have b_vf : Binds K fdv ["book", "thing"] [] := F_vf.F.binds fun _ _ _ _ _ _ us hl => match us, hl with | [_, _], _ => rfl
  have kb_vf := kb_of F_vf
  have b_binit : Binds K fdI ["self", "rules"] [] := F_I.binds fun _ _ _ _ _ _ us hl => match us, hl with | [_, _], _ => rfl
  have b_rules : Binds K fdR ["self"] [] := F_R.binds fun _ _ _ _ _ _ us hl => match us, hl with | [_], _ => rfl
  refine okCG lk hcd sc_law (fun vs H Q E h => ?_) (fun A outer s H vs Q E hA hr h => ?_)
  · obtain ⟨s, ns, rfl, _⟩ := h
    rfl
  · obtain ⟨sc, ns, rfl, hs, hT, kq⟩ := h
    have nd := sc_law.nd
    have hr10 : Room (8 + 2) _ := hr
    have hu64 := Nat.lt_of_le_of_lt (Nat.add_le_add_left (by decide : 64 ≤ 64) _) hr.units
    refine ⟨_, (pss_cons (ps_set (i := 1) nd rfl (Or.inl rfl) (pe_call G_start (hr.mono (by decide)) (by rfl) F_start.g F_start.F.kp b_start .nil pass0 (pa_cons (pv 0) pa_nil)))
      (pss_cons (ps_for PassesOwn.never rfl (pi_range1 (by rfl) T.range (pa_cons pe_int pa_nil)) (pg_name (i := 2) nd rfl (Or.inl rfl)) (pss_cons (ps_set (i := 3) nd rfl (Or.inl rfl) (pe_ifExp (pt_cmpR op_lt (pv 2) pe_int (nomark _)) (pe_call G_abook (hr.mono (by decide)) (by rfl) F_abook.g F_abook.F.kp b_abook .nil pass0 (pa_cons (pv 1) pa_nil)) (pe_call G_wide (hr.mono (by decide)) (by rfl) F_wide.g F_wide.F.kp b_wide .nil pass0 (pa_cons (pv 1) pa_nil))))
        (pss_cons (ps_par (i := 4) (j := 5) (by rfl) nd rfl rfl (by decide) rfl rfl (pa_cons (pe_call G_amade (hr.mono (by decide)) (by rfl) F_amade.g F_amade.F.kp b_amade .nil pass0 (pa_cons (pv 1) (pa_cons (pv 3) pa_nil))) (pa_cons (pe_call G_avals (hr.mono (by decide)) (by rfl) F_avals.g F_avals.F.kp b_avals .nil pass0 (pa_cons (pv 3) (pa_cons (pe_call G_draw (hr.mono (by decide)) (by rfl) F_draw.g F_draw.F.kp b_draw .nil pass0 (pa_cons (pv 1) (pa_cons pe_int pa_nil))) pa_nil))) pa_nil)) (by rfl))
        (pss_one (ps_for PassesOwn.never rfl (pi_list (pe_op op_cat (pe_call G_things (hr.mono (by decide)) (by rfl) F_things.g F_things.F.kp b_things .nil pass0 (pa_cons (pv 1) (pa_cons (pv 5) pa_nil))) (pe_lst (pa_cons (pv 5) pa_nil)))) (pg_name (i := 6) nd rfl (Or.inl rfl))
          (pss_cons (ps_par (i := 7) (j := 8) (by rfl) nd rfl rfl (by decide) rfl rfl (pa_cons (pe_call G_loose (hr.mono (by decide)) (by rfl) F_loose.g F_loose.F.kp b_loose .nil pass0 (pa_cons (pv 1) (pa_cons (pv 6) pa_nil))) (pa_cons (pe_call G_due (hr.mono (by decide)) (by rfl) F_due.g F_due.F.kp b_due .nil pass0 (pa_cons (pv 3) (pa_cons (pv 6) pa_nil))) pa_nil)) (by rfl))
          (pss_cons (ps_par (i := 9) (j := 10) (by rfl) nd rfl rfl (by decide) rfl rfl (pa_cons (pe_callB (call_showD hA hu64) (by rfl) T.repr (by decide +kernel) (pa_cons (pv 7) pa_nil)) (pa_cons (pe_lst (pa_cons (pe_call G_vf (hr.mono (by decide)) (by rfl) F_vf.g F_vf.F.kp b_vf .nil (passF rfl rfl) (pa_cons (pv 4) (pa_cons (pv 7) pa_nil))) (pa_cons (pe_callN0 G_vf (hr.mono (by decide)) (by rfl) F_vf.g F_vf.F.kp kb_vf (passF rfl rfl) (pk_cons (pv 7) (pk_cons (pv 4) pk_nil))) pa_nil))) pa_nil)) (by rfl))
          (pss_cons (ps_if (PW.pt (pw_or (pt_not (pt_val (pe_call G_same (hr.mono (by decide)) (by rfl) F_same.g F_same.F.kp b_same .nil pass0 (pa_cons (pv 10) (pa_cons (pe_lst (pa_cons (pv 8) (pa_cons (pv 8) pa_nil))) pa_nil))))) (pw_or1 (pt_cmpR op_ne (pe_callB (call_showD hA hu64) (by rfl) T.repr (by decide +kernel) (pa_cons (pv 7) pa_nil)) (pv 9) (nomark _))))) (pss_one (ps_ret pe_bl)) pss_nil)
          (pss_cons (ps_expr (pe_call G_spoil (hr.mono (by decide)) (by rfl) F_spoil.g F_spoil.F.kp b_spoil .nil pass0 (pa_cons (pv 10) pa_nil)))
          (pss_one (ps_if (pt_not (pt_val (pe_call G_same (hr.mono (by decide)) (by rfl) F_same.g F_same.F.kp b_same .nil pass0 (pa_cons (pe_call G_vf (hr.mono (by decide)) (by rfl) F_vf.g F_vf.F.kp b_vf .nil (passF rfl rfl) (pa_cons (pv 4) (pa_cons (pv 7) pa_nil))) (pa_cons (pv 8) pa_nil))))) (pss_one (ps_ret pe_bl)) pss_nil)))))))))))
      (pss_cons (ps_set (i := 4) nd rfl (Or.inl rfl) (pe_make B.made G_binit (hr.mono (by decide)) (by rfl) B.gC b_binit .nil (passF rfl rfl) (pa_cons (pe_lst (pa_cons (pe_tup (pa_cons pe_int (pa_cons pe_int (pa_cons pe_str (pa_cons pe_int (pa_cons pe_int pa_nil)))))) (pa_cons (pe_tup (pa_cons pe_int (pa_cons pe_int (pa_cons pe_str (pa_cons pe_int (pa_cons pe_int pa_nil)))))) (pa_cons (pe_tup (pa_cons pe_int (pa_cons pe_int (pa_cons pe_str (pa_cons pe_int (pa_cons pe_int pa_nil)))))) pa_nil)))) pa_nil)))
      (pss_cons (ps_set (i := 10) nd rfl (Or.inl rfl) (pe_lst (pa_cons (pe_call G_vf (hr.mono (by decide)) (by rfl) F_vf.g F_vf.F.kp b_vf .nil (passF rfl rfl) (pa_cons (pv 4) (pa_cons (pe_lst (pa_cons pe_int (pa_cons pe_int (pa_cons pe_int (pa_cons pe_int (pa_cons pe_int pa_nil)))))) pa_nil))) (pa_cons (pe_call G_vf (hr.mono (by decide)) (by rfl) F_vf.g F_vf.F.kp b_vf .nil (passF rfl rfl) (pa_cons (pv 4) (pa_cons (pe_lst (pa_cons pe_int (pa_cons pe_int (pa_cons pe_int (pa_cons pe_int pa_nil))))) pa_nil))) (pa_cons (pe_call G_vf (hr.mono (by decide)) (by rfl) F_vf.g F_vf.F.kp b_vf .nil (passF rfl rfl) (pa_cons (pv 4) (pa_cons (pe_lst (pa_cons pe_int pa_nil)) pa_nil))) pa_nil)))))
      (pss_cons (ps_if (pt_not (pt_val (pe_call G_same (hr.mono (by decide)) (by rfl) F_same.g F_same.F.kp b_same .nil pass0 (pa_cons (pv 10) (pa_cons (pe_lst (pa_cons (pe_tup (pa_cons pe_str (pa_cons pe_int (pa_cons (pe_lst (pa_cons pe_int (pa_cons pe_int pa_nil))) pa_nil)))) (pa_cons (pe_tup (pa_cons pe_str (pa_cons pe_int (pa_cons pe_int pa_nil)))) (pa_cons (pe_tup (pa_cons pe_str (pa_cons pe_int (pa_cons pe_int pa_nil)))) pa_nil)))) pa_nil))))) (pss_one (ps_ret pe_bl)) pss_nil)
      (pss_cons (ps_for PassesOwn.never rfl (pi_tup (pe_tup (pa_cons pe_non (pa_cons pe_int (pa_cons pe_str (pa_cons (pe_lst pa_nil) (pa_cons pe_dnewK (pa_cons (pe_meth0 (pv 4) B.cl B.mR G_rules (hr.mono (by decide)) b_rules .nil pass0) pa_nil)))))))) (pg_name (i := 11) nd rfl (Or.inr rfl)) (pss_one (ps_if (pt_not (pt_val (pe_call G_same (hr.mono (by decide)) (by rfl) F_same.g F_same.F.kp b_same .nil pass0 (pa_cons (pe_metT M F_met (by rfl) TB rfl hmT hu hr10 (lamS_by (by show lamSB (defScope s_law) _ = true; decide +kernel)) rfl (fun _ _ _ _ _ => rfl) (fun A outer s H E f c' hr2 => (pe_call G_vf hr2 (by rfl) F_vf.g F_vf.F.kp b_vf .nil (passes_call (takes_of rfl rfl rfl rfl) (fun _ _ _ _ h => h)) (pa_cons (pv 11) (pa_cons pe_non pa_nil))))) (pa_cons (pe_tup (pa_cons pe_str (pa_cons (pv 11) pa_nil))) pa_nil))))) (pss_one (ps_ret pe_bl)) pss_nil)))
      (pss_one (ps_ret pe_bl)))))))), ?_⟩
    have big : (2 : Int) ^ 39 = 549755813888 := by decide
    have big3 : (2 : Int) ^ 40 = 1099511627776 := by decide
    refine seq1 (asg1 ⟨_, rfl, sc, ns, rfl, hs, fun a c' H1 na nc S0 e1 => ?_⟩)
    have t0 := hT.ext e1
    refine gn1 ?_
    dsimp only
    refine seq1 ⟨_, rfl, by decide, by decide, for_range (lo := 0) (n := (6 : Int).toNat) (fun i σ H' => ∃ (n' : Int) (v2 v3 v4 v5 v6 v7 v8 v9 v10 : Option V), σ = [some (.ref sc), some (.ref a), v2, v3, v4, v5, v6, v7, v8, v9, v10, none] ∧ Strm H' a c' n' ∧ Tabs TS H' ∧ n' ≤ 300000 * (i : Nat))
      ⟨0, none, none, none, none, none, none, none, none, none, rfl, S0, t0, by omega⟩ (fun i σ H' hi q => ?_) (fun σ H' q => ?_)⟩
    · obtain ⟨n', v2, v3, v4, v5, v6, v7, v8, v9, v10, rfl, S, tb, bn⟩ := q
      have n0 := S.n0
      have hi : i < 6 := hi
      refine gn1 ?_
      dsimp only
      refine seq1 (asg1 ⟨_, rfl, _, _, rfl, rfl, _, rfl, ?_⟩)
      have both : ∀ {c : Bool} {A : Prop}, A → if c = true then A else A := fun {c A} h => by
        split <;> exact h
      refine both ?_
      clear both
      refine ⟨_, rfl, a, c', n', rfl, S, by omega, fun H2 n2 L qs e2 S2 b1 b2 nL hL hz good => gn1 ?_⟩
      dsimp only
      refine seq1 ⟨_, rfl, _, rfl, a, c', L, n2, qs, rfl, S2, hL, hz, good, by omega, fun H3 n3 m rs e3 S3 c1 c2 nm bk mem lr => ?_⟩
      refine ⟨_, rfl, _, rfl, a, c', n3, 24, rfl, S3, by decide, by decide, by omega, fun H4 r e4 S4 r0 r1 => ?_⟩
      have hL4 : RsAt (off a c' H4) L qs := ⟨(e3.trans e4) _ _ hL.1, fun q m => (e3.trans e4) _ _ (hL.2 q m)⟩
      have bk4 := bk.ex e4
      have tb4 := tabs_drawn S tb ((e2.trans e3).trans e4)
      refine ⟨L, qs, r, rfl, ⟨off_of hL4.1, fun q m => off_of (hL4.2 q m)⟩, by omega, fun q m => (good.ok q m).ok, fun q m => by have := (good.ok q m).low; omega, r0, by omega, fun l H5 ts e5 nl hl tl rt tb5 => ⟨_, _, rfl, ?_⟩⟩
      have S5 := S4.ex e5
      obtain ⟨la, lc⟩ := S4.nea nl
      have hL5 : RsAt (off a c' H5) L qs := ⟨Ex.offs e5 _ _ hL4.1, fun q m => Ex.offs e5 _ _ (hL4.2 q m)⟩
      have bk5 := bk4.ex (Ex.offs (a := a) (c := c') e5)
      have tbH := tb4.ext e5
      have hl5 : off a c' H5 l = some (.lst (ts.map V.int)) := by rw [off_ne la lc]; exact hl
      clear hL4 bk4 tb4 e4 e5 S4 hL bk hl nl S3 e3 e2 S2
      dsimp only
      unfold tFor iList
      refine ⟨_, rfl, _, rfl, a, c', l, n3 + 1, ts, off a c' H5, rfl, S5, Ex.refl _, hl5, by omega, by omega, tb5, by omega, fun F H6 G' n6 vs ds g1 g2 g3 S6 d1 d2 nF Fa Fc GF hF hds len sh => ?_⟩
      refine ⟨_, rfl, by show 1 ≤ sizeLine; decide, fun z nz => ⟨F, z, vs, [.ref l], rfl, rfl, Ex.new nz _ _ hF, upd_same, ?_, fun W nW => ⟨W, rfl, ⟨_, SqL.of upd_same⟩, ?_⟩⟩⟩
      · rw [hds.len2, len]
        show 30 ≤ sizeLine
        decide
      have ez := Ex.new (o := .lst [V.ref l]) nz
      have S7 := S6.ex ez
      generalize upd H6 z (.lst [V.ref l]) = H7 at ez S7 nW ⊢
      have eW := Ex.new (o := .lst (vs ++ [V.ref l])) nW
      have S8 := S7.ex eW
      obtain ⟨Wa, Wc⟩ := S7.nea nW
      have hW : upd H7 W (.lst (vs ++ [V.ref l])) W = some (.lst (vs ++ [V.ref l])) := upd_same
      generalize upd H7 W (.lst (vs ++ [V.ref l])) = H8 at eW S8 hW ⊢
      have o68 : Ex (off a c' H6) (off a c' H8) := Ex.offs (ez.trans eW)
      have o58 := g3.trans o68
      have hall : ∀ x ∈ vs ++ [V.ref l], ∃ d, D (nt (off a c' H8)) x d ∧ Short d := fun x hx => by
        rcases List.mem_append.mp hx with hx | hx
        · obtain ⟨j, hj⟩ := List.mem_iff_getElem?.mp hx
          obtain ⟨d, hd, Dd⟩ := hds.get hj
          exact ⟨d, ((Dd.ex g2).ex o68).nt, sh d (List.mem_of_getElem? hd)⟩
        · rw [List.mem_singleton.mp hx]
          exact ⟨.list (ts.map .int), (dints (o58 _ _ hl5)).nt, short_ints (by omega) fun x hx => by have := tb5 x hx; omega⟩
      have t8 : Tst TS (nt (off a c' H8)) H8 := ⟨nt_no _, fun b o h => off_of (nt_of h).1, tabs_drawn S5 tbH o58⟩
      have hWR : nt (off a c' H8) W = some (.lst (vs ++ [V.ref l])) := nt_at (by rw [off_ne Wa Wc]; exact hW) fun _ z => by cases z
      have hLR : RsAt (nt (off a c' H8)) L qs := ⟨nt_at (o58 _ _ hL5.1) (fun _ z => by cases z), fun q m => nt_at (o58 _ _ (hL5.2 q m)) fun _ z => by cases z⟩
      have bkR := (bk5.ex o58).nt
      have Ra : nt (off a c' H8) a = none := by
        unfold nt off
        rw [if_pos (.inl rfl)]
      have Rc : nt (off a c' H8) c' = none := by
        unfold nt off
        rw [if_pos (.inr rfl)]
      have lenx : (vs ++ [V.ref l]).length = 30 := by rw [List.length_append, hds.len2, len]; rfl
      generalize nt (off a c' H8) = R at hall t8 hWR hLR bkR Ra Rc
      generalize vs ++ [V.ref l] = xs at hall hWR lenx ⊢
      clear g1 g2 g3 S6 nF Fa Fc GF hF hds len sh ez nz S7 eW nW hW o68 o58 hL5 bk5 tbH hl5 S5 Wa Wc
      refine for_list (K := K) (a := W) (xs := xs) (fun j σ H' => ∃ (k' : Int) (v6 v7 v8 v9 v10 : Option V), σ = [some (.ref sc), some (.ref a), some (.int (0 + (i : Nat))), some (.ref L), some (.ref m), some (.ref l), v6, v7, v8, v9, v10, none] ∧ Strm H' a c' k' ∧ Tst TS R H' ∧ k' ≤ n6 + 8191 * (j : Nat))
        ⟨n6, v6, v7, v8, v9, v10, rfl, S8, t8, by omega⟩ (fun j σ H' _ q => ?_) (fun j x σ H' hx q => ?_) (fun σ H' q => ?_)
      · obtain ⟨k', v6, v7, v8, v9, v10, rfl, S, t, bk⟩ := q
        exact SqL.of (t.r _ _ hWR)
      · obtain ⟨k', v6, v7, v8, v9, v10, rfl, S, t, bk⟩ := q
        obtain ⟨d, Dx, sh⟩ := hall x (List.mem_of_getElem? hx)
        have hj : j < xs.length := (List.getElem?_eq_some_iff.mp hx).1
        refine gn1 ?_
        dsimp only
        have dr3 : dr 3 = 8191 := by decide
        refine seq1 ⟨_, rfl, _, rfl, a, c', k', x, d, R, rfl, S, ex_off Ra Rc t.r, Dx, sh.1, by rw [dr3]; omega, fun H1 v' d' G1 k1 e1 S1 b1 b2 rg hd1 hl1 => ?_⟩
        rw [dr3] at b2
        have t1 : Tst TS (nt (off a c' H1)) H1 := ⟨nt_no _, fun b o h => off_of (nt_of h).1, tabs_drawn S t.t e1⟩
        have eR1 : Ex R (nt (off a c' H1)) := fun b o h => nt_at (rg.i _ _ (rg.e _ _ h)) (t.n b o h)
        have Dv := (hd1.ex rg.i).nt
        generalize nt (off a c' H1) = R1 at t1 eR1 Dv
        have hL1 : RsAt H1 L qs := ⟨t1.r _ _ (eR1 _ _ hLR.1), fun q m => t1.r _ _ (eR1 _ _ (hLR.2 q m))⟩
        refine ⟨_, rfl, _, rfl, L, x, qs, d, rfl, hL1, by omega, fun q m => (good.ok q m).ok, fun q m => by have := (good.ok q m).low; omega, (Dx.ex eR1).ex t1.r, by have := okL_items sh.1; omega, fun H2 u e e2 vd De => ⟨_, _, rfl, ?_⟩⟩
        dsimp only
        have S2 := (S1.ex e2).nt
        have t2 : Tst TS (nt H2) H2 := ⟨nt_no _, fun b o h => (nt_of h).1, t1.t.ext e2⟩
        have eR2 : Ex R1 (nt H2) := fun b o h => nt_at (e2 _ _ (t1.r _ _ h)) (t1.n b o h)
        have De := De.nt
        have Dv := Dv.ex eR2
        have bk2 := (bkR.ex eR1).ex eR2
        have eR := eR1.trans eR2
        have shv := sh.loo hl1
        have il : (items d').length ≤ 900 := by
          have := okL_items sh.1
          have := hl1.nums.2.2
          omega
        have okr : ∀ r ∈ rs, r.Ok := fun r hr => by
          obtain ⟨q, m, z⟩ := List.mem_map.mp ((mem r).mp hr)
          rw [← z]
          exact (good.ok q m).ok
        have same : ∀ {e' : PyData}, VD rs d' e' → e' = e := fun h => ((h.congr mem).loo hl1).uniq vd
        refine seq1 ⟨_, rfl, v', d', rfl, show_ok (Dv.ex t2.r) shv, ?_⟩
        refine ⟨_, rfl, _, rfl, _, _, rfl, .inr ⟨m, rs, d', rfl, t2.t, bk2.ex t2.r, by omega, okr, Dv.ex t2.r, il, fun H3 w1 ea n3' tb3 vd1 fl1 => ?_⟩⟩
        have t3 := t2.extN n3' tb3
        refine ⟨_, rfl, _, rfl, rfl, rfl, _, _, rfl, .inr ⟨m, rs, d', rfl, t3.t, bk2.ex t3.r, by omega, okr, Dv.ex t3.r, il, fun H4 w2 eb n4' tb4 vd2 fl2 => ?_⟩⟩
        have t4 := t3.extN n4' tb4
        rw [same vd1] at fl1
        rw [same vd2] at fl2
        obtain ⟨F1, s1, f1⟩ := fl1.nt.spl
        obtain ⟨F2, s2, f2⟩ := fl2.spl
        have D1 := (fl1.extN n4').D
        have D2 := fl2.D
        have disj : ∀ b ∈ F1, b ∉ F2 := fun b h1 h2 => by
          obtain ⟨ys, z⟩ := s1.lists b h1
          rw [f2 b h2] at z
          cases z
        have s1' := s1.ex (nt_extN n4')
        refine ⟨by show 2 ≤ sizeLine; decide, fun F nF => ⟨_, _, rfl, ?_⟩⟩
        have eF := Ex.new (o := .lst [w1, w2]) nF
        have hF : upd H4 F (.lst [w1, w2]) F = some (.lst [w1, w2]) := upd_same
        have nF1 : F ∉ F1 := fun z => by
          obtain ⟨ys, z⟩ := s1'.lists _ z
          rw [nF] at z
          cases z
        have nF2 : F ∉ F2 := fun z => by
          obtain ⟨ys, z⟩ := s2.lists _ z
          rw [nF] at z
          cases z
        generalize upd H4 F (.lst [w1, w2]) = H5 at eF hF ⊢
        have t5 := t4.ex eF
        have Dfound : D H5 (.ref F) (.list [e, e]) := .lst hF (.cons (D1.ex eF) (.cons (D2.ex eF) .nil))
        have spl : Spl H5 4 (.ref F) (F :: (F1 ++ (F2 ++ []))) := .lst hF (by show 2 ≤ 600000; decide) (.cons (s1'.ex eF) (.cons (s2.ex eF) .nil fun _ _ h => by cases h) fun b h1 h2 => by rw [List.append_nil] at h2; exact disj b h1 h2) (fun z => by
          rw [List.append_nil] at z
          exact (List.mem_append.mp z).elim nF1 nF2)
        have ok3 := vd.okD
        dsimp only
        refine seq1 ?_
        refine ⟨_, rfl, _, rfl, _, rfl, by show 2 ≤ sizeLine; decide, fun p np => ?_⟩
        have ep := Ex.new (o := .lst [u, u]) np
        have hp : upd H5 p (.lst [u, u]) p = some (.lst [u, u]) := upd_same
        generalize upd H5 p (.lst [u, u]) = H6 at ep hp ⊢
        have t6 := t5.ex ep
        refine ⟨_, _, .list [e, e], rfl, Dfound.ex ep, .lst hp (.cons (De.ex t6.r) (.cons (De.ex t6.r) .nil)), ?_, fun H7 e7 => ⟨_, rfl, ite_ff rfl ?_⟩⟩
        · show (true && (okD 4 e && (okD 4 e && true))) = true
          rw [okD_up ok3]
          rfl
        have t7 := t6.ex e7
        refine ⟨_, rfl, v', d', rfl, show_ok (Dv.ex t7.r) shv, _, rfl, rfl, _, rfl, ite_ff (by simp) (next1 ?_)⟩
        dsimp only
        have spl7 := spl.ex (ep.trans e7)
        refine seq1 ⟨_, rfl, _, _, rfl, spl7, fun H8 k8 => ?_⟩
        have n3 : ∀ b, nt H3 b = none → nt H2 b = none := fun b z => by
          cases q : nt H2 b with
          | none => rfl
          | some o =>
            rw [nt_at (t3.r _ _ q) (nt_of q).2] at z
            cases z
        have keep : Ex (nt H2) H8 := fun b o q => by
          refine k8 b o (fun z => ?_) (t7.r _ _ q)
          rw [List.append_nil] at z
          rcases List.mem_cons.mp z with z | z
          · rw [z, t4.no nF] at q
            cases q
          · rcases List.mem_append.mp z with z | z
            · rw [f1 b z] at q
              cases q
            · rw [n3 b (f2 b z)] at q
              cases q
        have t8 : Tst TS (nt H2) H8 := ⟨nt_no _, keep, tabs_spoil t7.t (fun b hb => spl7.lists b hb) k8⟩
        refine ⟨_, rfl, _, rfl, _, _, rfl, .inr ⟨m, rs, d', rfl, t8.t, bk2.ex t8.r, by omega, okr, Dv.ex t8.r, il, fun H9 w3 ec n9 tb9 vd3 fl3 => ?_⟩⟩
        have t9 := t8.extN n9 tb9
        rw [same vd3] at fl3
        refine ⟨_, rfl, w3, u, e, rfl, fl3.D, De.ex t9.r, okD_up (okD_up ok3), fun H10 e10 => ⟨_, rfl, ite_ff rfl ?_⟩⟩
        have t10 := t9.ex e10
        exact ⟨k1, _, _, _, _, _, rfl, S2.ex t10.r, t10.weak eR, by omega⟩
      · obtain ⟨k', v6, v7, v8, v9, v10, rfl, S, t, bk⟩ := q
        exact ⟨k', _, _, _, _, _, _, _, _, _, rfl, S, t.t, by rw [lenx] at bk; omega⟩
    · obtain ⟨n', v2, v3, v4, v5, v6, v7, v8, v9, v10, rfl, S, tb, bn⟩ := q
      clear S bn S0 hT t0
      dsimp only
      refine seq1 (asg1 ?_)
      refine ⟨by show 5 ≤ sizeLine; decide, fun r1 nr1 => ⟨by show 5 ≤ sizeLine; decide, fun r2 nr2 => ⟨by show 5 ≤ sizeLine; decide, fun r3 nr3 => ⟨by show 3 ≤ sizeLine; decide, fun rw nrw => ?_⟩⟩⟩⟩
      have d1 := Ex.new (o := .tup [V.int 1, .int 2, .str "one", .int 0, .int 1]) nr1
      have x1 : upd H' r1 (.tup [V.int 1, .int 2, .str "one", .int 0, .int 1]) r1 = _ := upd_same
      generalize upd H' r1 (.tup [V.int 1, .int 2, .str "one", .int 0, .int 1]) = G1 at d1 x1 nr2 nr3 nrw ⊢
      have d2 := Ex.new (o := .tup [V.int 2, .int 2, .str "none", .int 0, .int 1]) nr2
      have x2 : upd G1 r2 (.tup [V.int 2, .int 2, .str "none", .int 0, .int 1]) r2 = _ := upd_same
      generalize upd G1 r2 (.tup [V.int 2, .int 2, .str "none", .int 0, .int 1]) = G2 at d2 x2 nr3 nrw ⊢
      have d3 := Ex.new (o := .tup [V.int 0, .int 0, .str "two", .int 1, .int 3]) nr3
      have x3 : upd G2 r3 (.tup [V.int 0, .int 0, .str "two", .int 1, .int 3]) r3 = _ := upd_same
      generalize upd G2 r3 (.tup [V.int 0, .int 0, .str "two", .int 1, .int 3]) = G3 at d3 x3 nrw ⊢
      have d4 := Ex.new (o := .lst [V.ref r1, V.ref r2, V.ref r3]) nrw
      have x4 : upd G3 rw (.lst [V.ref r1, V.ref r2, V.ref r3]) rw = _ := upd_same
      generalize upd G3 rw (.lst [V.ref r1, V.ref r2, V.ref r3]) = G4 at d4 x4 ⊢
      have tb4 := tb.ext (((d1.trans d2).trans d3).trans d4)
      have Dr : D G4 (.ref rw) (.list ([wr1, wr2, wr3].map Rl.d)) := .lst x4 (.cons (rule_D (r := wr1) (d4 _ _ (d3 _ _ (d2 _ _ x1)))) (.cons (rule_D (r := wr2) (d4 _ _ (d3 _ _ x2))) (.cons (rule_D (r := wr3) (d4 _ _ x3)) .nil)))
      clear d1 d2 d3 d4 x1 x2 x3 x4 nr1 nr2 nr3 nrw tb
      intro p1 dx1 np1 ndx1 hne1
      refine made_wr (.inl rfl) np1 ndx1 Dr fun J1 ej1 bk1 => ⟨rfl, gn1 ?_⟩
      have tJ : Tst TS (nt J1) J1 := ⟨nt_no _, fun b o h => (nt_of h).1, tb4.ext ej1⟩
      have bk := bk1.nt
      have few : (sortR [wr1, wr2, wr3]).length ≤ 1000 := by rw [sort_len]; decide
      have okr : ∀ r ∈ sortR [wr1, wr2, wr3], r.Ok := fun r hr => (book_wr (.inl rfl)).2.2.2.2 r (mem_sortR.mp hr)
      clear tb4 Dr ej1 bk1 np1 ndx1 hne1
      dsimp only
      refine seq1 (asg1 ?_)
      refine ⟨_, rfl, by show 5 ≤ sizeLine; decide, fun z1 nz1 => ?_⟩
      have ez1 := Ex.new (o := .lst ([0, 0, 1, 2, 2].map V.int)) nz1
      have t1 := tJ.ex ez1
      refine ⟨_, _, rfl, .inr ⟨p1, _, .list ([0, 0, 1, 2, 2].map .int), rfl, t1.t, bk.ex t1.r, few, okr, dints upd_same, by show 5 ≤ 900; decide, fun W1 w1 ea n1 tb1 vd1 fl1 => ?_⟩⟩
      rw [(vd1.congr sort_mem).uniq vd_w1] at fl1
      have u1 := t1.extN n1 tb1
      refine ⟨_, rfl, by show 4 ≤ sizeLine; decide, fun z2 nz2 => ?_⟩
      have ez2 := Ex.new (o := .lst ([0, 0, 1, 3].map V.int)) nz2
      have t2 := u1.ex ez2
      refine ⟨_, _, rfl, .inr ⟨p1, _, .list ([0, 0, 1, 3].map .int), rfl, t2.t, bk.ex t2.r, few, okr, dints upd_same, by show 4 ≤ 900; decide, fun W2 w2 eb n2 tb2 vd2 fl2 => ?_⟩⟩
      rw [(vd2.congr sort_mem).uniq vd_w2] at fl2
      have u2 := t2.extN n2 tb2
      refine ⟨_, rfl, by show 1 ≤ sizeLine; decide, fun z3 nz3 => ?_⟩
      have ez3 := Ex.new (o := .lst ([1].map V.int)) nz3
      have t3 := u2.ex ez3
      refine ⟨_, _, rfl, .inr ⟨p1, _, .list ([1].map .int), rfl, t3.t, bk.ex t3.r, few, okr, dints upd_same, by show 1 ≤ 900; decide, fun W3 w3 ec n3 tb3 vd3 fl3 => ?_⟩⟩
      rw [(vd3.congr sort_mem).uniq vd_w3] at fl3
      have u3 := t3.extN n3 tb3
      have D1 := ((((fl1.ex ez2).extN n2).ex ez3).extN n3).D
      have D2 := ((fl2.ex ez3).extN n3).D
      have D3 := fl3.D
      clear vd1 vd2 vd3 fl1 fl2 fl3 t1 t2 t3 u1 u2 ez1 ez2 ez3 n1 n2 n3 tb1 tb2 tb3
      refine ⟨by show 3 ≤ sizeLine; decide, fun F nF => gn1 ?_⟩
      have eF := Ex.new (o := .lst [w1, w2, w3]) nF
      have hF : upd W3 F (.lst [w1, w2, w3]) F = some (.lst [w1, w2, w3]) := upd_same
      generalize upd W3 F (.lst [w1, w2, w3]) = W4 at eF hF ⊢
      have t4 := u3.ex eF
      have Dfound : D W4 (.ref F) (.list [.tuple [.str "has", .int 4, .list ([1, 3].map .int)], .tuple [.str "lacks", .int 3, .int 2], .tuple [.str "lacks", .int 0, .int 0]]) := .lst hF (.cons (D1.ex eF) (.cons (D2.ex eF) (.cons (D3.ex eF) .nil)))
      dsimp only
      refine seq1 ?_
      refine ⟨_, rfl, tcons1 (lst1 (GvA.use (ds := [.tuple [.str "has", .int 4, .list ([1, 3].map .int)], .tuple [.str "lacks", .int 3, .int 2], .tuple [.str "lacks", .int 0, .int 0]]) (R := fun _ => none) (G := fun _ => none) (.cons (.tup (.cons .str (.cons .int (.cons (.lst (.cons .int (.cons .int .nil))) .nil)))) (.cons (.tup (.cons .str (.cons .int (.cons .int .nil)))) (.cons (.tup (.cons .str (.cons .int (.cons .int .nil)))) .nil))) (Ex.refl _) (fun _ _ z => (by cases z)) fun vs2 G2 H8 r2 hd2 => ⟨by rw [hd2.len2]; show 3 ≤ sizeLine; decide, fun U nU => ?_⟩))⟩
      have e8 := r2.h.trans (Ex.new (o := .lst vs2) nU)
      refine ⟨_, _, _, rfl, Dfound.ex e8, .lst upd_same ((hd2.ex r2.i).ex (Ex.new nU)), by decide +kernel, fun H9 e9 => ⟨_, rfl, ite_ff rfl (next1 ?_)⟩⟩
      have t9 := t4.ex (e8.trans e9)
      clear Dfound D1 D2 D3 hF eF nF t4 u3 e8 e9 hd2 r2 nU
      dsimp only
      refine seq1 ?_
      obtain ⟨dB, Lb, qb, hb1, _⟩ := id bk
      refine ⟨Nat.zero_le _, fun o1 no1 => fun o2 no2 => ?_⟩
      have do1 := Ex.new (o := .lst []) no1
      have xo1 : upd H9 o1 (.lst []) o1 = some (.lst []) := upd_same
      generalize upd H9 o1 (.lst []) = Z2 at do1 xo1 no2 ⊢
      have do2 := Ex.new (o := .dK []) no2
      have xo2 : upd Z2 o2 (.dK []) o2 = some (.dK []) := upd_same
      generalize upd Z2 o2 (.dK []) = Z3 at do2 xo2 ⊢
      have t10 := t9.ex (do1.trans do2)
      refine ⟨_, rfl, p1, dB, _, rfl, t10.r _ _ hb1, rfl, p1, _, rfl, bk.ex t10.r, fun Lr Z4 qr nLr do4 hLr hRr hm => ⟨by show 6 ≤ sizeLine; decide, fun o3 no3 => ?_⟩⟩
      have do3 := Ex.new (o := .tup [V.non, .int 5, .str "book", .ref o1, .ref o2, .ref Lr]) no3
      have xo3 : upd Z4 o3 (.tup [V.non, .int 5, .str "book", .ref o1, .ref o2, .ref Lr]) o3 = some (.tup [V.non, .int 5, .str "book", .ref o1, .ref o2, .ref Lr]) := upd_same
      generalize upd Z4 o3 (.tup [V.non, .int 5, .str "book", .ref o1, .ref o2, .ref Lr]) = Z5 at do3 xo3 ⊢
      have t11 := t10.ex (do4.trans do3)
      have DL : D Z5 (.ref Lr) (.list ((sortR [wr1, wr2, wr3]).map Rl.d)) := by
        refine .lst (do3 _ _ hLr) ?_
        have z := rules_D (H := Z5) (qs := qr) fun q hq => do3 _ _ (hRr q hq)
        rw [← hm, List.map_map]
        exact z
      have dvs : DAll Z5 [V.non, .int 5, .str "book", .ref o1, .ref o2, .ref Lr] [.none, .int 5, .str "book", .list [], .dict [], .list ((sortR [wr1, wr2, wr3]).map Rl.d)] := .cons .non (.cons (.int 5) (.cons (.str "book") (.cons (.lst (do3 _ _ (do4 _ _ (do2 _ _ xo1))) .nil) (.cons (.dic (do3 _ _ (do4 _ _ xo2)) .nil) (.cons DL .nil)))))
      have oks : ∀ d ∈ [PyData.none, .int 5, .str "book", .list [], .dict [], .list ((sortR [wr1, wr2, wr3]).map Rl.d)], okD 3 d = true := fun d hd => by
        simp only [List.mem_cons, List.not_mem_nil, or_false] at hd
        rcases hd with rfl | rfl | rfl | rfl | rfl | rfl
        · rfl
        · rfl
        · rfl
        · rfl
        · rfl
        · exact rules_okD (by omega)
      have dvs := dvs.nt
      have LR := nt_at xo3 fun _ z => by cases z
      have t12 : Tst TS (nt Z5) Z5 := ⟨nt_no _, fun b o h => (nt_of h).1, t11.t⟩
      generalize nt Z5 = R at t12 LR dvs
      generalize [PyData.none, .int 5, .str "book", .list [], .dict [], .list ((sortR [wr1, wr2, wr3]).map Rl.d)] = ods at dvs oks
      clear t9 t10 t11 DL hLr hRr hm do1 do2 do3 do4 xo1 xo2 no1 no2 no3 nLr hb1
      refine ⟨o3, rfl, ⟨_, SqT.of xo3⟩, for_tup (K := K) (a := o3) (xs := [V.non, .int 5, .str "book", .ref o1, .ref o2, .ref Lr]) (fun i σ H' => ∃ ov, σ = [some (.ref sc), some (.ref a), v2, v3, some (.ref p1), v5, v6, v7, v8, v9, some (.ref F), ov] ∧ Tst TS R H') ⟨none, rfl, t12⟩ (fun i σ H' _ q => ?_) (fun i x σ H' hx q => ?_) (fun σ H' q => ?_)⟩
      · obtain ⟨ov, rfl, t⟩ := q
        exact SqT.of (t.r _ _ LR)
      · obtain ⟨ov, rfl, t⟩ := q
        obtain ⟨dx, hdx, Dx⟩ := dvs.get hx
        have ok3 := oks dx (List.mem_of_getElem? hdx)
        refine gn1 ?_
        refine met_ref t (fun H2 E q t2 hr => ⟨_, rfl, x, .non, rfl, .inl ⟨dx, Dx.ex t2.r, hr⟩⟩) (fun H3 pm t3 n1 => ?_)
        refine ⟨_, rfl, by show 2 ≤ sizeLine; decide, fun w1 nw1 => ?_⟩
        have e4 := Ex.new (o := .tup [.str "book", x]) nw1
        have h4 : upd H3 w1 (.tup [.str "book", x]) w1 = some (.tup [.str "book", x]) := upd_same
        generalize upd H3 w1 (.tup [.str "book", x]) = H4 at e4 h4
        have eR : Ex R (upd R pm (.tup [.str "book", x])) := Ex.new n1
        have t4 := t3.ex e4
        have Dx4 := (Dx.ex eR).ex t4.r
        exact ⟨.ref pm, .ref w1, _, rfl, d_pair (t4.r _ _ upd_same) Dx4, d_pair h4 Dx4, okD_up (ok_pair ok3), fun H5 e5 => ⟨_, rfl, ite_ff rfl ⟨_, rfl, (t4.ex e5).weak eR⟩⟩⟩
      · exact kq _
end
end Ts


set_option Elab.async false
set_option linter.all false
set_option maxRecDepth 100000
set_option maxHeartbeats 4000000
namespace Ts
open PySem PySem.Spec PyProof.Rows L2 LamX
open Evl (Ex)
/-! ## the law's call, its table told -/
/-- what is told when the law starts: its table, and perhaps its script -/
structure Beg (H : Hp) (ts : List Addr) (a : Addr) : Prop where
  t : ∀ t ∈ ts, H t = some (.tbl #[])
  only : ∀ b u, H b = some u → b ∈ ts ∨ (b = a ∧ ∃ o xs, u = .frz o (.lst xs))
section
variable {P : Program} {w : World} {K : PySem.W.Frag} {mg mb : Str → Option Value} {k : Nat} {fa a : Addr} {cs : List (Addr × Addr)} {fd : FuncData} {x : Str} {sp : Sp} {st : Shared} {us : List Value} {zs : List Int}
/-- the ground that a law's call stands on -/
structure Grd (K : PySem.W.Frag) (mg mb : Str → Option Value) (cs : List (Addr × Addr)) (a : Addr) (us : List Value) (st : Shared) : Prop where
  k : K.In st.heap
  m : st.heap.Ns mainGlobals mg
  b : st.heap.Ns builtinsNs mb
  bb : ∀ y : Str, y ≠ "__name__" → mb y = bootBuiltins y
  lim : st.heap.NoLimit
  ng : st.gens = #[]
  t : ∀ q ∈ cs, st.heap.get? q.2 = some { cls := .none, data := .fields #[] }
  kt : ∀ q ∈ cs, K.lookup q.2 = none
  cd : ∀ q ∈ cs, PySem.W.CodeHd st.heap q.1 q.2
  bm : ∃ (q : Addr) (oq : Obj), mg "__builtins__" = some (.ref q) ∧ q ≠ builtinsNs ∧ st.heap.get? q = some oq ∧ oq.cls = .type "module" ∧ oq.dict = some builtinsNs ∧ oq.data = .plain
  a : st.heap.get? a = some { cls := .type "list", data := .seq us.toArray }
theorem Grd.free {H : Hp} (g : Grd K mg mb cs a us st) (B : Beg H (cs.map (·.2)) a) {b : Addr} {o : Obj} (h : st.heap.get? b = some o) (n1 : o.data ≠ .fields #[]) (n2 : ∀ vs n, o.data ≠ .seq vs n) : H b = none := by
  cases e : H b with
  | none => rfl
  | some u =>
    exfalso
    rcases B.only b u e with z | ⟨z, _⟩
    · obtain ⟨q, hq, z⟩ := List.mem_map.mp z
      rw [← z, g.t q hq] at h
      cases h
      exact n1 rfl
    · rw [z, g.a] at h
      cases h
      exact n2 _ _ rfl
theorem Grd.ns {H : Hp} (g : Grd K mg mb cs a us st) (B : Beg H (cs.map (·.2)) a) {b : Addr} {m : Str → Option Value} (h : st.heap.Ns b m) : (hidT st.heap H).Ns b m := by
  obtain ⟨o, es, ep, h1, h2, h3⟩ := h
  have f := g.free B h1 (fun z => by rw [h2] at z; cases z) (fun vs n z => by rw [h2] at z; cases z)
  exact ⟨o, es, ep, hidT_get h1 f, h2, h3⟩
theorem Grd.kin {H : Hp} (g : Grd K mg mb cs a us st) (B : Beg H (cs.map (·.2)) a) (fr : H a ≠ none → K.lookup a = none) : K.In (hidT st.heap H) := fun b o h => by
  refine hidT_get (g.k b o h) ?_
  cases e : H b with
  | none => rfl
  | some u =>
    exfalso
    rcases B.only b u e with z | ⟨z, _⟩
    · obtain ⟨q, hq, z⟩ := List.mem_map.mp z
      rw [← z, g.kt q hq] at h
      cases h
    · rw [z] at h e
      rw [fr (by rw [e]; simp)] at h
      cases h
theorem Grd.tabB {H : Hp} (g : Grd K mg mb cs a us st) (B : Beg H (cs.map (·.2)) a) {p : Addr × Addr} (hp : p ∈ cs) : TabB (hidT st.heap H) mg p.1 p.2 := by
  refine ⟨?_, ?_, fun z => ?_⟩
  · obtain ⟨o, ws, fl, tf, gs, tg, ib, tx, tt, h1, h2, h3, h4, h5, h6, h7, h8, h9, h10⟩ := g.cd p hp
    have f : H p.1 = none := g.free B h1
      (fun z => by
        rw [h3] at z
        cases z
        simp at h4)
      (fun vs n z => by
        rw [h3] at z
        cases z)
    exact ⟨o, ws, fl, tf, gs, tg, ib, tx, tt, hidT_get h1 f, h2, h3, h4, h5, h6, h7, h8, h9, h10⟩
  · obtain ⟨q, oq, h1, h2, h3, h4, h5, h6⟩ := g.bm
    have f : H q = none := g.free B h3 (fun z => by rw [h6] at z; cases z) (fun vs n z => by rw [h6] at z; cases z)
    refine ⟨q, oq, h1, h2, fun z => ?_, fun z => ?_, hidT_get h3 f, h4, h5, h6⟩
    · obtain ⟨o, es, ep, d1, d2, _⟩ := g.m
      rw [z, d1] at h3
      cases h3
      rw [d2] at h6
      cases h6
    · rw [z, g.t p hp] at h3
      cases h3
      cases h6
  · obtain ⟨o, es, ep, d1, d2, _⟩ := g.m
    rw [z, g.t p hp] at d1
    cases d1
    cases d2
/-- the call, from a heap that tells the table and perhaps the script -/
theorem Grd.call {H : Hp} (g : Grd K mg mb cs a us st) (B : Beg H (cs.map (·.2)) a) (fr : H a ≠ none → K.lookup a = none) (hk : HOk P w H st.heap) (rm : Room k callerA)
    (G : ∀ base : Heap, K.In base → base.Ns mainGlobals mg → (∀ q ∈ cs, TabB base mg q.1 q.2) → GOk P w K mg base CX0 k fa fd [x] sp) (bi : ∀ (s : Shared) (u : Value), BindsTo s fd ⟨[u], []⟩ [(x, u)]) (hsp : sp [.ref a] H (fun v _ => v = .bl true) fun _ _ _ => False) :
    codeAny (model P w) callerA (.call (.ref fa) ⟨[.ref a], []⟩) (fun r s' => r = .ok (.ret (.bool true)) ∧ OldK st.heap s'.heap ∧ s'.os = st.os ∧ AllBare s'.gens) st := by
  have kb := g.kin B fr
  have M : L2.Mod K mg (hidT st.heap H) := by
    obtain ⟨mc, l1, l2⟩ := g.lim
    exact ⟨kb, g.ns B g.m, ⟨mb, g.ns B g.b, g.bb⟩, mc, g.ns B l1, l2⟩
  have e0 : Env0 P w K mg (hidT st.heap H) callerA [] st H := {
    frames := rfl
    mod := M
    bs := fun b o e => of_hidT e
    bsz := by rw [hidT_size]; exact Nat.le_refl _
    funs := trivial
    frf := fun b hb => by cases hb
    hok := hk
    bare := .of_eq g.ng }
  have run := (G _ kb (g.ns B g.m) fun q hq => g.tabB B hq).go callerA [] st H ⟨[.ref a], []⟩ [.ref a] [.ref a] _ _ rfl rm e0 (bi st (.ref a)) (.cons rfl .nil) hsp
  refine codeAny_mono run fun r s' h => ?_
  rcases r with e | (_ | _ | _ | u) <;> first
    | exact (show False from h).elim
    | skip
  obtain ⟨v, H', ho, hb, un, hk', rv, rfl⟩ := h
  obtain rfl : u = Value.bool true := rv
  have tk : ∀ q ∈ cs, ∃ more : Array Value, s'.heap.get? q.2 = some { cls := .none, data := .fields more } := fun q hq => by
    obtain ⟨more, z⟩ := un.tbls q.2 #[] (B.t _ (List.mem_map.mpr ⟨q, hq, rfl⟩))
    exact ⟨_, hk' q.2 _ z⟩
  have kp : ∀ b o, b ∉ cs.map (·.2) → st.heap.get? b = some o → s'.heap.get? b = some o := fun b o nb e => by
    cases q : H b with
    | none => exact un.keep b o e q (fun z => by cases z) (fun z => by cases z)
    | some u =>
      rcases B.only b u q with z | ⟨_, ob, xs, rfl⟩
      · exact absurd z nb
      · have h1 := (hk b _ q).1
        rw [e] at h1
        cases h1
        exact (hk' b _ (un.frzs b _ _ q)).1
  refine ⟨rfl, ⟨fun b o e => ?_, fun b o e => ?_⟩, ho, hb⟩
  · by_cases z : b ∈ cs.map (·.2)
    · obtain ⟨q, hq, rfl⟩ := List.mem_map.mp z
      obtain ⟨more, hm⟩ := tk q hq
      rw [g.t q hq] at e
      cases e
      exact .inr (.inl ⟨((g.cd q hq).tab (g.t q hq)).isCodeTable, rfl, #[], more, rfl, by rw [Array.empty_append]; exact hm⟩)
    · exact .inl (kp b o z e)
  · by_cases z : b ∈ cs.map (·.2)
    · obtain ⟨q, hq, rfl⟩ := List.mem_map.mp z
      exact (tk q hq).elim fun m q => ⟨_, q⟩
    · exact ⟨o, kp b o z e⟩
/-- the call of a law whose table is told -/
theorem Grd.law (g : Grd K mg mb cs a us st) (hi : IntsAre us zs) (hl : zs.length ≤ sizeLine) (rm : Room k callerA)
    (G : ∀ base : Heap, K.In base → base.Ns mainGlobals mg → (∀ q ∈ cs, TabB base mg q.1 q.2) → GOk P w K mg base CX0 k fa fd [x] sp) (bi : ∀ (s : Shared) (u : Value), BindsTo s fd ⟨[u], []⟩ [(x, u)])
    (hsp : ∀ H : Hp, (∀ t ∈ cs.map (·.2), H t = some (.tbl #[])) → SqL K H a (zs.map V.int) → sp [.ref a] H (fun v _ => v = .bl true) fun _ _ _ => False) :
    codeAny (model P w) callerA (.call (.ref fa) ⟨[.ref a], []⟩) (fun r s' => r = .ok (.ret (.bool true)) ∧ OldK st.heap s'.heap ∧ s'.os = st.os ∧ AllBare s'.gens) st := by
  have rv := vals_ints hi
  have hu := hi.length
  have na : a ∉ cs.map (·.2) := fun z => by
    obtain ⟨p, hp, z⟩ := List.mem_map.mp z
    have q := g.a
    rw [← z, g.t p hp] at q
    cases q
  let H0 : Hp := fun b => if b ∈ cs.map (·.2) then some (.tbl #[]) else none
  have h0 : ∀ t ∈ cs.map (·.2), H0 t = some (.tbl #[]) := fun t ht => if_pos ht
  have h0n : ∀ b, b ∉ cs.map (·.2) → H0 b = none := fun b nb => if_neg nb
  have tb : ∀ (b : Addr) (u : HO), b ∈ cs.map (·.2) → H0 b = some u → u = .tbl #[] ∧ st.heap.get? b = some { cls := .none, data := .fields #[] } := fun b u hb h => by
    rw [h0 b hb] at h
    cases h
    obtain ⟨q, hq, rfl⟩ := List.mem_map.mp hb
    exact ⟨rfl, g.t q hq⟩
  cases lk : K.lookup a with
  | some o =>
    have e := g.k a o lk
    rw [g.a] at e
    cases e
    have B : Beg H0 (cs.map (·.2)) a := ⟨h0, fun b u h => by
      by_cases z : b ∈ cs.map (·.2)
      · exact .inl z
      · rw [h0n b z] at h
        cases h⟩
    refine g.call B (fun z => absurd (h0n a na) z) (fun b u h => ?_) rm G bi (hsp H0 h0 (.inr ⟨_, us.toArray, _, lk, rfl, rfl, rfl, by rw [List.size_toArray, hu]; exact hl, by simpa using rv⟩))
    by_cases z : b ∈ cs.map (·.2)
    · obtain ⟨rfl, q⟩ := tb b u z h
      exact q
    · rw [h0n b z] at h
      cases h
  | none =>
    let ob : Obj := { cls := .type "list", data := .seq us.toArray }
    let H1 : Hp := upd H0 a (.frz ob (.lst (zs.map V.int)))
    have h1 : H1 a = some (.frz ob (.lst (zs.map V.int))) := upd_same
    have h1t : ∀ t ∈ cs.map (·.2), H1 t = some (.tbl #[]) := fun t ht => (upd_ne (show t ≠ a from fun z => na (by rw [← z]; exact ht))).trans (h0 t ht)
    have B : Beg H1 (cs.map (·.2)) a := ⟨h1t, fun b u h => by
      by_cases z : b = a
      · rw [z, h1] at h
        cases h
        exact .inr ⟨z, _, _, rfl⟩
      · have h' : H0 b = some u := (upd_ne z).symm.trans h
        by_cases z2 : b ∈ cs.map (·.2)
        · exact .inl z2
        · rw [h0n b z2] at h'
          cases h'⟩
    refine g.call B (fun _ => lk) (fun b u h => ?_) rm G bi (hsp H1 h1t (.inl (.inr ⟨ob, h1⟩)))
    by_cases z : b = a
    · rw [z, h1] at h
      cases h
      rw [z]
      exact ⟨g.a, by rw [List.length_map]; exact hl, us, _, rv, g.a⟩
    · have h' : H0 b = some u := (upd_ne z).symm.trans h
      by_cases z2 : b ∈ cs.map (·.2)
      · obtain ⟨rfl, q⟩ := tb b u z2 h'
        exact q
      · rw [h0n b z2] at h'
        cases h'
end
end Ts


set_option Elab.async false
set_option linter.all false
set_option maxRecDepth 100000
set_option maxHeartbeats 4000000
namespace Ts
open PySem PySem.Spec PyProof.Rows L2 LamX
open Evl (Ex)
section
variable {P : Program} {w : World} {K : PySem.W.Frag} {mg : Str → Option Value} {h : Heap}
theorem fd_mk (X : K.In h) (G : h.Ns mainGlobals mg) {x q : Str} {st : Stmt} {f : Addr} {oc : Value} {od an : Option Addr} {sl : Array (Option Value)} {kV doc pm cd ct : Value} (a : PySem.W.nsIn K mainGlobals x = some (some (.ref f)))
    (l : K.lookup f = some ⟨oc, od, .func (PySem.W.fnOf x q (defArgs st) (defBody st) (defScope st) .none kV doc pm an cd ct), sl⟩) (c : PySem.W.codeIn K cd q = true) (k : PySem.W.keepIn K (.ref f) = true) :
    ∃ f fd, FD K mg x q st f fd := ⟨_, _, fun_mk l c k, PySem.W.mg_of X G a⟩
theorem xc_mk (X : K.In h) (G : h.Ns mainGlobals mg) {x fl : Str} {C g : Addr} {nm q : Str} {N : Addr} {bs bm : List Value} {sn : List Str} {sub : List Value} {ab : Bool} {col : Option Bool} {dd : Option Addr} {m0 m1 m2 m3 m5 : Option Value}
    (a : PySem.W.nsIn K mainGlobals x = some (some (.ref C))) (l : K.lookup C = some (excClassObj nm q C N bs bm true sn sub ab col dd m0 m1 m2 m3 m5 "ValueError.__new__")) (rv : PySem.HandSPX.refsVE bm = true)
    (sa : PySem.W.findIn K (.ref C) "__setattr__" = some (some (.builtin "object.__setattr__"))) (eC : PySem.W.subIn K (.ref C) (.type "BaseException") = some true) (tC : PySem.W.typeIn K (.ref C) = some (.type "type")) (kC : PySem.W.keepIn K (.ref C) = true)
    (iC : PySem.W.findIn K (.ref C) "__init__" = some (some (.ref g))) (tI : PySem.W.typeIn K (.ref g) = some (.type "function")) (nF : PySem.W.findIn K (.ref C) fl = some none)
    (ga : PySem.W.findIn K (.ref C) "__getattribute__" = some (some (.builtin "BaseException.__getattribute__"))) (gg : PySem.W.findIn K (.ref C) "__getattr__" = some none) (hC : PySem.W.hasDictIn K C = true) : XC K mg x fl C g :=
  ⟨⟨⟨_, _, _, _, _, _, _, _, _, _, _, _, _, _, _, l, rv⟩, sa, eC, tC, kC⟩, PySem.W.mg_of X G a, iC, tI, nF, ⟨ga, gg, eC, hC⟩⟩
theorem bi_mk {q : Str} {i : Nat} {g : Addr} {oc : Value} {od an : Option Addr} {sl : Array (Option Value)} {kV doc pm cd ct : Value} (l : K.lookup g = some ⟨oc, od, .func (PySem.W.fnOf "__init__" q (defArgs (i_thing i)) (defBody (i_thing i)) (defScope (i_thing i)) .none kV doc pm an cd ct), sl⟩)
    (c : PySem.W.codeIn K cd q = true) (k : PySem.W.keepIn K (.ref g) = true) : ∃ fd, Fun K "__init__" q (i_thing i) g fd := ⟨_, fun_mk l c k⟩
theorem me_mk {C : Addr} {m q : Str} {st : Stmt} {g : Addr} {oc : Value} {od an : Option Addr} {sl : Array (Option Value)} {kV doc pm cd ct : Value} (a : PySem.W.findIn K (.ref C) m = some (some (.ref g))) (i : PySem.W.isFn K (.ref g) = true)
    (l : K.lookup g = some ⟨oc, od, .func (PySem.W.fnOf m q (defArgs st) (defBody st) (defScope st) .none kV doc pm an cd ct), sl⟩) (c : PySem.W.codeIn K cd q = true) (k : PySem.W.keepIn K (.ref g) = true) : Meth K C m g ∧ ∃ fd, Fun K m q st g fd := ⟨⟨a, i, k⟩, _, fun_mk l c k⟩
/-- one class met by another -/
theorem exm_mk {C : Value} {S : Addr} {b : Bool} (h1 : PySem.W.subIn K (.ref S) (.type "BaseException") = some true) (h2 : PySem.W.isClsIn K S = true) (h3 : PySem.W.typeIn K (.ref S) = some (.type "type")) (h4 : PySem.W.subIn K C (.ref S) = some b) : PySem.W.exmOne K C (.ref S) = some b := by
  unfold PySem.W.exmOne
  rw [h1]
  refine (if_pos (by rfl)).trans ?_
  have e : ((PySem.W.clsIn K S).isSome && PySem.W.typeIn K (.ref S) == some (.type "type")) = true := by
    have h2 : (PySem.W.clsIn K S).isSome = true := h2
    rw [h2, h3]
    rfl
  show (if ((PySem.W.clsIn K S).isSome && PySem.W.typeIn K (.ref S) == some (.type "type")) = true then PySem.W.subIn K C (.ref S) else none) = some b
  rw [if_pos e]
  exact h4
/-- a method, its def not asked for -/
theorem mt_mk {C : Addr} {m : Str} {g : Addr} (a : PySem.W.findIn K (.ref C) m = some (some (.ref g))) (i : PySem.W.isFn K (.ref g) = true) (k : PySem.W.keepIn K (.ref g) = true) : Meth K C m g := ⟨a, i, k⟩
/-- what the law's call needs: its tables, one of each def with a lambda -/
def Ready (l : PySem.W.OpenLaw) (w : World) (K : PySem.W.Frag) (k : Nat) (x : Str) (mg : Str → Option Value) (fa : Addr) (h : Heap) : Prop :=
  ∃ (fd : FuncData) (cs : List (Addr × Addr)) (TS : List (Addr × Str)), (∀ q ∈ cs, h.get? q.2 = some { cls := .none, data := .fields #[] }) ∧ (∀ q ∈ cs, K.lookup q.2 = none) ∧ (∀ q ∈ cs, PySem.W.CodeHd h q.1 q.2) ∧ (∀ p ∈ TS, p.1 ∈ cs.map (·.2)) ∧ (∀ (s : Shared) (u : Value), BindsTo s fd ⟨[u], []⟩ [(x, u)]) ∧
    ∀ base : Heap, K.In base → base.Ns mainGlobals mg → (∀ q ∈ cs, TabB base mg q.1 q.2) → GOk l.prog w K mg base CX0 k fa fd [x] (spLaw K TS)
theorem walk_tab {l : PySem.W.OpenLaw} {n k : Nat} {p : Program} {loose : List Str} {XP : (Str → Option Value) → Heap → Prop} {YP : World → Heap → Prop} {d : DefRec} {F : Params → PySem.W.Frag} {x : Str}
    (hn : l.most = some n) (hz : n ≤ sizeLine) (hdf : d.params.defaults = []) (hr : Room k callerA) (hY : ∀ (w : World) (h : Heap), YP w h → (F w.params).In h)
    (hF : ∀ (w : World) (mg : Str → Option Value) (fa : Addr) (h : Heap), YP w h → (F w.params).In h → h.Ns mainGlobals mg → mg d.name = some (.ref fa) → Ready l w (F w.params) k x mg fa h) :
    PySem.W.WalkO p loose XP YP l.row.toRowW d [] (fun f vs => PySem.call f vs) := by
  refine Att.attach_callB hn hdf fun w sh st mg mb fa o pm cd doc a us zs g y _ _ _ hm hl hi hlen _ ng => ?_
  obtain ⟨fd, cs, TS, ht, kt, hc, hts, bi, G⟩ := hF w mg fa _ y (hY w _ y) g.T.g hm
  refine Grd.law (mb := mb) (cs := cs) ⟨hY w _ y, g.T.g, g.T.b, g.T.builtins, g.T.nolimit, ng, ht, kt, hc, g.T.bmain, hl⟩ hi (Nat.le_trans hlen hz) hr G bi fun H h1 h2 => ⟨a, zs, rfl, h2, fun p hp => ?_, fun H' => rfl⟩
  exact TabS.nil (h1 _ (hts p hp))
theorem lef_mk (X : K.In h) (G : h.Ns mainGlobals mg) {tl : Addr} {dd : Option Addr} {t1 t2 t3 : Tok} {n : Nat} {sl : Array (Option Value)} (a : PySem.W.nsIn K mainGlobals "LEFTS" = some (some (.ref tl)))
    (l : K.lookup tl = some ⟨.type "tuple", dd, .seq #[.str "none" t1, .str "one" t2, .str "two" t3] n, sl⟩) : ∃ tl, mg "LEFTS" = some (.ref tl) ∧ ∀ H : Hp, SqT K H tl lefts :=
  ⟨tl, PySem.W.mg_of X G a, fun H => .inr ⟨_, _, _, l, rfl, rfl, by show 3 ≤ sizeLine; decide, .cons ⟨_, rfl⟩ (.cons ⟨_, rfl⟩ (.cons ⟨_, rfl⟩ .nil))⟩⟩

theorem ready {l : PySem.W.OpenLaw} {w : World} {fa cv tabv cl tabl CB CR gB gR CK CL CT fBI fBR fLI fLL fTI fTS fTG fTO fTN fTT fTV fLH : Addr} (X : K.In h) (G : h.Ns mainGlobals mg) (hfa : mg "law" = some (.ref fa)) (hne : tabv ≠ tabl) (T : Bl mg) (hLE : ∃ tl, mg "LEFTS" = some (.ref tl) ∧ ∀ H : Hp, SqT K H tl lefts)
    (F_is_row : ∃ f fd, FD K mg "is_row" "is_row" s_is_row f fd)
    (F_is_integer : ∃ f fd, FD K mg "is_integer" "is_integer" s_is_integer f fd)
    (F_is_number : ∃ f fd, FD K mg "is_number" "is_number" s_is_number f fd)
    (F_numf : ∃ f fd, FD K mg "numbers_fault" "numbers_fault" s_numf f fd)
    (F_is_numbers : ∃ f fd, FD K mg "is_numbers" "is_numbers" s_is_numbers f fd)
    (F_is_rule : ∃ f fd, FD K mg "is_rule" "is_rule" s_is_rule f fd)
    (F_gr : ∃ f fd, FD K mg "is_growing" "is_growing" s_growing f fd)
    (F_sp : ∃ f fd, FD K mg "is_splitting" "is_splitting" s_splitting f fd)
    (F_line : ∃ f fd, FD K mg "rule_line" "rule_line" s_line f fd)
    (F_fault : ∃ f fd, FD K mg "rules_fault" "rules_fault" s_fault f fd)
    (F_nb : ∃ f fd, FD K mg "need_book" "need_book" s_need_book f fd)
    (F_span : ∃ f fd, FD K mg "span_left" "span_left" s_span f fd)
    (F_spans : ∃ f fd, FD K mg "spans_left" "spans_left" s_spans f fd)
    (F_lnone : ∃ f fd, FD K mg "leaves_none" "leaves_none" s_lnone f fd)
    (F_nums : ∃ f fd, FD K mg "numbers_in" "numbers_in" s_nums f fd)
    (F_sumof : ∃ f fd, FD K mg "sum_of" "sum_of" s_sumof f fd)
    (F_wrong : ∃ f fd, FD K mg "wrong_value" "wrong_value" s_wrong f fd)
    (F_first : ∃ f fd, FD K mg "first_wrong" "first_wrong" s_first f fd)
    (F_aline : ∃ f fd, FD K mg "_law_a_line" "_law_a_line" s_aline f fd)
    (F_arule : ∃ f fd, FD K mg "_law_a_rule" "_law_a_rule" s_arule f fd)
    (F_arules : ∃ f fd, FD K mg "_law_a_rules" "_law_a_rules" s_arules f fd)
    (F_abook : ∃ f fd, FD K mg "_law_a_book" "_law_a_book" s_abook f fd)
    (F_amade : ∃ f fd, FD K mg "_law_a_made" "_law_a_made" s_amade f fd)
    (F_taken : ∃ f fd, FD K mg "_law_a_taken" "_law_a_taken" s_taken f fd)
    (F_aopts : ∃ f fd, FD K mg "_law_a_options" "_law_a_options" s_aopts f fd)
    (F_tog : ∃ f fd, FD K mg "_law_a_together" "_law_a_together" s_together f fd)
    (F_least : ∃ f fd, FD K mg "_law_a_least" "_law_a_least" s_aleast f fd)
    (F_avals : ∃ f fd, FD K mg "_law_a_values" "_law_a_values" s_avals f fd)
    (F_spoil : ∃ f fd, FD K mg "_law_a_spoiled" "_law_a_spoiled" s_spoil f fd)
    (F_start : ∃ f fd, FD K mg "_law_start" "_law_start" s_start f fd)
    (F_draw : ∃ f fd, FD K mg "_law_draw" "_law_draw" s_draw f fd)
    (F_pick : ∃ f fd, FD K mg "_law_pick" "_law_pick" s_pick f fd)
    (F_mixed : ∃ f fd, FD K mg "_law_mixed" "_law_mixed" s_mixed f fd)
    (F_same : ∃ f fd, FD K mg "_law_same" "_law_same" s_same f fd)
    (F_loose : ∃ f fd, FD K mg "_law_loose" "_law_loose" s_loose f fd)
    (F_wide : ∃ f fd, FD K mg "_law_b_wide" "_law_b_wide" s_wide f fd)
    (F_met : ∃ f fd, FD K mg "_law_met" "_law_met" s_met f fd)
    (F_due : ∃ f fd, FD K mg "_law_due" "_law_due" s_due f fd)
    (F_things : ∃ f fd, FD K mg "_law_things" "_law_things" s_things f fd)
    (XB : XC K mg "BadBook" "thing" CB gB) (IB : ∃ fd, Fun K "__init__" "BadBook.__init__" (i_thing 3) gB fd)
    (XR : XC K mg "BadRules" "index" CR gR) (IR : ∃ fd, Fun K "__init__" "BadRules.__init__" (i_thing 4) gR fd)
    (gK : mg "Book" = some (.ref CK)) (pK : PySem.W.plainGet K CK Str.empty = true) (hK : PySem.W.hasDictIn K CK = true) (oK : PySem.W.plainOver K CK = true) (sK : PySem.W.findIn K (.ref CK) "__setattr__" = some (some (.builtin "object.__setattr__"))) (mK : PySem.W.makesIn K CK = true) (kK : PySem.W.keepIn K (.ref CK) = true)
    (gL : mg "Leavings" = some (.ref CL)) (pL : PySem.W.plainGet K CL Str.empty = true) (hL : PySem.W.hasDictIn K CL = true) (oL : PySem.W.plainOver K CL = true) (sL : PySem.W.findIn K (.ref CL) "__setattr__" = some (some (.builtin "object.__setattr__"))) (mL : PySem.W.makesIn K CL = true) (kL : PySem.W.keepIn K (.ref CL) = true)
    (gT : mg "Table" = some (.ref CT)) (pT : PySem.W.plainGet K CT Str.empty = true) (hT : PySem.W.hasDictIn K CT = true) (oT : PySem.W.plainOver K CT = true) (sT : PySem.W.findIn K (.ref CT) "__setattr__" = some (some (.builtin "object.__setattr__"))) (mT : PySem.W.makesIn K CT = true) (kT : PySem.W.keepIn K (.ref CT) = true)
    (bha : PySem.W.findIn K (.ref CK) "__class__" = some (some (.builtin "object.__class__"))) (bhn : PySem.W.specialIn K (.builtin "object.__class__") "__get__" = some (some (.builtin "getset_descriptor.__get__"))) (bht : PySem.W.takesIn K (.builtin "object.__class__") = some true)
    (bhm : PySem.W.mroIn K CK (.type "object") = some true) (bme : PySem.W.kitOne K (.ref CK) (.ref CK) = some true) (bno : ∀ d : PyData, PySem.W.kitOne K (.type (tyD d)) (.ref CK) = some false)
    (qK_rules : PySem.W.findIn K (.ref CK) "_rules" = some none)
    (qLheap : PySem.W.findIn K (.ref CL) "heap" = some none)
    (qLnothing : PySem.W.findIn K (.ref CL) "nothing" = some none)
    (qLsingles : PySem.W.findIn K (.ref CL) "singles" = some none)
    (qLtotals : PySem.W.findIn K (.ref CL) "totals" = some none)
    (qTgrowing_rules : PySem.W.findIn K (.ref CT) "growing_rules" = some none)
    (qTother_rules : PySem.W.findIn K (.ref CT) "other_rules" = some none)
    (qTtold : PySem.W.findIn K (.ref CT) "told" = some none)
    (qTby_total : PySem.W.findIn K (.ref CT) "by_total" = some none)
    (qTgrown : PySem.W.findIn K (.ref CT) "grown" = some none)
    (qTbase : PySem.W.findIn K (.ref CT) "base" = some none)
    (mBI : Meth K CK "__init__" fBI ∧ ∃ fd, Fun K "__init__" "Book.__init__" s_binit fBI fd)
    (mBR : Meth K CK "rules" fBR ∧ ∃ fd, Fun K "rules" "Book.rules" s_brules fBR fd)
    (mLI : Meth K CL "__init__" fLI ∧ ∃ fd, Fun K "__init__" "Leavings.__init__" s_linit fLI fd)
    (mLL : Meth K CL "listed" fLL ∧ ∃ fd, Fun K "listed" "Leavings.listed" s_listed fLL fd)
    (mTI : Meth K CT "__init__" fTI ∧ ∃ fd, Fun K "__init__" "Table.__init__" s_tinit fTI fd)
    (mTS : Meth K CT "split_values" fTS ∧ ∃ fd, Fun K "split_values" "Table.split_values" s_tsplit fTS fd)
    (mTG : Meth K CT "grow_to" fTG ∧ ∃ fd, Fun K "grow_to" "Table.grow_to" s_tgrow fTG fd)
    (mTO : Meth K CT "other_values" fTO ∧ ∃ fd, Fun K "other_values" "Table.other_values" s_tother fTO fd)
    (mTN : Meth K CT "reckon" fTN ∧ ∃ fd, Fun K "reckon" "Table.reckon" s_treckon fTN fd)
    (mTT : Meth K CT "reckon_to" fTT ∧ ∃ fd, Fun K "reckon_to" "Table.reckon_to" s_tto fTT fd)
    (mTV : Meth K CT "value_of" fTV ∧ ∃ fd, Fun K "value_of" "Table.value_of" s_tval fTV fd)
    (mLH : Meth K CL "has" fLH)
    (z_str : mg "str" = none)
    (z_enumerate : mg "enumerate" = none)
    (z_sorted : mg "sorted" = none)
    (z_min : mg "min" = none)
    (z_max : mg "max" = none)
    (enn : PySem.W.exmOne K (.ref CB) (.ref CB) = some true)
    {frv : Addr} {ocv kVv docv pmv ctv : Value} {odv anv : Option Addr} {slv : Array (Option Value)} (arv : PySem.W.nsIn K mainGlobals "values_fault" = some (some (.ref frv)))
    (lrv : K.lookup frv = some ⟨ocv, odv, .func (PySem.W.fnOf "values_fault" "values_fault" (defArgs s_vf) (defBody s_vf) (defScope s_vf) .none kVv docv pmv anv (.ref cv) ctv), slv⟩) (crv : PySem.W.codeIn K (.ref cv) "values_fault" = true) (krv : PySem.W.keepIn K (.ref frv) = true)
    (htv : h.get? tabv = some { cls := .none, data := .fields #[] }) (ktv : K.lookup tabv = none) (hcv : PySem.W.codeHdIn K cv tabv = true)
    {frl : Addr} {ocl kVl docl pml ctl : Value} {odl anl : Option Addr} {sll : Array (Option Value)} (arl : PySem.W.nsIn K mainGlobals "law" = some (some (.ref frl)))
    (lrl : K.lookup frl = some ⟨ocl, odl, .func (PySem.W.fnOf "law" "law" (defArgs s_law) (defBody s_law) (defScope s_law) .none kVl docl pml anl (.ref cl) ctl), sll⟩) (crl : PySem.W.codeIn K (.ref cl) "law" = true) (krl : PySem.W.keepIn K (.ref frl) = true)
    (htl : h.get? tabl = some { cls := .none, data := .fields #[] }) (ktl : K.lookup tabl = none) (hcl : PySem.W.codeHdIn K cl tabl = true) : Ready l w K 11 "script" mg fa h := by
  obtain ⟨f_is_row, d_is_row, F_is_row⟩ := F_is_row
  obtain ⟨f_is_integer, d_is_integer, F_is_integer⟩ := F_is_integer
  obtain ⟨f_is_number, d_is_number, F_is_number⟩ := F_is_number
  obtain ⟨f_numf, d_numf, F_numf⟩ := F_numf
  obtain ⟨f_is_numbers, d_is_numbers, F_is_numbers⟩ := F_is_numbers
  obtain ⟨f_is_rule, d_is_rule, F_is_rule⟩ := F_is_rule
  obtain ⟨f_gr, d_gr, F_gr⟩ := F_gr
  obtain ⟨f_sp, d_sp, F_sp⟩ := F_sp
  obtain ⟨f_line, d_line, F_line⟩ := F_line
  obtain ⟨f_fault, d_fault, F_fault⟩ := F_fault
  obtain ⟨f_nb, d_nb, F_nb⟩ := F_nb
  obtain ⟨f_span, d_span, F_span⟩ := F_span
  obtain ⟨f_spans, d_spans, F_spans⟩ := F_spans
  obtain ⟨f_lnone, d_lnone, F_lnone⟩ := F_lnone
  obtain ⟨f_nums, d_nums, F_nums⟩ := F_nums
  obtain ⟨f_sumof, d_sumof, F_sumof⟩ := F_sumof
  obtain ⟨f_wrong, d_wrong, F_wrong⟩ := F_wrong
  obtain ⟨f_first, d_first, F_first⟩ := F_first
  obtain ⟨f_aline, d_aline, F_aline⟩ := F_aline
  obtain ⟨f_arule, d_arule, F_arule⟩ := F_arule
  obtain ⟨f_arules, d_arules, F_arules⟩ := F_arules
  obtain ⟨f_abook, d_abook, F_abook⟩ := F_abook
  obtain ⟨f_amade, d_amade, F_amade⟩ := F_amade
  obtain ⟨f_taken, d_taken, F_taken⟩ := F_taken
  obtain ⟨f_aopts, d_aopts, F_aopts⟩ := F_aopts
  obtain ⟨f_tog, d_tog, F_tog⟩ := F_tog
  obtain ⟨f_least, d_least, F_least⟩ := F_least
  obtain ⟨f_avals, d_avals, F_avals⟩ := F_avals
  obtain ⟨f_spoil, d_spoil, F_spoil⟩ := F_spoil
  obtain ⟨f_start, d_start, F_start⟩ := F_start
  obtain ⟨f_draw, d_draw, F_draw⟩ := F_draw
  obtain ⟨f_pick, d_pick, F_pick⟩ := F_pick
  obtain ⟨f_mixed, d_mixed, F_mixed⟩ := F_mixed
  obtain ⟨f_same, d_same, F_same⟩ := F_same
  obtain ⟨f_loose, d_loose, F_loose⟩ := F_loose
  obtain ⟨f_wide, d_wide, F_wide⟩ := F_wide
  obtain ⟨f_met, d_met, F_met⟩ := F_met
  obtain ⟨f_due, d_due, F_due⟩ := F_due
  obtain ⟨f_things, d_things, F_things⟩ := F_things
  obtain ⟨d_B, IB⟩ := IB
  have bB : Binds K d_B ["self", "thing"] [] := IB.binds fun _ _ _ _ _ _ us hl => match us, hl with | [_, _], _ => rfl
  obtain ⟨d_R, IR⟩ := IR
  have bR : Binds K d_R ["self", "index"] [] := IR.binds fun _ _ _ _ _ _ us hl => match us, hl with | [_, _], _ => rfl
  obtain ⟨mBI, dBI, F_BI⟩ := mBI
  obtain ⟨mBR, dBR, F_BR⟩ := mBR
  obtain ⟨mLI, dLI, F_LI⟩ := mLI
  obtain ⟨mLL, dLL, F_LL⟩ := mLL
  obtain ⟨mTI, dTI, F_TI⟩ := mTI
  obtain ⟨mTS, dTS, F_TS⟩ := mTS
  obtain ⟨mTG, dTG, F_TG⟩ := mTG
  obtain ⟨mTO, dTO, F_TO⟩ := mTO
  obtain ⟨mTN, dTN, F_TN⟩ := mTN
  obtain ⟨mTT, dTT, F_TT⟩ := mTT
  obtain ⟨mTV, dTV, F_TV⟩ := mTV
  obtain ⟨tl, hLE, hTL⟩ := hLE
  have BK : BkC K mg CK fBI fBR := ⟨⟨pK, hK, oK, sK⟩, bha, bhn, bht, bhm, bme, qK_rules, gK, bno, ⟨mK, mBI.at_, mBI.fn, kK⟩, mBR⟩
  have LC : LvC K mg CL fLI fLL fLH := ⟨⟨pL, hL, oL, sL⟩, qLheap, qLnothing, qLsingles, qLtotals, gL, ⟨mL, mLI.at_, mLI.fn, kL⟩, mLL, mLH⟩
  have TC : TbC K mg CT fTI fTS fTG fTO fTN fTT := ⟨⟨pT, hT, oT, sT⟩, qTgrowing_rules, qTother_rules, qTtold, qTby_total, qTgrown, qTbase, gT, ⟨mT, mTI.at_, mTI.fn, kT⟩, mTS, mTG, mTO, mTN, mTT⟩
  have M : Errs K mg CB gB := ⟨XB, enn⟩
  have e := hfa.symm.trans (PySem.W.mg_of X G arl)
  cases e
  have F_vf : FD K mg "values_fault" "values_fault" s_vf frv _ := ⟨fun_mk lrv crv krv, PySem.W.mg_of X G arv⟩
  have bi : ∀ (s : Shared) (u : Value), BindsTo s (PySem.W.fnOf "law" "law" (defArgs s_law) (defBody s_law) (defScope s_law) .none kVl docl pml anl (.ref cl) ctl) ⟨[u], []⟩ [("script", u)] := fun s u => .of_eq rfl
  have two : ∀ {C : Addr × Addr → Prop}, C (cv, tabv) → C (cl, tabl) → ∀ q ∈ [(cv, tabv), (cl, tabl)], C q := fun {C} h1 h2 q hq => by
    rcases List.mem_cons.mp hq with rfl | hq
    · exact h1
    · rw [List.mem_singleton.mp hq]
      exact h2
  have huv : ∀ p ∈ [(tabv, lamV), (tabl, lamL)], p.1 = tabv → p.2 = lamV := fun p hp e => by
    rcases List.mem_cons.mp hp with rfl | hp
    · rfl
    · rw [List.mem_singleton.mp hp] at e
      exact absurd e.symm hne
  have hul : ∀ p ∈ [(tabv, lamV), (tabl, lamL)], p.1 = tabl → p.2 = lamL := fun p hp e => by
    rcases List.mem_cons.mp hp with rfl | hp
    · exact absurd e hne
    · rw [List.mem_singleton.mp hp]
  refine ⟨_, [(cv, tabv), (cl, tabl)], [(tabv, lamV), (tabl, lamL)], two htv htl, two ktv ktl, two (PySem.W.codeHd_of_K X hcv) (PySem.W.codeHd_of_K X hcl), fun p hp => ?_, bi, fun base KB NB TB => ?_⟩
  · rcases List.mem_cons.mp hp with rfl | hp
    · exact .head _
    · rw [List.mem_singleton.mp hp]
      exact .tail _ (.head _)
  have G_num := ok_is_number (P := l.prog) (w := w) (base := base) F_is_number F_is_integer T
  have G_numbers := ok_is_numbers (P := l.prog) (w := w) (base := base) F_is_numbers F_is_row F_is_number F_is_integer F_numf T z_enumerate
  have J_B := ok_ini (P := l.prog) (w := w) (base := base) 3 "thing" (.inl ⟨rfl, rfl⟩) IB XB
  have J_R := ok_ini (P := l.prog) (w := w) (base := base) 4 "index" (.inr ⟨rfl, rfl⟩) IR XR
  have G_nb := ok_need_book F_nb BK XB J_B bB T
  have G_rule := ok_is_rule (P := l.prog) (w := w) (base := base) F_is_rule F_is_row F_is_number F_is_integer T z_str hLE hTL
  have G_gr := ok_growing (P := l.prog) (w := w) (base := base) F_gr
  have G_fault := ok_fault F_fault F_is_row F_is_rule G_rule F_gr F_sp T z_enumerate
  have G_binit := ok_binit F_BI ⟨pK, hK, oK, sK⟩ qK_rules F_fault G_fault F_line XR J_R bR T z_sorted
  have G_brules := ok_brules (P := l.prog) (w := w) (base := base) F_BR BK T
  have G_span := ok_span (P := l.prog) (w := w) (base := base) F_span z_max
  have G_spans := ok_spans F_spans F_span G_span T z_max z_sorted
  have G_lnone := ok_lnone F_lnone F_spans G_spans T
  have G_nums := ok_nums (P := l.prog) (w := w) (base := base) F_nums T
  have G_LI := ok_linit F_LI LC BK F_BR G_brules F_lnone G_lnone F_spans G_spans
  have G_LL := ok_listed F_LL LC T z_sorted F_nums G_nums
  have G_TI := ok_tinit F_TI TC BK F_BR G_brules F_gr G_gr
  have G_TS := ok_tsplit (P := l.prog) (w := w) (base := base) F_TS TC T
  have G_TG := ok_tgrow (P := l.prog) (w := w) (base := base) F_TG TC T
  have G_TO := ok_tother F_TO TC T F_TS G_TS F_spans G_spans F_nums G_nums F_lnone G_lnone
  have G_TN := ok_treckon F_TN TC T F_TO G_TO F_TG G_TG
  have G_TT := ok_tto F_TT TC T F_TN G_TN
  have G_TV := ok_tval (P := l.prog) (w := w) (base := base) F_TV TC F_sumof
  have G_wrong := ok_wrong F_wrong TC mTV LC F_TV G_TV F_LI G_LI F_LL G_LL
  have G_vf := ok_vf lrv crv (TB (cv, tabv) (.head _)) (.head _) huv TC T F_nb G_nb F_is_numbers G_numbers F_first F_TI G_TI F_TT G_TT F_wrong G_wrong
  have G_start := ok_start (P := l.prog) (w := w) (base := base) F_start T
  have BM : BkMade K mg CK fBI := ⟨gK, ⟨mK, mBI.at_, mBI.fn, kK⟩⟩
  have G_taken := ok_taken (P := l.prog) (w := w) (base := base) F_taken T z_min z_sorted
  have G_aline := ok_aline (P := l.prog) (w := w) (base := base) F_aline z_str
  have G_arule := ok_arule (P := l.prog) (w := w) (base := base) F_arule F_draw F_pick T z_min z_max
  have G_aopts := ok_aopts F_aopts T z_sorted F_taken G_taken
  have G_arules := ok_arules F_arules T z_max T.all z_sorted F_draw F_arule G_arule F_aline G_aline
  have G_abook := ok_abook F_abook T F_draw F_pick F_arules G_arules
  have G_wide := ok_wide F_wide T F_draw F_arules G_arules
  have G_amade := ok_amade F_amade T F_draw F_mixed F_loose BM F_BI G_binit
  have G_tog := ok_together (P := l.prog) (w := w) (base := base) F_tog
  have G_least := ok_aleast (P := l.prog) (w := w) (base := base) F_least T
  have G_avals := ok_avals F_avals T F_aopts G_aopts F_tog G_tog F_least G_least
  have G_due := ok_due F_due T z_min z_enumerate F_aopts G_aopts F_tog G_tog
  have G_things := ok_things (P := l.prog) (w := w) (base := base) F_things T z_max F_draw F_pick
  exact ok_law lrl crl M (TB (cl, tabl) (.tail _ (.head _))) (.tail _ (.head _)) hul F_met F_start G_start F_draw F_abook G_abook F_wide G_wide F_amade G_amade F_avals G_avals F_things G_things F_loose F_due G_due F_same F_spoil F_vf G_vf BK F_BI G_binit F_BR G_brules T
end
end Ts


set_option Elab.async false
open PySem PySem.W PyProof.Rows in
set_option maxRecDepth 100000 in
set_option maxHeartbeats 0 in
theorem PySem.Challenge.cw_takeandsplit_k10_whole_values_judged_holds : PySem.Challenge.rw_takeandsplit_k10_whole_values_judged.Holds := by
  w_on; o_law; k_head; (case hw => w_witness2)
  k_fill
  refine Ts.walk_tab (l := PySem.Challenge.rw_takeandsplit_k10_whole_values_judged) (n := 63) (k := 11) (x := "script") rfl (by decide) rfl ⟨rfl, by decide, by decide⟩ (fun w h Y => PySem.W.km_in_of Y) ?F
  case F =>
    intro w mg fa h Y KX G hmg
    refine' Ts.ready (tabv := 356) (tabl := 494) KX G hmg ?hne ?T ?hLE ?F_is_row ?F_is_integer ?F_is_number ?F_numf ?F_is_numbers ?F_is_rule ?F_gr ?F_sp ?F_line ?F_fault ?F_nb ?F_span ?F_spans ?F_lnone ?F_nums ?F_sumof ?F_wrong ?F_first ?F_aline ?F_arule ?F_arules ?F_abook ?F_amade ?F_taken ?F_aopts ?F_tog ?F_least ?F_avals ?F_spoil ?F_start ?F_draw ?F_pick ?F_mixed ?F_same ?F_loose ?F_wide ?F_met ?F_due ?F_things ?XB ?IB ?XR ?IR ?gK ?pK ?hK ?oK ?sK ?mK ?kK ?gL ?pL ?hL ?oL ?sL ?mL ?kL ?gT ?pT ?hT ?oT ?sT ?mT ?kT ?bha ?bhn ?bht ?bhm ?bme ?bno ?qK_rules ?qLheap ?qLnothing ?qLsingles ?qLtotals ?qTgrowing_rules ?qTother_rules ?qTtold ?qTby_total ?qTgrown ?qTbase ?mBI ?mBR ?mLI ?mLL ?mTI ?mTS ?mTG ?mTO ?mTN ?mTT ?mTV ?mLH ?z_str ?z_enumerate ?z_sorted ?z_min ?z_max ?enn ?y_arv ?y_lrv ?y_crv ?y_krv ?y_htv ?y_ktv ?y_hcv ?y_arl ?y_lrl ?y_crl ?y_krl ?y_htl ?y_ktl ?y_hcl
    case hne =>
      decide
    case T =>
      refine' ⟨PySem.W.mg_none_of KX G ?b0, PySem.W.mg_none_of KX G ?b1, PySem.W.mg_none_of KX G ?b2, PySem.W.mg_none_of KX G ?b3, PySem.W.mg_none_of KX G ?b4, PySem.W.mg_none_of KX G ?b5, PySem.W.mg_none_of KX G ?b6, PySem.W.mg_none_of KX G ?b7, PySem.W.mg_none_of KX G ?b8, PySem.W.mg_none_of KX G ?b9, PySem.W.mg_none_of KX G ?b10, PySem.W.mg_none_of KX G ?b11⟩
      (case b0 => k_is); (case b1 => k_is); (case b2 => k_is); (case b3 => k_is); (case b4 => k_is); (case b5 => k_is); (case b6 => k_is); (case b7 => k_is); (case b8 => k_is); (case b9 => k_is); (case b10 => k_is); (case b11 => k_is)
    case hLE =>
      refine' Ts.lef_mk KX G ?a ?l
      (case a => k_is); (case l => k_is)
    case F_is_row =>
      refine' Ts.fd_mk KX G ?a ?l ?c ?k
      (case a => k_is); (case l => k_is); (case c => k_is); (case k => k_is)
    case F_is_integer =>
      refine' Ts.fd_mk KX G ?a ?l ?c ?k
      (case a => k_is); (case l => k_is); (case c => k_is); (case k => k_is)
    case F_is_number =>
      refine' Ts.fd_mk KX G ?a ?l ?c ?k
      (case a => k_is); (case l => k_is); (case c => k_is); (case k => k_is)
    case F_numf =>
      refine' Ts.fd_mk KX G ?a ?l ?c ?k
      (case a => k_is); (case l => k_is); (case c => k_is); (case k => k_is)
    case F_is_numbers =>
      refine' Ts.fd_mk KX G ?a ?l ?c ?k
      (case a => k_is); (case l => k_is); (case c => k_is); (case k => k_is)
    case F_is_rule =>
      refine' Ts.fd_mk KX G ?a ?l ?c ?k
      (case a => k_is); (case l => k_is); (case c => k_is); (case k => k_is)
    case F_gr =>
      refine' Ts.fd_mk KX G ?a ?l ?c ?k
      (case a => k_is); (case l => k_is); (case c => k_is); (case k => k_is)
    case F_sp =>
      refine' Ts.fd_mk KX G ?a ?l ?c ?k
      (case a => k_is); (case l => k_is); (case c => k_is); (case k => k_is)
    case F_line =>
      refine' Ts.fd_mk KX G ?a ?l ?c ?k
      (case a => k_is); (case l => k_is); (case c => k_is); (case k => k_is)
    case F_fault =>
      refine' Ts.fd_mk KX G ?a ?l ?c ?k
      (case a => k_is); (case l => k_is); (case c => k_is); (case k => k_is)
    case F_nb =>
      refine' Ts.fd_mk KX G ?a ?l ?c ?k
      (case a => k_is); (case l => k_is); (case c => k_is); (case k => k_is)
    case F_span =>
      refine' Ts.fd_mk KX G ?a ?l ?c ?k
      (case a => k_is); (case l => k_is); (case c => k_is); (case k => k_is)
    case F_spans =>
      refine' Ts.fd_mk KX G ?a ?l ?c ?k
      (case a => k_is); (case l => k_is); (case c => k_is); (case k => k_is)
    case F_lnone =>
      refine' Ts.fd_mk KX G ?a ?l ?c ?k
      (case a => k_is); (case l => k_is); (case c => k_is); (case k => k_is)
    case F_nums =>
      refine' Ts.fd_mk KX G ?a ?l ?c ?k
      (case a => k_is); (case l => k_is); (case c => k_is); (case k => k_is)
    case F_sumof =>
      refine' Ts.fd_mk KX G ?a ?l ?c ?k
      (case a => k_is); (case l => k_is); (case c => k_is); (case k => k_is)
    case F_wrong =>
      refine' Ts.fd_mk KX G ?a ?l ?c ?k
      (case a => k_is); (case l => k_is); (case c => k_is); (case k => k_is)
    case F_first =>
      refine' Ts.fd_mk KX G ?a ?l ?c ?k
      (case a => k_is); (case l => k_is); (case c => k_is); (case k => k_is)
    case F_aline =>
      refine' Ts.fd_mk KX G ?a ?l ?c ?k
      (case a => k_is); (case l => k_is); (case c => k_is); (case k => k_is)
    case F_arule =>
      refine' Ts.fd_mk KX G ?a ?l ?c ?k
      (case a => k_is); (case l => k_is); (case c => k_is); (case k => k_is)
    case F_arules =>
      refine' Ts.fd_mk KX G ?a ?l ?c ?k
      (case a => k_is); (case l => k_is); (case c => k_is); (case k => k_is)
    case F_abook =>
      refine' Ts.fd_mk KX G ?a ?l ?c ?k
      (case a => k_is); (case l => k_is); (case c => k_is); (case k => k_is)
    case F_amade =>
      refine' Ts.fd_mk KX G ?a ?l ?c ?k
      (case a => k_is); (case l => k_is); (case c => k_is); (case k => k_is)
    case F_taken =>
      refine' Ts.fd_mk KX G ?a ?l ?c ?k
      (case a => k_is); (case l => k_is); (case c => k_is); (case k => k_is)
    case F_aopts =>
      refine' Ts.fd_mk KX G ?a ?l ?c ?k
      (case a => k_is); (case l => k_is); (case c => k_is); (case k => k_is)
    case F_tog =>
      refine' Ts.fd_mk KX G ?a ?l ?c ?k
      (case a => k_is); (case l => k_is); (case c => k_is); (case k => k_is)
    case F_least =>
      refine' Ts.fd_mk KX G ?a ?l ?c ?k
      (case a => k_is); (case l => k_is); (case c => k_is); (case k => k_is)
    case F_avals =>
      refine' Ts.fd_mk KX G ?a ?l ?c ?k
      (case a => k_is); (case l => k_is); (case c => k_is); (case k => k_is)
    case F_spoil =>
      refine' Ts.fd_mk KX G ?a ?l ?c ?k
      (case a => k_is); (case l => k_is); (case c => k_is); (case k => k_is)
    case F_start =>
      refine' Ts.fd_mk KX G ?a ?l ?c ?k
      (case a => k_is); (case l => k_is); (case c => k_is); (case k => k_is)
    case F_draw =>
      refine' Ts.fd_mk KX G ?a ?l ?c ?k
      (case a => k_is); (case l => k_is); (case c => k_is); (case k => k_is)
    case F_pick =>
      refine' Ts.fd_mk KX G ?a ?l ?c ?k
      (case a => k_is); (case l => k_is); (case c => k_is); (case k => k_is)
    case F_mixed =>
      refine' Ts.fd_mk KX G ?a ?l ?c ?k
      (case a => k_is); (case l => k_is); (case c => k_is); (case k => k_is)
    case F_same =>
      refine' Ts.fd_mk KX G ?a ?l ?c ?k
      (case a => k_is); (case l => k_is); (case c => k_is); (case k => k_is)
    case F_loose =>
      refine' Ts.fd_mk KX G ?a ?l ?c ?k
      (case a => k_is); (case l => k_is); (case c => k_is); (case k => k_is)
    case F_wide =>
      refine' Ts.fd_mk KX G ?a ?l ?c ?k
      (case a => k_is); (case l => k_is); (case c => k_is); (case k => k_is)
    case F_met =>
      refine' Ts.fd_mk KX G ?a ?l ?c ?k
      (case a => k_is); (case l => k_is); (case c => k_is); (case k => k_is)
    case F_due =>
      refine' Ts.fd_mk KX G ?a ?l ?c ?k
      (case a => k_is); (case l => k_is); (case c => k_is); (case k => k_is)
    case F_things =>
      refine' Ts.fd_mk KX G ?a ?l ?c ?k
      (case a => k_is); (case l => k_is); (case c => k_is); (case k => k_is)
    case XB =>
      refine' Ts.xc_mk KX G ?a ?l ?rv ?sa ?eC ?tC ?kC ?iC ?tI ?nF ?ga ?gg ?hC
      (case a => k_is); (case l => k_is); (case rv => decide +kernel); (case sa => k_is); (case eC => k_is); (case tC => k_is); (case kC => k_is)
      (case iC => k_is); (case tI => k_is); (case nF => k_is); (case ga => k_is); (case gg => k_is); (case hC => k_is)
    case IB =>
      refine' Ts.bi_mk ?l ?c ?k
      (case l => k_is); (case c => k_is); (case k => k_is)
    case XR =>
      refine' Ts.xc_mk KX G ?a ?l ?rv ?sa ?eC ?tC ?kC ?iC ?tI ?nF ?ga ?gg ?hC
      (case a => k_is); (case l => k_is); (case rv => decide +kernel); (case sa => k_is); (case eC => k_is); (case tC => k_is); (case kC => k_is)
      (case iC => k_is); (case tI => k_is); (case nF => k_is); (case ga => k_is); (case gg => k_is); (case hC => k_is)
    case IR =>
      refine' Ts.bi_mk ?l ?c ?k
      (case l => k_is); (case c => k_is); (case k => k_is)
    case gK =>
      refine' PySem.W.mg_of KX G ?a
      (case a => k_is)
    case pK =>
      k_is
    case hK =>
      k_is
    case oK =>
      k_is
    case sK =>
      k_is
    case mK =>
      k_is
    case kK =>
      k_is
    case gL =>
      refine' PySem.W.mg_of KX G ?a
      (case a => k_is)
    case pL =>
      k_is
    case hL =>
      k_is
    case oL =>
      k_is
    case sL =>
      k_is
    case mL =>
      k_is
    case kL =>
      k_is
    case gT =>
      refine' PySem.W.mg_of KX G ?a
      (case a => k_is)
    case pT =>
      k_is
    case hT =>
      k_is
    case oT =>
      k_is
    case sT =>
      k_is
    case mT =>
      k_is
    case kT =>
      k_is
    case bha =>
      first | rfl | k_is
    case bhn =>
      first | rfl | k_is
    case bht =>
      first | rfl | k_is
    case bhm =>
      first | rfl | k_is
    case bme =>
      first | rfl | k_is | kernel_rfl
    case bno =>
      intro d
      cases d <;> first | rfl | k_is | kernel_rfl
    case qK_rules =>
      k_is
    case qLheap =>
      k_is
    case qLnothing =>
      k_is
    case qLsingles =>
      k_is
    case qLtotals =>
      k_is
    case qTgrowing_rules =>
      k_is
    case qTother_rules =>
      k_is
    case qTtold =>
      k_is
    case qTby_total =>
      k_is
    case qTgrown =>
      k_is
    case qTbase =>
      k_is
    case mBI =>
      refine' Ts.me_mk ?a ?i ?l ?c ?k
      (case a => k_is); (case i => k_is); (case l => k_is); (case c => k_is); (case k => k_is)
    case mBR =>
      refine' Ts.me_mk ?a ?i ?l ?c ?k
      (case a => k_is); (case i => k_is); (case l => k_is); (case c => k_is); (case k => k_is)
    case mLI =>
      refine' Ts.me_mk ?a ?i ?l ?c ?k
      (case a => k_is); (case i => k_is); (case l => k_is); (case c => k_is); (case k => k_is)
    case mLL =>
      refine' Ts.me_mk ?a ?i ?l ?c ?k
      (case a => k_is); (case i => k_is); (case l => k_is); (case c => k_is); (case k => k_is)
    case mTI =>
      refine' Ts.me_mk ?a ?i ?l ?c ?k
      (case a => k_is); (case i => k_is); (case l => k_is); (case c => k_is); (case k => k_is)
    case mTS =>
      refine' Ts.me_mk ?a ?i ?l ?c ?k
      (case a => k_is); (case i => k_is); (case l => k_is); (case c => k_is); (case k => k_is)
    case mTG =>
      refine' Ts.me_mk ?a ?i ?l ?c ?k
      (case a => k_is); (case i => k_is); (case l => k_is); (case c => k_is); (case k => k_is)
    case mTO =>
      refine' Ts.me_mk ?a ?i ?l ?c ?k
      (case a => k_is); (case i => k_is); (case l => k_is); (case c => k_is); (case k => k_is)
    case mTN =>
      refine' Ts.me_mk ?a ?i ?l ?c ?k
      (case a => k_is); (case i => k_is); (case l => k_is); (case c => k_is); (case k => k_is)
    case mTT =>
      refine' Ts.me_mk ?a ?i ?l ?c ?k
      (case a => k_is); (case i => k_is); (case l => k_is); (case c => k_is); (case k => k_is)
    case mTV =>
      refine' Ts.me_mk ?a ?i ?l ?c ?k
      (case a => k_is); (case i => k_is); (case l => k_is); (case c => k_is); (case k => k_is)
    case mLH =>
      refine' Ts.mt_mk ?a ?i ?k
      (case a => k_is); (case i => k_is); (case k => k_is)
    case z_str =>
      refine' PySem.W.mg_none_of KX G ?a
      (case a => k_is)
    case z_enumerate =>
      refine' PySem.W.mg_none_of KX G ?a
      (case a => k_is)
    case z_sorted =>
      refine' PySem.W.mg_none_of KX G ?a
      (case a => k_is)
    case z_min =>
      refine' PySem.W.mg_none_of KX G ?a
      (case a => k_is)
    case z_max =>
      refine' PySem.W.mg_none_of KX G ?a
      (case a => k_is)
    case enn =>
      refine' Ts.exm_mk ?h1 ?h2 ?h3 ?h4
      (case h1 => k_is); (case h2 => k_is); (case h3 => k_is); (case h4 => first | rfl | k_is)
    case y_arv =>
      k_is
    case y_lrv =>
      k_is
    case y_crv =>
      k_is
    case y_krv =>
      k_is
    case y_htv =>
      exact PySem.W.km_tabs_of Y 356 (by k_mem)
    case y_ktv =>
      kernel_rfl
    case y_hcv =>
      kernel_rfl
    case y_arl =>
      k_is
    case y_lrl =>
      k_is
    case y_crl =>
      k_is
    case y_krl =>
      k_is
    case y_htl =>
      exact PySem.W.km_tabs_of Y 494 (by k_mem)
    case y_ktl =>
      kernel_rfl
    case y_hcl =>
      kernel_rfl

