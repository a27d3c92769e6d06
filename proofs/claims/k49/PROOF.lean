import PyProof.Rows.All
import Wide.All
import OpenK.AllK
import Wide.FinOn
import HandS.ForMost
import HandS.EndTab
import HandS.IsInst
import HandS.Lambda
import HandS.TryMany
import HandS.ExcInit
import HandS.ExcField
import HandS.NoneIn
import HandS.WideBits
import HandS.Walk
import HandS.Flow
import HandS.Conv
import HandS.Evl
import HandS.ForExc
import PySem.Challenge.RW_takeandsplit_k49_whole_small_books
import KE.KeyNested
import HandS.Dict
import HandS.Small
import HandS.FStr
import KE.GoesMore
import KE.GoesEnum
import HandS.Iter
import KE.SortKeyHeap
import HandS.SortKw
import HandS.Zip
import HandS.ListItems
import PyProof.ZipIter
import PyProof.CallType
import PyProof.Walk
import PyProof.WalkLemmas
import PyProof.RangeIter
import PyProof.RulesTry
import PyProof.Rows.SortShell
import PyProof.MakeMany
import KE.SortData
import HandS.Defaults
set_option Elab.async false
set_option linter.all false
set_option maxRecDepth 100000
set_option maxHeartbeats 2000000
namespace Ts
open PySem PySem.Spec PyProof.Rows L2
section
variable {X : Cx}
/-- repr of data at an address -/
def rShow (K : PySem.W.Frag) : List V → Hp → VK → Prop := fun xs H Q =>
  ∃ (a : Addr) (d : PyData), xs = [.ref a] ∧ Dp K H (.ref a) d ∧ d.showable = true ∧ d.hasDict = false ∧ d.depth ≤ 60 ∧ d.shown.length ≤ sizeLine ∧ Q (.str d.shown) H
theorem call_show (hg : X.A.guards = some []) (hu : X.A.units + 64 < cLine) : CallR X (.builtin "repr") (rShow X.K) := by
  intro pins s σ H xs us Q I r h
  obtain ⟨a, d, rfl, hd, hs, hn, hdp, hz, q⟩ := h
  obtain ⟨u, rfl, e⟩ := vals1 r
  cases e
  obtain ⟨as, rd⟩ := Dp.reads I d _ _ hd rfl
  exact repr_of_reads' rd hs (fun z => by rw [hn] at z; cases z) hg (by omega) (fun b o e => e) (fun h' u tk hk => ⟨.str _, H, I.kept hk, ⟨_, rfl⟩, q⟩) hz

/-! a def's promise where no repr is under way -/
structure GOk (P : Program) (w : World) (K : PySem.W.Frag) (mg : Str → Option Value) (base : Heap) (CX : CXT) (k : Nat) (f : Addr) (fd : FuncData) (ps : List Str) (sp : Sp) : Prop where
  ln : ∀ vs H Q E, sp vs H Q E → vs.length = ps.length
  go : ∀ (A : Around) (outer : List Env) (s : Shared) (H : Hp) (args : Args) (us : List Value) (vs : List V) (Q : VK) (E : XK),
    A.guards = some [] → Room k A → Env0 P w K mg base A outer s H → BindsTo s fd args (ps.zip us) → Vals vs us → sp vs H Q E →
      codeAny (model P w) A (.call (.ref f) args) (CR CX outer P w H s Q E) s
end
end Ts


set_option Elab.async false
set_option linter.all false
set_option maxRecDepth 100000
set_option maxHeartbeats 2000000
namespace Ts
open PySem PySem.Spec PyProof.Rows L2
open Evl (Ex)

/-! ## data, with dicts -/
def keyD : Key → PyData
  | .inl n => .int n
  | .inr x => .str x
mutual
inductive D (H : Hp) : V → PyData → Prop
  | non : D H .non .none
  | bl (b : Bool) : D H (.bl b) (.bool b)
  | int (i : Int) : D H (.int i) (.int i)
  | str (x : Str) : D H (.str x) (.str x)
  | lst {a : Addr} {xs : List V} {ds : List PyData} : H a = some (.lst xs) → DAll H xs ds → D H (.ref a) (.list ds)
  | tup {a : Addr} {xs : List V} {ds : List PyData} : H a = some (.tup xs) → DAll H xs ds → D H (.ref a) (.tuple ds)
  | dic {a : Addr} {kvs : List (Key × V)} {ds : List (PyData × PyData)} : H a = some (.dK kvs) → DKv H kvs ds → D H (.ref a) (.dict ds)
inductive DAll (H : Hp) : List V → List PyData → Prop
  | nil : DAll H [] []
  | cons {v : V} {vs : List V} {d : PyData} {ds : List PyData} : D H v d → DAll H vs ds → DAll H (v :: vs) (d :: ds)
inductive DKv (H : Hp) : List (Key × V) → List (PyData × PyData) → Prop
  | nil : DKv H [] []
  | cons {k : Key} {v : V} {vs : List (Key × V)} {d : PyData} {ds : List (PyData × PyData)} : D H v d → DKv H vs ds → DKv H ((k, v) :: vs) ((keyD k, d) :: ds)
end
mutual
theorem D.ex {H H' : Hp} (e : Ex H H') : ∀ {v : V} {d : PyData}, D H v d → D H' v d
  | _, _, .non => .non
  | _, _, .bl b => .bl b
  | _, _, .int i => .int i
  | _, _, .str x => .str x
  | _, _, .lst h r => .lst (e _ _ h) (DAll.ex e r)
  | _, _, .tup h r => .tup (e _ _ h) (DAll.ex e r)
  | _, _, .dic h r => .dic (e _ _ h) (DKv.ex e r)
theorem DAll.ex {H H' : Hp} (e : Ex H H') : ∀ {v : List V} {d : List PyData}, DAll H v d → DAll H' v d
  | _, _, .nil => .nil
  | _, _, .cons h r => .cons (D.ex e h) (DAll.ex e r)
theorem DKv.ex {H H' : Hp} (e : Ex H H') : ∀ {v : List (Key × V)} {d : List (PyData × PyData)}, DKv H v d → DKv H' v d
  | _, _, .nil => .nil
  | _, _, .cons h r => .cons (D.ex e h) (DKv.ex e r)
end
theorem DAll.len {H : Hp} : ∀ {v : List V} {d : List PyData}, DAll H v d → v.length = d.length
  | _, _, .nil => rfl
  | _, _, .cons _ r => by rw [List.length_cons, List.length_cons, DAll.len r]
def tyD : PyData → String
  | .none => "NoneType" | .bool _ => "bool" | .int _ => "int" | .str _ => "str" | .list _ => "list" | .tuple _ => "tuple" | .dict _ => "dict"
theorem D.ty {K : PySem.W.Frag} {H : Hp} {v : V} {d : PyData} (h : D H v d) : TyX K H v (.type (tyD d)) := by
  cases h with
  | non => exact .base .non
  | bl b => exact .base (.bl b)
  | int i => exact .base (.int i)
  | str x => exact .base (.str x)
  | lst h _ => exact .base (.lst h)
  | tup h _ => exact .base (.tup h)
  | dic h _ => exact .base (.dK h)

/-! ## the text -/
def top (i : Nat) : Stmt := PySem.Challenge.pw_takeandsplit_k49_whole_small_books.main.body.getD i (.Pass ⟨0, 0, 0, 0⟩)
/-- a def of the text that stands behind the top -/
structure FD (K : PySem.W.Frag) (mg : Str → Option Value) (x : Str) (q : Str) (st : Stmt) (f : Addr) (fd : FuncData) : Prop where
  F : Fun K x q st f fd
  g : mg x = some (.ref f)
structure Bl (mg : Str → Option Value) : Prop where
  list : mg "list" = none
  tuple : mg "tuple" = none
  int : mg "int" = none
  bool : mg "bool" = none
  dict : mg "dict" = none
  isinstance : mg "isinstance" = none
  len : mg "len" = none
  all : mg "all" = none
  range : mg "range" = none
  divmod : mg "divmod" = none
  zip : mg "zip" = none
  repr : mg "repr" = none

/-- a question about any data -/
def spAsk (p : PyData → Bool) : Sp := fun vs H Q _ => ∃ v d, vs = [v] ∧ D H v d ∧ ∀ H', Ex H H' → Q (.bl (p d)) H'
def isRow : PyData → Bool
  | .list _ => true | .tuple _ => true | _ => false
def isInt : PyData → Bool
  | .int _ => true | _ => false
def isNum : PyData → Bool
  | .int i => decide (0 ≤ i) | _ => false
def isHp : PyData → Bool
  | .int i => decide (1 ≤ i) && decide (i ≤ 1000000000000000000) | _ => false
def items : PyData → List PyData
  | .list l => l | .tuple l => l | _ => []
def isNums (d : PyData) : Bool := isRow d && (items d).all isNum

section
variable {P : Program} {w : World} {K : PySem.W.Frag} {mg : Str → Option Value} {base : Heap}
abbrev s_is_row := top 6
abbrev s_is_integer := top 7
abbrev s_is_number := top 8
theorem kit_row (d : PyData) : PySem.W.kitAny K (.type (tyD d)) [.type "list", .type "tuple"] = some (isRow d) := by
  cases d <;> first | rfl | decide +kernel
theorem kit_int (d : PyData) : PySem.W.kitOne K (.type (tyD d)) (.type "int") = some (match d with | .int _ => true | .bool _ => true | _ => false) := by
  cases d <;> first | rfl | decide +kernel
theorem kit_bool (d : PyData) : PySem.W.kitOne K (.type (tyD d)) (.type "bool") = some (match d with | .bool _ => true | _ => false) := by
  cases d <;> first | rfl | decide +kernel

theorem sc_is_row : FnScope ["thing"] ["thing"] (defScope s_is_row) := ⟨rfl, rfl, rfl, by decide +kernel, rfl, by decide +kernel, by decide +kernel⟩
theorem ok_is_row {f : Addr} {fd : FuncData} (F : FD K mg "is_row" "is_row" s_is_row f fd) (T : Bl mg) : FnOk P w K mg base CX0 1 f fd ["thing"] (spAsk isRow) := by
  refine F.F.ok sc_is_row (fun vs H Q E h => ?_) (fun cdv A outer s H vs Q E hr h => ?_)
  · obtain ⟨v, d, rfl, _⟩ := h
    rfl
  · obtain ⟨v, d, rfl, hd, k⟩ := h
    refine ⟨_, pss_one (ps_ret (pe_callB call_isiT (by rfl) T.isinstance (by decide +kernel) (pa_cons (pv 0) (pa_cons (pe_tup (pa_cons (pe_bltn (v := .ty "list") (by rfl) T.list PyProof.Rows.boot_list rfl) (pa_cons (pe_bltn (v := .ty "tuple") (by rfl) T.tuple PyProof.Rows.boot_tuple rfl) pa_nil))) pa_nil)))), ?_⟩
    refine ⟨_, rfl, by decide, fun p np => ?_⟩
    exact ⟨_, p, _, _, _, _, rfl, upd_same, .cons (.ty "list") (.cons (.ty "tuple") .nil), (hd.ex (Ex.new np)).ty, kit_row d, k _ (Ex.new np)⟩

theorem sc_is_integer : FnScope ["thing"] ["thing"] (defScope s_is_integer) := ⟨rfl, rfl, rfl, by decide +kernel, rfl, by decide +kernel, by decide +kernel⟩
theorem ok_is_integer {f : Addr} {fd : FuncData} (F : FD K mg "is_integer" "is_integer" s_is_integer f fd) (T : Bl mg) : FnOk P w K mg base CX0 1 f fd ["thing"] (spAsk isInt) := by
  refine F.F.ok sc_is_integer (fun vs H Q E h => ?_) (fun cdv A outer s H vs Q E hr h => ?_)
  · obtain ⟨v, d, rfl, _⟩ := h
    rfl
  · obtain ⟨v, d, rfl, hd, k⟩ := h
    refine ⟨_, pss_one (ps_ret (pe_and (pe_callB call_isi (by rfl) T.isinstance (by decide +kernel) (pa_cons (pv 0) (pa_cons (pe_bltn (v := .ty "int") (by rfl) T.int PyProof.Rows.boot_int rfl) pa_nil))) (pe_one (pe_not (pe_callB call_isi (by rfl) T.isinstance (by decide +kernel) (pa_cons (pv 0) (pa_cons (pe_bltn (v := .ty "bool") (by rfl) T.bool (by decide +kernel) rfl) pa_nil))))))), ?_⟩
    refine ⟨_, rfl, _, _, _, _, _, rfl, .ty "int", hd.ty, kit_int d, _, rfl, ?_⟩
    have k0 := k H (Ex.refl H)
    cases d <;> first
      | exact k0
      | exact ⟨_, rfl, _, _, _, _, _, rfl, .ty "bool", hd.ty, kit_bool _, _, rfl, k0⟩
end
end Ts


set_option Elab.async false
set_option linter.all false
set_option maxRecDepth 100000
set_option maxHeartbeats 2000000
namespace Ts
open PySem PySem.Spec PyProof.Rows L2
open Evl (Ex)
/-! ## errors with one field -/
/-- self.f = e, where a name says what f is -/
def iniSt (f : Str) (q : List Pos) (sc : Scope) : Stmt :=
  let p := fun i => q.getD i ⟨0, 0, 0, 0⟩
  .FunctionDef "__init__" { posonlyargs := [], args := [{ arg := "self", annotation := none, pos := p 0 }, { arg := f, annotation := none, pos := p 1 }], vararg := none, kwonlyargs := [], kw_defaults := [], kwarg := none, defaults := [] }
    [.Assign [.Attribute (.Name "self" (p 2)) f (p 3)] (.Name f (p 4)) (p 5)] [] none [] sc none "__init__" (p 6)
/-- the class x at C with one field f that its __init__ at g stores -/
structure XC (K : PySem.W.Frag) (mg : Str → Option Value) (x f : Str) (C g : Addr) : Prop where
  o : OexC K C
  gC : mg x = some (.ref C)
  iC : PySem.W.findIn K (.ref C) "__init__" = some (some (.ref g))
  tI : PySem.W.typeIn K (.ref g) = some (.type "function")
  nF : PySem.W.findIn K (.ref C) f = some none
  xf : XfC K C
def spIni (C : Addr) (f : Str) : Sp := fun vs H Q _ => ∃ (a : Addr) (y : V), vs = [.ref a, y] ∧ H a = some (exo a C none) ∧
  ∀ dx, H dx = none → dx ≠ a → Q .non (upd (upd H dx (exd dx [(f, y)])) a (exo a C (some dx)))
/-- what a raised error of one field leaves -/
def Raised (H : Hp) (f : Str) (y : V) (C : Addr) (E : XK) : Prop := ∀ d H', Ex H H' → H d = none → H' d = some (.xd [(f, y)]) → E (.ref C) (some d) H'
section
variable {P : Program} {w : World} {K : PySem.W.Frag} {mg : Str → Option Value} {base : Heap}
abbrev i_thing (i : Nat) : Stmt := inClass (top i) 0
def IniOf (i : Nat) (f : Str) : Prop := (i = 3 ∧ f = "thing") ∨ (i = 4 ∧ f = "index")
theorem sc_ini (i : Nat) (f : Str) (h : IniOf i f) : FnScope ["self", f] ["self", f] (defScope (i_thing i)) := by
  rcases h with ⟨rfl, rfl⟩ | ⟨rfl, rfl⟩ <;> exact ⟨rfl, rfl, rfl, by decide +kernel, rfl, by decide +kernel, by decide +kernel⟩
theorem ok_ini (i : Nat) (f : Str) (h : IniOf i f) {q : Str} {x : Str} {C g : Addr} {fd : FuncData} (F : Fun K "__init__" q (i_thing i) g fd) (T : XC K mg x f C g) : FnOk P w K mg base CX0 1 g fd ["self", f] (spIni C f) := by
  refine F.ok (sc_ini i f h) (fun vs H Q E h => ?_) (fun cdv A outer s H vs Q E hr hh => ?_)
  · obtain ⟨a, y, rfl, _⟩ := h
    rfl
  · obtain ⟨a, y, rfl, ha, k⟩ := hh
    rcases h with ⟨rfl, rfl⟩ | ⟨rfl, rfl⟩ <;>
      exact ⟨_, pss_one (ps_ost (pv 0) (pv 1)), _, rfl, _, rfl, a, C, rfl, T.o, T.nF, .inl ⟨ha, fun dx n1 n2 => k dx n1 n2⟩⟩
/-- raise x(e): the reading behind e -/
theorem raise1 {f : Str} {y : V} {C : Addr} {H1 : Hp} {Q : XK} (h : Raised H1 f y C Q) : [y].length ≤ 1000 ∧ ∀ a, H1 a = none → spIni C f (.ref a :: ([y] ++ [])) (upd H1 a (exo a C none))
    (fun v H2 => v = .non ∧ ∃ (d : Addr) (fs : List (Str × V)), H2 a = some (exo a C (some d)) ∧ H2 d = some (exd d fs) ∧ H1 d = none ∧ Q (.ref C) (some d) (upd (del H2 a) d (.xd fs))) (fun _ _ _ => False) := by
  refine ⟨by show 1 ≤ 1000; decide, fun a na => ⟨a, y, rfl, upd_same, fun dx nd ne => ⟨rfl, dx, _, upd_same, (upd_ne ne).trans upd_same, ?_, ?_⟩⟩⟩
  · rw [upd_ne ne] at nd
    exact nd
  · rw [upd_ne ne] at nd
    refine h dx _ (fun b o e => ?_) nd upd_same
    have n1 : b ≠ dx := ne_of_none e nd
    have n2 : b ≠ a := ne_of_none e na
    rw [upd_ne n1, del_ne n2, upd_ne n2, upd_ne n1, upd_ne n2]
    exact e
theorem ps_raise1 {X : Cx} {W : WX} {x f : Str} {C g : Addr} {fd : FuncData} {k : Nat} {e : Expr} {te : TE} {p pos pos2 : Pos} (hc : X.calm = true) (tk : Takes X W) (T : XC X.K X.mg x f C g) (F1 : FnOk X.prog X.w X.K X.mg X.base CX0 k g fd ["self", f] (spIni C f))
    (hb : Binds X.K fd ["self", f] []) (hr : Room (k + 1) X.A) (hg : Gl X x) (he : PE X e te)
    (hdb : (x == ("__debug__" : Str)) = false := by decide) (hs : starEach [e] X.env = (false, eval e X.env) :: starEach [] X.env := by rfl) :
    PS X (.Raise (some (.Call (.Name x p) [e] [] pos)) none pos2) (fun _ σ H => tMkO C (spIni C f) [] (tCons te tNil) σ H fun cls d H' => W cls d σ H') :=
  ps_raise (pos := pos2) hc tk (pmk_oex (p := p) (pos := pos) T.o T.iC T.tI F1 hr hb .nil pass0 hg T.gC (pa_cons he pa_nil hs) hdb hs (by rfl))
end
end Ts


set_option Elab.async false
set_option linter.all false
set_option maxRecDepth 100000
set_option maxHeartbeats 2000000
namespace Ts
open PySem PySem.Spec L2
open Evl (Ex)
/-! ## rows: a list or a tuple -/
def Row (H : Hp) (a : Addr) (xs : List V) : Prop := H a = some (.lst xs) ∨ H a = some (.tup xs)
theorem Row.ex {H H' : Hp} (e : Ex H H') {a : Addr} {xs : List V} (h : Row H a xs) : Row H' a xs := h.imp (e _ _) (e _ _)
theorem Row.ty {K : PySem.W.Frag} {H : Hp} {a : Addr} {xs : List V} (h : Row H a xs) : ∃ s, TyX K H (.ref a) (.type s) ∧ (s = "list" ∨ s = "tuple") := by
  rcases h with h | h
  · exact ⟨_, .base (.lst h), .inl rfl⟩
  · exact ⟨_, .base (.tup h), .inr rfl⟩
theorem Row.sq {K : PySem.W.Frag} {H : Hp} {a : Addr} {xs : List V} (h : Row H a xs) : SqL K H a xs ∨ SqT K H a xs := h.imp SqL.of SqT.of
section
variable {X : Cx}
def gOr (t u : TG) : TG := fun v σ H Q => t v σ H Q ∨ u v σ H Q
theorem pg_or {tg : Expr} {t u : TG} (h1 : PG X tg t) (h2 : PG X tg u) : PG X tg (gOr t u) :=
  ⟨fun pins s σ H v w Q I r h => h.elim (fun h => h1.run pins s σ H v w Q I r h) fun h => h2.run pins s σ H v w Q I r h⟩
def iOr (t u : TI) : TI := fun σ H R => t σ H R ∨ u σ H R
theorem pi_or {tg it : Expr} {t u : TI} (h1 : PI X tg it t) (h2 : PI X tg it u) : PI X tg it (iOr t u) :=
  ⟨fun pins s σ H R I h => h.elim (fun h => h1.run pins s σ H R I h) fun h => h2.run pins s σ H R I h⟩
theorem passF {P : Program} {w : World} (hp : X.prog = P) (hw : X.w = w) : Passes (L2.CX P w) X (fun _ _ _ => False) := fun pins σ H s e s' I h => by
  obtain ⟨_, _, _, _, _, _, _, _, _, _, _, _, z⟩ := h
  exact z.elim
end
/-! ## a comprehension that only makes things -/
theorem lc_pure {J : It} {n : Nat} {G : Hp → Prop} {Y : Nat → Hp → V → Hp → Prop} (w : Walk J n G Y) {g : TG} {te : TE} {vs : List Nat} {σ : St} {H1 : Hp} {out : Nat → V} {Q : VK} (hz : n ≤ sizeLine)
    (hG : ∀ H, Ex H1 H → G H)
    (hs : ∀ i x H H', i < n → Ex H1 H → Y i H x H' → Ex H H' ∧ g x (wipe σ vs) H' fun σ2 H2 => wipe σ2 vs = wipe σ vs ∧ Ex H' H2 ∧ ∀ q : VK, (∀ H4, Ex H2 H4 → q (out i) H4) → te σ2 H2 q)
    (hgm : ∀ (x : V) (H : Hp) (q q' : St → Hp → Prop), (∀ σ2 H2, q σ2 H2 → q' σ2 H2) → g x (wipe σ vs) H q → g x (wipe σ vs) H q')
    (hq : ∀ D Hf, H1 D = none → Ex H1 Hf → Hf D = some (.lst ((List.range n).map out)) → Q (.ref D) Hf) :
    ∀ D, H1 D = none → ∃ W : Nat → Nat → Hp → Prop, (∃ m, W 0 m (upd H1 D (.lst []))) ∧ ∀ i m H, W i m H →
      (J.stop i H ∧ Q (.ref D) H) ∨ (J.go i H ∧ ∃ Nx : Hp → Prop, (∀ H', Nx H' → ∃ m', m' < m ∧ W (i + 1) m' H') ∧ ∀ x H', J.yld i H x H' → g x (wipe σ vs) H' fun σ2 H2 => wipe σ2 vs = wipe σ vs ∧ tYes σ2 H2 fun b H3 =>
        if b = true then te σ2 H3 fun y H4 => ∃ acc, H4 D = some (.lst acc) ∧ acc.length < sizeLine ∧ Nx (upd H4 D (.lst (acc ++ [y]))) else Nx H3) := by
  intro D hD
  refine lc_it w (Pv := fun i H => Ex H1 H ∧ H D = some (.lst ((List.range i).map out))) ⟨Ex.new hD, upd_same⟩ (fun i H _ p => hG H p.1) ?_ (fun H p => hq D H hD p.1 p.2)
  intro i x H H' hi ⟨e, hd⟩ y
  obtain ⟨e2, h⟩ := hs i x H H' hi e y
  refine hgm x H' _ _ (fun σ2 H2 ⟨h1, e3, h3⟩ => ⟨h1, ?_⟩) h
  unfold tYes
  dsimp only
  rw [if_pos rfl]
  refine h3 _ fun H4 e4 => ?_
  have hd4 : H4 D = some (.lst ((List.range i).map out)) := e4 _ _ (e3 _ _ (e2 _ _ hd))
  refine ⟨_, hd4, ?_, ?_, ?_⟩
  · rw [List.length_map, List.length_range]
    omega
  · exact ((e.trans e2).trans (e3.trans e4)).mut hD
  · rw [upd_same, List.range_succ, List.map_append]
    rfl
theorem g_name_mono {j : Nat} {x : V} {σ : St} {H : Hp} {q q' : St → Hp → Prop} (h : ∀ σ2 H2, q σ2 H2 → q' σ2 H2) (z : gName j x σ H q) : gName j x σ H q' := h _ _ z

section
variable {P : Program} {w : World} {K : PySem.W.Frag} {mg : Str → Option Value} {base : Heap}
abbrev F1 {f : Addr} {fd : FuncData} {x q : Str} {st : Stmt} {p : Str} (F : Fun K x q st f fd) (h : ∀ (kV doc pm : Value) (an : Option Addr) (cdv ct : Value) (us : List Value), us.length = [p].length → bindArgs (PySem.W.fnOf x q (defArgs st) (defBody st) (defScope st) .none kV doc pm an cdv ct) ⟨us, []⟩ = pure ([p].zip us)) : Binds K fd [p] [] := F.binds h
theorem b_is_row {f : Addr} {fd : FuncData} (F : FD K mg "is_row" "is_row" s_is_row f fd) : Binds K fd ["thing"] [] := F.F.binds fun _ _ _ _ _ _ us hl => match us, hl with | [_], _ => rfl
theorem b_is_integer {f : Addr} {fd : FuncData} (F : FD K mg "is_integer" "is_integer" s_is_integer f fd) : Binds K fd ["thing"] [] := F.F.binds fun _ _ _ _ _ _ us hl => match us, hl with | [_], _ => rfl
theorem b_is_number {f : Addr} {fd : FuncData} (F : FD K mg "is_number" "is_number" s_is_number f fd) : Binds K fd ["thing"] [] := F.F.binds fun _ _ _ _ _ _ us hl => match us, hl with | [_], _ => rfl

theorem sc_is_number : FnScope ["thing"] ["thing"] (defScope s_is_number) := ⟨rfl, rfl, rfl, by decide +kernel, rfl, by decide +kernel, by decide +kernel⟩
theorem ok_is_number {f f1 : Addr} {fd fd1 : FuncData} (F : FD K mg "is_number" "is_number" s_is_number f fd) (F1 : FD K mg "is_integer" "is_integer" s_is_integer f1 fd1) (T : Bl mg) : FnOk P w K mg base CX0 2 f fd ["thing"] (spAsk isNum) := by
  have G1 : FnOk P w K mg base CX0 1 f1 fd1 ["thing"] (spAsk isInt) := ok_is_integer F1 T
  refine F.F.ok sc_is_number (fun vs H Q E h => ?_) (fun cdv A outer s H vs Q E hr h => ?_)
  · obtain ⟨v, d, rfl, _⟩ := h
    rfl
  · obtain ⟨v, d, rfl, hd, k⟩ := h
    refine ⟨_, pss_one (ps_ret (pe_and (pe_call G1 hr (by rfl) F1.g F1.F.kp (b_is_integer F1) .nil pass0 (pa_cons (pv 0) pa_nil)) (pe_one (pe_cmpR op_ge (pv 0) pe_int (nomark _))))), ?_⟩
    refine ⟨_, rfl, v, d, rfl, hd, fun H' e => ⟨_, rfl, ?_⟩⟩
    have k0 := k H' e
    cases hd <;> first
      | exact k0
      | skip
    rename_i i
    refine iteT ⟨_, rfl, _, _, rfl, rfl, ?_⟩
    exact k0
end
end Ts


set_option Elab.async false
set_option linter.all false
set_option maxRecDepth 100000
set_option maxHeartbeats 2000000
namespace Ts
open PySem PySem.Spec L2
open Evl (Ex)
theorem DAll.get {H : Hp} : ∀ {vs : List V} {ds : List PyData} {i : Nat} {x : V}, DAll H vs ds → vs[i]? = some x → ∃ d, ds[i]? = some d ∧ D H x d
  | _, _, _, _, .nil, e => by simp at e
  | _, _, 0, _, .cons h _, e => by
    have e' : _ = _ := Option.some.inj e
    subst e'
    exact ⟨_, rfl, h⟩
  | _, _, i + 1, _, .cons _ r, e => DAll.get (i := i) r e
/-- a list, or a tuple -/
def mk (k : Bool) (l : List PyData) : PyData := if k = true then .list l else .tuple l
theorem mk_row (k : Bool) (l : List PyData) : isRow (mk k l) = true := by cases k <;> rfl
theorem mk_items (k : Bool) (l : List PyData) : items (mk k l) = l := by cases k <;> rfl
theorem D.row {H : Hp} {v : V} {d : PyData} (h : D H v d) (hr : isRow d = true) : ∃ a xs, v = .ref a ∧ Row H a xs ∧ DAll H xs (items d) := by
  cases h with
  | lst h r => exact ⟨_, _, rfl, .inl h, r⟩
  | tup h r => exact ⟨_, _, rfl, .inr h, r⟩
  | non => cases hr
  | bl b => cases hr
  | int i => cases hr
  | str x => cases hr
  | dic h r => cases hr
theorem g_row {K : PySem.W.Frag} {H : Hp} {a : Addr} {xs : List V} {n : Nat} {t : TGs} {σ : L2.St} {Q : L2.St → Hp → Prop} (h : Row H a xs) (hn : xs.length = n) (q : t xs σ H Q) : gOr (gTup K n t) (gUnl K n t) (.ref a) σ H Q := by
  rcases h with h | h
  · exact .inr ⟨a, xs, rfl, SqL.of h, hn, q⟩
  · exact .inl ⟨a, xs, rfl, SqT.of h, hn, q⟩
theorem ix_row {K : PySem.W.Frag} {H : Hp} {a : Addr} {xs : List V} {i : Int} {v : V} {Q : VK} (h : Row H a xs) (hi : atI xs i = some v) (q : Q v H) : rIx K (.ref a) (.int i) H Q := by
  rcases h with h | h
  · exact .inl ⟨a, xs, i, v, rfl, rfl, SqL.of h, hi, q⟩
  · exact .inr (.inl ⟨a, xs, i, v, rfl, rfl, SqT.of h, hi, q⟩)
/-- a comprehension over the row in slot i, pure -/
theorem lc_row {K : PySem.W.Frag} {i : Nat} {g : TG} {te : TE} {vs : List Nat} {σ : L2.St} {H : Hp} {a : Addr} {xs : List V} {out : Nat → V} {Q : VK} (hσ : σ[i]? = some (some (.ref a))) (hr : Row H a xs) (hz : xs.length ≤ sizeLine)
    (hs : ∀ j x H1, xs[j]? = some x → Ex H H1 → g x (wipe σ vs) H1 fun σ2 H2 => wipe σ2 vs = wipe σ vs ∧ Ex H1 H2 ∧ ∀ q : VK, (∀ H4, Ex H2 H4 → q (out j) H4) → te σ2 H2 q)
    (hgm : ∀ (x : V) (H : Hp) (q q' : L2.St → Hp → Prop), (∀ σ2 H2, q σ2 H2 → q' σ2 H2) → g x (wipe σ vs) H q → g x (wipe σ vs) H q')
    (hq : ∀ D Hf, H D = none → Ex H Hf → Hf D = some (.lst ((List.range xs.length).map out)) → Q (.ref D) Hf) :
    tLc (iOr (iList K (tVar i)) (iTup K (tVar i))) g tYes te vs σ H Q := by
  rcases hr with h | h
  · refine .inl ⟨_, hσ, a, rfl, ⟨xs, SqL.of h⟩, lc_pure (walk_list (xs := xs)) hz (fun H' e => SqL.of (e _ _ h)) (fun j x H1 H2 hj e y => ?_) hgm hq⟩
    obtain ⟨rfl, hx⟩ := y
    exact ⟨Ex.refl _, hs j x H2 hx e⟩
  · refine .inr ⟨_, hσ, a, rfl, ⟨xs, SqT.of h⟩, lc_pure (walk_tup (xs := xs)) hz (fun H' e => SqT.of (e _ _ h)) (fun j x H1 H2 hj e y => ?_) hgm hq⟩
    obtain ⟨rfl, hx⟩ := y
    exact ⟨Ex.refl _, hs j x H2 hx e⟩
theorem map_getD {α β : Type} (f : α → β) (d : α) : ∀ l : List α, (List.range l.length).map (fun i => f (l.getD i d)) = l.map f := by
  intro l
  apply List.ext_getElem?
  intro i
  rw [List.getElem?_map, List.getElem?_map]
  by_cases h : i < l.length
  · rw [List.getElem?_range h]
    simp [List.getD, h]
  · rw [List.getElem?_eq_none (by simpa using h), List.getElem?_eq_none (by omega)]
    rfl
theorem getD_of {α : Type} {l : List α} {i : Nat} {x d : α} (h : l[i]? = some x) : l.getD i d = x := by
  rw [List.getD, h]
  rfl
theorem all_id {α : Type} (f : α → Bool) (l : List α) : (l.map f).all id = l.all f := by
  rw [List.all_map]
  rfl

section
variable {P : Program} {w : World} {K : PySem.W.Frag} {mg : Str → Option Value} {base : Heap}
/-- what is asked of a thing: it is so, or it is refused -/
def spNeed (p : PyData → Bool) (C : Addr) : Sp := fun vs H Q E => ∃ v d, vs = [v] ∧ D H v d ∧ (p d = true → ∀ H', Ex H H' → Q .non H') ∧ (p d = false → ∀ H', Ex H H' → Raised H' "thing" v C E)
end
end Ts


set_option Elab.async false
set_option linter.all false
set_option maxRecDepth 100000
set_option maxHeartbeats 4000000
namespace Ts
open PySem PySem.Spec PyProof.Rows L2
open Evl (Ex)
/-! ## rules -/
/-- a rule -/
structure Rl where
  low : Int
  high : Option Int
  left : Str
  rest : Int
  mod : Int
deriving DecidableEq
def hiV : Option Int → V
  | none => .non
  | some i => .int i
def hiD : Option Int → PyData
  | none => .none
  | some i => .int i
def hiK : Option Int → NestedKey
  | none => .none
  | some i => .num i
def Rl.vs (r : Rl) : List V := [.int r.low, hiV r.high, .str r.left, .int r.rest, .int r.mod]
def Rl.d (r : Rl) : PyData := .tuple [.int r.low, hiD r.high, .str r.left, .int r.rest, .int r.mod]
def Rl.key (r : Rl) : NestedKey := .tup [.num r.low, hiK r.high, .text r.left, .num r.rest, .num r.mod]
theorem Rl.key_inj {r r' : Rl} (h : r.key = r'.key) : r = r' := by
  obtain ⟨a, b, c, d, e⟩ := r
  obtain ⟨a', b', c', d', e'⟩ := r'
  unfold Rl.key at h
  simp only [NestedKey.tup.injEq, List.cons.injEq, NestedKey.num.injEq, NestedKey.text.injEq, and_true] at h
  obtain ⟨rfl, hb, rfl, rfl, rfl⟩ := h
  have : b = b' := by
    cases b <;> cases b' <;> first
      | rfl
      | (simp only [hiK, NestedKey.num.injEq] at hb; rw [hb])
      | (simp only [hiK] at hb; cases hb)
  rw [this]
theorem Rl.depth (r : Rl) : r.key.depth ≤ 8 := by
  obtain ⟨a, b, c, d, e⟩ := r
  cases b <;> simp [Rl.key, hiK, NestedKey.depth, NestedKey.depthAll]
/-! ## the rules that were seen: a dict of their tuples -/
/-- a dict whose keys are rules, at these addresses, all of True -/
def seenP (P : Program) (w : World) (a : Addr) (ks : List (Rl × Addr)) (h : Heap) : Prop :=
  (a == sysModules) = false ∧ ks.length ≤ sizeLine ∧ (ks.map (·.1)).Nodup ∧ ∃ o es ep, h.get? a = some o ∧ o.ExactDict ∧ o.data = .dict es ep ∧ es.toList = ks.map fun p => (⟨p.1.key.hash w, .ref p.2, .bool true⟩ : DictEntry)
def SeenO (P : Program) (w : World) (a : Addr) (ks : List (Rl × Addr)) : HO := .ext (seenP P w a ks)
/-- what its keys stand on -/
def SeenK (H : Hp) (ks : List (Rl × Addr)) : Prop := ∀ p ∈ ks, H p.2 = some (.tup p.1.vs)
section
variable {P : Program} {w : World} {H : Hp} {h : Heap} {a b : Addr} {ks : List (Rl × Addr)}
theorem rule_key {r : Rl} (ok : HOk P w H h) (e : H a = some (.tup r.vs)) : (nestedKind P w).is h r.key a := by
  obtain ⟨_, its, rv, o, h1, h2, n, h3⟩ := (show ObjOk P w H h a (.tup r.vs) from ok a _ e)
  refine ⟨.tup h1 h2 h3 ?_, r.depth⟩
  obtain ⟨lo, hi, le, re, mo⟩ := r
  have rv' : Vals [.int lo, hiV hi, .str le, .int re, .int mo] its := rv
  cases rv' with
  | cons r1 t =>
    cases t with
    | cons r2 t =>
      cases t with
      | cons r3 t =>
        cases t with
        | cons r4 t =>
          cases t with
          | cons r5 t =>
            cases t
            obtain ⟨t1, rfl⟩ := r1
            obtain ⟨t3, rfl⟩ := r3
            obtain ⟨t4, rfl⟩ := r4
            obtain ⟨t5, rfl⟩ := r5
            refine .cons (.int _ _) (.cons ?_ (.cons (.text _ _) (.cons (.int _ _) (.cons (.int _ _) .nil))))
            cases hi with
            | none =>
              cases r2
              exact .none
            | some i =>
              obtain ⟨t2, rfl⟩ := r2
              exact .int _ _
def seenX (ks : List (Rl × Addr)) : List (NestedKey × Addr × Value) := ks.map fun p => (p.1.key, p.2, Value.bool true)
theorem seen_dict (ok : HOk P w H h) (e : H a = some (SeenO P w a ks)) (hk : SeenK H ks) : (a == sysModules) = false ∧ ks.length ≤ sizeLine ∧ (ks.map (·.1)).Nodup ∧ h.DictOfH (nestedKind P w) a (seenX ks) := by
  obtain ⟨⟨h1, h2, h3, o, es, ep, h4, h5, h6, h7⟩, _, _⟩ := (show ObjOk P w H h a (.ext (seenP P w a ks)) from ok a _ e)
  refine ⟨h1, h2, h3, o, es, ep, h4, h5, h6, ?_, fun x hx => ?_, ?_⟩
  · rw [h7]
    unfold seenX
    rw [List.map_map]
    rfl
  · obtain ⟨p, hp, rfl⟩ := List.mem_map.mp hx
    exact rule_key ok (hk p hp)
  · unfold seenX
    rw [List.map_map]
    have : ((fun x : NestedKey × Addr × Value => x.1) ∘ fun p : Rl × Addr => (p.1.key, p.2, Value.bool true)) = Rl.key ∘ fun p : Rl × Addr => p.1 := rfl
    rw [this, ← List.map_map]
    exact List.Pairwise.map _ (fun x y hxy z => hxy (Rl.key_inj z)) h3
theorem seen_at {r : Rl} : ∀ ks : List (Rl × Addr), (atKey (seenX ks) r.key).isSome = decide (r ∈ ks.map (·.1))
  | [] => rfl
  | p :: t => by
    have ih := seen_at t (r := r)
    unfold atKey seenX at ih ⊢
    rw [List.map_cons, List.find?_cons]
    by_cases c : p.1.key = r.key
    · have e : p.1 = r := Rl.key_inj c
      rw [decide_eq_true c]
      symm
      exact decide_eq_true (by rw [List.map_cons, e]; exact List.mem_cons_self)
    · rw [decide_eq_false c]
      have c' : p.1 ≠ r := fun z => c (by rw [z])
      rw [ih]
      rw [List.map_cons]
      by_cases m : r ∈ t.map (·.1)
      · rw [decide_eq_true m, decide_eq_true (List.mem_cons_of_mem _ m)]
      · rw [decide_eq_false m, decide_eq_false fun z => (List.mem_cons.mp z).elim (fun q => c' q.symm) m]
theorem seen_ok {h' : Heap} (h1 : (a == sysModules) = false) (h2 : ks.length ≤ sizeLine) (h3 : (ks.map (·.1)).Nodup) (dd : h'.DictOfH (nestedKind P w) a (seenX ks)) : ObjOk P w H h' a (SeenO P w a ks) := by
  obtain ⟨o, es, ep, k1, k2, k3, k4, _, _⟩ := dd
  have k4' : es.toList = ks.map fun p => (⟨p.1.key.hash w, .ref p.2, .bool true⟩ : DictEntry) := by
    rw [k4]
    unfold seenX
    rw [List.map_map]
    rfl
  refine ⟨⟨h1, h2, h3, o, es, ep, k1, k2, k3, k4'⟩, ⟨o, k1⟩, fun g1 g2 ⟨q1, q2, q3, o', es', ep', q4, q5⟩ hk => ⟨q1, q2, q3, o', es', ep', hk _ q4, q5⟩⟩
end
section
variable {X : Cx} {pos : Pos}
/-- {}, to be a dict of rules -/
def tDNewR (P : Program) (w : World) : TE := fun _ H Q => ∀ p, H p = none → Q (.ref p) (upd H p (SeenO P w p []))
theorem pe_dnewR : PE X (.Dict [] [] pos) (tDNewR X.prog X.w) := ⟨fun pins s σ H Q I h =>
  wpAny_Dict_empty ⟨.ref s.heap.objs.size, _, I.laid (a := s.heap.objs.size) (o := SeenO X.prog X.w s.heap.objs.size []) (t' := s.toks) (fun _ _ q => Heap.get?_push_of_some _ q) (Nat.le_refl _)
    (seen_ok (beq_eq_false_iff_ne.mpr (Ne.symm (Nat.ne_of_lt I.big))) (Nat.zero_le _) List.nodup_nil ⟨_, #[], 0, Heap.get?_push_size _ rfl, ⟨rfl, rfl, rfl⟩, rfl, rfl, (fun x hx => nomatch hx), List.nodup_nil⟩), rfl, h _ (I.hok.fresh (Nat.le_refl _))⟩⟩
/-- a rule's tuple in the dict -/
def rInR (P : Program) (w : World) : R2 := fun x y H Q => ∃ (b a : Addr) (r : Rl) (ks : List (Rl × Addr)), x = .ref b ∧ y = .ref a ∧ H b = some (.tup r.vs) ∧ H a = some (SeenO P w a ks) ∧ SeenK H ks ∧ Q (.bl (decide (r ∈ ks.map (·.1)))) H
theorem op_inR (hu : X.A.units + 16 < cLine) : OpR X (compareOp .In) (rInR X.prog X.w) := by
  intro pins s σ H x y v u Q I rx ry h
  obtain ⟨b, a, r, ks, rfl, rfl, hb, ha, hk, q⟩ := h
  cases (show v = Value.ref b from rx)
  cases (show u = Value.ref a from ry)
  obtain ⟨h1, h2, h3, dd⟩ := seen_dict I.hok ha hk
  refine wpAny_in_heap (knd := nestedKind X.prog X.w) (show X.A.units + 1 + 8 < cLine by omega) (rule_key I.hok hb) h1 dd ?_
  rw [seen_at]
  exact ⟨.bl _, H, I.tok _, rfl, q⟩
/-- seen[rule's tuple] = True, a rule not yet seen -/
def rSetR (P : Program) (w : World) : TSet := fun o i v H Q => ∃ (b a : Addr) (r : Rl) (ks : List (Rl × Addr)), o = .ref a ∧ i = .ref b ∧ v = .bl true ∧ H b = some (.tup r.vs) ∧ H a = some (SeenO P w a ks) ∧ SeenK H ks ∧ r ∉ ks.map (·.1) ∧ ks.length < sizeLine ∧ Q (upd H a (SeenO P w a (ks ++ [(r, b)])))
theorem set_R (hu : X.A.units + 16 < cLine) : PSet X (rSetR X.prog X.w) := by
  intro pins s σ H o i v ov iv u Q I ro ri rv h
  obtain ⟨b, a, r, ks, rfl, rfl, rfl, hb, ha, hk, hn, hl, q⟩ := h
  cases (show ov = Value.ref a from ro)
  cases (show iv = Value.ref b from ri)
  cases (show u = Value.bool true from rv)
  obtain ⟨h1, h2, h3, dd⟩ := seen_dict I.hok ha hk
  have hat : atKey (seenX ks) r.key = none := by
    have z := seen_at ks (r := r)
    rw [decide_eq_false hn] at z
    cases e : atKey (seenX ks) r.key with
    | none => rfl
    | some p =>
      rw [e] at z
      cases z
  refine wpAny_setItem_heap (knd := nestedKind X.prog X.w) (hsz := by unfold seenX; rw [List.length_map]; exact h2) (show X.A.units + 1 + 8 < cLine by omega) (rule_key I.hok hb) dd fun h' dd' hs => ?_
  rw [storedH_new hat] at dd'
  have dd2 : h'.DictOfH (nestedKind X.prog X.w) a (seenX (ks ++ [(r, b)])) := by
    unfold seenX
    rw [List.map_append]
    exact dd'
  obtain ⟨ob, es, ep, k1, _⟩ := id dd2
  refine ⟨_, d_write I (by rw [ha]; exact True.intro) hs ⟨ob, k1⟩ (seen_ok h1 ?_ ?_ dd2), q⟩
  · rw [List.length_append]
    show ks.length + 1 ≤ sizeLine
    omega
  · rw [List.map_append]
    refine List.nodup_append.mpr ⟨h3, by simp, fun x hx y hy => ?_⟩
    simp at hy
    rw [hy]
    exact fun z => hn (by rw [← z]; exact hx)
end
end Ts


set_option Elab.async false
set_option linter.all false
set_option maxRecDepth 100000
set_option maxHeartbeats 4000000
namespace Ts
open PySem PySem.Spec L2
open Evl (Ex)
theorem kit_str {K : PySem.W.Frag} (d : PyData) : PySem.W.kitOne K (.type (tyD d)) (.type "str") = some (match d with | .str _ => true | _ => false) := by cases d <;> first | rfl | decide +kernel
def intOf : PyData → Int
  | .int i => i
  | _ => 0
theorem isNum_int {d : PyData} (h : isNum d = true) : ∃ i, d = .int i ∧ 0 ≤ i := by
  cases d <;> first
    | (exact ⟨_, rfl, of_decide_eq_true h⟩)
    | cases h
theorem ite_ff {c : Bool} {A B : Prop} (h : c = false) (b : B) : if c = true then A else B := by
  rw [h]
  exact iteF b
theorem ite_tt {c : Bool} {A B : Prop} (h : c = true) (a : A) : if c = true then A else B := by
  rw [h]
  exact iteT a
theorem dec_z {i j : Int} : decide (V.int i = V.int j) = decide (i = j) := by
  by_cases c : i = j
  · rw [c]
    rw [decide_eq_true rfl, decide_eq_true rfl]
  · rw [decide_eq_false c, decide_eq_false fun q => c (V.int.inj q)]
def lefts : List V := [.str "none", .str "one", .str "two"]
def isStr : PyData → Bool
  | .str _ => true
  | _ => false
def isLeft : PyData → Bool
  | .str s => inV (.str s) lefts
  | _ => false
def isTwo : PyData → Bool
  | .str s => decide (V.str s = V.str "two")
  | _ => false
def isNon : PyData → Bool
  | .none => true
  | _ => false
/-- the five parts of a rule -/
def rule5 (lo hi le re mo : PyData) : Bool :=
  isLeft le && (isNum lo && (!(decide (intOf lo = 0) && !isTwo le)) && (isNum re && (isNum mo && decide (intOf re < intOf mo)) && (if isNon hi = true then decide (intOf mo = 1) && !isTwo le else isNum hi && decide (intOf lo ≤ intOf hi))))
def isRule (d : PyData) : Bool := isRow d && (match items d with
  | [lo, hi, le, re, mo] => rule5 lo hi le re mo
  | _ => false)
section
variable {P : Program} {w : World} {K : PySem.W.Frag} {mg : Str → Option Value} {base : Heap}
abbrev s_is_rule := top 11
theorem sc_is_rule : FnScope ["thing", "low", "high", "left", "rest", "modulus"] ["thing"] (defScope s_is_rule) := ⟨rfl, rfl, rfl, by decide +kernel, rfl, by decide +kernel, by decide +kernel⟩
theorem DAll.five {H : Hp} {xs : List V} {a b c d e : PyData} (h : DAll H xs [a, b, c, d, e]) : ∃ v1 v2 v3 v4 v5, xs = [v1, v2, v3, v4, v5] ∧ D H v1 a ∧ D H v2 b ∧ D H v3 c ∧ D H v4 d ∧ D H v5 e := by
  cases h with
  | cons h1 h =>
    cases h with
    | cons h2 h =>
      cases h with
      | cons h3 h =>
        cases h with
        | cons h4 h =>
          cases h with
          | cons h5 h =>
            cases h
            exact ⟨_, _, _, _, _, rfl, h1, h2, h3, h4, h5⟩
theorem tand_of {A B : TT} {σ : L2.St} {H : Hp} {Q : Bool → Hp → Prop} {b1 b2 : Bool} (ha : ∀ q : Bool → Hp → Prop, q b1 H → A σ H q) (hb : ∀ q : Bool → Hp → Prop, q b2 H → B σ H q) (h : Q (b1 && b2) H) : tAnd A B σ H Q :=
  ha _ (by
    cases b1 with
    | false => exact iteF h
    | true => exact iteT (hb _ h))
theorem D.int_of {H : Hp} {v : V} {i : Int} (h : D H v (.int i)) : v = .int i := by
  cases h
  rfl
theorem D.non_of {H : Hp} {v : V} {d : PyData} (h : D H v d) : decide (v = .non) = isNon d := by
  cases h <;> first
    | rfl
    | exact decide_eq_false (fun z => by cases z)
theorem ok_is_rule {f f1 f2 f3 tl : Addr} {fd fd1 fd2 fd3 : FuncData} (F : FD K mg "is_rule" "is_rule" s_is_rule f fd) (F_row : FD K mg "is_row" "is_row" s_is_row f1 fd1) (F_num : FD K mg "is_number" "is_number" s_is_number f2 fd2) (F_int : FD K mg "is_integer" "is_integer" s_is_integer f3 fd3) (T : Bl mg)
    (hstr : mg "str" = none) (hL : mg "LEFTS" = some (.ref tl)) (hT : ∀ H : Hp, SqT K H tl lefts) : FnOk P w K mg base CX0 3 f fd ["thing"] (spAsk isRule) := by
  have G_row : FnOk P w K mg base CX0 1 f1 fd1 ["thing"] (spAsk isRow) := ok_is_row F_row T
  have G_num : FnOk P w K mg base CX0 2 f2 fd2 ["thing"] (spAsk isNum) := ok_is_number F_num F_int T
  have b_row := b_is_row F_row
  have b_num := b_is_number F_num
  refine F.F.ok sc_is_rule (fun vs H Q E h => ?_) (fun cdv A outer s H vs Q E hr h => ?_)
  · obtain ⟨v, d, rfl, _⟩ := h
    rfl
  · obtain ⟨v, d, rfl, hd, k⟩ := h
    have nd := sc_is_rule.nd
    refine ⟨_, (pss_cons (ps_if (PW.pt (pw_or (pt_not (pt_val (pe_call G_row (hr.mono (by decide)) (by rfl) F_row.g F_row.F.kp b_row .nil pass0 (pa_cons (pv 0) pa_nil)))) (pw_or1 (pt_cmpR op_ne (pe_callB call_len_seq (by rfl) T.len PySem.boot_len (pa_cons (pv 0) pa_nil)) pe_int (nomark _))))) (pss_one (ps_ret pe_bl)) pss_nil)
      (pss_cons (ps_asg (pv 0) (pg_or (pg_tup rfl (pgs_cons (pg_name (i := 1) nd rfl (Or.inl rfl)) (pgs_cons (pg_name (i := 2) nd rfl (Or.inl rfl)) (pgs_cons (pg_name (i := 3) nd rfl (Or.inl rfl)) (pgs_cons (pg_name (i := 4) nd rfl (Or.inl rfl)) (pgs_cons (pg_name (i := 5) nd rfl (Or.inl rfl)) pgs_nil)))))) (pg_unl rfl (pgs_cons (pg_name (i := 1) nd rfl (Or.inl rfl)) (pgs_cons (pg_name (i := 2) nd rfl (Or.inl rfl)) (pgs_cons (pg_name (i := 3) nd rfl (Or.inl rfl)) (pgs_cons (pg_name (i := 4) nd rfl (Or.inl rfl)) (pgs_cons (pg_name (i := 5) nd rfl (Or.inl rfl)) pgs_nil))))))))
      (pss_cons (ps_if (PW.pt (pw_or (pt_not (pt_val (pe_callB call_isi (by rfl) T.isinstance (by decide +kernel) (pa_cons (pv 3) (pa_cons (pe_bltn (v := .ty "str") (by rfl) hstr PyProof.Rows.boot_str rfl) pa_nil))))) (pw_or1 (pt_cmpR op_notIn_seq (pv 3) (pe_glob (v := .ref tl) rfl hL rfl) (by rfl))))) (pss_one (ps_ret pe_bl)) pss_nil)
      (pss_cons (ps_if (PW.pt (pw_or (pt_not (pt_val (pe_call G_num (hr.mono (by decide)) (by rfl) F_num.g F_num.F.kp b_num .nil pass0 (pa_cons (pv 1) pa_nil)))) (pw_or1 (PW.pt (pw_and (pt_cmpR op_eq (pv 1) pe_int (nomark _)) (pw_and1 (pt_cmpR op_ne (pv 3) pe_str (nomark _)))))))) (pss_one (ps_ret pe_bl)) pss_nil)
      (pss_cons (ps_if (PW.pt (pw_or (pt_not (pt_val (pe_call G_num (hr.mono (by decide)) (by rfl) F_num.g F_num.F.kp b_num .nil pass0 (pa_cons (pv 4) pa_nil)))) (pw_or (pt_not (pt_val (pe_call G_num (hr.mono (by decide)) (by rfl) F_num.g F_num.F.kp b_num .nil pass0 (pa_cons (pv 5) pa_nil)))) (pw_or1 (pt_cmpR op_ge (pv 4) (pv 5) (nomark _)))))) (pss_one (ps_ret pe_bl)) pss_nil)
      (pss_cons (ps_if (pt_cmpR op_isN (pv 2) pe_non (nomark _)) (pss_one (ps_ret (pe_and (pe_cmpR op_eq (pv 5) pe_int (nomark _)) (pe_one (pe_cmpR op_ne (pv 3) pe_str (nomark _)))))) pss_nil)
      (pss_one (ps_ret (pe_and (pe_call G_num (hr.mono (by decide)) (by rfl) F_num.g F_num.F.kp b_num .nil pass0 (pa_cons (pv 2) pa_nil)) (pe_one (pe_cmpR op_ge (pv 2) (pv 1) (nomark _)))))))))))), ?_⟩
    refine ⟨_, rfl, v, d, rfl, hd, fun H1 e1 => ⟨_, rfl, ?_⟩⟩
    by_cases hrw : isRow d = true
    · obtain ⟨a, xs, rfl, hrow, hall⟩ := hd.row hrw
      rw [hrw]
      refine iteF ?_
      refine ⟨_, rfl, a, xs, rfl, (hrow.ex e1).sq, rfl, _, rfl, ?_⟩
      by_cases h5 : (items d).length = 5
      · obtain ⟨lo, hi, le, re, mo, hit⟩ : ∃ lo hi le re mo, items d = [lo, hi, le, re, mo] := by
          match q : items d, h5 with
          | [lo, hi, le, re, mo], _ => exact ⟨lo, hi, le, re, mo, rfl⟩
        have hk : isRule d = rule5 lo hi le re mo := by
          unfold isRule
          rw [hrw, hit]
          rfl
        have hlen := hall.len
        rw [hit] at hall hlen
        obtain ⟨vlo, vhi, vle, vre, vmo, rfl, hlo, hhi, hle, hre, hmo⟩ := hall.five
        have e5 : (!decide (V.int (([vlo, vhi, vle, vre, vmo].length : Nat) : Int) = V.int 5)) = false := rfl
        refine ite_ff e5 ?_
        refine ⟨_, rfl, g_row (hrow.ex e1) rfl ⟨_, _, rfl, _, _, rfl, _, _, rfl, _, _, rfl, _, _, rfl, rfl, ?_⟩⟩
        rw [hk] at k
        clear hk hit h5 hrw hlen
        have no : isLeft le = false → Q (.bl false) H1 := fun z => by
          have q := k H1 e1
          unfold rule5 at q
          rw [z, Bool.false_and] at q
          exact q
        refine ⟨_, rfl, _, _, _, _, _, rfl, .ty "str", (hle.ex e1).ty, kit_str le, _, rfl, ?_⟩
        cases hle with
        | str s =>
          refine iteF ⟨_, rfl, tl, lefts, rfl, .inr (hT _), rfl, rfl, _, rfl, ?_⟩
          by_cases hin : inV (.str s) lefts = true
          · refine ite_ff (by rw [hin]; rfl) ?_
            have hl : isLeft (.str s) = true := hin
            unfold rule5 at k
            rw [hl, Bool.true_and] at k
            refine ⟨_, rfl, vlo, lo, rfl, hlo.ex e1, fun H2 e2 => ⟨_, rfl, ?_⟩⟩
            have e12 := e1.trans e2
            cases nlo : isNum lo with
            | false =>
              refine iteT ?_
              have q := k H2 e12
              rw [nlo, Bool.false_and, Bool.false_and] at q
              exact q
            | true =>
              obtain ⟨ilo, rfl, lo0⟩ := isNum_int nlo
              obtain rfl := hlo.int_of
              rw [nlo, Bool.true_and] at k
              have k : ∀ H', Ex H H' → Q (.bl (!(decide (ilo = 0) && !decide (V.str s = V.str "two")) && (isNum re && (isNum mo && decide (intOf re < intOf mo)) && (if isNon hi = true then decide (intOf mo = 1) && !decide (V.str s = V.str "two") else isNum hi && decide (ilo ≤ intOf hi))))) H' := k
              refine iteF (tand_of (b1 := decide (ilo = 0)) (b2 := !decide (V.str s = V.str "two")) (fun q h => ⟨_, rfl, rfl, _, rfl, by rw [dec_z]; exact h⟩) (fun q h => ⟨_, rfl, rfl, _, rfl, h⟩) ?_)
              generalize htw : decide (V.str s = V.str "two") = tw at k
              cases c1 : (decide (ilo = 0) && !tw) with
              | true =>
                have q := k H2 e12
                rw [c1] at q
                exact iteT q
              | false =>
                rw [c1] at k
                have k : ∀ H', Ex H H' → Q (.bl (isNum re && (isNum mo && decide (intOf re < intOf mo)) && (if isNon hi = true then decide (intOf mo = 1) && !tw else isNum hi && decide (ilo ≤ intOf hi)))) H' := fun H' e => k H' e
                refine iteF ⟨_, rfl, vre, re, rfl, hre.ex e12, fun H3 e3 => ⟨_, rfl, ?_⟩⟩
                have e13 := e12.trans e3
                cases nre : isNum re with
                | false =>
                  refine iteT (iteT ?_)
                  have q := k H3 e13
                  rw [nre] at q
                  exact q
                | true =>
                  obtain ⟨ire, rfl, re0⟩ := isNum_int nre
                  obtain rfl := hre.int_of
                  rw [nre, Bool.true_and] at k
                  refine iteF ⟨_, rfl, vmo, mo, rfl, hmo.ex e13, fun H4 e4 => ⟨_, rfl, ?_⟩⟩
                  have e14 := e13.trans e4
                  cases nmo : isNum mo with
                  | false =>
                    refine iteT (iteT ?_)
                    have q := k H4 e14
                    rw [nmo] at q
                    exact q
                  | true =>
                    obtain ⟨imo, rfl, mo0⟩ := isNum_int nmo
                    obtain rfl := hmo.int_of
                    rw [nmo, Bool.true_and] at k
                    have k : ∀ H', Ex H H' → Q (.bl (decide (ire < imo) && (if isNon hi = true then decide (imo = 1) && !tw else isNum hi && decide (ilo ≤ intOf hi)))) H' := k
                    refine iteF ⟨_, rfl, _, rfl, _, _, rfl, rfl, _, rfl, ?_⟩
                    by_cases c2 : ire < imo
                    · refine ite_ff (decide_eq_false (show ¬ imo ≤ ire by omega)) ?_
                      rw [decide_eq_true c2] at k
                      have k : ∀ H', Ex H H' → Q (.bl (if isNon hi = true then decide (imo = 1) && !tw else isNum hi && decide (ilo ≤ intOf hi))) H' := k
                      refine ⟨_, rfl, rfl, _, rfl, ?_⟩
                      rw [hhi.non_of]
                      cases c3 : isNon hi with
                      | true =>
                        rw [c3, if_pos rfl] at k
                        refine iteT ⟨_, rfl, rfl, _, rfl, ?_⟩
                        rw [dec_z]
                        have q := k H4 e14
                        by_cases c4 : imo = 1
                        · rw [decide_eq_true c4, Bool.true_and] at q
                          refine ite_tt (decide_eq_true c4) ⟨_, rfl, rfl, ?_⟩
                          rw [htw]
                          exact q
                        · rw [decide_eq_false c4, Bool.false_and] at q
                          exact ite_ff (decide_eq_false c4) q
                      | false =>
                        rw [c3, if_neg Bool.false_ne_true] at k
                        refine iteF ⟨_, rfl, vhi, hi, rfl, hhi.ex e14, fun H5 e5 => ⟨_, rfl, ?_⟩⟩
                        have e15 := e14.trans e5
                        cases nhi : isNum hi with
                        | false =>
                          refine iteF ?_
                          have q := k H5 e15
                          rw [nhi] at q
                          exact q
                        | true =>
                          obtain ⟨ihi, rfl, hi0⟩ := isNum_int nhi
                          obtain rfl := hhi.int_of
                          rw [nhi, Bool.true_and] at k
                          exact iteT ⟨_, rfl, _, rfl, _, _, rfl, rfl, k H5 e15⟩
                    · refine ite_tt (decide_eq_true (show imo ≤ ire by omega)) ?_
                      have q := k H4 e14
                      rw [decide_eq_false c2] at q
                      exact q
          · refine ite_tt (by rw [Bool.eq_false_iff.mpr hin]; rfl) (no (Bool.eq_false_iff.mpr hin))
        | _ => exact iteT (no rfl)
      · refine ite_tt ?_ ?_
        · rw [hall.len]
          show (!decide (V.int (((items d).length : Nat) : Int) = V.int 5)) = true
          rw [decide_eq_false fun z => h5 (by have := V.int.inj z; omega)]
          rfl
        · have q := k H1 e1
          have : isRule d = false := by
            unfold isRule
            rw [hrw, Bool.true_and]
            split
            · rename_i e
              rw [e] at h5
              exact absurd rfl h5
            · rfl
          rw [this] at q
          exact q
    · have hf : isRow d = false := by simpa using hrw
      rw [hf]
      have q := k H1 e1
      unfold isRule at q
      rw [hf, Bool.false_and] at q
      exact iteT q
end
end Ts


set_option Elab.async false
set_option linter.all false
set_option maxRecDepth 100000
set_option maxHeartbeats 4000000
namespace Ts
open PySem PySem.Spec L2
open Evl (Ex)
/-- numbers that can be written -/
def Wr (i : Int) : Prop := i.natAbs.log2 < 1920
def hiWr : Option Int → Prop
  | none => True
  | some i => Wr i
structure Rl.Sml (r : Rl) : Prop where
  low : Wr r.low
  high : hiWr r.high
  left : r.left.length ≤ 100
  rest : Wr r.rest
  mod : Wr r.mod
def num (i : Int) : Str := Str.ofString (toString i)
theorem num_len {i : Int} (h : Wr i) : (num i).length ≤ 1921 := PyProof.Rows.int_text_len_1921 h
/-- the line of a rule -/
def Rl.l1 (r : Rl) : Str := Str.empty ++ "take " ++ num r.low
def Rl.l2 (r : Rl) : Str := match r.high with
  | none => r.l1 ++ " or more"
  | some h => if h = r.low then r.l1 else r.l1 ++ (Str.empty ++ " to " ++ num h)
def Rl.l3 (r : Rl) : Str := r.l2 ++ (Str.empty ++ " leave " ++ r.left)
def Rl.line (r : Rl) : Str := if r.mod = 1 then r.l3 else r.l3 ++ (Str.empty ++ " when " ++ num r.rest ++ " of " ++ num r.mod)
theorem Rl.len1 {r : Rl} (h : r.Sml) : r.l1.length ≤ 3000 := by
  have := num_len h.low
  unfold Rl.l1
  rw [Str.length_append, Str.length_append]
  have e1 : Str.empty.length = 0 := rfl
  have e2 : ("take " : Str).length = 5 := rfl
  omega
theorem Rl.len2 {r : Rl} (h : r.Sml) : r.l2.length ≤ 6000 := by
  have h1 := Rl.len1 h
  have hh := h.high
  unfold Rl.l2
  cases e : r.high with
  | none =>
    show (r.l1 ++ " or more").length ≤ 6000
    rw [Str.length_append]
    have e2 : (" or more" : Str).length = 8 := rfl
    omega
  | some i =>
    rw [e] at hh
    show (if i = r.low then r.l1 else r.l1 ++ (Str.empty ++ " to " ++ num i)).length ≤ 6000
    by_cases c : i = r.low
    · rw [if_pos c]
      omega
    · rw [if_neg c, Str.length_append, Str.length_append, Str.length_append]
      have := num_len hh
      have e1 : Str.empty.length = 0 := rfl
      have e2 : (" to " : Str).length = 4 := rfl
      omega
theorem Rl.len3 {r : Rl} (h : r.Sml) : r.l3.length ≤ 7000 := by
  have h2 := Rl.len2 h
  have hl := h.left
  unfold Rl.l3
  rw [Str.length_append, Str.length_append, Str.length_append]
  have e1 : Str.empty.length = 0 := rfl
  have e2 : (" leave " : Str).length = 7 := rfl
  omega
theorem le_sz {n : Nat} (h : n ≤ 16000) : n ≤ sizeLine := Nat.le_trans h (by decide)
section
variable {P : Program} {w : World} {K : PySem.W.Frag} {mg : Str → Option Value} {base : Heap}
abbrev s_growing := top 12
abbrev s_splitting := top 13
abbrev s_line := top 14
theorem sc_growing : FnScope ["rule"] ["rule"] (defScope s_growing) := ⟨rfl, rfl, rfl, by decide +kernel, rfl, by decide +kernel, by decide +kernel⟩
theorem sc_splitting : FnScope ["rule"] ["rule"] (defScope s_splitting) := ⟨rfl, rfl, rfl, by decide +kernel, rfl, by decide +kernel, by decide +kernel⟩
theorem sc_line : FnScope ["rule", "low", "high", "left", "rest", "modulus", "line"] ["rule"] (defScope s_line) := ⟨rfl, rfl, rfl, by decide +kernel, rfl, by decide +kernel, by decide +kernel⟩
def spRl (q : Rl → Bool) : Sp := fun vs H Q _ => ∃ (a : Addr) (r : Rl), vs = [.ref a] ∧ Row H a r.vs ∧ ∀ H', Ex H H' → Q (.bl (q r)) H'
theorem ok_growing {f : Addr} {fd : FuncData} (F : FD K mg "is_growing" "is_growing" s_growing f fd) : FnOk P w K mg base CX0 1 f fd ["rule"] (spRl fun r => r.high.isNone) := by
  refine F.F.ok sc_growing (fun vs H Q E h => ?_) (fun cdv A outer s H vs Q E hr h => ?_)
  · obtain ⟨a, r, rfl, _⟩ := h
    rfl
  · obtain ⟨a, r, rfl, hrow, k⟩ := h
    refine ⟨_, pss_one (ps_ret (pe_cmpR op_isN (pe_ix ix_seq (pv 0) pe_int (fun _ _ => rfl)) pe_non (nomark _))), ?_⟩
    refine ⟨_, rfl, ix_row hrow (atI_nat (j := 1) rfl) ⟨rfl, ?_⟩⟩
    have z := k H (Ex.refl H)
    have e : decide (hiV r.high = .non) = r.high.isNone := by
      cases r.high with
      | none => rfl
      | some i => exact decide_eq_false fun z => by cases z
    rw [e]
    exact z
theorem ok_splitting {f : Addr} {fd : FuncData} (F : FD K mg "is_splitting" "is_splitting" s_splitting f fd) : FnOk P w K mg base CX0 1 f fd ["rule"] (spRl fun r => decide (V.str r.left = V.str "two")) := by
  refine F.F.ok sc_splitting (fun vs H Q E h => ?_) (fun cdv A outer s H vs Q E hr h => ?_)
  · obtain ⟨a, r, rfl, _⟩ := h
    rfl
  · obtain ⟨a, r, rfl, hrow, k⟩ := h
    refine ⟨_, pss_one (ps_ret (pe_cmpR op_eq (pe_ix ix_seq (pv 0) pe_int (fun _ _ => rfl)) pe_str (nomark _))), ?_⟩
    exact ⟨_, rfl, ix_row hrow (atI_nat (j := 2) rfl) ⟨rfl, k H (Ex.refl H)⟩⟩
def spLine : Sp := fun vs H Q _ => ∃ (a : Addr) (r : Rl), vs = [.ref a] ∧ Row H a r.vs ∧ r.Sml ∧ ∀ H', Ex H H' → Q (.str r.line) H'
theorem ok_line {f : Addr} {fd : FuncData} (F : FD K mg "rule_line" "rule_line" s_line f fd) : FnOk P w K mg base CX0 1 f fd ["rule"] spLine := by
  refine F.F.ok sc_line (fun vs H Q E h => ?_) (fun cdv A outer s H vs Q E hr h => ?_)
  · obtain ⟨a, r, rfl, _⟩ := h
    rfl
  · obtain ⟨a, r, rfl, hrow, sm, k⟩ := h
    have nd := sc_line.nd
    have e0 : Str.empty.length = 0 := rfl
    have rest : ∃ t3, PSs (cxOf CX0 P w K mg base ["rule", "low", "high", "left", "rest", "modulus", "line"] "rule_line" (defScope s_line) f cdv A outer s H E).nox ((defBody s_line).drop 3) t3 ∧
        ∀ H', Ex H H' → t3 { nx := fun _ H' => Q .non H', rt := Q } [some (.ref a), some (.int r.low), some (hiV r.high), some (.str r.left), some (.int r.rest), some (.int r.mod), some (.str r.l2)] H' := by
      refine ⟨_, (pss_cons (ps_set (i := 6) nd rfl (Or.inl rfl) (pe_op op_add_str (pv 6) (pe_joined (.cons pe_str (.cons (pe_fmt (pv 3)) .nil)))))
      (pss_cons (ps_if (pt_cmpR op_ne (pv 5) pe_int (nomark _)) (pss_one (ps_set (i := 6) nd rfl (Or.inl rfl) (pe_op op_add_str (pv 6) (pe_joined (.cons pe_str (.cons (pe_fmt (pv 4)) (.cons pe_str (.cons (pe_fmt (pv 5)) .nil)))))))) pss_nil)
      (pss_one (ps_ret (pv 6))))), fun H' e => ?_⟩
      have l2 := Rl.len2 sm
      have l3 := Rl.len3 sm
      have ll := sm.left
      have q1 : (" leave " : Str).length = 7 := rfl
      refine ⟨_, rfl, _, rfl, le_sz (by rw [Str.length_append]; omega), _, rfl, .inl ⟨r.left, rfl, le_sz (by omega), _, rfl, le_sz (by rw [Str.length_append, Str.length_append]; omega), ?_⟩⟩
      refine ⟨_, _, rfl, rfl, le_sz (by rw [Str.length_append, Str.length_append]; omega), ?_⟩
      refine ⟨_, rfl, rfl, _, rfl, ?_⟩
      have z := k H' e
      unfold Rl.line at z
      by_cases c : r.mod = 1
      · rw [if_pos c] at z
        refine ite_ff (by rw [dec_z, decide_eq_true c]; rfl) ?_
        exact ⟨_, rfl, z⟩
      · rw [if_neg c] at z
        refine ite_tt (by rw [dec_z, decide_eq_false c]; rfl) ?_
        have n4 := num_len sm.rest
        have n5 := num_len sm.mod
        have q2 : (" when " : Str).length = 6 := rfl
        have q3 : (" of " : Str).length = 4 := rfl
        have n4' : (Str.ofString (toString r.rest)).length ≤ 1921 := n4
        have n5' : (Str.ofString (toString r.mod)).length ≤ 1921 := n5
        refine ⟨_, rfl, _, rfl, le_sz (by rw [Str.length_append]; omega), _, rfl, .inr ⟨r.rest, rfl, sm.rest, _, rfl, le_sz (by rw [Str.length_append, Str.length_append]; omega), _, rfl, le_sz (by rw [Str.length_append, Str.length_append, Str.length_append]; omega), _, rfl, .inr ⟨r.mod, rfl, sm.mod, _, rfl, le_sz (by rw [Str.length_append, Str.length_append, Str.length_append, Str.length_append]; omega), ?_⟩⟩⟩
        refine ⟨_, _, rfl, rfl, le_sz (by rw [Str.length_append, Str.length_append, Str.length_append, Str.length_append, Str.length_append, Str.length_append, Str.length_append]; omega), ?_⟩
        exact ⟨_, rfl, z⟩
    obtain ⟨t3, h3, fin⟩ := rest
    refine ⟨_, (pss_cons (ps_asg (pv 0) (pg_or (pg_tup rfl (pgs_cons (pg_name (i := 1) nd rfl (Or.inl rfl)) (pgs_cons (pg_name (i := 2) nd rfl (Or.inl rfl)) (pgs_cons (pg_name (i := 3) nd rfl (Or.inl rfl)) (pgs_cons (pg_name (i := 4) nd rfl (Or.inl rfl)) (pgs_cons (pg_name (i := 5) nd rfl (Or.inl rfl)) pgs_nil)))))) (pg_unl rfl (pgs_cons (pg_name (i := 1) nd rfl (Or.inl rfl)) (pgs_cons (pg_name (i := 2) nd rfl (Or.inl rfl)) (pgs_cons (pg_name (i := 3) nd rfl (Or.inl rfl)) (pgs_cons (pg_name (i := 4) nd rfl (Or.inl rfl)) (pgs_cons (pg_name (i := 5) nd rfl (Or.inl rfl)) pgs_nil))))))))
      (pss_cons (ps_set (i := 6) nd rfl (Or.inl rfl) (pe_joined (.cons pe_str (.cons (pe_fmt (pv 1)) .nil))))
      (pss_cons (ps_if (pt_cmpR op_isN (pv 2) pe_non (nomark _)) (pss_one (ps_set (i := 6) nd rfl (Or.inl rfl) (pe_op op_add_str (pv 6) pe_str))) (pss_one (ps_if (pt_cmpR op_ne (pv 2) (pv 1) (nomark _)) (pss_one (ps_set (i := 6) nd rfl (Or.inl rfl) (pe_op op_add_str (pv 6) (pe_joined (.cons pe_str (.cons (pe_fmt (pv 2)) .nil)))))) pss_nil)))
      h3))), ?_⟩
    refine ⟨_, rfl, g_row hrow rfl ⟨_, _, rfl, _, _, rfl, _, _, rfl, _, _, rfl, _, _, rfl, rfl, ?_⟩⟩
    have n1 := num_len sm.low
    have q1 : ("take " : Str).length = 5 := rfl
    refine ⟨_, rfl, le_sz (by rw [Str.length_append]; omega), _, rfl, .inr ⟨r.low, rfl, sm.low, _, rfl, le_sz (Nat.le_trans (Rl.len1 sm) (by decide)), ?_⟩⟩
    have l1 := Rl.len1 sm
    have hh := sm.high
    have fin := fin H (Ex.refl H)
    unfold Rl.l2 at fin
    refine ⟨_, rfl, rfl, _, rfl, ?_⟩
    cases e : r.high with
    | none =>
      rw [e] at fin
      refine ite_tt rfl ?_
      have q2 : (" or more" : Str).length = 8 := rfl
      exact ⟨_, rfl, _, _, rfl, rfl, le_sz (by show r.l1.length + _ ≤ _; omega), fin⟩
    | some i =>
      rw [e] at fin hh
      refine ite_ff rfl ?_
      have fin : t3 { nx := fun _ H' => Q .non H', rt := Q } [some (.ref a), some (.int r.low), some (.int i), some (.str r.left), some (.int r.rest), some (.int r.mod), some (.str (if i = r.low then r.l1 else r.l1 ++ (Str.empty ++ " to " ++ num i)))] H := fin
      refine ⟨_, rfl, _, rfl, rfl, _, rfl, ?_⟩
      by_cases c : i = r.low
      · rw [if_pos c] at fin
        refine ite_ff (by show (!decide (V.int i = V.int r.low)) = false; rw [dec_z, decide_eq_true c]; rfl) ?_
        exact fin
      · rw [if_neg c] at fin
        refine ite_tt (by show (!decide (V.int i = V.int r.low)) = true; rw [dec_z, decide_eq_false c]; rfl) ?_
        have n2 := num_len hh
        have n2' : (Str.ofString (toString i)).length ≤ 1921 := n2
        have q2 : (" to " : Str).length = 4 := rfl
        refine ⟨_, rfl, _, rfl, le_sz (by rw [Str.length_append]; omega), _, rfl, .inr ⟨i, rfl, hh, _, rfl, le_sz (by rw [Str.length_append, Str.length_append]; omega), ?_⟩⟩
        exact ⟨_, _, rfl, rfl, le_sz (by show r.l1.length + _ ≤ _; rw [Str.length_append, Str.length_append]; omega), fin⟩
end
end Ts


set_option Elab.async false
set_option linter.all false
set_option maxRecDepth 100000
set_option maxHeartbeats 4000000
/-! ## enumerate of a tuple -/
namespace PySem
open Sem (wp)
open AutoSeq1 (wpAny_loadPart')
theorem made_enum_tuple (q : Addr) (its : Array Value) (m : Nat) (dct : Option Addr) (sl : Array (Option Value)) :
    Meets (Builtin.«enumerate.__new__» ⟨[.type "enumerate", .ref q], []⟩) (fun _ R s => s.heap.get? q = some { cls := .type "tuple", dict := dct, data := .seq its m, slots := sl } ∧
      R (.ok (.ret (.ref (s.heap.push { cls := .type "tuple_iterator", data := .fields #[.ref q, .int 0 0] }).objs.size)))
        { s with heap := (s.heap.push { cls := .type "tuple_iterator", data := .fields #[.ref q, .int 0 0] }).push { cls := .type "enumerate", data := .fields #[.none, .bool false, .ref s.heap.objs.size, rawInt 0, .none, .none] } }) :=
  .of_wp fun prog w A R s z => by
    obtain ⟨hp, g, d, tk, os⟩ := s
    obtain ⟨hq, z⟩ := z
    have subE := sub_enumerate
    have isT : Heap.IsTuple (Shared.heap ⟨hp, g, d, tk, os⟩) q its := ⟨_, hq, rfl, m, rfl⟩
    wp_walk using wpAny_loadPart' hq
    refine wpAny_stack_any fun st => wpAny_pure ?_
    split
    · rename_i c _ _ _ _ _
      cases (c == Value.type "enumerate")
      · wp_walk using wpAny_loadPart' hq, wpAny_pyIter_tuple isT
        exact ⟨_, rfl, z⟩
      · wp_walk using wpAny_loadPart' hq, wpAny_pyIter_tuple isT
        exact ⟨_, rfl, z⟩
    · wp_walk using wpAny_loadPart' hq, wpAny_pyIter_tuple isT
      exact ⟨_, rfl, z⟩
section
variable {prog : Program} {w : World} {A : Around} {E : Value → Shared → Prop} {s : Shared}
theorem call_enum_tuple {q : Addr} {its : Array Value} {Q : Value → Shared → Prop} (hT : s.heap.IsTuple q its)
    (k : ∀ h', IsEnum h' (s.heap.objs.size + 1) s.heap.objs.size 0 .none → h'.IsTupleIter s.heap.objs.size q 0 → (∀ b o, s.heap.get? b = some o → h'.get? b = some o) → Q (.ref (s.heap.objs.size + 1)) { s with heap := h' }) :
    wpAny (model prog w) A (call (.type "enumerate") [.ref q]) Q E s := by
  obtain ⟨⟨c, dct, dt, sl⟩, hq, hc, m, hd⟩ := hT
  have hc : c = .type "tuple" := hc
  have hd : dt = .seq its m := hd
  subst hc hd
  refine callType_new F.called_enumerate (by decide) (F.typeCall_enumerate_1 _) (F.newCall_enumerate_1 _) (fun ob => F.args_object_init_2 ob _) F.entry_enumerate_new (made_enum_tuple q its m dct sl) ⟨hq, ?_⟩
  have sz : (s.heap.push { cls := .type "tuple_iterator", data := .fields #[.ref q, .int 0 0] }).objs.size = s.heap.objs.size + 1 := Heap.size_push ..
  show _ ∧ _
  rw [sz]
  have ie : IsEnum ((s.heap.push { cls := .type "tuple_iterator", data := .fields #[.ref q, .int 0 0] }).push
      { cls := .type "enumerate", data := .fields #[.none, .bool false, .ref s.heap.objs.size, rawInt 0, .none, .none] }) (s.heap.objs.size + 1) s.heap.objs.size 0 .none := by
    have z := Heap.get?_push_size (s.heap.push { cls := .type "tuple_iterator", data := .fields #[.ref q, .int 0 0] })
      (o := { cls := .type "enumerate", data := .fields #[.none, .bool false, .ref s.heap.objs.size, rawInt 0, .none, .none] }) rfl
    rw [sz] at z
    exact z
  exact ⟨⟨_, ie, rfl⟩, k _ ie ⟨_, Heap.get?_push_of_some _ (Heap.get?_push_size _ rfl), rfl, rfl⟩ fun b o x => Heap.get?_push_of_some _ (Heap.get?_push_of_some _ x)⟩
end
end PySem
namespace Ts
open PySem PySem.Spec PyProof.Rows L2
open Evl (Ex)
/-- the tuple at a: pairs of index and item, in new tuples -/
def ItE (K : PySem.W.Frag) (a : Addr) : It :=
  ⟨fun i H => ∃ (xs : List V) (x : V), SqT K H a xs ∧ xs[i]? = some x, fun i H v H' => ∃ T x, v = .ref T ∧ H T = none ∧ H' = upd H T (.tup [.int (i : Nat), x]) ∧ ∀ xs, SqT K H a xs → xs[i]? = some x,
    fun i H => ∃ xs : List V, SqT K H a xs ∧ xs.length = i⟩
theorem turn_enumE {P : Program} {w : World} {K : PySem.W.Frag} {elts : List Expr} {kk : Nat} {tpos : Pos} (a e it : Addr) :
    Turn P w K (.Tuple elts kk tpos) (ItE K a) [e, it] e (fun i h => (∃ old, IsEnum h e it ((i : Nat) : Int) old) ∧ h.IsTupleIter it a i ∧ e ≠ it) where
  mem := by simp
  obj := fun i h st b hb => by
    obtain ⟨⟨old, ie⟩, ⟨o, ho, hc, hd⟩, _⟩ := st
    have eb : b = e ∨ b = it := by simpa using hb
    rcases eb with rfl | rfl
    · exact ⟨_, ie, fun v q => nomatch q⟩
    · exact ⟨o, ho, fun v q => by rw [hd] at q; cases q⟩
  keep := fun i h h' ⟨⟨old, ie⟩, hi, ne⟩ k => ⟨⟨old, k e (by simp) _ ie⟩, hi.at fun o q => k it (by simp) o q, ne⟩
  item := by
    intro X hP hw hK hc i pins s σ H E I hf st hg
    subst hP hw hK
    obtain ⟨⟨old, ie⟩, hit, ne⟩ := st
    obtain ⟨xs, x, hq, hx⟩ := hg
    obtain ⟨its, rv, pt, hz⟩ := I.tuple hq
    obtain ⟨u, hu, ru⟩ := rv.get hx
    have tup : s.heap.IsTuple a its.toArray := pt
    have lte : e < s.heap.objs.size := Heap.lt_size ie
    have lti : it < s.heap.objs.size := by
      obtain ⟨_, q, _⟩ := hit
      exact Heap.lt_size q
    have nea : e ≠ a := fun z => by
      obtain ⟨o, q1, q2, _⟩ := tup
      rw [← z, ie] at q1
      cases q1
      exact absurd (Value.type.inj q2) (by decide)
    have nia : a ≠ it := fun z => by
      obtain ⟨o, q1, q2, _⟩ := tup
      obtain ⟨o', p1, p2, _⟩ := hit
      rw [z, p1] at q1
      cases q1
      rw [p2] at q2
      exact absurd (Value.type.inj q2) (by decide)
    have hi : i < its.toArray.size := by
      have := (List.getElem?_eq_some_iff.mp hu).1
      simpa using this
    refine wpAny_pyNext_enum_itemD (Draws.tuple (A := X.A.in1) (I.ok.hd hc) it a nia its.toArray) ie ⟨hit, tup⟩ hi ne (by simp [ne, nea]) fun v h' tk hv ho hst hT hsz hk => ?_
    obtain rfl : v = u := by
      have z : its.toArray[i]? = some v := hv
      rw [List.getElem?_toArray, hu] at z
      exact (Option.some.inj z).symm
    refine ⟨_, rfl, wpAny_letOwnedTupleGo_enum (s := { s with heap := h', toks := tk + 1 }) ho fun g he' sb => ?_⟩
    have hT2 : g.get? s.heap.objs.size = some { cls := .type "tuple", data := .seq #[.int i tk, v] } := (sb.2 _ (Nat.ne_of_gt lte)).trans hT
    have new : ObjOk X.prog X.w (upd H s.heap.objs.size (.tup [.int (i : Nat), x])) g s.heap.objs.size (.tup [.int (i : Nat), x]) := ⟨by show 2 ≤ sizeLine; decide, [.int i tk, v], .cons ⟨_, rfl⟩ (.cons ru .nil), ⟨_, hT2, rfl, _, rfl⟩⟩
    have J : Inv X pins σ (upd H s.heap.objs.size (.tup [.int (i : Nat), x])) { s with heap := g, toks := tk + 1 } :=
      I.turnedNew (ch := [e, it]) (fun b ob hb q => by
        have n1 : b ≠ e := fun z => hb (by simp [z])
        have n2 : b ≠ it := fun z => hb (by simp [z])
        exact (sb.2 b n1).trans (hk b ob n1 n2 q)) hf (Nat.le_refl _) new
    refine ⟨.ref s.heap.objs.size, _, J, rfl, ⟨_, x, rfl, I.hok.fresh (Nat.le_refl _), rfl, fun ys hy => by rw [I.tuple_inj hy hq]; exact hx⟩, ⟨⟨v, ?_⟩, hst.1.at fun o q => (sb.2 it (Ne.symm ne)).trans q, ne⟩, fun b hb => ?_⟩
    · have e1 : ((i + 1 : Nat) : Int) = (i : Int) + 1 := by omega
      rw [e1]
      exact he'
    · have hb' : b < s.heap.objs.size := by
        have eb : b = e ∨ b = it := by simpa using hb
        rcases eb with rfl | rfl
        · exact lte
        · exact lti
      rw [upd_ne (Nat.ne_of_lt hb')]
      exact (hf b hb).1
  done := by
    intro X hP hw hK hc i pins s σ H E I hf st hg
    subst hP hw hK
    obtain ⟨⟨old, ie⟩, hit, ne⟩ := st
    obtain ⟨xs, hq, hx⟩ := hg
    obtain ⟨its, rv, pt, hz⟩ := I.tuple hq
    have tup : s.heap.IsTuple a its.toArray := pt
    have nia : a ≠ it := fun z => by
      obtain ⟨o, q1, q2, _⟩ := tup
      obtain ⟨o', p1, p2, _⟩ := hit
      rw [z, p1] at q1
      cases q1
      rw [p2] at q2
      exact absurd (Value.type.inj q2) (by decide)
    obtain ⟨f0, f1, f2, f3, f4, f5⟩ := hf it (by simp)
    have hl := rv.length
    have en : i = its.toArray.size := by
      rw [List.size_toArray]
      omega
    subst en
    exact wpAny_pyNext_enum_endD (Draws.tuple (A := X.A.in1) (I.ok.hd hc) it a nia its.toArray) ie ⟨hit, tup⟩ fun h' eb => ⟨rfl, I.turned (t' := s.toks) (fun b o hb q => eb b o hb q) f0 f1 f3 f4 f5⟩
  self := fun A i s Q E ⟨⟨_, ie⟩, _⟩ k => wpAny_pyIter_enum ie k
def iEnT (K : PySem.W.Frag) (ta : TA) : TI := fun σ H R => ta σ H fun vs H1 => ∃ a xs, vs = [.ref a] ∧ SqT K H1 a xs ∧ R (ItE K a) H1
theorem pi_enumT {X : Cx} {e : Expr} {ta : TA} {p pos tpos : Pos} {elts : List Expr} {kk : Nat} (hg : Gl X "enumerate") (hm : X.mg "enumerate" = none) (ha : PA X [e] ta) (hs : starEach [e] X.env = [(false, eval e X.env)] := by rfl) :
    PI X (.Tuple elts kk tpos) (.Call (.Name "enumerate" p) [e] [] pos) (iEnT X.K ta) := by
  refine ⟨fun pins s σ H R I h => ?_⟩
  refine Call_ (ld_blt I hg hm boot_enumerate (PyProof.Rows.callWith_type1 (thn (ha.run pos pins s σ H _ I h) fun us s1 z => ?_) hs rfl))
  obtain ⟨vs, H1, I1, r1, a, xs, rfl, hq, q⟩ := z
  obtain rfl := Vals.ref1 r1
  obtain ⟨its, rv, pt, hz⟩ := I1.tuple hq
  refine call_enum_tuple (show s1.heap.IsTuple a its.toArray from pt) fun h' ie hit hk => wpAny_pyIter_enum ie ?_
  have I2 : Inv X pins σ H1 { s1 with heap := h' } := I1.kept (t' := s1.toks) hk
  refine ⟨s1.heap.objs.size + 1, [s1.heap.objs.size + 1, s1.heap.objs.size], _, _, H1, rfl, I2, turn_enumE a (s1.heap.objs.size + 1) s1.heap.objs.size, ⟨⟨.none, ie⟩, hit, Nat.succ_ne_self _⟩, fun b hb => ?_, q⟩
  have hle : s1.heap.objs.size ≤ b := by
    have eb : b = s1.heap.objs.size + 1 ∨ b = s1.heap.objs.size := by simpa using hb
    rcases eb with z | z
    · rw [z]
      exact Nat.le_succ _
    · rw [z]
      exact Nat.le_refl _
  exact I1.fpOk hle (I1.hok.fresh hle)
end Ts


set_option Elab.async false
set_option linter.all false
set_option maxRecDepth 100000
set_option maxHeartbeats 4000000
namespace Ts
open PySem PySem.Spec L2
open Evl (Ex)
theorem walk_enumT {K : PySem.W.Frag} {a : Addr} {xs : List V} : Walk (ItE K a) xs.length (fun H => SqT K H a xs) (YPair (fun i => some (.int (i : Nat))) (fun i => xs[i]?)) := by
  refine ⟨fun i _ hi q => ⟨xs, xs[i], q, by simp [hi]⟩, fun _ q => ⟨xs, q, rfl⟩, fun i H v H' _ q y => ?_⟩
  obtain ⟨T, x, h1, h2, h3, h4⟩ := y
  exact ⟨T, .int (i : Nat), x, h1, h2, h3, rfl, h4 xs q⟩
/-- for (.., ..) in enumerate(row) -/
theorem for_enum_row {K : PySem.W.Frag} {i : Nat} {g : TG} {tb : TS} {D : Ends} {σ : L2.St} {H : Hp} {a : Addr} {xs : List V} (hσ : σ[i]? = some (some (.ref a))) (hr : Row H a xs) (Pv : Nat → L2.St → Hp → Prop) (h0 : Pv 0 σ H) (hG : ∀ j σ' H', Pv j σ' H' → ∀ o, H a = some o → H' a = some o)
    (hs : ∀ j x σ' H' T, xs[j]? = some x → Pv j σ' H' → H' T = none → g (.ref T) σ' (upd H' T (.tup [.int (j : Nat), x])) fun σ2 H2 => tb { D with nx := Pv (j + 1), ct := Pv (j + 1), bk := D.nx } σ2 H2) (hd : ∀ σ' H', Pv xs.length σ' H' → D.nx σ' H') :
    tFor (iOr (iEnum K (tCons (tVar i) tNil)) (iEnT K (tCons (tVar i) tNil))) g tb D σ H := by
  have step : ∀ j x σ' H' H'', j < xs.length → Pv j σ' H' → YPair (fun i => some (.int (i : Nat))) (fun i => xs[i]?) j H' x H'' → g x σ' H'' fun σ2 H2 => tb { D with nx := Pv (j + 1), ct := Pv (j + 1), bk := D.nx } σ2 H2 := fun j x σ' H' H'' hj p y => by
    obtain ⟨T, u, v, rfl, hT, rfl, h1, h2⟩ := y
    cases h1
    exact hs j v σ' H' T h2 p hT
  rcases hr with h | h
  · exact .inl ⟨_, hσ, a, xs, rfl, SqL.of h, for_it (walk_enum (xs := xs)) Pv h0 (fun j σ' H' _ p => SqL.of (hG j σ' H' p _ h)) step hd⟩
  · exact .inr ⟨_, hσ, a, xs, rfl, SqT.of h, for_it (walk_enumT (xs := xs)) Pv h0 (fun j σ' H' _ p => SqT.of (hG j σ' H' p _ h)) step hd⟩
/-- the rule that data tell -/
def hiOf : PyData → Option Int
  | .int h => some h
  | _ => none
def rlOf (d : PyData) : Rl := match items d with
  | [.int lo, hi, .str le, .int re, .int mo] => ⟨lo, hiOf hi, le, re, mo⟩
  | _ => ⟨0, none, Str.empty, 0, 0⟩
/-- what holds of a rule -/
structure Rl.Ok (r : Rl) : Prop where
  left : inV (.str r.left) lefts = true
  low0 : 0 ≤ r.low
  low1 : r.low = 0 → V.str r.left = V.str "two"
  rest0 : 0 ≤ r.rest
  rest1 : r.rest < r.mod
  grow : r.high = none → r.mod = 1 ∧ V.str r.left ≠ V.str "two"
  high : ∀ h, r.high = some h → r.low ≤ h
theorem rule_of {d : PyData} (h : isRule d = true) : isRow d = true ∧ items d = [.int (rlOf d).low, hiD (rlOf d).high, .str (rlOf d).left, .int (rlOf d).rest, .int (rlOf d).mod] ∧ (rlOf d).Ok := by
  unfold isRule at h
  obtain ⟨hr, h⟩ := Bool.and_eq_true_iff.mp h
  refine ⟨hr, ?_⟩
  unfold rlOf
  split at h
  · rename_i lo hi le re mo e
    rw [e]
    unfold rule5 at h
    obtain ⟨h1, h⟩ := Bool.and_eq_true_iff.mp h
    obtain ⟨h2, h⟩ := Bool.and_eq_true_iff.mp h
    obtain ⟨h3, h4⟩ := Bool.and_eq_true_iff.mp h
    obtain ⟨h2a, h2b⟩ := Bool.and_eq_true_iff.mp h2
    obtain ⟨h3a, h3⟩ := Bool.and_eq_true_iff.mp h3
    obtain ⟨h3b, h3c⟩ := Bool.and_eq_true_iff.mp h3
    obtain ⟨ilo, rfl, lo0⟩ := isNum_int h2a
    obtain ⟨ire, rfl, re0⟩ := isNum_int h3a
    obtain ⟨imo, rfl, mo0⟩ := isNum_int h3b
    cases le with
    | str le =>
      have h3c : ire < imo := of_decide_eq_true h3c
      have low1 : ilo = 0 → V.str le = V.str "two" := fun z => by
        have h2b : (!(decide (ilo = 0) && !decide (V.str le = V.str "two"))) = true := h2b
        rw [decide_eq_true z] at h2b
        exact of_decide_eq_true (by simpa using h2b)
      cases hi with
      | none =>
        have h4 : (decide (imo = 1) && !decide (V.str le = V.str "two")) = true := h4
        obtain ⟨q1, q2⟩ := Bool.and_eq_true_iff.mp h4
        exact ⟨rfl, h1, lo0, low1, re0, h3c, fun _ => ⟨of_decide_eq_true q1, of_decide_eq_false (by simpa using q2)⟩, fun _ z => by cases z⟩
      | int i =>
        have h4 : (isNum (.int i) && decide (ilo ≤ i)) = true := h4
        obtain ⟨q1, q2⟩ := Bool.and_eq_true_iff.mp h4
        exact ⟨rfl, h1, lo0, low1, re0, h3c, (fun z => by cases z), (fun h z => by cases z; exact of_decide_eq_true q2)⟩
      | _ => exact absurd h4 (by intro z; cases z)
    | _ => cases h1
  · cases h
/-- the first that can't stand -/
def faultAt : List PyData → Nat → List Rl → Bool → Bool → Option Nat
  | [], _, _, _, _ => none
  | d :: ds, i, seen, g, s =>
    if isRule d = true then
      if decide (rlOf d ∈ seen) = true then some i
      else if ((g || (rlOf d).high.isNone) && (s || decide (V.str (rlOf d).left = V.str "two"))) = true then some i
      else faultAt ds (i + 1) (seen ++ [rlOf d]) (g || (rlOf d).high.isNone) (s || decide (V.str (rlOf d).left = V.str "two"))
    else some i
theorem faultAt_cons (d : PyData) (ds : List PyData) (i : Nat) (seen : List Rl) (g s : Bool) : faultAt (d :: ds) i seen g s = if isRule d = true then
      if decide (rlOf d ∈ seen) = true then some i
      else if ((g || (rlOf d).high.isNone) && (s || decide (V.str (rlOf d).left = V.str "two"))) = true then some i
      else faultAt ds (i + 1) (seen ++ [rlOf d]) (g || (rlOf d).high.isNone) (s || decide (V.str (rlOf d).left = V.str "two"))
    else some i := rfl
def faultV (d : PyData) : V := if isRow d = true then (match faultAt (items d) 0 [] false false with
  | some i => .int (i : Nat)
  | none => .non) else .int 0
/-- tuple(..) of a row -/
theorem tup_row {K : PySem.W.Frag} {i : Nat} {σ : L2.St} {H : Hp} {Q : VK} {b : Addr} {ys : List V} (hσ : σ[i]? = some (some (.ref b))) (hr : Row H b ys) (k : ∀ t H', Ex H H' → H' t = some (.tup ys) → Q (.ref t) H') :
    tCB (fun xs H Q => ∃ p ys, xs = [.ref p] ∧ ((SqL K H p ys ∧ ∀ l, H l = none → Q (.ref l) (upd H l (.tup ys))) ∨ (SqT K H p ys ∧ Q (.ref p) H))) (tCons (tVar i) tNil) σ H Q :=
  ⟨_, hσ, by
    rcases hr with h | h
    · exact ⟨b, _, rfl, .inl ⟨SqL.of h, fun l nl => k l _ (Ex.new nl) upd_same⟩⟩
    · exact ⟨b, _, rfl, .inr ⟨SqT.of h, k b H (Ex.refl _) h⟩⟩⟩
/-- x or y, of bools -/
theorem or_of {i : Nat} {tb : TE} {σ : L2.St} {H : Hp} {Q : VK} {g g2 : Bool} (hσ : σ[i]? = some (some (.bl g))) (hb : ∀ q : VK, (∀ H', Ex H H' → q (.bl g2) H') → tb σ H q) (k : ∀ H', Ex H H' → Q (.bl (g || g2)) H') : tOrV (tVar i) tb σ H Q :=
  ⟨_, hσ, g, rfl, by
    cases g with
    | true => exact iteT (k H (Ex.refl H))
    | false => exact iteF (hb _ k)⟩
section
variable {P : Program} {w : World} {K : PySem.W.Frag} {mg : Str → Option Value} {base : Heap}
abbrev s_fault := top 15
theorem sc_fault : FnScope ["thing", "seen", "grows", "splits", "index", "part"] ["thing"] (defScope s_fault) := ⟨rfl, rfl, rfl, by decide +kernel, rfl, by decide +kernel, by decide +kernel⟩
def spFault : Sp := fun vs H Q _ => ∃ v d, vs = [v] ∧ D H v d ∧ (items d).length ≤ 1000 ∧ ∀ H', Ex H H' → Q (faultV d) H'
theorem ok_fault {f f1 f2 f3 f4 : Addr} {fd fd1 fd2 fd3 fd4 : FuncData} (F : FD K mg "rules_fault" "rules_fault" s_fault f fd) (F_row : FD K mg "is_row" "is_row" s_is_row f1 fd1) (F_rule : FD K mg "is_rule" "is_rule" s_is_rule f2 fd2) (G_rule : FnOk P w K mg base CX0 3 f2 fd2 ["thing"] (spAsk isRule))
    (F_gr : FD K mg "is_growing" "is_growing" s_growing f3 fd3) (F_sp : FD K mg "is_splitting" "is_splitting" s_splitting f4 fd4) (T : Bl mg) (henum : mg "enumerate" = none) : FnOk P w K mg base CX0 4 f fd ["thing"] spFault := by
  have G_row : FnOk P w K mg base CX0 1 f1 fd1 ["thing"] (spAsk isRow) := ok_is_row F_row T
  have G_gr : FnOk P w K mg base CX0 1 f3 fd3 ["rule"] _ := ok_growing F_gr
  have G_sp : FnOk P w K mg base CX0 1 f4 fd4 ["rule"] _ := ok_splitting F_sp
  have b_row := b_is_row F_row
  have b_rule : Binds K fd2 ["thing"] [] := F_rule.F.binds fun _ _ _ _ _ _ us hl => match us, hl with | [_], _ => rfl
  have b_gr : Binds K fd3 ["rule"] [] := F_gr.F.binds fun _ _ _ _ _ _ us hl => match us, hl with | [_], _ => rfl
  have b_sp : Binds K fd4 ["rule"] [] := F_sp.F.binds fun _ _ _ _ _ _ us hl => match us, hl with | [_], _ => rfl
  refine F.F.ok sc_fault (fun vs H Q E h => ?_) (fun cdv A outer s H vs Q E hr h => ?_)
  · obtain ⟨v, d, rfl, _⟩ := h
    rfl
  · obtain ⟨v, d, rfl, hd, hz, k⟩ := h
    have nd := sc_fault.nd
    have hu := Nat.lt_of_le_of_lt (Nat.add_le_add_left (by decide : 16 ≤ 64) _) hr.units
    refine ⟨_, (pss_cons (ps_if (pt_not (pt_val (pe_call G_row (hr.mono (by decide)) (by rfl) F_row.g F_row.F.kp b_row .nil pass0 (pa_cons (pv 0) pa_nil)))) (pss_one (ps_ret pe_int)) pss_nil)
      (pss_cons (ps_set (i := 1) nd rfl (Or.inl rfl) pe_dnewR)
      (pss_cons (ps_asg2 pe_bl (pg_name (i := 2) nd rfl (Or.inl rfl)) (pg_name (i := 3) nd rfl (Or.inl rfl)))
      (pss_cons (ps_for PassesOwn.never rfl (pi_or (pi_enum (by rfl) henum (pa_cons (pv 0) pa_nil)) (pi_enumT (by rfl) henum (pa_cons (pv 0) pa_nil))) (pg_tup rfl (pgs_cons (pg_name (i := 4) nd rfl (Or.inl rfl)) (pgs_cons (pg_name (i := 5) nd rfl (Or.inl rfl)) pgs_nil))) (pss_cons (ps_if (PW.pt (pw_or (pt_not (pt_val (pe_call G_rule (hr.mono (by decide)) (by rfl) F_rule.g F_rule.F.kp b_rule .nil pass0 (pa_cons (pv 5) pa_nil)))) (pw_or1 (pt_cmpR (op_inR hu) (pe_callTy call_tuple_of (by rfl) T.tuple PyProof.Rows.boot_tuple (pa_cons (pv 5) pa_nil)) (pv 1) (by rfl))))) (pss_one (ps_ret (pv 4))) pss_nil)
      (pss_cons (ps_set (i := 2) nd rfl (Or.inl rfl) (pe_or (pv 2) (pe_one (pe_call G_gr (hr.mono (by decide)) (by rfl) F_gr.g F_gr.F.kp b_gr .nil pass0 (pa_cons (pv 5) pa_nil)))))
      (pss_cons (ps_set (i := 3) nd rfl (Or.inl rfl) (pe_or (pv 3) (pe_one (pe_call G_sp (hr.mono (by decide)) (by rfl) F_sp.g F_sp.F.kp b_sp .nil pass0 (pa_cons (pv 5) pa_nil)))))
      (pss_cons (ps_if (PW.pt (pw_and (pt_val (pv 2)) (pw_and1 (pt_val (pv 3))))) (pss_one (ps_ret (pv 4))) pss_nil)
      (pss_one (ps_asg pe_bl (pg_sub (pv 1) (pe_callTy call_tuple_of (by rfl) T.tuple PyProof.Rows.boot_tuple (pa_cons (pv 5) pa_nil)) (set_R hu)))))))))
      (pss_one (ps_ret pe_non)))))), ?_⟩
    refine ⟨_, rfl, v, d, rfl, hd, fun H1 e1 => ⟨_, rfl, ?_⟩⟩
    by_cases hrw : isRow d = true
    · obtain ⟨a, xs, rfl, hrow, hall⟩ := hd.row hrw
      rw [hrw]
      refine iteF (fun q nq => ?_)
      have hlen := hall.len
      have e2 := Ex.new (o := SeenO P w q []) nq
      have hq : upd H1 q (SeenO P w q []) q = some (SeenO P w q []) := upd_same
      have E2 : Ex H (upd H1 q (SeenO P w q [])) := e1.trans e2
      have Hq : H q = none := Evl.fresh_back e1 nq
      have hv : ∀ H', Ex H H' → Q (match faultAt (items d) 0 [] false false with
          | some i => .int (i : Nat)
          | none => .non) H' := fun H' e => by
        have z := k H' e
        unfold faultV at z
        rw [if_pos hrw] at z
        exact z
      have ha2 : ∀ o, upd H1 q (SeenO P w q []) a = some o → ∀ H', Ex H H' → H' a = some o := fun o ho H' e => by
        rcases hrow with h | h
        · rw [E2 _ _ h] at ho
          rw [← ho]
          exact e _ _ h
        · rw [E2 _ _ h] at ho
          rw [← ho]
          exact e _ _ h
      refine for_enum_row (K := K) (i := 0) (a := a) (xs := xs) rfl (hrow.ex E2) (fun j σ H' => ∃ (ks : List (Rl × Addr)) (g s : Bool) (v4 v5 : Option V), σ = [some (.ref a), some (.ref q), some (.bl g), some (.bl s), v4, v5] ∧ Ex H H' ∧ H' q = some (SeenO P w q ks) ∧ SeenK H' ks ∧ ks.length ≤ j ∧ faultAt (items d) 0 [] false false = faultAt ((items d).drop j) j (ks.map (·.1)) g s)
        ⟨[], false, false, none, none, rfl, E2, hq, (fun p hp => by cases hp), Nat.le_refl _, rfl⟩ (fun j σ' H' q' o ho => ?_) (fun j x σ' H' Tq hx q' nT => ?_) (fun σ' H' q' => ?_)
      · obtain ⟨ks, g, s', v4, v5, _, e, _⟩ := q'
        exact ha2 o ho H' e
      · obtain ⟨ks, g, s', v4, v5, rfl, e, hq', hk, hl, hf⟩ := q'
        obtain ⟨dx, hdx, Dx⟩ := hall.get hx
        have eT := Ex.new (o := .tup [.int (j : Nat), x]) nT
        have hT : upd H' Tq (.tup [.int (j : Nat), x]) Tq = some (.tup [.int (j : Nat), x]) := upd_same
        generalize upd H' Tq (.tup [.int (j : Nat), x]) = H3 at eT hT
        have hj : (items d).drop j = dx :: (items d).drop (j + 1) := by
          have q := (List.getElem?_eq_some_iff.mp hdx)
          obtain ⟨q1, q2⟩ := q
          rw [List.drop_eq_getElem_cons q1, q2]
        rw [hj] at hf
        have e3 := e.trans eT
        refine ⟨Tq, _, rfl, SqT.of hT, rfl, _, _, rfl, _, _, rfl, rfl, ?_⟩
        have no : faultAt (items d) 0 [] false false = some j → ∀ H', Ex H H' → Q (.int (j : Nat)) H' := fun z H' e => by
          have q := hv H' e
          rw [z] at q
          exact q
        refine ⟨_, rfl, x, dx, rfl, Dx.ex e3, fun H4 e4 => ⟨_, rfl, ?_⟩⟩
        have e34 := e3.trans e4
        cases cr : isRule dx with
        | false =>
          refine iteT ?_
          rw [faultAt_cons, cr, if_neg Bool.false_ne_true] at hf
          exact ⟨_, rfl, no hf H4 e34⟩
        | true =>
          refine iteF ?_
          rw [faultAt_cons, cr, if_pos rfl] at hf
          obtain ⟨rr, rit, rok⟩ := rule_of cr
          obtain ⟨b, ys, rfl, brow, ball⟩ := (Dx.ex e34).row rr
          rw [rit] at ball
          have eys : ys = (rlOf dx).vs := by
            obtain ⟨v1, v2, v3, v4, v5, rfl, h1, h2, h3, h4, h5⟩ := ball.five
            obtain rfl := h1.int_of
            obtain rfl := h4.int_of
            obtain rfl := h5.int_of
            unfold Rl.vs
            cases h3
            cases hh : (rlOf dx).high with
            | none =>
              rw [hh] at h2
              cases h2
              rfl
            | some i =>
              rw [hh] at h2
              obtain rfl := h2.int_of
              rfl
          subst eys
          generalize rlOf dx = r at hf brow rok ball
          have hq4 := e4 _ _ (eT _ _ hq')
          have hk4 : SeenK H4 ks := fun p hp => e4 _ _ (eT _ _ (hk p hp))
          -- tuple(part)
          unfold tTest tOp
          dsimp only
          refine tup_row (i := 5) (b := b) (ys := r.vs) rfl brow (fun t H5 e5 ht => ?_)
          have e35 := e34.trans e5
          have hk5 : SeenK H5 ks := fun p hp => e5 _ _ (hk4 p hp)
          refine ⟨_, rfl, t, q, r, ks, rfl, rfl, ht, e5 _ _ hq4, hk5, _, rfl, ?_⟩
          cases cm : decide (r ∈ ks.map (·.1)) with
          | true =>
            refine iteT ?_
            rw [cm, if_pos rfl] at hf
            exact ⟨_, rfl, no hf H5 e35⟩
          | false =>
            refine iteF ?_
            rw [cm, if_neg Bool.false_ne_true] at hf
            refine or_of (g := g) (g2 := r.high.isNone) rfl (fun qq kk => ⟨_, rfl, b, r, rfl, brow.ex e5, fun H6 e6 => kk H6 e6⟩) (fun H6 e6 => ?_)
            refine or_of (g := s') (g2 := decide (V.str r.left = V.str "two")) rfl (fun qq kk => ⟨_, rfl, b, r, rfl, brow.ex (e5.trans e6), fun H7 e7 => kk H7 e7⟩) (fun H7 e7 => ?_)
            have e57 := (e5.trans e6).trans e7
            have e37 := e34.trans e57
            generalize (g || r.high.isNone) = g' at hf
            generalize (s' || decide (V.str r.left = V.str "two")) = s'' at hf
            unfold gName tSeq tIfS
            dsimp only
            refine tand_of (b1 := g') (b2 := s'') (fun qq kk => ⟨_, rfl, _, rfl, kk⟩) (fun qq kk => ⟨_, rfl, _, rfl, kk⟩) ?_
            cases cg : (g' && s'') with
            | true =>
              refine iteT ?_
              rw [cg, if_pos rfl] at hf
              exact ⟨_, rfl, no hf H7 e37⟩
            | false =>
              refine iteF ?_
              rw [cg, if_neg Bool.false_ne_true] at hf
              refine ⟨_, rfl, tup_row (i := 5) (b := b) (ys := r.vs) (by rfl) (brow.ex e57) (fun t8 H8 e8 ht8 => ?_)⟩
              have e58 := e57.trans e8
              have hq8 := e58 _ _ hq4
              have hk8 : SeenK H8 ks := fun p hp => e58 _ _ (hk4 p hp)
              have hjl : j < (items d).length := (List.getElem?_eq_some_iff.mp hdx).1
              refine ⟨t8, q, r, ks, rfl, rfl, rfl, ht8, hq8, hk8, of_decide_eq_false cm, Nat.lt_of_le_of_lt (by omega : ks.length ≤ 1000) (by decide), ?_⟩
              have nq8 : ∀ p xs, H8 p = some (.tup xs) → p ≠ q := fun p xs hp z => by
                rw [z, hq8] at hp
                cases hp
              refine ⟨ks ++ [(r, t8)], _, _, _, _, rfl, (e34.trans e58).mut Hq, upd_same, fun p hp => ?_, by rw [List.length_append]; show ks.length + 1 ≤ j + 1; omega, ?_⟩
              · rcases List.mem_append.mp hp with hp | hp
                · rw [upd_ne (nq8 _ _ (hk8 p hp))]
                  exact hk8 p hp
                · rw [List.mem_singleton] at hp
                  rw [hp, upd_ne (nq8 _ _ ht8)]
                  exact ht8
              · rw [hf, List.map_append]
                rfl
      · obtain ⟨ks, g, s', v4, v5, rfl, e, hq', hk, hl, hf⟩ := q'
        have z := hv H' e
        rw [hf, List.drop_eq_nil_of_le (by rw [hlen]; exact Nat.le_refl _)] at z
        exact z
    · have hf : isRow d = false := by simpa using hrw
      rw [hf]
      have q := k H1 e1
      unfold faultV at q
      rw [hf] at q
      exact iteT q
end
end Ts


set_option Elab.async false
set_option linter.all false
set_option maxRecDepth 100000
set_option maxHeartbeats 4000000
/-! ## sorted by a def that tells texts -/
namespace Ts
open PySem PySem.Spec PyProof.Rows L2
open PySem.W (KeepsBut keyH_end copyHeap copyHeap_at copyHeap_old dataLe)
open Evl (Ex)
theorem each_vals : ∀ {bs : List (V × Str)} {vs : List Value}, Vals (bs.map (·.1)) vs → PySem.W.EachIs (fun (v : Value) (p : V × Str) => RelV p.1 v) vs bs
  | [], _, h => by
    cases h
    exact .nil
  | p :: t, _, h => by
    rw [List.map_cons] at h
    cases h with
    | cons r rr => exact .cons r (each_vals rr)
theorem vals_each : ∀ {vs : List Value} {bs : List (V × Str)}, PySem.W.EachIs (fun (v : Value) (p : V × Str) => RelV p.1 v) vs bs → Vals (bs.map (·.1)) vs
  | _, _, .nil => .nil
  | _, _, .cons r rr => .cons r (vals_each rr)
theorem each_reads {h : Heap} : ∀ {zs : List Str} {ks : List Value}, Vals (zs.map V.str) ks → PySem.W.EachIs (fun v k => ∃ as, Reads h v k as) ks (zs.map PyData.str)
  | [], _, r => by
    cases r
    exact .nil
  | z :: t, _, r => by
    rw [List.map_cons] at r
    cases r with
    | cons r rr =>
      obtain ⟨u, rfl⟩ := r
      exact .cons ⟨[], .str _ _⟩ (each_reads rr)
def rSortBy (K : PySem.W.Frag) (fA : Addr) (sp : Sp) : List V → List V → Hp → VK → Prop := fun vs zs H Q => ∃ (l : Addr) (bs : List (V × Str)), vs = [.ref l] ∧ zs = [.ref fA] ∧ SqL K H l (bs.map (·.1)) ∧
  (∀ p ∈ bs, ∀ H', Ex H H' → ∀ Q' : VK, (∀ H'', Ex H' H'' → Q' (.str p.2) H'') → sp [p.1] H' Q' fun _ _ _ => False) ∧
  ∀ (L : Addr) H', H L = none → Ex H H' → H' L = some (.lst ((bs.mergeSort (dataLe false fun p => PyData.str p.2)).map (·.1))) → Q (.ref L) H'
theorem cr_sortedBy {X : Cx} {fA : Addr} {fd : FuncData} {k : Nat} {x : Str} {sp : Sp} (F : FnOk X.prog X.w X.K X.mg X.base CX0 k fA fd [x] sp) (hr : Room (k + 2) X.A) (hb : Binds X.K fd [x] []) :
    CallRK X (.builtin "sorted") [Str.ofString "key"] (rSortBy X.K fA sp) := by
  intro pins s σ H xs zs us ws Q I r rz h
  obtain ⟨l, bs, rfl, rfl, hs, hsp, q⟩ := h
  obtain rfl := Vals.ref1 r
  obtain ⟨w1, rfl, e1⟩ := vals1 rz
  obtain rfl : w1 = Value.ref fA := e1
  obtain ⟨its, rv, hl, hz⟩ := I.list hs
  have hlen := rv.length
  rw [List.length_map] at hlen hz
  have hZ : its.length ≤ sizeLine := by omega
  refine PySem.W.sorted_of_sort hl.isList hZ (ksk_s1 _ _) (fun _ => ksk_l1 _ _) fun E' => ?_
  show wpAny _ _ (Builtin.«list.sort» ⟨[.ref (s.heap.objs.size + 1)], [(Str.ofString "key", .ref fA)]⟩) _ _ _
  rw [ksk_t1]
  generalize ha : s.heap.objs.size + 1 = a
  have ho : (copyHeap s.heap its).get? a = some (seqObj "list" its.toArray 0) := by
    rw [← ha]
    exact copyHeap_at _ _
  obtain ⟨ep, ho1⟩ : ∃ ep, ((copyHeap s.heap its).update a (Obj.mapSeq fun _ => (#[] : Array Value))).get? a = some (seqObj "list" #[] ep) := ⟨_, get?_update_seq ho fun _ => #[]⟩
  unfold ksk_tree
  refine wpAny_bind (listItems_at ho rfl ?_)
  refine wpAny_bind (listUpdate_at ho rfl ?_ (by rw [List.size_toArray]; exact hZ) (Nat.zero_le _))
  refine wpAny_bind (seqEpoch_at ho1 rfl ?_)
  refine wpAny_bind (wpAny_newTuple ?_ (by show its.length ≤ _; exact hZ))
  refine wpAny_bind (wpAny_newList ?_ (Nat.zero_le _))
  refine wpAny_holding ?_
  -- the heap in which the keys are asked
  have szc : (copyHeap s.heap its).objs.size = s.heap.objs.size + 2 := by
    unfold copyHeap
    rw [Heap.size_push, Heap.size_update, Heap.size_push]
  generalize hg1 : ((copyHeap s.heap its).update a (Obj.mapSeq fun _ => (#[] : Array Value))).push (seqObj "tuple" its.toArray 0) = g1
  have sz1 : g1.objs.size = s.heap.objs.size + 3 := by
    rw [← hg1, Heap.size_push, Heap.size_update, szc]
  have old1 : ∀ b o, s.heap.get? b = some o → g1.get? b = some o := fun b o e => by
    rw [← hg1]
    refine Heap.get?_push_of_some _ ?_
    have nb : b ≠ a := Nat.ne_of_lt (Nat.lt_of_lt_of_le (Heap.lt_size e) (by rw [← ha]; exact Nat.le_succ _))
    exact ((Heap.SameBut.update _ a _).2 b nb).trans (copyHeap_old e)
  have at1 : g1.get? a = some (seqObj "list" #[] ep) := by
    rw [← hg1]
    exact Heap.get?_push_of_some _ ho1
  have ls0 : (0 : Nat) ≤ sizeLine := Nat.zero_le _
  have lea : s.heap.objs.size ≤ a := by rw [← ha]; exact Nat.le_succ _
  have Ha : H a = none := I.hok.fresh lea
  have okA : ObjOk X.prog X.w (upd H a (.frz (seqObj "list" #[] ep) (.lst []))) g1 a (.frz (seqObj "list" #[] ep) (.lst [])) := ⟨at1, ls0, [], ep, .nil, at1⟩
  have I1 := I.laid (h' := g1) (t' := s.toks) (o := .frz (seqObj "list" #[] ep) (.lst [])) old1 lea okA
  generalize hkS : g1.objs.size = kS
  have hka : kS ≠ a := by
    rw [← hkS, ← ha, sz1]
    exact Nat.ne_of_gt (by omega)
  have at2 : (g1.push (seqObj "list" #[] 0)).get? kS = some (seqObj "list" #[] 0) := by
    rw [← hkS]
    exact Heap.get?_push_size _ rfl
  have HkS : upd H a (.frz (seqObj "list" #[] ep) (.lst [])) kS = none := I1.hok.fresh (by show g1.objs.size ≤ kS; rw [hkS]; exact Nat.le_refl _)
  have I2 := I1.laid (h' := g1.push (seqObj "list" #[] 0)) (t' := s.toks) (a := kS) (o := .lst []) (fun b o e => Heap.get?_push_of_some _ e) (by show g1.objs.size ≤ kS; rw [hkS]; exact Nat.le_refl _) ⟨ls0, [], 0, .nil, at2⟩
  generalize hH1 : upd (upd H a (.frz (seqObj "list" #[] ep) (.lst []))) kS (.lst []) = H1 at I2
  generalize hg2 : g1.push (seqObj "list" #[] 0) = g2 at I2 at2
  have old2 : ∀ b o, s.heap.get? b = some o → g2.get? b = some o := fun b o e => by
    rw [← hg2]
    exact Heap.get?_push_of_some _ (old1 b o e)
  have H1o : ∀ b, b ≠ a → b ≠ kS → H1 b = H b := fun b n1 n2 => by rw [← hH1, upd_ne n2, upd_ne n1]
  have H1a : H1 a = some (.frz (seqObj "list" #[] ep) (.lst [])) := by rw [← hH1, upd_ne (Ne.symm hka)]; exact upd_same
  have H1k : H1 kS = some (.lst []) := by rw [← hH1]; exact upd_same
  have eH1 : Ex H H1 := by
    rw [← hH1]
    exact (Ex.new Ha).trans (Ex.new HkS)
  unfold ksk_rest
  refine wpAny_bind (wpAny_rule ?_)
  rw [List.forIn_toArray]
  refine wpAny_bind (ksk_fold (fun j s' => ∃ H', Inv X pins σ H' s' ∧ Un (frs X.stack) [] H1 H' g2 s'.heap ∧ Ex H H' ∧ H' kS = some (.lst (((bs.map (·.2)).take j).map V.str)) ∧ H' a = some (.frz (seqObj "list" #[] ep) (.lst []))) its 0 _ ⟨H1, I2, Un.refl, eH1, by rw [List.take_zero]; exact H1k, H1a⟩ ?step ?done)
  case step =>
    rintro j v s' hv ⟨H', I', U', e', hk', ha'⟩
    simp only [Nat.zero_add] at hk' ⊢
    have hj : j < its.length := (List.getElem?_eq_some_iff.mp hv).1
    have hjb : j < bs.length := by omega
    have hp : bs[j]? = some bs[j] := List.getElem?_eq_getElem hjb
    generalize bs[j] = p at hp
    have rp : RelV p.1 v := by
      obtain ⟨u, hu, ru⟩ := rv.get (i := j) (x := p.1) (by rw [List.getElem?_map, hp]; rfl)
      rw [hv] at hu
      cases hu
      exact ru
    have room2 : Room k X.A.in1.in1 := Room.in1 (Room.in1 hr)
    have e0 := I'.env0
    have e2 : Env0 X.prog X.w X.K X.mg X.base X.A.in1.in1 X.stack s' H' := ⟨e0.frames, e0.mod, e0.bs, e0.bsz, e0.funs, e0.frf, e0.hok, e0.bare⟩
    have KX : X.K.In s'.heap := I'.kIn
    have run := F.run X.A.in1.in1 X.stack s' H' ⟨[v], []⟩ [v] [p.1] (fun u H'' => u = .str p.2 ∧ Ex H' H'') (fun _ _ _ => False) room2 e2 (by
      have z := hb s' [v] KX rfl
      rw [List.append_nil] at z
      exact z) (.cons rp .nil) (hsp p (List.mem_of_getElem? hp) H' e' _ fun H'' e'' => ⟨rfl, e''⟩)
    have called : wpAny (model X.prog X.w) X.A.in1.in1 (call (.ref fA) [v]) (fun u s'' => CE X.stack X.prog X.w H' s' (fun u H'' => u = .str p.2 ∧ Ex H' H'') u s'') (fun _ _ => False) s' := wpAny_call (codeAny_mono run fun res s'' hq => by
      rcases res with e | (_ | _ | _ | u) <;> first
        | exact (show False from hq).elim
        | exact hq)
    refine wpAny_bind (wpAny_attempt (wpAny_mono called (fun u s'' hu => ?_) fun _ _ z => z.elim))
    obtain ⟨w, H'', os, bare, un, hok, ru, rfl, e''⟩ := hu
    obtain ⟨hh, gg, dd, tt, oo⟩ := s''
    obtain rfl : oo = s'.os := os
    have I3 := I'.call (h' := hh) (g' := gg) (d' := dd) (t' := tt) (ch := []) un hok bare (fun b z => absurd z (by simp))
    try dsimp only
    have hk3 := e'' _ _ hk'
    have ha3 := e'' _ _ ha'
    obtain ⟨lk, its3, n3, rv3, at3⟩ := hok kS _ hk3
    have len3 := rv3.length
    have len3' : its3.length ≤ its.length := by
      rw [List.length_map, List.length_take] at len3
      omega
    refine wpAny_bind (listUpdate_at at3 rfl ?_ (by rw [List.size_toArray]; omega) (by rw [Array.size_push, List.size_toArray]; omega))
    have sb := Heap.SameBut.update hh kS (Obj.mapSeq (·.push u))
    obtain ⟨c3, at4⟩ : ∃ c3, (hh.update kS (Obj.mapSeq (·.push u))).get? kS = some (seqObj "list" (its3.toArray.push u) c3) := ⟨_, get?_update_seq at3 (·.push u)⟩
    have tk : ((bs.map (·.2)).take (j + 1)).map V.str = ((bs.map (·.2)).take j).map V.str ++ [.str p.2] := by
      rw [List.take_add_one, List.getElem?_map, hp]
      simp
    have new : ObjOk X.prog X.w (upd H'' kS (.lst (((bs.map (·.2)).take (j + 1)).map V.str))) (hh.update kS (Obj.mapSeq (·.push u))) kS (.lst (((bs.map (·.2)).take (j + 1)).map V.str)) := by
      refine ⟨?_, its3 ++ [u], c3, ?_, by rw [at4]; simp [seqObj]⟩
      · rw [List.length_map, List.length_take]
        omega
      · rw [tk]
        exact rv3.snoc ru
    have muK : Mut (H'' kS) := by
      rw [hk3]
      exact True.intro
    have I4 := I3.write (h' := hh.update kS (Obj.mapSeq (·.push u))) (t' := tt) (x := kS) (e := kS) muK (.inl rfl) (fun b o hb e => (sb.2 b hb).trans e) ⟨_, at4⟩ new
    refine wpAny_pure ⟨rfl, _, I4, (U'.trans un).trans (Un.write muK (.inl rfl) (fun b o hb e => (sb.2 b hb).trans e) ⟨_, at4⟩), ?_, upd_same, ?_⟩
    · refine (e'.trans e'').mut ?_
      exact Evl.fresh_back ((Ex.new (o := .frz (seqObj "list" #[] ep) (.lst [])) Ha)) HkS
    · rw [upd_ne (Ne.symm hka)]
      exact ha3
  case done =>
    rintro s' ⟨H', I', U', e', hk', ha'⟩
    have hall : (bs.map (·.2)).take (0 + its.length) = bs.map (·.2) := List.take_of_length_le (by rw [List.length_map]; omega)
    rw [hall] at hk'
    obtain ⟨lk, kA, n3, rvk, atk⟩ := I'.hok kS _ hk'
    obtain ⟨ata, _⟩ := I'.hok a _ ha'
    have ek := each_reads (h := s'.heap) rvk
    have kd : (bs.map fun p : V × Str => PyData.str p.2) = (bs.map (·.2)).map PyData.str := by
      rw [List.map_map]
      rfl
    have hal : PySem.W.AllAlike ((bs.map (·.2)).map PyData.str) := fun d hd d' hd' => by
      obtain ⟨z, _, rfl⟩ := List.mem_map.mp hd
      obtain ⟨z', _, rfl⟩ := List.mem_map.mp hd'
      rfl
    have hsk : PySem.W.Sortable ((bs.map (·.2)).map PyData.str) := .inr fun d hd => by
      obtain ⟨z, _, rfl⟩ := List.mem_map.mp hd
      exact ⟨(fun q => by cases q), (fun xs q => by cases q)⟩
    have hu : ∀ d, d ∈ (bs.map (·.2)).map PyData.str → X.A.in1.in1.units + d.depth < cLine := fun d hd => by
      obtain ⟨z, _, rfl⟩ := List.mem_map.mp hd
      have := (Room.in1 (Room.in1 hr)).un
      show _ + 0 < _
      omega
    have lenk := rvk.length
    rw [List.length_map, List.length_map] at lenk
    refine wpAny_bind (listItems_at atk rfl ?_)
    have kp : KeepsBut a (PySem.W.hideAll s'.heap [kS]) s'.heap := fun b o _ e => PySem.W.of_hideAll [kS] e
    refine keyH_end (κ := PySem.W.dataKind s'.heap ((bs.map (·.2)).map PyData.str)) (h₁ := PySem.W.hideAll s'.heap [kS]) kp (PySem.W.hideAll_none [kS] (by simp)) atk ata hka
      (PySem.W.SortsAt.data (by simpa using ek) hal hsk hu) (by rw [List.size_toArray]; omega) hZ fun h3 tk3 c k3 n4 => ⟨rfl, ?_⟩
    generalize hout : PySem.W.sortVals (PySem.W.dataKind s'.heap ((bs.map (·.2)).map PyData.str)) false kA.toArray.toList its = out at n4
    have ko : PySem.W.KeyedOut false (bs.map fun p : V × Str => PyData.str p.2) its out := by
      rw [kd]
      exact ⟨s'.heap, kA.toArray.toList, hal, hout.symm, by simpa using ek⟩
    have eo := PySem.W.keyedOut_each (fun p : V × Str => PyData.str p.2) ko (each_vals rv)
    have vo := vals_each eo
    generalize hys : (bs.mergeSort (dataLe false fun p => PyData.str p.2)).map (·.1) = ys at vo q
    have lys : ys.length ≤ sizeLine := by
      rw [← hys, List.length_map, List.length_mergeSort]
      exact hz
    have keep3 : ∀ b o, b ≠ a → b ≠ kS → s'.heap.get? b = some o → h3.get? b = some o := fun b o n1 n2 e => k3 b o n1 (PySem.W.hideAll_get [kS] e (by simpa using n2))
    have oldb : ∀ b o, s.heap.get? b = some o → b ≠ a ∧ b ≠ kS := fun b o e => by
      have lt := Heap.lt_size e
      refine ⟨Nat.ne_of_lt (Nat.lt_of_lt_of_le lt lea), Nat.ne_of_lt (Nat.lt_of_lt_of_le lt ?_)⟩
      rw [← hkS, sz1]
      omega
    let Hf : Hp := fun b => if b = a then some (.lst ys) else if b = kS then none else H' b
    have Hfa : Hf a = some (.lst ys) := if_pos rfl
    have Hfo : ∀ b, b ≠ a → b ≠ kS → Hf b = H' b := fun b n1 n2 => (if_neg n1).trans (if_neg n2)
    have Hfk : Hf kS = none := (if_neg hka).trans (if_pos rfl)
    have told : ∀ b u, H b = some u → b ≠ a ∧ b ≠ kS := fun b u e => by
      constructor
      · intro z
        rw [z, Ha] at e
        cases e
      · intro z
        rw [z] at e
        have w := Ex.new (o := .frz (seqObj "list" #[] ep) (.lst [])) Ha kS u e
        rw [HkS] at w
        cases w
    have okf : HOk X.prog X.w Hf h3 := fun b u e => by
      by_cases n1 : b = a
      · rw [n1, Hfa] at e
        cases e
        rw [n1]
        exact ⟨lys, out, c, vo, n4⟩
      · by_cases n2 : b = kS
        · rw [n2, Hfk] at e
          cases e
        · rw [Hfo b n1 n2] at e
          refine (I'.hok b u e).stay (fun c' v hc z => ?_) (fun c' z => ?_) (fun c' zs z => ?_)
          · have nca : c' ≠ a := fun w => by
              rcases hc with y | y
              · exact n1 (y.symm.trans w)
              · rw [w, ha'] at y
                cases y
            have nck : c' ≠ kS := fun w => by
              rcases hc with y | y
              · exact n2 (y.symm.trans w)
              · rw [w, hk'] at y
                cases y
            exact keep3 c' v nca nck z
          · have nca : c' ≠ a := fun w => by
              rw [w, ha'] at z
              cases z
            have nck : c' ≠ kS := fun w => by
              rw [w, hk'] at z
              cases z
            rw [Hfo c' nca nck]
            exact z
          · have nca : c' ≠ a := fun w => by
              rw [w, ha'] at z
              cases z
            have nck : c' ≠ kS := fun w => by
              rw [w, hk'] at z
              cases z
            rw [Hfo c' nca nck]
            exact z
    have un : Un (frs X.stack) [] H Hf s.heap h3 := {
      keep := fun b o e n hf hx => by
        obtain ⟨n1, n2⟩ := oldb b o e
        exact keep3 b o n1 n2 (U'.keep b o (old2 b o e) ((H1o b n1 n2).trans n) hf hx)
      slot := fun b o e n hf hx => by
        obtain ⟨n1, n2⟩ := oldb b o e
        obtain ⟨sl, z⟩ := U'.slot b o (old2 b o e) ((H1o b n1 n2).trans n) hf hx
        exact ⟨sl, keep3 b _ n1 n2 z⟩
      free := fun b o e n hx => by
        obtain ⟨n1, n2⟩ := oldb b o e
        rw [Hfo b n1 n2]
        exact U'.free b o (old2 b o e) ((H1o b n1 n2).trans n) hx
      there := fun b o e hx => by
        obtain ⟨n1, n2⟩ := oldb b o e
        obtain ⟨o', z⟩ := U'.there b o (old2 b o e) hx
        exact ⟨o', keep3 b o' n1 n2 z⟩
      tups := fun b zs e => by
        obtain ⟨n1, n2⟩ := told b _ e
        rw [Hfo b n1 n2]
        exact U'.tups b zs ((H1o b n1 n2).trans e)
      frzs := fun b o u e => by
        obtain ⟨n1, n2⟩ := told b _ e
        rw [Hfo b n1 n2]
        exact U'.frzs b o u ((H1o b n1 n2).trans e)
      tbls := fun b ps e => by
        obtain ⟨n1, n2⟩ := told b _ e
        rw [Hfo b n1 n2]
        exact U'.tbls b ps ((H1o b n1 n2).trans e) }
    have eF : Ex H Hf := fun b u e => by
      obtain ⟨n1, n2⟩ := told b u e
      rw [Hfo b n1 n2]
      exact e' b u e
    have os : s'.os = s.os := I'.os.trans I.os.symm
    obtain ⟨hh, gg, dd, tt, oo⟩ := s'
    obtain rfl : oo = s.os := os
    have If := I.call (h' := h3) (g' := gg) (d' := dd) (t' := tk3) (ch := []) un okf I'.bare (fun b z => absurd z (by simp))
    exact ⟨.ref a, Hf, If, rfl, q a Hf Ha eF Hfa⟩
end Ts


set_option Elab.async false
set_option linter.all false
set_option maxRecDepth 100000
set_option maxHeartbeats 4000000
namespace Ts
open PySem PySem.Spec L2
open PySem.W (dataLe)
open Evl (Ex)
/-- rules as their lines ascend -/
def sortR (rs : List Rl) : List Rl := rs.mergeSort (dataLe false fun r => PyData.str r.line)
/-- the tuples at ts are these rules -/
def RulesAt (H : Hp) (qs : List (Addr × Rl)) : Prop := ∀ q ∈ qs, H q.1 = some (.tup q.2.vs)
/-- a book stands at p -/
def BookAt (C : Addr) (H : Hp) (p : Addr) (rs : List Rl) : Prop := ∃ (dx L : Addr) (qs : List (Addr × Rl)), H p = some (.ins C dx [("_rules", .ref L)]) ∧ H L = some (.lst (qs.map fun q => V.ref q.1)) ∧ RulesAt H qs ∧ qs.map (·.2) = rs
def rTup (K : PySem.W.Frag) : List V → Hp → VK → Prop := fun xs H Q => ∃ p ys, xs = [V.ref p] ∧ ((SqL K H p ys ∧ ∀ l, H l = none → Q (.ref l) (upd H l (.tup ys))) ∨ (SqT K H p ys ∧ Q (.ref p) H))
theorem ms_map {α β : Type} (f : α → β) (k : β → PyData) (l : List α) : (l.mergeSort (dataLe false fun a => k (f a))).map f = (l.map f).mergeSort (dataLe false k) := List.map_mergeSort fun a _ b _ => rfl
theorem row_rule {H : Hp} {v : V} {d : PyData} (h : D H v d) (hr : isRule d = true) : ∃ b, v = .ref b ∧ Row H b (rlOf d).vs := by
  obtain ⟨rr, rit, rok⟩ := rule_of hr
  obtain ⟨b, ys, rfl, brow, ball⟩ := h.row rr
  rw [rit] at ball
  have eys : ys = (rlOf d).vs := by
    obtain ⟨v1, v2, v3, v4, v5, rfl, h1, h2, h3, h4, h5⟩ := ball.five
    obtain rfl := h1.int_of
    obtain rfl := h4.int_of
    obtain rfl := h5.int_of
    unfold Rl.vs
    cases h3
    cases hh : (rlOf d).high with
    | none =>
      rw [hh] at h2
      cases h2
      rfl
    | some i =>
      rw [hh] at h2
      obtain rfl := h2.int_of
      rfl
  rw [eys] at brow
  exact ⟨b, rfl, brow⟩
theorem fault_rules : ∀ {ds : List PyData} {i : Nat} {seen : List Rl} {g s : Bool}, faultAt ds i seen g s = none → ∀ e ∈ ds, isRule e = true
  | [], _, _, _, _, _, e, he => by cases he
  | d :: ds, i, seen, g, s, h, e, he => by
    rw [faultAt_cons] at h
    by_cases c : isRule d = true
    · rw [if_pos c] at h
      rcases List.mem_cons.mp he with rfl | he
      · exact c
      · split at h
        · cases h
        · split at h
          · cases h
          · exact fault_rules h e he
    · rw [if_neg c] at h
      cases h
/-- [tuple(rule) for rule in rules] -/
theorem lc_tuples {K : PySem.W.Frag} {i j : Nat} {σ : L2.St} {H : Hp} {a : Addr} {xs : List V} {ds : List PyData} {Q : VK} (hσ : σ[i]? = some (some (.ref a))) (hr : Row H a xs) (hall : DAll H xs ds) (hru : ∀ e ∈ ds, isRule e = true) (hz : xs.length ≤ 1000)
    (hw : ∀ x, ((wipe σ [j]).set j (some x))[j]? = some (some x)) (hw2 : ∀ x, wipe ((wipe σ [j]).set j (some x)) [j] = wipe σ [j])
    (hq : ∀ Dd H' (qs : List (Addr × Rl)), H Dd = none → Ex H H' → H' Dd = some (.lst (qs.map fun q => V.ref q.1)) → RulesAt H' qs → qs.map (·.2) = ds.map rlOf → Q (.ref Dd) H') :
    tLc (iOr (iList K (tVar i)) (iTup K (tVar i))) (gName j) tYes (tCB (rTup K) (tCons (tVar j) tNil)) [j] σ H Q := by
  have core : ∀ {J : It} {G : Hp → Prop} {Y : Nat → Hp → V → Hp → Prop} (w : Walk J xs.length G Y), (∀ H', Ex H H' → G H') → (∀ k H1 x H2, Y k H1 x H2 → H2 = H1 ∧ xs[k]? = some x) → ∀ Dd, H Dd = none → ∃ W : Nat → Nat → Hp → Prop, (∃ m, W 0 m (upd H Dd (.lst []))) ∧ ∀ k m H1, W k m H1 →
      (J.stop k H1 ∧ Q (.ref Dd) H1) ∨ (J.go k H1 ∧ ∃ Nx : Hp → Prop, (∀ H', Nx H' → ∃ m', m' < m ∧ W (k + 1) m' H') ∧ ∀ x H', J.yld k H1 x H' → gName j x (wipe σ [j]) H' fun σ2 H2 => wipe σ2 [j] = wipe σ [j] ∧ tYes σ2 H2 fun b H3 =>
        if b = true then tCB (rTup K) (tCons (tVar j) tNil) σ2 H3 fun y H4 => ∃ acc, H4 Dd = some (.lst acc) ∧ acc.length < sizeLine ∧ Nx (upd H4 Dd (.lst (acc ++ [y]))) else Nx H3) := fun {J G Y} w hG hY Dd hD => by
    refine lc_it w (Pv := fun k H' => Ex H H' ∧ ∃ qs : List (Addr × Rl), qs.length = k ∧ H' Dd = some (.lst (qs.map fun q => V.ref q.1)) ∧ RulesAt H' qs ∧ qs.map (·.2) = (ds.map rlOf).take k)
      ⟨Ex.new hD, [], rfl, upd_same, (fun q hq => by cases hq), by rw [List.take_zero]; rfl⟩ (fun _ _ _ p => hG _ p.1) ?_ ?_
    · rintro k x H1 H2 hk ⟨e, qs, hl, hD1, hR, hm⟩ y
      obtain ⟨rfl, hx⟩ := hY k H1 x H2 y
      refine ⟨hw2 x, ?_⟩
      unfold tYes
      dsimp only
      rw [if_pos rfl]
      obtain ⟨dx, hdx, Dx⟩ := hall.get hx
      obtain ⟨b, rfl, brow⟩ := row_rule (Dx.ex e) (hru dx (List.mem_of_getElem? hdx))
      have fin : ∀ t H4, Ex H2 H4 → H4 t = some (.tup (rlOf dx).vs) → ∃ acc, H4 Dd = some (.lst acc) ∧ acc.length < sizeLine ∧ (fun H' => Ex H H' ∧ ∃ qs : List (Addr × Rl), qs.length = k + 1 ∧ H' Dd = some (.lst (qs.map fun q => V.ref q.1)) ∧ RulesAt H' qs ∧ qs.map (·.2) = (ds.map rlOf).take (k + 1)) (upd H4 Dd (.lst (acc ++ [V.ref t]))) := fun t H4 e4 ht => by
        have hD4 := e4 _ _ hD1
        have nD : ∀ c zs, H4 c = some (.tup zs) → c ≠ Dd := fun c zs hc z => by
          rw [z, hD4] at hc
          cases hc
        refine ⟨_, hD4, by rw [List.length_map, hl]; exact Nat.lt_of_lt_of_le hk (Nat.le_trans hz (by decide)), (e.trans e4).mut hD, qs ++ [(t, rlOf dx)], by rw [List.length_append, hl]; rfl, by rw [upd_same, List.map_append]; rfl, fun q hq => ?_, ?_⟩
        · rcases List.mem_append.mp hq with hq | hq
          · have z := e4 _ _ (hR q hq)
            rw [upd_ne (nD _ _ z)]
            exact z
          · rw [List.mem_singleton] at hq
            rw [hq, upd_ne (nD _ _ ht)]
            exact ht
        · rw [List.map_append, hm, List.take_add_one, List.getElem?_map, hdx]
          rfl
      refine ⟨_, hw _, ?_⟩
      rcases brow with h | h
      · exact ⟨b, _, rfl, .inl ⟨SqL.of h, fun l nl => fin l _ (Ex.new nl) upd_same⟩⟩
      · exact ⟨b, _, rfl, .inr ⟨SqT.of h, fin b _ (Ex.refl _) h⟩⟩
    · rintro H1 ⟨e, qs, hl, hD1, hR, hm⟩
      have hlen := hall.len
      rw [List.take_of_length_le (by rw [List.length_map]; omega)] at hm
      exact hq Dd H1 qs hD e hD1 hR hm
  rcases hr with h | h
  · exact .inl ⟨_, hσ, a, rfl, ⟨xs, SqL.of h⟩, core (walk_list (xs := xs)) (fun H' e => SqL.of (e _ _ h)) fun k H1 x H2 y => y⟩
  · exact .inr ⟨_, hσ, a, rfl, ⟨xs, SqT.of h⟩, core (walk_tup (xs := xs)) (fun H' e => SqT.of (e _ _ h)) fun k H1 x H2 y => y⟩
section
variable {P : Program} {w : World} {K : PySem.W.Frag} {mg : Str → Option Value} {base : Heap}
abbrev s_binit : Stmt := inClass (top 17) 0
theorem sc_binit : FnScope ["self", "rules", "index", "rule"] ["self", "rules"] (defScope s_binit) := ⟨rfl, rfl, rfl, by decide +kernel, rfl, by decide +kernel, by decide +kernel⟩
def spBook (C CR : Addr) : Sp := fun vs H Q E => ∃ (p dx : Addr) (v : V) (d : PyData), vs = [.ref p, v] ∧ H p = some (.ins C dx []) ∧ D (del H p) v d ∧ (items d).length ≤ 60 ∧ (∀ e ∈ items d, isRule e = true → (rlOf e).Sml) ∧
  (faultV d ≠ .non → ∀ H', Ex H H' → Raised H' "index" (faultV d) CR E) ∧
  (faultV d = .non → ∀ H', Ex (del H p) H' → BookAt C H' p (sortR ((items d).map rlOf)) → (∀ dx' L, H' p = some (.ins C dx' [("_rules", .ref L)]) → H L = none) → Q .non H')
theorem ok_binit {f f1 fl C CR gR : Addr} {fd fd1 fdl fR : FuncData} (F : Fun K "__init__" "Book.__init__" s_binit f fd) (cl : Cls K C) (nA : NoAttr K C "_rules") (F_fault : FD K mg "rules_fault" "rules_fault" s_fault f1 fd1) (G_fault : FnOk P w K mg base CX0 4 f1 fd1 ["thing"] spFault)
    (F_line : FD K mg "rule_line" "rule_line" s_line fl fdl) (XR : XC K mg "BadRules" "index" CR gR) (GR : FnOk P w K mg base CX0 1 gR fR ["self", "index"] (spIni CR "index")) (bR : Binds K fR ["self", "index"] []) (T : Bl mg) (hsorted : mg "sorted" = none) :
    FnOk P w K mg base (L2.CX P w) 5 f fd ["self", "rules"] (spBook C CR) := by
  have G_line : FnOk P w K mg base CX0 1 fl fdl ["rule"] spLine := ok_line F_line
  have b_line : Binds K fdl ["rule"] [] := F_line.F.binds fun _ _ _ _ _ _ us hl => match us, hl with | [_], _ => rfl
  have b_fault : Binds K fd1 ["thing"] [] := F_fault.F.binds fun _ _ _ _ _ _ us hl => match us, hl with | [_], _ => rfl
  refine F.okX sc_binit (fun vs H Q E h => ?_) (fun cdv A outer s H vs Q E hr h => ?_)
  · obtain ⟨p, dx, v, d, rfl, _⟩ := h
    rfl
  · obtain ⟨p, dx, v, d, rfl, hp, hd, hz, hsm, k1, k2⟩ := h
    have nd := sc_binit.nd
    have hr4 : Room 4 _ := hr
    have hr3 : Room (1 + 2) _ := hr.mono (by decide)
    have hr2 : Room 2 _ := hr.mono (by decide)
    have eD : Ex (del H p) H := fun b o e => by
      unfold del at e
      split at e
      · cases e
      · exact e
    refine ⟨_, (pss_cons (ps_set (i := 2) nd rfl (Or.inl rfl) (pe_call G_fault hr4 (by rfl) F_fault.g F_fault.F.kp b_fault .nil pass0 (pa_cons (pv 1) pa_nil)))
      (pss_cons (ps_if (pt_cmpR op_notN (pv 2) pe_non (nomark _)) (pss_one (ps_raise1 rfl (takes_of rfl rfl rfl rfl) XR GR bR hr2 (by rfl) (pv 2))) pss_nil)
      (pss_one (ps_fld (pv 0) (pe_callBK (cr_sortedBy G_line hr3 b_line) (by rfl) hsorted (by decide +kernel) (pa_cons (pe_lc (own := [("rule", 3)]) (g := gName 3) (tt := tYes) rfl nd (pi_or (pi_list (pv 1)) (pi_tup (pv 1))) (blkOk_by (N := ["self", "rules", "index", "rule"]) (sc := defScope s_binit) (by decide +kernel)) (fun _ _ _ _ _ => pg_name (i := 3) nd rfl (Or.inl rfl)) (fun _ _ _ _ _ => pts_nil) (fun _ _ _ _ _ => pe_callTy (r := rTup K) call_tuple_of (by rfl) T.tuple PyProof.Rows.boot_tuple (pa_cons (pv 3) pa_nil))) pa_nil) (pk_cons (pe_glob (v := .ref fl) rfl F_line.g rfl) pk_nil)) rfl)))), ?_⟩
    refine ⟨_, rfl, v, d, rfl, hd.ex eD, by omega, fun H1 e1 => ?_⟩
    refine ⟨_, rfl, rfl, _, rfl, ?_⟩
    by_cases hf : faultV d = .non
    · refine ite_ff (by rw [decide_eq_true hf]; rfl) ?_
      have hrw : isRow d = true := by
        unfold faultV at hf
        by_cases c : isRow d = true
        · exact c
        · rw [if_neg c] at hf
          cases hf
      have hfa : faultAt (items d) 0 [] false false = none := by
        unfold faultV at hf
        rw [if_pos hrw] at hf
        cases c : faultAt (items d) 0 [] false false with
        | none => rfl
        | some i =>
          rw [c] at hf
          cases hf
      have hru := fault_rules hfa
      obtain ⟨a, xs, rfl, hrow, hall⟩ := hd.row hrw
      have e1D : Ex (del H p) H1 := eD.trans e1
      have hlen := hall.len
      unfold tNext sFld tCKw tCons tNil
      dsimp only
      refine lc_tuples (i := 1) (j := 3) (σ := [some (.ref p), some (.ref a), some (faultV d), none]) rfl (hrow.ex e1D) (hall.ex e1D) hru (by omega) (fun _ => rfl) (fun _ => rfl) (fun Dd H2 qs nD e2 hD hR hm => ?_)
      have smq : ∀ q ∈ qs, q.2.Sml := fun q hq => by
        have m : q.2 ∈ (items d).map rlOf := by
          rw [← hm]
          exact List.mem_map.mpr ⟨q, hq, rfl⟩
        obtain ⟨e, he, z⟩ := List.mem_map.mp m
        rw [← z]
        exact hsm e he (hru e he)
      refine ⟨Dd, qs.map fun q => (V.ref q.1, q.2.line), rfl, rfl, SqL.of (by rw [hD, List.map_map]; rfl), fun p' hp' H' e' Q' kk => ?_, fun L H3 nL e3 hL => ?_⟩
      · obtain ⟨q, hq, rfl⟩ := List.mem_map.mp hp'
        exact ⟨q.1, q.2, rfl, .inr (e' _ _ (hR q hq)), smq q hq, fun H'' e'' => kk H'' e''⟩
      have hp3 : H3 p = some (.ins C dx []) := e3 _ _ (e2 _ _ (e1 _ _ hp))
      have nLp : L ≠ p := fun z => by
        rw [z, e2 _ _ (e1 _ _ hp)] at nL
        cases nL
      refine ⟨_, rfl, p, C, dx, [], rfl, hp3, cl, nA, (by show 0 < 1000; decide), ?_⟩
      refine k2 hf (upd H3 p (.ins C dx (putF "_rules" (.ref L) []))) (fun b o e => ?_) ⟨dx, L, qs.mergeSort (dataLe false fun q => PyData.str q.2.line), by rw [upd_same]; rfl, ?_, fun q hq => ?_, ?_⟩ ?_
      · have nb : b ≠ p := fun z => by
          rw [z, del_same] at e
          cases e
        rw [upd_ne nb]
        rw [del_ne nb] at e
        exact e3 _ _ (e2 _ _ (e1 _ _ e))
      · rw [upd_ne nLp, hL]
        have z := ms_map (fun q : Addr × Rl => (V.ref q.1, q.2.line)) (fun p : V × Str => PyData.str p.2) qs
        rw [← z, List.map_map]
        rfl
      · have z := e3 _ _ (hR q ((List.mergeSort_perm _ _).mem_iff.mp hq))
        have nq : q.1 ≠ p := fun w => by
          rw [w, hp3] at z
          cases z
        rw [upd_ne nq]
        exact z
      · have z := ms_map (fun q : Addr × Rl => q.2) (fun r : Rl => PyData.str r.line) qs
        rw [z, hm]
        rfl
      · intro dx' L' z
        rw [upd_same] at z
        have z := congrArg (fun o => match o with
          | some (HO.ins _ _ [(_, V.ref b)]) => b
          | _ => L) z
        have z : L = L' := z
        rw [← z]
        exact Evl.fresh_back (e1.trans e2) nL
    · refine ite_tt (by rw [decide_eq_false hf]; rfl) ?_
      exact ⟨_, rfl, raise1 (k1 hf H1 e1)⟩
end
end Ts


set_option Elab.async false
set_option linter.all false
set_option maxRecDepth 100000
set_option maxHeartbeats 4000000
namespace Ts
open PySem PySem.Spec L2
open PySem.W (dataLe)
open Evl (Ex)
/-- the class of books -/
structure BkC (K : PySem.W.Frag) (mg : Str → Option Value) (C fI fR : Addr) : Prop where
  cl : Cls K C
  ha : PySem.W.findIn K (.ref C) "__class__" = some (some (.builtin "object.__class__"))
  hn : PySem.W.specialIn K (.builtin "object.__class__") "__get__" = some (some (.builtin "getset_descriptor.__get__"))
  htk : PySem.W.takesIn K (.builtin "object.__class__") = some true
  hm : PySem.W.mroIn K C (.type "object") = some true
  me : PySem.W.kitOne K (.ref C) (.ref C) = some true
  nA : NoAttr K C "_rules"
  gC : mg "Book" = some (.ref C)
  no : ∀ d : PyData, PySem.W.kitOne K (.type (tyD d)) (.ref C) = some false
  made : Mk K C fI
  mR : Meth K C "rules" fR
section
variable {P : Program} {w : World} {K : PySem.W.Frag} {mg : Str → Option Value} {base : Heap}
abbrev s_brules : Stmt := inClass (top 17) 1
theorem sc_brules : FnScope ["self"] ["self"] (defScope s_brules) := ⟨rfl, rfl, rfl, by decide +kernel, rfl, by decide +kernel, by decide +kernel⟩
def spBrules (C : Addr) : Sp := fun vs H Q _ => ∃ p rs, vs = [.ref p] ∧ BookAt C H p rs ∧ ∀ (L : Addr) H' (qs : List (Addr × Rl)), H L = none → Ex H H' → H' L = some (.lst (qs.map fun q => V.ref q.1)) → RulesAt H' qs → qs.map (·.2) = rs → Q (.ref L) H'
theorem ok_brules {f fI fR C : Addr} {fd : FuncData} (F : Fun K "rules" "Book.rules" s_brules f fd) (B : BkC K mg C fI fR) (T : Bl mg) : FnOk P w K mg base CX0 1 f fd ["self"] (spBrules C) := by
  refine F.ok sc_brules (fun vs H Q E h => ?_) (fun cdv A outer s H vs Q E hr h => ?_)
  · obtain ⟨p, rs, rfl, _⟩ := h
    rfl
  · obtain ⟨p, rs, rfl, ⟨dx, L, qs, hp, hL, hR, hm⟩, k⟩ := h
    refine ⟨_, pss_one (ps_ret (pe_callTy call_list_of (by rfl) T.list PyProof.Rows.boot_list (pa_cons (pe_fld (pv 0) rfl) pa_nil))), ?_⟩
    refine ⟨_, rfl, p, C, dx, _, _, rfl, hp, B.cl, B.nA, rfl, L, _, rfl, .inl (SqL.of hL), fun l nl => ?_⟩
    have e := Ex.new (o := .lst (qs.map fun q => V.ref q.1)) nl
    exact k l _ qs nl e upd_same (fun q hq => e _ _ (hR q hq)) hm
end
end Ts


set_option Elab.async false
set_option linter.all false
set_option maxRecDepth 100000
set_option maxHeartbeats 4000000
namespace Ts
open PySem PySem.Spec L2
open Evl (Ex)
/-- the turns of a walk, whatever a turn does -/
theorem it_gen {J : It} {n : Nat} {G : Hp → Prop} {Y : Nat → Hp → V → Hp → Prop} (w : Walk J n G Y) {H0 : Hp} {Qd : Hp → Prop} {T : (Hp → Prop) → V → Hp → Prop} (Pv : Nat → Hp → Prop) (h0 : Pv 0 H0) (hG : ∀ i H, i ≤ n → Pv i H → G H)
    (hs : ∀ i x H H', i < n → Pv i H → Y i H x H' → T (Pv (i + 1)) x H') (hd : ∀ H, Pv n H → Qd H) :
    ∃ W : Nat → Nat → Hp → Prop, (∃ m, W 0 m H0) ∧ ∀ i m H, W i m H → (J.stop i H ∧ Qd H) ∨ (J.go i H ∧ ∃ Nx : Hp → Prop, (∀ H', Nx H' → ∃ m', m' < m ∧ W (i + 1) m' H') ∧ ∀ x H', J.yld i H x H' → T Nx x H') := by
  refine ⟨fun i m H => m = n - i ∧ i ≤ n ∧ Pv i H, ⟨n, by simp, Nat.zero_le _, h0⟩, ?_⟩
  rintro i m H ⟨rfl, hi, p⟩
  have q := hG i H hi p
  by_cases hlt : i < n
  · exact .inr ⟨w.goes i H hlt q, Pv (i + 1), fun H' p' => ⟨n - (i + 1), by omega, rfl, hlt, p'⟩, fun x H' y => hs i x H H' hlt p (w.yields i H x H' hlt q y)⟩
  · have e : i = n := by omega
    subst e
    exact .inl ⟨w.stops H q, hd H p⟩
theorem yes_of {σ : L2.St} {H : Hp} {A B : Hp → Prop} (a : A H) : tYes σ H fun b H3 => if b = true then A H3 else B H3 := by
  unfold tYes
  dsimp only
  rw [if_pos rfl]
  exact a
theorem gn1 {i : Nat} {x : V} {σ : L2.St} {H : Hp} {K : L2.St → Hp → Prop} (h : K (σ.set i (some x)) H) : gName i x σ H K := h
theorem sFld1 {K : PySem.W.Frag} {ta tv : TE} {f : Str} {D : Ends} {σ : L2.St} {H : Hp} (h : tv σ H fun y H1 => ta σ H1 fun x H2 => ∃ a C dx fs, x = .ref a ∧ H2 a = some (.ins C dx fs) ∧ Cls K C ∧ NoAttr K C f ∧ fs.length < 1000 ∧ D.nx σ (upd H2 a (.ins C dx (putF f y fs)))) : sFld K ta tv f D σ H := h
theorem seq1 {t u : TS} {D : Ends} {σ : L2.St} {H : Hp} (h : t { D with nx := u D } σ H) : tSeq t u D σ H := h
theorem asg1 {t : TE} {g : TG} {D : Ends} {σ : L2.St} {H : Hp} (h : t σ H (fun x H1 => g x σ H1 D.nx)) : tAsg t g D σ H := h
theorem next1 {D : Ends} {σ : L2.St} {H : Hp} (h : D.nx σ H) : tNext D σ H := h
theorem tcons1 {t : TE} {σ : L2.St} {H : Hp} {Q : List V → Hp → Prop} (h : t σ H (fun x H1 => Q [x] H1)) : tCons t tNil σ H Q := h
section
variable {P : Program} {w : World} {K : PySem.W.Frag} {mg : Str → Option Value} {base : Heap}
abbrev s_need_below := top 19
theorem sc_need_below : FnScope ["many", "thing"] ["many", "thing"] (defScope s_need_below) := ⟨rfl, rfl, rfl, by decide +kernel, rfl, by decide +kernel, by decide +kernel⟩
def isBelow (m : Int) : PyData → Bool
  | .int i => decide (0 ≤ i) && decide (i < m)
  | _ => false
def spBelowN (C : Addr) : Sp := fun vs H Q E => ∃ m v d, vs = [.int m, v] ∧ D H v d ∧ (isBelow m d = true → ∀ H', Ex H H' → Q .non H') ∧ (isBelow m d = false → ∀ H', Ex H H' → Raised H' "thing" v C E)
theorem ok_need_below {f f1 C g : Addr} {fd fd1 fi : FuncData} (F : FD K mg "need_below" "need_below" s_need_below f fd) (F1 : FD K mg "is_number" "is_number" s_is_number f1 fd1) (G1 : FnOk P w K mg base CX0 2 f1 fd1 ["thing"] (spAsk isNum))
    (X : XC K mg "BadNumber" "thing" C g) (GI : FnOk P w K mg base CX0 1 g fi ["self", "thing"] (spIni C "thing")) (bI : Binds K fi ["self", "thing"] []) : FnOk P w K mg base (L2.CX P w) 3 f fd ["many", "thing"] (spBelowN C) := by
  refine F.F.okX sc_need_below (fun vs H Q E h => ?_) (fun cdv A outer s H vs Q E hr h => ?_)
  · obtain ⟨m, v, d, rfl, _⟩ := h
    rfl
  · obtain ⟨m, v, d, rfl, hd, k1, k2⟩ := h
    refine ⟨_, pss_one (ps_if (PW.pt (pw_or (pt_not (pt_val (pe_call G1 hr (by rfl) F1.g F1.F.kp (b_is_number F1) .nil pass0 (pa_cons (pv 1) pa_nil)))) (pw_or1 (pt_cmpR op_ge (pv 1) (pv 0) (nomark _))))) (pss_one (ps_raise1 rfl (takes_of rfl rfl rfl rfl) X GI bI hr (by rfl) (pv 1))) pss_nil), ?_⟩
    refine ⟨_, rfl, v, d, rfl, hd, fun H1 e1 => ⟨_, rfl, ?_⟩⟩
    by_cases hp : isNum d = true
    · rw [hp]
      cases hd <;> first
        | cases hp
        | skip
      rename_i i
      have i0 : 0 ≤ i := of_decide_eq_true hp
      refine iteF ⟨_, rfl, _, rfl, _, _, rfl, rfl, _, rfl, ?_⟩
      by_cases c : i < m
      · refine ite_ff (decide_eq_false (by show ¬ (m ≤ i); omega)) ?_
        exact k1 (by show (decide (0 ≤ i) && decide (i < m)) = true; rw [decide_eq_true i0, decide_eq_true c]; rfl) H1 e1
      · refine ite_tt (decide_eq_true (by show m ≤ i; omega)) ?_
        exact ⟨_, rfl, raise1 (k2 (by show (decide (0 ≤ i) && decide (i < m)) = false; rw [decide_eq_false c]; simp) H1 e1)⟩
    · have hf : isNum d = false := by simpa using hp
      rw [hf]
      refine iteT ⟨_, rfl, raise1 (k2 ?_ H1 e1)⟩
      cases d with
      | int i =>
        have z : decide (0 ≤ i) = false := hf
        show (decide (0 ≤ i) && decide (i < m)) = false
        rw [z]
        rfl
      | _ => rfl
end
end Ts


set_option Elab.async false
set_option linter.all false
set_option maxRecDepth 100000
set_option maxHeartbeats 4000000
namespace Ts
open PySem PySem.Spec L2
open Evl (Ex)
/-! ## the spring of draws -/
/-- a heap without two objects that change -/
def off (a c : Addr) (H : Hp) : Hp := fun b => if b = a ∨ b = c then none else H b
theorem off_of {a c b : Addr} {H : Hp} {o : HO} (h : off a c H b = some o) : H b = some o := by
  unfold off at h
  split at h
  · cases h
  · exact h
theorem off_ne {a c b : Addr} {H : Hp} (h1 : b ≠ a) (h2 : b ≠ c) : off a c H b = H b := if_neg (fun z => z.elim h1 h2)
theorem off_ex {a c : Addr} {H : Hp} : Ex (off a c H) H := fun _ _ h => off_of h
theorem Ex.offs {a c : Addr} {H H' : Hp} (e : Ex H H') : Ex (off a c H) (off a c H') := fun b o h => by
  unfold off at h ⊢
  split at h
  · cases h
  · rename_i n
    rw [if_neg n]
    exact e _ _ h
/-- a change of one of the two -/
theorem off_upd {a c p : Addr} {H : Hp} {o : HO} (h : p = a ∨ p = c) : off a c (upd H p o) = off a c H := by
  funext b
  unfold off
  split
  · rfl
  · rename_i n
    exact upd_ne fun z => n (z ▸ h)
structure Strm (H : Hp) (a c : Addr) (n : Int) : Prop where
  h : ∃ (cells : List Int) (s1 s3 : Int), H a = some (.lst [.ref c, .int s1, .int n, .int s3]) ∧ H c = some (.lst (cells.map V.int)) ∧ 0 ≤ s1 ∧ 0 ≤ s3 ∧ s3 < 2147483647
  ne : a ≠ c
  n0 : 0 ≤ n
theorem Strm.ex {H H' : Hp} {a c : Addr} {n : Int} (e : Ex H H') (h : Strm H a c n) : Strm H' a c n := by
  obtain ⟨⟨cells, s1, s3, h1, h2, r⟩, ne, n0⟩ := h
  exact ⟨⟨cells, s1, s3, e _ _ h1, e _ _ h2, r⟩, ne, n0⟩
theorem while_then {c : TT} {tb : TS} {D : Ends} {σ : L2.St} {H : Hp} (Pv Pn : L2.St → Hp → Prop) (μ : L2.St → Hp → Nat) (h0 : Pv σ H)
    (mono : ∀ σ H Q Q', (∀ b H1, Q b H1 → Q' b H1) → c σ H Q → c σ H Q')
    (hs : ∀ σ H, Pv σ H → c σ H fun b H1 => if b = true then tb { D with nx := fun σ' H' => Pv σ' H' ∧ μ σ' H' < μ σ H, ct := fun σ' H' => Pv σ' H' ∧ μ σ' H' < μ σ H, bk := D.nx } σ H1 else Pn σ H1)
    (fin : ∀ σ H, Pn σ H → D.nx σ H) : tWhile c tb D σ H :=
  while_by Pv μ h0 (fun σ H p => mono σ H _ _ (fun b H1 q => by
    cases b with
    | true => exact q
    | false => exact iteF (fin _ _ (by simpa using q))) (hs σ H p)) mono
theorem dp_ints {K : PySem.W.Frag} {H : Hp} : ∀ ns : List Int, DpAll K H (ns.map V.int) (ns.map PyData.int)
  | [] => .nil
  | n :: r => .cons (.int n) (dp_ints r)
theorem lay_ints : ∀ ns : List Int, PyData.canLayAll0 (ns.map PyData.int) = true
  | [] => by simp only [List.map_nil, PyData.canLayAll0]
  | n :: r => by
    rw [List.map_cons]
    simp only [PyData.canLayAll0, PyData.canLay0, lay_ints r, Bool.and_true]
theorem depth_ints : ∀ ns : List Int, PyData.depthAll (ns.map PyData.int) ≤ 1
  | [] => by simp [PyData.depthAll]
  | n :: r => by
    have := depth_ints r
    rw [List.map_cons]
    simp only [PyData.depthAll, PyData.depth]
    omega
theorem shaped_ints (ns : List Int) : SeqAt.shaped (.list (ns.map PyData.int)) = true := by
  have h := depth_ints ns
  refine Bool.and_eq_true_iff.mpr ⟨?_, decide_eq_true ?_⟩
  · simp only [PyData.canLay0, lay_ints]
  · simp only [PyData.depth]
    omega
theorem eqv_nil (ns : List Int) : PyData.eqv (.list (ns.map PyData.int)) (.list []) = ns.isEmpty := by
  cases ns <;> simp [PyData.eqv, PyData.eqvAll]
section
variable {P : Program} {w : World} {K : PySem.W.Frag} {mg : Str → Option Value} {base : Heap}
abbrev s_draw := top 28
theorem sc_draw : FnScope ["stream", "many", "cell", "digit", "mixed"] ["stream", "many"] (defScope s_draw) := ⟨rfl, rfl, rfl, by decide +kernel, rfl, by decide +kernel, by decide +kernel⟩
def spDraw : Sp := fun vs H Q _ => ∃ a c n m, vs = [.ref a, .int m] ∧ Strm H a c n ∧ 1 ≤ m ∧ m < 2 ^ 60 ∧ n < 2 ^ 40 ∧ ∀ H' r, Ex (off a c H) (off a c H') → Strm H' a c (n + 1) → 0 ≤ r → r < m → Q (.int r) H'
theorem ok_draw {f : Addr} {fd : FuncData} (F : FD K mg "_law_draw" "_law_draw" s_draw f fd) (T : Bl mg) : FnOk P w K mg base CX0 1 f fd ["stream", "many"] spDraw := by
  refine F.F.ok sc_draw (fun vs H Q E h => ?_) (fun cdv A outer s H vs Q E hr h => ?_)
  · obtain ⟨a, c, n, m, rfl, _⟩ := h
    rfl
  · obtain ⟨a, c, n, m, rfl, ⟨⟨cells, s1, s3, ha, hc, s10, s30, s31⟩, ne, n0⟩, m1, m2, n1, k⟩ := h
    have nd := sc_draw.nd
    refine ⟨_, pss_cons (ps_asg (pe_op op_add (pe_ix ix_list (pv 0) pe_int (fun _ _ => rfl)) pe_int) (pg_sub (pv 0) pe_int set_list))
      (pss_cons (ps_while PassesOwn.never (PW.pt (pw_and (pt_cmpR op_eq (pe_ix ix_list (pv 0) pe_int (fun _ _ => rfl)) pe_int (nomark _)) (pw_and1 (pt_cmpR (op_neD hr.units) (pe_ix ix_list (pv 0) pe_int (fun _ _ => rfl)) (pe_lst pa_nil) (nomark _)))))
          (pss_cons (ps_set (i := 2) nd rfl (Or.inl rfl) (pe_bm PySem.F.plainAttrs_list PySem.F.slot_list_pop PySem.F.type_list_pop mt_popAt (pe_ix ix_list (pv 0) pe_int (fun _ _ => rfl)) (pa_cons pe_int pa_nil)))
          (pss_cons (ps_asg (pe_op op_mod (pe_callTy call_int1 (by rfl) T.int (by decide +kernel) (pa_cons (pe_op op_add (pe_op op_add (pe_op op_mul (pe_ix ix_list (pv 0) pe_int (fun _ _ => rfl)) pe_int) (pv 2)) pe_int) pa_nil)) pe_int) (pg_sub (pv 0) pe_int set_list))
          (pss_one (ps_asg (pe_ifExp (pt_cmpR op_ge (pv 2) (pe_op op_pow pe_int pe_int) (nomark _)) (pv 2) pe_int) (pg_sub (pv 0) pe_int set_list))))))
      (pss_cons (ps_if (pt_cmpR op_gt (pe_ix ix_list (pv 0) pe_int (fun _ _ => rfl)) pe_int (nomark _))
          (pss_cons (ps_set (i := 3) nd rfl (Or.inl rfl) (pe_op op_mod (pe_callTy call_int1 (by rfl) T.int (by decide +kernel) (pa_cons (pe_ix ix_list (pv 0) pe_int (fun _ _ => rfl)) pa_nil)) (pv 1)))
          (pss_cons (ps_asg (pe_op op_fdivW (pe_ix ix_list (pv 0) pe_int (fun _ _ => rfl)) (pv 1)) (pg_sub (pv 0) pe_int set_list))
          (pss_one (ps_ret (pv 3))))) pss_nil)
      (pss_cons (ps_set (i := 4) nd rfl (Or.inl rfl) (pe_op op_mod (pe_callTy call_int1 (by rfl) T.int (by decide +kernel) (pa_cons (pe_op op_pow (pe_op op_add (pe_op op_add (pe_ix ix_list (pv 0) pe_int (fun _ _ => rfl)) (pe_op op_mul pe_int (pe_ix ix_list (pv 0) pe_int (fun _ _ => rfl)))) pe_int) pe_int) pa_nil)) pe_int))
      (pss_one (ps_ret (pe_op op_mod (pe_op op_mod (pe_callTy call_int1 (by rfl) T.int (by decide +kernel) (pa_cons (pe_op op_pow (pe_op op_add (pe_op op_add (pe_op op_mul (pv 4) pe_int) (pe_op op_mul pe_int (pe_ix ix_list (pv 0) pe_int (fun _ _ => rfl)))) pe_int) pe_int) pa_nil)) pe_int) (pv 1))))))), ?_⟩
    refine ⟨_, rfl, a, _, 2, _, rfl, rfl, SqL.of ha, atI_nat (j := 2) rfl, _, _, rfl, rfl, _, rfl, a, _, 2, 2, rfl, rfl, ha, rfl, ?_⟩
    let Pv : L2.St → Hp → Prop := fun σ H' => ∃ (cells : List Int) (s1 s3 : Int) (v2 : Option V), σ = [some (.ref a), some (.int m), v2, none, none] ∧ H' a = some (.lst [.ref c, .int s1, .int (n + 1), .int s3]) ∧ H' c = some (.lst (cells.map V.int)) ∧ 0 ≤ s1 ∧ 0 ≤ s3 ∧ s3 < 2147483647 ∧ Ex (off a c H) (off a c H')
    refine while_then Pv Pv (fun _ H' => match H' c with | some (.lst xs) => xs.length | _ => 0)
      ⟨cells, s1, s3, none, rfl, upd_same, by rw [upd_ne (Ne.symm ne)]; exact hc, s10, s30, s31, by rw [off_upd (.inl rfl)]; exact Ex.refl _⟩ ?_ ?_ ?_
    · rintro σ H2 q q' hq ⟨v, h1, p, xs, i, v2, h2, h3, h4, h5, h6, b1, h7, h8⟩
      refine ⟨v, h1, p, xs, i, v2, h2, h3, h4, h5, h6, b1, h7, ?_⟩
      cases b1 with
      | false => exact iteF (hq _ _ (by simpa using h8))
      | true =>
        rw [if_pos rfl] at h8
        obtain ⟨v, g1, p, xs, i, v2, g2, g3, g4, g5, g6, g7⟩ := h8
        refine iteT ⟨v, g1, p, xs, i, v2, g2, g3, g4, g5, g6, fun q nq => ?_⟩
        obtain ⟨d, e, x1, x2, x3, x4, b, x5, x6⟩ := g7 q nq
        exact ⟨d, e, x1, x2, x3, x4, b, x5, hq _ _ x6⟩
    · rintro σ H2 ⟨cells, s1, s3, v2, rfl, ha, hc, s10, s30, s31, e2⟩
      refine ⟨_, rfl, a, _, 1, _, rfl, rfl, SqL.of ha, atI_nat (j := 1) rfl, rfl, _, rfl, ?_⟩
      rw [dec_z]
      by_cases hz : s1 = 0
      · rw [decide_eq_true hz]
        refine iteT ⟨_, rfl, a, _, 0, _, rfl, rfl, SqL.of ha, atI_nat (j := 0) rfl, Nat.zero_le _, fun q nq => ?_⟩
        have eq := Ex.new (o := .lst []) nq
        refine ⟨_, _, .lst (SqL.of (eq _ _ hc)) (dp_ints cells), .lst (SqL.of upd_same) .nil, shaped_ints cells, shaped_ints [], _, rfl, ?_⟩
        rw [eqv_nil]
        have na : a ≠ q := ne_of_none ha nq
        have nc : c ≠ q := ne_of_none hc nq
        have eo : Ex (off a c H) (off a c (upd H2 q (.lst []))) := e2.trans (Ex.offs eq)
        cases cells with
        | nil => exact iteF ⟨[], s1, s3, v2, rfl, eq _ _ ha, eq _ _ hc, s10, s30, s31, eo⟩
        | cons z rest =>
          refine iteT ?_
          refine ⟨_, rfl, a, _, 0, _, rfl, rfl, SqL.of (eq _ _ ha), atI_nat (j := 0) rfl, .inl ⟨rfl, _, SqL.of (eq _ _ hc)⟩, c, _, 0, 0, .int z, rfl, rfl, eq _ _ hc, by decide, by decide, by simp [seqIndex?], rfl, ?_⟩
          have ha3 : upd (upd H2 q (.lst [])) c (.lst ((V.int z :: rest.map V.int).eraseIdx 0)) a = some (.lst [.ref c, .int s1, .int (n + 1), .int s3]) := by
            rw [upd_ne ne]
            exact eq _ _ ha
          refine ⟨_, rfl, a, _, 3, _, rfl, rfl, SqL.of ha3, atI_nat (j := 3) rfl, _, _, rfl, rfl, .inl ⟨by omega, by omega⟩, _, rfl, _, _, rfl, rfl, _, _, rfl, rfl, .inl ⟨_, rfl, ?_⟩⟩
          refine ⟨_, _, rfl, rfl, (by show (0 : Int) < 2147483647; decide), _, rfl, a, _, 3, 3, rfl, rfl, ha3, rfl, ?_⟩
          have last : ∀ (t : Int) (H3 : Hp), 0 ≤ t → H3 a = some (.lst [.ref c, .int t, .int (n + 1), .int ((s3 * 8191 + z + 3) % 2147483647)]) → H3 c = some (.lst (rest.map V.int)) → Ex (off a c H) (off a c H3) →
              Pv [some (.ref a), some (.int m), some (.int z), none, none] H3 ∧ (match H3 c with | some (.lst xs) => xs.length | _ => 0) < (match H2 c with | some (.lst xs) => xs.length | _ => 0) := fun t H3 t0 h1 h2 h3 => by
            refine ⟨⟨rest, t, _, _, rfl, h1, h2, t0, Int.emod_nonneg _ (by decide), Int.emod_lt_of_pos _ (by decide), h3⟩, ?_⟩
            rw [h2, hc]
            simp
          refine ⟨_, rfl, _, _, rfl, rfl, ⟨by decide, by decide, by decide⟩, _, _, rfl, rfl, _, rfl, ?_⟩
          have oe : ∀ (x y u : HO), Ex (off a c H) (off a c (upd (upd (upd (upd H2 q (.lst [])) c x) a y) a u)) := fun x y u => by
            rw [off_upd (.inl rfl), off_upd (.inl rfl), off_upd (.inr rfl)]
            exact eo
          have ce : ∀ (y u : HO), upd (upd (upd (upd H2 q (.lst [])) c (.lst ((V.int z :: rest.map V.int).eraseIdx 0))) a y) a u c = some (.lst (rest.map V.int)) := fun y u => by
            rw [upd_ne (Ne.symm ne), upd_ne (Ne.symm ne), upd_same]
            rfl
          cases hd : decide ((10 : Int) ^ (18 : Int).toNat ≤ z) with
          | true =>
            have hz18 := of_decide_eq_true hd
            refine iteT ⟨_, rfl, _, rfl, a, _, 1, 1, rfl, rfl, upd_same, rfl, ?_⟩
            exact last z _ (Int.le_trans (by decide) hz18) upd_same (ce _ _) (oe _ _ _)
          | false =>
            refine iteF ⟨_, rfl, a, _, 1, 1, rfl, rfl, upd_same, rfl, ?_⟩
            exact last 0 _ (Int.le_refl _) upd_same (ce _ _) (oe _ _ _)
      · rw [decide_eq_false hz]
        exact iteF ⟨cells, s1, s3, v2, rfl, ha, hc, s10, s30, s31, e2⟩
    · rintro σ H2 ⟨cells, s1, s3, v2, rfl, ha, hc, s10, s30, s31, e2⟩
      refine ⟨_, rfl, a, _, 1, _, rfl, rfl, SqL.of ha, atI_nat (j := 1) rfl, _, _, rfl, rfl, _, rfl, ?_⟩
      by_cases hp : 0 < s1
      · rw [decide_eq_true hp]
        refine iteT ⟨_, rfl, a, _, 1, _, rfl, rfl, SqL.of ha, atI_nat (j := 1) rfl, .inl ⟨_, rfl, ?_⟩⟩
        have r0 : 0 ≤ s1 % m := Int.emod_nonneg _ (by omega)
        have r1 : s1 % m < m := Int.emod_lt_of_pos _ (by omega)
        refine ⟨_, rfl, _, _, rfl, rfl, (by show (0 : Int) < m; omega), ?_⟩
        refine ⟨_, rfl, a, _, 1, _, rfl, rfl, SqL.of ha, atI_nat (j := 1) rfl, _, rfl, _, _, rfl, rfl, wide_div (b := 64) (by omega) (by omega) (by decide) (by decide), _, rfl, a, _, 1, 1, rfl, rfl, ha, rfl, ?_⟩
        refine ⟨_, rfl, k _ _ ?_ ⟨⟨cells, s1 / m, s3, upd_same, by rw [upd_ne (Ne.symm ne)]; exact hc, Int.ediv_nonneg (by omega) (by omega), s30, s31⟩, ne, by omega⟩ r0 r1⟩
        rw [off_upd (.inl rfl)]
        exact e2
      · rw [decide_eq_false hp]
        refine iteF ?_
        refine ⟨_, rfl, a, _, 3, _, rfl, rfl, SqL.of ha, atI_nat (j := 3) rfl, _, rfl, a, _, 2, _, rfl, rfl, SqL.of ha, atI_nat (j := 2) rfl, _, _, rfl, rfl, .inl ⟨by omega, by omega⟩, _, _, rfl, rfl, _, _, rfl, rfl, _, _, rfl, rfl, ⟨by decide, by decide, by omega⟩, .inl ⟨_, rfl, ?_⟩⟩
        refine ⟨_, _, rfl, rfl, (by show (0 : Int) < 2147483629; decide), ?_⟩
        have d0 : 0 ≤ (s3 + 7919 * (n + 1) + 104729) ^ (5 : Int).toNat % 2147483629 := Int.emod_nonneg _ (by decide)
        have d1 : (s3 + 7919 * (n + 1) + 104729) ^ (5 : Int).toNat % 2147483629 < 2147483629 := Int.emod_lt_of_pos _ (by decide)
        generalize (s3 + 7919 * (n + 1) + 104729) ^ (5 : Int).toNat % 2147483629 = mx at d0 d1
        refine ⟨_, rfl, _, _, rfl, rfl, .inl ⟨by omega, by omega⟩, _, rfl, a, _, 2, _, rfl, rfl, SqL.of ha, atI_nat (j := 2) rfl, _, _, rfl, rfl, .inl ⟨by omega, by omega⟩, _, _, rfl, rfl, _, _, rfl, rfl, _, _, rfl, rfl, ⟨by decide, by decide, by omega⟩, .inl ⟨_, rfl, ?_⟩⟩
        refine ⟨_, _, rfl, rfl, (by show (0 : Int) < 1000000007; decide), _, rfl, _, _, rfl, rfl, (by show (0 : Int) < m; omega), ?_⟩
        exact k _ _ e2 ⟨⟨cells, s1, s3, ha, hc, s10, s30, s31⟩, ne, by omega⟩ (Int.emod_nonneg _ (by omega)) (Int.emod_lt_of_pos _ (by omega))
end
end Ts


set_option Elab.async false
set_option linter.all false
set_option maxRecDepth 100000
set_option maxHeartbeats 4000000
namespace Ts
open PySem PySem.Spec L2
open Evl (Ex)
section
variable {P : Program} {w : World} {K : PySem.W.Frag} {mg : Str → Option Value} {base : Heap}
abbrev s_start := top 27
theorem sc_start : FnScope ["script"] ["script"] (defScope s_start) := ⟨rfl, rfl, rfl, by decide +kernel, rfl, by decide +kernel, by decide +kernel⟩
def spStart (K : PySem.W.Frag) : Sp := fun vs H Q _ => ∃ (s : Addr) (ns : List Int), vs = [.ref s] ∧ SqL K H s (ns.map V.int) ∧ ∀ a c H', H a = none → H c = none → Strm H' a c 0 → Ex H H' → Q (.ref a) H'
theorem ok_start {f : Addr} {fd : FuncData} (F : FD K mg "_law_start" "_law_start" s_start f fd) (T : Bl mg) : FnOk P w K mg base CX0 1 f fd ["script"] (spStart K) := by
  refine F.F.ok sc_start (fun vs H Q E h => ?_) (fun cdv A outer s H vs Q E hr h => ?_)
  · obtain ⟨s, ns, rfl, _⟩ := h
    rfl
  · obtain ⟨s, ns, rfl, hs, k⟩ := h
    refine ⟨_, pss_one (ps_ret (pe_lst (pa_cons (pe_callTy call_list_of (by rfl) T.list PyProof.Rows.boot_list (pa_cons (pv 0) pa_nil)) (pa_cons pe_int (pa_cons pe_int (pa_cons pe_int pa_nil)))))), ?_⟩
    refine ⟨_, rfl, s, _, rfl, .inl hs, fun c nc => ⟨by show 4 ≤ sizeLine; decide, fun a na => ?_⟩⟩
    have e1 := Ex.new (o := .lst (ns.map V.int)) nc
    have e2 := Ex.new (o := .lst [.ref c, .int 0, .int 0, .int 11]) na
    have ne : a ≠ c := fun z => by
      rw [z, upd_same] at na
      cases na
    exact k a c _ (Evl.fresh_back e1 na) nc ⟨⟨ns, 0, 11, upd_same, e2 _ _ upd_same, by decide, by decide, by decide⟩, ne, by decide⟩ (e1.trans e2)
end
end Ts


set_option Elab.async false
set_option linter.all false
set_option maxRecDepth 100000
set_option maxHeartbeats 4000000
namespace Ts
open PySem PySem.Spec L2
open Evl (Ex)
theorem off_upd_ne {a c p : Addr} {H : Hp} {o : HO} (h1 : p ≠ a) (h2 : p ≠ c) : off a c (upd H p o) = upd (off a c H) p o := by
  funext b
  by_cases hb : b = p
  · subst hb
    rw [upd_same, off_ne h1 h2, upd_same]
  · rw [upd_ne hb]
    unfold off
    split
    · rfl
    · exact upd_ne hb
theorem off_none {a c p : Addr} {H : Hp} (h : H p = none) : off a c H p = none := by
  unfold off
  split
  · rfl
  · exact h
theorem Strm.nea {H : Hp} {a c : Addr} {n : Int} (h : Strm H a c n) {p : Addr} (hp : H p = none) : p ≠ a ∧ p ≠ c := by
  obtain ⟨⟨cells, s1, s3, h1, h2, _⟩, _, _⟩ := h
  exact ⟨fun z => (by rw [z, h1] at hp; cases hp), fun z => (by rw [z, h2] at hp; cases hp)⟩
theorem Strm.upd {H : Hp} {a c p : Addr} {n : Int} {o : HO} (h : Strm H a c n) (h1 : p ≠ a) (h2 : p ≠ c) : Strm (L2.upd H p o) a c n := by
  obtain ⟨⟨cells, s1, s3, g1, g2, r⟩, ne, n0⟩ := h
  exact ⟨⟨cells, s1, s3, by rw [upd_ne (Ne.symm h1)]; exact g1, by rw [upd_ne (Ne.symm h2)]; exact g2, r⟩, ne, n0⟩
theorem DAll.app {H : Hp} : ∀ {xs ys : List V} {ds es : List PyData}, DAll H xs ds → DAll H ys es → DAll H (xs ++ ys) (ds ++ es)
  | _, _, _, _, .nil, h => h
  | _, _, _, _, .cons h r, h2 => .cons h (DAll.app r h2)
section
variable {P : Program} {w : World} {K : PySem.W.Frag} {mg : Str → Option Value} {base : Heap}
theorem b_draw {f : Addr} {fd : FuncData} (F : FD K mg "_law_draw" "_law_draw" s_draw f fd) : Binds K fd ["stream", "many"] [] := F.F.binds fun _ _ _ _ _ _ us hl => match us, hl with | [_, _], _ => rfl
end
end Ts


set_option Elab.async false
set_option linter.all false
set_option maxRecDepth 100000
set_option maxHeartbeats 4000000
namespace Ts
open PySem PySem.Spec L2
open Evl (Ex)
/-- containers not too deep, not too long -/
def okD : Nat → PyData → Bool
  | _, .none => true
  | _, .bool _ => true
  | _, .int _ => true
  | _, .str _ => true
  | 0, _ => false
  | k + 1, .list l => decide (l.length ≤ 90000) && l.all (okD k)
  | k + 1, .tuple l => decide (l.length ≤ 90000) && l.all (okD k)
  | k + 1, .dict l => decide (l.length ≤ 10) && okD k (.list (l.map fun p => .tuple [p.1, p.2]))
def isTy (n : String) (d : PyData) : Bool := decide (tyD d = n)
theorem kit_list {K : PySem.W.Frag} (d : PyData) : PySem.W.kitOne K (.type (tyD d)) (.type "list") = some (isTy "list" d) := by cases d <;> first | rfl | decide +kernel
theorem kit_tuple {K : PySem.W.Frag} (d : PyData) : PySem.W.kitOne K (.type (tyD d)) (.type "tuple") = some (isTy "tuple" d) := by cases d <;> first | rfl | decide +kernel
theorem kit_dict {K : PySem.W.Frag} (d : PyData) : PySem.W.kitOne K (.type (tyD d)) (.type "dict") = some (isTy "dict" d) := by cases d <;> first | rfl | decide +kernel
def isIB : PyData → Bool
  | .int _ => true | .bool _ => true | _ => false
def isB : PyData → Bool
  | .bool _ => true | _ => false
theorem kit_ib {K : PySem.W.Frag} (d : PyData) : PySem.W.kitOne K (.type (tyD d)) (.type "int") = some (isIB d) := by cases d <;> first | rfl | decide +kernel
theorem kit_b {K : PySem.W.Frag} (d : PyData) : PySem.W.kitOne K (.type (tyD d)) (.type "bool") = some (isB d) := by cases d <;> first | rfl | decide +kernel
def is4 : PyData → Bool
  | .none => false | .str _ => false | _ => true
theorem kit_4 {K : PySem.W.Frag} (d : PyData) : PySem.W.kitAny K (.type (tyD d)) [.type "int", .type "list", .type "tuple", .type "dict"] = some (is4 d) := by cases d <;> first | rfl | decide +kernel
theorem walk_zipT {K : PySem.W.Frag} {a b : Addr} {xs ys : List V} {n : Nat} (hn : n = min xs.length ys.length) : Walk (RZ.ItzT K a b) n (fun H => SqT K H a xs ∧ SqT K H b ys) (YPair (fun i => xs[i]?) (fun i => ys[i]?)) := by
  subst hn
  refine ⟨fun i H hi g => ⟨xs, ys, xs[i]'(by omega), ys[i]'(by omega), g.1, g.2, List.getElem?_eq_getElem _, List.getElem?_eq_getElem _⟩, fun H g => ⟨xs, ys, g.1, g.2, by omega⟩, fun i H v H' hi g z => ?_⟩
  obtain ⟨T, u, v', e1, e2, e3, e4, e5⟩ := z
  exact ⟨T, u, v', e1, e2, e3, e4 _ g.1, e5 _ g.2⟩
theorem tcb1 {r : List V → Hp → VK → Prop} {t : TE} {σ : L2.St} {H : Hp} {Q : VK} (h : t σ H (fun x H1 => r [x] H1 Q)) : tCB r (tCons t tNil) σ H Q := h
/-- a pure comprehension, whatever it walks: J is what its iterable gives -/
theorem lc_any {wi : TI} {J : It} {n : Nat} {G : Hp → Prop} {Y : Nat → Hp → V → Hp → Prop} (w : Walk J n G Y) {g : TG} {te : TE} {vs : List Nat} {σ : L2.St} {H H1 : Hp} {out : Nat → V} {Q : VK} (hw : ∀ R : It → Hp → Prop, R J H1 → wi σ H R) (hz : n ≤ sizeLine)
    (hG : ∀ H, Ex H1 H → G H)
    (hs : ∀ i x H H', i < n → Ex H1 H → Y i H x H' → Ex H H' ∧ g x (wipe σ vs) H' fun σ2 H2 => wipe σ2 vs = wipe σ vs ∧ Ex H' H2 ∧ ∀ q : VK, (∀ H4, Ex H2 H4 → q (out i) H4) → te σ2 H2 q)
    (hgm : ∀ (x : V) (H : Hp) (q q' : L2.St → Hp → Prop), (∀ σ2 H2, q σ2 H2 → q' σ2 H2) → g x (wipe σ vs) H q → g x (wipe σ vs) H q')
    (hq : ∀ D Hf, H1 D = none → Ex H1 Hf → Hf D = some (.lst ((List.range n).map out)) → Q (.ref D) Hf) : tLc wi g tYes te vs σ H Q :=
  hw _ (lc_pure w hz hG hs hgm hq)
theorem dkv_tuples {H : Hp} : ∀ {ts : List Addr} {kvs : List (Key × V)} {ds : List (PyData × PyData)}, Paired (fun (t : Addr) (q : Key × V) => H t = some (.tup [kV q.1, q.2])) ts kvs → DKv H kvs ds → DAll H (ts.map V.ref) (ds.map fun p => .tuple [p.1, p.2])
  | [], [], ds, .nil, h2 => by
    cases h2
    exact .nil
  | _ :: _, (k, v) :: _, ds, .cons h r, h2 => by
    cases h2 with
    | cons hv t =>
      refine .cons (.tup h (.cons ?_ (.cons hv .nil))) (dkv_tuples r t)
      cases k with
      | inl n => exact .int n
      | inr x => exact .str x
theorem bl_same (q : Bool) : (!decide (V.bl q = V.bl q)) = false := by simp
section
variable {P : Program} {w : World} {K : PySem.W.Frag} {mg : Str → Option Value} {base : Heap}
abbrev s_same := top 30
theorem sc_same : FnScope ["found", "due", "x", "y"] ["found", "due"] (defScope s_same) := ⟨rfl, rfl, rfl, by decide +kernel, rfl, by decide +kernel, by decide +kernel⟩
/-- like things are told to be like -/
def spSame : Nat → Sp
  | 0 => fun _ _ _ _ => False
  | k + 1 => fun vs H Q _ => ∃ x y d, vs = [x, y] ∧ D H x d ∧ D H y d ∧ okD k d = true ∧ ∀ H', Ex H H' → Q (.bl true) H'
theorem ok_same {f : Addr} {fd : FuncData} (F : FD K mg "_law_same" "_law_same" s_same f fd) (T : Bl mg) : ∀ k, FnOk P w K mg base CX0 k f fd ["found", "due"] (spSame k)
  | 0 => ⟨fun _ _ _ _ h => h.elim, fun _ _ _ _ _ _ _ _ _ _ _ _ _ h => h.elim⟩
  | k + 1 => by
    have G0 := ok_same F T k
    have b0 : Binds K fd ["found", "due"] [] := F.F.binds fun _ _ _ _ _ _ us hl => match us, hl with | [_, _], _ => rfl
    refine F.F.ok sc_same (fun vs H Q E h => ?_) (fun cdv A outer s H vs Q E hr h => ?_)
    · obtain ⟨x, y, d, rfl, _⟩ := h
      rfl
    · obtain ⟨x, y, d, rfl, hx, hy, hok, kq⟩ := h
      have nd := sc_same.nd
      refine ⟨_, pss_cons (ps_if (pt_val (pe_callB call_isiT (by rfl) T.isinstance (by decide +kernel) (pa_cons (pv 1) (pa_cons (pe_tup (pa_cons (pe_bltn (v := .ty "list") (by rfl) T.list (by decide +kernel) rfl) (pa_cons (pe_bltn (v := .ty "tuple") (by rfl) T.tuple (by decide +kernel) rfl) pa_nil))) pa_nil))))
        (pss_cons (ps_if (PW.pt (pw_or (pt_cmpR op_ne (pe_callB call_isi (by rfl) T.isinstance (by decide +kernel) (pa_cons (pv 0) (pa_cons (pe_bltn (v := .ty "list") (by rfl) T.list (by decide +kernel) rfl) pa_nil))) (pe_callB call_isi (by rfl) T.isinstance (by decide +kernel) (pa_cons (pv 1) (pa_cons (pe_bltn (v := .ty "list") (by rfl) T.list (by decide +kernel) rfl) pa_nil))) (nomark _)) (pw_or1 (pt_cmpR op_ne (pe_callB call_isi (by rfl) T.isinstance (by decide +kernel) (pa_cons (pv 0) (pa_cons (pe_bltn (v := .ty "tuple") (by rfl) T.tuple (by decide +kernel) rfl) pa_nil))) (pe_callB call_isi (by rfl) T.isinstance (by decide +kernel) (pa_cons (pv 1) (pa_cons (pe_bltn (v := .ty "tuple") (by rfl) T.tuple (by decide +kernel) rfl) pa_nil))) (nomark _))))) (pss_one (ps_ret pe_bl)) pss_nil)
        (pss_one (ps_ret (pe_and (pe_cmpR op_eq (pe_callB call_len_seq (by rfl) T.len PySem.boot_len (pa_cons (pv 0) pa_nil)) (pe_callB call_len_seq (by rfl) T.len PySem.boot_len (pa_cons (pv 1) pa_nil)) (nomark _)) (pe_one (pe_callB (cr_all rfl) (by rfl) T.all (by decide +kernel) (pa_cons (pe_lc (own := [("x", 2), ("y", 3)]) (g := gTup K 2 (gCons (gName 2) (gCons (gName 3) gNil))) (tt := tYes) rfl nd (RZ.pi_zipA (by rfl) T.zip (pa_cons (pv 0) (pa_cons (pv 1) pa_nil))) (blkOk_by (N := ["found", "due", "x", "y"]) (sc := defScope s_same) (by decide +kernel))
          (fun _ _ _ _ _ => pg_tup rfl (pgs_cons (pg_name (i := 2) nd rfl (Or.inl rfl)) (pgs_cons (pg_name (i := 3) nd rfl (Or.inl rfl)) pgs_nil))) (fun _ _ _ _ _ => pts_nil) (fun _ _ _ _ _ => (pe_call G0 hr (by rfl) F.g F.F.kp b0 .nil pass0 (pa_cons (pv 2) (pa_cons (pv 3) pa_nil))))) pa_nil))))))) pss_nil)
      (pss_cons (ps_if (pt_val (pe_callB call_isi (by rfl) T.isinstance (by decide +kernel) (pa_cons (pv 1) (pa_cons (pe_bltn (v := .ty "dict") (by rfl) T.dict (by decide +kernel) rfl) pa_nil)))) (pss_one (ps_ret (pe_and (pe_callB call_isi (by rfl) T.isinstance (by decide +kernel) (pa_cons (pv 0) (pa_cons (pe_bltn (v := .ty "dict") (by rfl) T.dict (by decide +kernel) rfl) pa_nil))) (pe_one (pe_call G0 hr (by rfl) F.g F.F.kp b0 .nil pass0 (pa_cons (LiI.pe_listItems rfl (pv 0) (by rfl) T.list PyProof.Rows.boot_list) (pa_cons (LiI.pe_listItems rfl (pv 1) (by rfl) T.list PyProof.Rows.boot_list) pa_nil))))))) pss_nil)
      (pss_cons (ps_if (pt_val (pe_callB call_isi (by rfl) T.isinstance (by decide +kernel) (pa_cons (pv 1) (pa_cons (pe_bltn (v := .ty "int") (by rfl) T.int (by decide +kernel) rfl) pa_nil)))) (pss_one (ps_ret (pe_and (pe_callB call_isi (by rfl) T.isinstance (by decide +kernel) (pa_cons (pv 0) (pa_cons (pe_bltn (v := .ty "int") (by rfl) T.int (by decide +kernel) rfl) pa_nil))) (pe_and (pe_cmpR op_eq (pe_callB call_isi (by rfl) T.isinstance (by decide +kernel) (pa_cons (pv 0) (pa_cons (pe_bltn (v := .ty "bool") (by rfl) T.bool (by decide +kernel) rfl) pa_nil))) (pe_callB call_isi (by rfl) T.isinstance (by decide +kernel) (pa_cons (pv 1) (pa_cons (pe_bltn (v := .ty "bool") (by rfl) T.bool (by decide +kernel) rfl) pa_nil))) (nomark _)) (pe_one (pe_cmpR op_eq (pv 0) (pv 1) (nomark _))))))) pss_nil)
      (pss_one (ps_ret (pe_and (pe_not (pe_callB call_isiT (by rfl) T.isinstance (by decide +kernel) (pa_cons (pv 0) (pa_cons (pe_tup (pa_cons (pe_bltn (v := .ty "int") (by rfl) T.int (by decide +kernel) rfl) (pa_cons (pe_bltn (v := .ty "list") (by rfl) T.list (by decide +kernel) rfl) (pa_cons (pe_bltn (v := .ty "tuple") (by rfl) T.tuple (by decide +kernel) rfl) (pa_cons (pe_bltn (v := .ty "dict") (by rfl) T.dict (by decide +kernel) rfl) pa_nil))))) pa_nil)))) (pe_one (pe_cmpR op_eq (pv 0) (pv 1) (nomark _)))))))), ?_⟩
      refine ⟨_, rfl, by show 2 ≤ sizeLine; decide, fun p np => ⟨_, p, _, _, _, _, rfl, upd_same, .cons (.ty "list") (.cons (.ty "tuple") .nil), (hy.ex (Ex.new np)).ty, kit_row d, _, rfl, ?_⟩⟩
      have ep := Ex.new (o := .tup [.ty "list", .ty "tuple"]) np
      generalize hP : upd H p (.tup [.ty "list", .ty "tuple"]) = Hp at ep
      cases hy with
      | @lst b ys ds hb hys =>
        cases hx with
        | @lst a xs _ ha hxs =>
          cases k with
          | zero => cases hok
          | succ k =>
            obtain ⟨hl, hal⟩ := Bool.and_eq_true_iff.mp (show (decide (ds.length ≤ 90000) && ds.all (okD k)) = true from hok)
            have hl := of_decide_eq_true hl
            refine iteT ?_
            have hxp := (D.lst ha hxs).ex ep
            have hyp := (D.lst hb hys).ex ep
            refine ⟨_, rfl, _, _, _, _, _, rfl, .ty "list", hxp.ty, kit_list _, _, rfl, _, _, _, _, _, rfl, .ty "list", hyp.ty, kit_list _, rfl, _, rfl, ?_⟩
            refine ite_ff (bl_same _) ?_
            refine ⟨_, rfl, _, _, _, _, _, rfl, .ty "tuple", hxp.ty, kit_tuple _, _, rfl, _, _, _, _, _, rfl, .ty "tuple", hyp.ty, kit_tuple _, rfl, _, rfl, ?_⟩
            refine ite_ff (bl_same _) ?_
            refine ⟨_, rfl, a, xs, rfl, .inl (SqL.of (ep _ _ ha)), _, rfl, b, ys, rfl, .inl (SqL.of (ep _ _ hb)), rfl, _, rfl, ?_⟩
            refine ite_tt (by rw [hxs.len, hys.len]; exact decide_eq_true rfl) ?_
            refine tcb1 ?_
            refine lc_any (J := Itz K a b) (H1 := Hp) (out := fun _ => V.bl true) (walk_zip (xs := xs) (ys := ys) (n := ds.length) (by rw [hxs.len, hys.len, Nat.min_self])) (fun R r => ⟨_, rfl, _, rfl, a, b, xs, ys, rfl, Or.inl ⟨SqL.of (ep _ _ ha), SqL.of (ep _ _ hb), r⟩⟩) (Evl.sz_of (by omega)) (fun H' e => ⟨SqL.of (e _ _ (ep _ _ ha)), SqL.of (e _ _ (ep _ _ hb))⟩) (fun i z H1 H2 hi e yy => ?_) (fun z H1 q q' h zz => ?_) (fun Dd Hf hD e hl' => ?_)
            · obtain ⟨Tp, u, v, rfl, nT, rfl, hu, hv⟩ := yy
              have eT := Ex.new (o := .tup [u, v]) nT
              refine ⟨eT, Tp, _, rfl, SqT.of upd_same, rfl, _, _, rfl, _, _, rfl, rfl, rfl, Ex.refl _, fun q hq => ?_⟩
              obtain ⟨du, hdu, Du⟩ := hxs.get hu
              obtain ⟨dv, hdv, Dv⟩ := hys.get hv
              rw [hdu] at hdv
              cases hdv
              have e3 := (ep.trans e).trans eT
              exact ⟨_, rfl, _, rfl, u, v, du, rfl, Du.ex e3, Dv.ex e3, List.all_eq_true.mp hal du (List.mem_of_getElem? hdu), hq⟩
            · obtain ⟨a1, xs1, r1, r2, r3, v1, r4, r5, v2, r7, r8, r9, r10⟩ := zz
              exact ⟨a1, xs1, r1, r2, r3, v1, r4, r5, v2, r7, r8, r9, h _ _ r10⟩
            · refine ⟨Dd, List.replicate ds.length true, rfl, SqL.of ?_, ?_⟩
              · rw [hl', List.map_replicate, List.map_const', List.length_range]
              · have et : (List.replicate ds.length true).all id = true := List.all_eq_true.mpr fun z hz => List.eq_of_mem_replicate hz
                rw [et]
                exact kq _ (ep.trans e)
      | @tup b ys ds hb hys =>
        cases hx with
        | @tup a xs _ ha hxs =>
          cases k with
          | zero => cases hok
          | succ k =>
            obtain ⟨hl, hal⟩ := Bool.and_eq_true_iff.mp (show (decide (ds.length ≤ 90000) && ds.all (okD k)) = true from hok)
            have hl := of_decide_eq_true hl
            refine iteT ?_
            have hxp := (D.tup ha hxs).ex ep
            have hyp := (D.tup hb hys).ex ep
            refine ⟨_, rfl, _, _, _, _, _, rfl, .ty "list", hxp.ty, kit_list _, _, rfl, _, _, _, _, _, rfl, .ty "list", hyp.ty, kit_list _, rfl, _, rfl, ?_⟩
            refine ite_ff (bl_same _) ?_
            refine ⟨_, rfl, _, _, _, _, _, rfl, .ty "tuple", hxp.ty, kit_tuple _, _, rfl, _, _, _, _, _, rfl, .ty "tuple", hyp.ty, kit_tuple _, rfl, _, rfl, ?_⟩
            refine ite_ff (bl_same _) ?_
            refine ⟨_, rfl, a, xs, rfl, .inr (SqT.of (ep _ _ ha)), _, rfl, b, ys, rfl, .inr (SqT.of (ep _ _ hb)), rfl, _, rfl, ?_⟩
            refine ite_tt (by rw [hxs.len, hys.len]; exact decide_eq_true rfl) ?_
            refine tcb1 ?_
            refine lc_any (J := RZ.ItzT K a b) (H1 := Hp) (out := fun _ => V.bl true) (walk_zipT (xs := xs) (ys := ys) (n := ds.length) (by rw [hxs.len, hys.len, Nat.min_self])) (fun R r => ⟨_, rfl, _, rfl, a, b, xs, ys, rfl, Or.inr ⟨SqT.of (ep _ _ ha), SqT.of (ep _ _ hb), r⟩⟩) (Evl.sz_of (by omega)) (fun H' e => ⟨SqT.of (e _ _ (ep _ _ ha)), SqT.of (e _ _ (ep _ _ hb))⟩) (fun i z H1 H2 hi e yy => ?_) (fun z H1 q q' h zz => ?_) (fun Dd Hf hD e hl' => ?_)
            · obtain ⟨Tp, u, v, rfl, nT, rfl, hu, hv⟩ := yy
              have eT := Ex.new (o := .tup [u, v]) nT
              refine ⟨eT, Tp, _, rfl, SqT.of upd_same, rfl, _, _, rfl, _, _, rfl, rfl, rfl, Ex.refl _, fun q hq => ?_⟩
              obtain ⟨du, hdu, Du⟩ := hxs.get hu
              obtain ⟨dv, hdv, Dv⟩ := hys.get hv
              rw [hdu] at hdv
              cases hdv
              have e3 := (ep.trans e).trans eT
              exact ⟨_, rfl, _, rfl, u, v, du, rfl, Du.ex e3, Dv.ex e3, List.all_eq_true.mp hal du (List.mem_of_getElem? hdu), hq⟩
            · obtain ⟨a1, xs1, r1, r2, r3, v1, r4, r5, v2, r7, r8, r9, r10⟩ := zz
              exact ⟨a1, xs1, r1, r2, r3, v1, r4, r5, v2, r7, r8, r9, h _ _ r10⟩
            · refine ⟨Dd, List.replicate ds.length true, rfl, SqL.of ?_, ?_⟩
              · rw [hl', List.map_replicate, List.map_const', List.length_range]
              · have et : (List.replicate ds.length true).all id = true := List.all_eq_true.mpr fun z hz => List.eq_of_mem_replicate hz
                rw [et]
                exact kq _ (ep.trans e)
      | non =>
        cases hx
        refine iteF ?_
        refine ⟨_, rfl, _, _, _, _, _, rfl, .ty "dict", (D.non).ty, kit_dict _, _, rfl, ?_⟩
        refine ite_ff (by show decide ("NoneType" = "dict") = false; decide) ?_
        refine ⟨_, rfl, _, _, _, _, _, rfl, .ty "int", (D.non).ty, kit_ib _, _, rfl, ?_⟩
        refine ite_ff rfl ?_
        refine ⟨_, rfl, by show 4 ≤ sizeLine; decide, fun p2 np2 => ⟨_, p2, _, _, _, _, rfl, upd_same, .cons (.ty "int") (.cons (.ty "list") (.cons (.ty "tuple") (.cons (.ty "dict") .nil))), (D.non).ty, kit_4 _, ?_⟩⟩
        refine ⟨_, rfl, _, rfl, iteT ⟨_, rfl, _, rfl, rfl, ?_⟩⟩
        rw [decide_eq_true rfl]
        exact kq _ (ep.trans (Ex.new np2))
      | bl b =>
        cases hx
        refine iteF ?_
        refine ⟨_, rfl, _, _, _, _, _, rfl, .ty "dict", (D.bl b).ty, kit_dict _, _, rfl, ?_⟩
        refine ite_ff (by show decide ("NoneType" = "dict") = false; decide) ?_
        refine ⟨_, rfl, _, _, _, _, _, rfl, .ty "int", (D.bl b).ty, kit_ib _, _, rfl, ?_⟩
        refine ite_tt rfl ?_
        refine ⟨_, rfl, _, _, _, _, _, rfl, .ty "int", (D.bl b).ty, kit_ib _, _, rfl, iteT ?_⟩
        refine ⟨_, rfl, _, _, _, _, _, rfl, .ty "bool", (D.bl b).ty, kit_b _, _, rfl, _, _, _, _, _, rfl, .ty "bool", (D.bl b).ty, kit_b _, rfl, _, rfl, ?_⟩
        refine ite_tt (decide_eq_true rfl) ⟨_, rfl, _, rfl, rfl, ?_⟩
        rw [decide_eq_true rfl]
        exact kq _ ep
      | int i =>
        cases hx
        refine iteF ?_
        refine ⟨_, rfl, _, _, _, _, _, rfl, .ty "dict", (D.int i).ty, kit_dict _, _, rfl, ?_⟩
        refine ite_ff (by show decide ("NoneType" = "dict") = false; decide) ?_
        refine ⟨_, rfl, _, _, _, _, _, rfl, .ty "int", (D.int i).ty, kit_ib _, _, rfl, ?_⟩
        refine ite_tt rfl ?_
        refine ⟨_, rfl, _, _, _, _, _, rfl, .ty "int", (D.int i).ty, kit_ib _, _, rfl, iteT ?_⟩
        refine ⟨_, rfl, _, _, _, _, _, rfl, .ty "bool", (D.int i).ty, kit_b _, _, rfl, _, _, _, _, _, rfl, .ty "bool", (D.int i).ty, kit_b _, rfl, _, rfl, ?_⟩
        refine ite_tt (decide_eq_true rfl) ⟨_, rfl, _, rfl, rfl, ?_⟩
        rw [decide_eq_true rfl]
        exact kq _ ep
      | str z =>
        cases hx
        refine iteF ?_
        refine ⟨_, rfl, _, _, _, _, _, rfl, .ty "dict", (D.str z).ty, kit_dict _, _, rfl, ?_⟩
        refine ite_ff (by show decide ("NoneType" = "dict") = false; decide) ?_
        refine ⟨_, rfl, _, _, _, _, _, rfl, .ty "int", (D.str z).ty, kit_ib _, _, rfl, ?_⟩
        refine ite_ff rfl ?_
        refine ⟨_, rfl, by show 4 ≤ sizeLine; decide, fun p2 np2 => ⟨_, p2, _, _, _, _, rfl, upd_same, .cons (.ty "int") (.cons (.ty "list") (.cons (.ty "tuple") (.cons (.ty "dict") .nil))), (D.str z).ty, kit_4 _, ?_⟩⟩
        refine ⟨_, rfl, _, rfl, iteT ⟨_, rfl, _, rfl, rfl, ?_⟩⟩
        rw [decide_eq_true rfl]
        exact kq _ (ep.trans (Ex.new np2))
      | @dic b kvs ds hb hkv =>
        cases hx with
        | @dic a kvs2 _ ha hkv2 =>
          cases k with
          | zero => cases hok
          | succ k =>
            obtain ⟨_, hal⟩ := Bool.and_eq_true_iff.mp (show (decide (ds.length ≤ 10) && okD k (.list (ds.map fun p => .tuple [p.1, p.2]))) = true from hok)
            have hxp := (D.dic ha hkv2).ex ep
            have hyp := (D.dic hb hkv).ex ep
            refine iteF ?_
            refine ⟨_, rfl, _, _, _, _, _, rfl, .ty "dict", hyp.ty, kit_dict _, _, rfl, ?_⟩
            refine ite_tt (decide_eq_true rfl) ?_
            refine ⟨_, rfl, _, _, _, _, _, rfl, .ty "dict", hxp.ty, kit_dict _, _, rfl, ?_⟩
            refine ite_tt (decide_eq_true rfl) ?_
            refine ⟨_, rfl, a, kvs2, rfl, ep _ _ ha, fun H1 p1 ts1 e1 np1 _ _ hl1 pr1 => ?_⟩
            refine ⟨_, rfl, b, kvs, rfl, e1 _ _ (ep _ _ hb), fun H2 p2 ts2 e2 np2 _ _ hl2 pr2 => ?_⟩
            have e01 : Ex H H1 := ep.trans e1
            have e02 : Ex H H2 := e01.trans e2
            refine ⟨.ref p1, .ref p2, .list (ds.map fun p => .tuple [p.1, p.2]), rfl, .ex e2 (.lst hl1 (dkv_tuples pr1 (hkv2.ex e01))), .lst hl2 (dkv_tuples pr2 (hkv.ex e02)), hal, fun H3 e3 => kq _ (e02.trans e3)⟩
end
end Ts


set_option Elab.async false
set_option linter.all false
set_option maxRecDepth 100000
set_option maxHeartbeats 4000000
namespace Ts
open PySem PySem.Spec L2
open Evl (Ex)
theorem perm_at {α : Type} : ∀ (l : List α) (i : Nat) (h : i < l.length), (l[i] :: l.eraseIdx i).Perm l
  | x :: l, 0, _ => List.Perm.refl _
  | x :: l, i + 1, h => (List.Perm.swap x (l[i]'(Nat.lt_of_succ_lt_succ h)) (l.eraseIdx i)).trans ((perm_at l i (Nat.lt_of_succ_lt_succ h)).cons x)
def rLenQ (K : PySem.W.Frag) : List V → Hp → VK → Prop := fun xs H Q => ∃ p ys, xs = [V.ref p] ∧ (SqL K H p ys ∨ SqT K H p ys) ∧ Q (.int (ys.length : Nat)) H
section
variable {P : Program} {w : World} {K : PySem.W.Frag} {mg : Str → Option Value} {base : Heap}
abbrev s_mixed := top 29
theorem sc_mixed : FnScope ["stream", "some", "left", "k"] ["stream", "some"] (defScope s_mixed) := ⟨rfl, rfl, rfl, by decide +kernel, rfl, by decide +kernel, by decide +kernel⟩
def spMixed : Sp := fun vs H Q _ => ∃ (a c b : Addr) (n : Int) (xs : List V), vs = [.ref a, .ref b] ∧ Strm H a c n ∧ off a c H b = some (.lst xs) ∧ xs.length ≤ 1000 ∧ n < 2 ^ 39 ∧
  ∀ H' M ys, H M = none → Ex (off a c H) (off a c H') → Strm H' a c (n + xs.length) → off a c H' M = some (.lst ys) → ys.Perm xs → Q (.ref M) H'
theorem ok_mixed {f f1 : Addr} {fd fd1 : FuncData} (F : FD K mg "_law_mixed" "_law_mixed" s_mixed f fd) (F1 : FD K mg "_law_draw" "_law_draw" s_draw f1 fd1) (T : Bl mg) : FnOk P w K mg base CX0 2 f fd ["stream", "some"] spMixed := by
  have G1 : FnOk P w K mg base CX0 1 f1 fd1 ["stream", "many"] spDraw := ok_draw F1 T
  refine F.F.ok sc_mixed (fun vs H Q E h => ?_) (fun cdv A outer s H vs Q E hr h => ?_)
  · obtain ⟨a, c, b, n, xs, rfl, _⟩ := h
    rfl
  · obtain ⟨a, c, b, n, xs, rfl, S, hb, l2, nz, k⟩ := h
    have nd := sc_mixed.nd
    refine ⟨_, (pss_cons (ps_set (i := 2) nd rfl (Or.inr rfl) (pe_callTy call_list_of (by rfl) T.list PyProof.Rows.boot_list (pa_cons (pv 1) pa_nil)))
      (pss_one (ps_ret (pe_lc (own := [("k", 3)]) (g := gName 3) (tt := tYes) rfl nd (pi_range1 (by rfl) T.range (pa_cons (pe_callB call_len_seq (by rfl) T.len PySem.boot_len (pa_cons (pv 2) pa_nil)) pa_nil)) (blkOk_by (N := ["stream", "some", "left", "k"]) (sc := defScope s_mixed) (by decide +kernel)) (fun _ _ _ _ _ => pg_name (i := 3) nd rfl (Or.inl rfl)) (fun _ _ _ _ _ => pts_nil) (fun _ _ _ _ _ => (show PE _ _ (tBM K "list" rPopAt (tVar 2) (tCons (tCall spDraw [] E0 (tCons (tVar 0) (tCons (tCB (rLenQ K) (tCons (tVar 2) tNil)) tNil))) tNil)) from (pe_bm PySem.F.plainAttrs_list PySem.F.slot_list_pop PySem.F.type_list_pop mt_popAt (pv 2) (pa_cons (pe_call G1 hr (by rfl) F1.g F1.F.kp (b_draw F1) .nil pass0 (pa_cons (pv 0) (pa_cons (pe_callB (r := rLenQ K) call_len_seq (by rfl) T.len PySem.boot_len (pa_cons (pv 2) pa_nil)) pa_nil))) pa_nil)))))))), ?_⟩
    refine ⟨_, rfl, b, _, rfl, .inl (SqL.of (off_of hb)), fun l nl => ?_⟩
    obtain ⟨la, lc⟩ := S.nea nl
    refine ⟨_, rfl, l, _, rfl, .inl (SqL.of upd_same), _, rfl, by omega, by omega, fun Dd nD => ?_⟩
    have S1 := S.upd (o := .lst xs) la lc
    have hl1 : upd H l (.lst xs) l = some (.lst xs) := upd_same
    have e1 : Ex (off a c H) (off a c (upd H l (.lst xs))) := Ex.offs (Ex.new nl)
    have nDl : Dd ≠ l := fun z => by
      rw [z, upd_same] at nD
      cases nD
    have DH : H Dd = none := by
      rw [upd_ne nDl] at nD
      exact nD
    have LH : off a c H l = none := by rw [off_ne la lc]; exact nl
    generalize upd H l (.lst xs) = H1 at *
    obtain ⟨Da, Dc⟩ := S1.nea nD
    refine it_gen (walk_range (lo := 0) (n := xs.length)) (fun i H' => ∃ acc rest, H' Dd = some (.lst acc) ∧ H' l = some (.lst rest) ∧ (acc ++ rest).Perm xs ∧ acc.length = i ∧ Strm H' a c (n + (i : Nat)) ∧ Ex (off a c H) (off a c H')) ⟨[], xs, upd_same, by rw [upd_ne nDl.symm]; exact hl1, List.Perm.refl _, rfl, by simpa using S1.upd Da Dc, ?_⟩ (fun _ _ _ _ => trivial) (fun i x H2 H3 hi q y => ?_) (fun H' q => ?_)
    · rw [off_upd_ne Da Dc]
      exact e1.mut (by rw [off_ne Da Dc]; exact DH)
    · obtain ⟨acc, rest, hD, hl, hp, hlen, S2, e2⟩ := q
      obtain ⟨eH, rfl⟩ := y
      subst eH
      have hpl := hp.length_eq
      rw [List.length_append] at hpl
      refine ⟨rfl, yes_of ?_⟩
      refine ⟨_, rfl, .inl ⟨rfl, _, SqL.of hl⟩, _, rfl, _, rfl, l, rest, rfl, .inl (SqL.of hl), a, c, n + (i : Nat), _, rfl, S2, by omega, ?_, ?_, fun H4 r e4 S4 r0 r1 => ?_⟩
      · have : (1000 : Int) < 2 ^ 60 := by decide
        omega
      · have : (2 : Int) ^ 39 + 1000 < 2 ^ 40 := by decide
        omega
      obtain ⟨m, rfl⟩ := Int.eq_ofNat_of_zero_le r0
      have hm : m < rest.length := by omega
      have at4 : ∀ z o, z ≠ a → z ≠ c → H3 z = some o → H4 z = some o := fun z o n1 n2 h => off_of (e4 _ _ (by rw [off_ne n1 n2]; exact h))
      have hl4 := at4 _ _ la lc hl
      have hD4 := at4 _ _ Da Dc hD
      refine ⟨l, rest, (m : Int), m, rest[m], rfl, rfl, hl4, by omega, by omega, seqIndex_of (by omega) (by omega), List.getElem?_eq_getElem hm, acc, by rw [upd_ne nDl]; exact hD4, by rw [hlen]; exact Nat.lt_of_lt_of_le (show i < 1001 by omega) (by decide), acc ++ [rest[m]], rest.eraseIdx m, upd_same, by rw [upd_ne nDl.symm, upd_same], ?_, by rw [List.length_append, hlen]; rfl, ?_, ?_⟩
      · rw [List.append_assoc]
        exact (List.Perm.append_left acc (perm_at rest m hm)).trans hp
      · have z := (S4.upd (o := .lst (rest.eraseIdx m)) la lc).upd (o := .lst (acc ++ [rest[m]])) Da Dc
        have ec : n + ((i + 1 : Nat) : Int) = n + (i : Nat) + 1 := by omega
        rw [ec]
        exact z
      · rw [off_upd_ne Da Dc, off_upd_ne la lc]
        exact ((e2.trans e4).mut LH).mut (by rw [off_ne Da Dc]; exact DH)
    · obtain ⟨acc, rest, hD, hl, hp, hlen, S2, e2⟩ := q
      have hpl := hp.length_eq
      rw [List.length_append] at hpl
      have hr0 : rest = [] := List.eq_nil_of_length_eq_zero (by omega)
      subst hr0
      rw [List.append_nil] at hp
      exact k H' Dd acc DH e2 S2 (by rw [off_ne Da Dc]; exact hD) hp
end
end Ts


set_option Elab.async false
set_option linter.all false
set_option maxRecDepth 100000
set_option maxHeartbeats 4000000
namespace Ts
open PySem PySem.Spec L2
open Evl (Ex)
section
variable {P : Program} {w : World} {K : PySem.W.Frag} {mg : Str → Option Value} {base : Heap}
/-- a def's body where no repr is under way -/
theorem okG {x q : Str} {st : Stmt} {f : Addr} {fd : FuncData} {N ps : List Str} {k : Nat} {sp : Sp} (F : Fun K x q st f fd) (S : FnScope N ps (defScope st)) (ln : ∀ vs H Q E, sp vs H Q E → vs.length = ps.length)
    (hb : ∀ (cdv : Value) (A : Around) (outer : List Env) (s : Shared) (H : Hp) (vs : List V) (Q : VK) (E : XK), A.guards = some [] → Room k (A.deeper (PyProof.Rows.envOfC q (defScope st) s.heap.objs.size f cdv)) → sp vs H Q E →
      ∃ t, PSs (cxOf CX0 P w K mg base N q (defScope st) f cdv A outer s H E).nox (defBody st) t ∧ t { nx := fun _ H' => Q .non H', rt := Q } (L2.start N vs) H) :
    GOk P w K mg base CX0 (k + 1) f fd ps sp := by
  obtain ⟨oc, od, kV, doc, pm, an, cdv, ct, osl, hfd, lk, hcd⟩ := F.ex
  subst hfd
  refine ⟨ln, fun A outer s H args us vs Q E hg hr e0 hbi hv hsp => LamX.run_ofS lk hcd S hr e0 hbi hv (ln _ _ _ _ hsp) fun hr' => ?_⟩
  obtain ⟨t, ht, q⟩ := hb cdv A outer s H vs Q E hg hr' hsp
  exact ⟨t, ht.nox, q⟩
end
section
variable {X : Cx} {k : Nat} {f : Addr} {fd : FuncData} {ps : List Str} {sp : Sp} {E : XK} {x : Str} {p pos : Pos} {e : Expr} {es : List Expr} {t : TA}
theorem pe_callG (F : GOk X.prog X.w X.K X.mg X.base CX0 k f fd ps sp) (hA : X.A.guards = some []) (hr : Room k X.A) (hg : Gl X x) (hm : X.mg x = some (.ref f)) (hk : PySem.W.keepIn X.K (.ref f) = true) (hb : Binds X.K fd ps [])
    (ha : PA X (e :: es) t) (hdb : (x == ("__debug__" : Str)) = false := by decide) (he : starEach (e :: es) X.env = (false, eval e X.env) :: starEach es X.env := by rfl) (hpl : (backTo pos (starEach es X.env)).any (·.1) = false := by rfl) :
    PE X (.Call (.Name x p) (e :: es) [] pos) (tCall sp [] E t) := by
  refine ⟨fun pins s σ H Q I h => wpAny_Call_Name_kw (ld_glob I hg hm ?_ hdb)⟩
  refine PySem.W.callWith_K (h₀ := X.base) I.ok.mod.kin hk (thn (ha.run pos pins s σ H _ I h) fun us s1 z => ?_) he hpl
  obtain ⟨vs, H1, I1, r, q⟩ := z
  have q : sp vs H1 Q E := by
    rw [List.append_nil] at q
    exact q
  have hl : (us ++ []).length = ps.length := by rw [List.append_nil, ← r.length]; exact F.ln _ _ _ _ q
  have hbi := hb s1 us I1.kIn hl
  rw [List.append_nil] at hbi
  refine ⟨I1.kIn, wpAny_call (codeAny_mono (F.go X.A X.stack s1 H1 ⟨us, []⟩ us vs Q E hA hr I1.env0 hbi r q) fun res s' hq => ?_)⟩
  rcases res with e | (u | u | u | u) <;> first
    | exact (show False from hq).elim
    | exact I1.after hq
end
/-! ## what stands while a law's def runs -/
structure Stt (a c : Addr) (n : Int) (R H : Hp) : Prop where
  s : Strm H a c n
  r : Ex R (off a c H)
theorem Stt.ex {a c : Addr} {n : Int} {R H H' : Hp} (t : Stt a c n R H) (e : Ex H H') : Stt a c n R H' := ⟨t.s.ex e, t.r.trans (Ex.offs e)⟩
theorem Stt.drawn {a c : Addr} {n n' : Int} {R H H' : Hp} (t : Stt a c n R H) (e : Ex (off a c H) (off a c H')) (s : Strm H' a c n') : Stt a c n' R H' := ⟨s, t.r.trans e⟩
theorem Stt.toH {a c : Addr} {n : Int} {R H : Hp} (t : Stt a c n R H) : Ex R H := t.r.trans off_ex
theorem Stt.no {a c : Addr} {n : Int} {R H : Hp} (t : Stt a c n R H) {z : Addr} (h : H z = none) : R z = none := Evl.fresh_back t.toH h
/-- what no one holds changes -/
theorem Stt.mut {a c z : Addr} {n : Int} {R H : Hp} {o : HO} (t : Stt a c n R H) (hz : R z = none) (h1 : z ≠ a) (h2 : z ≠ c) : Stt a c n R (upd H z o) :=
  ⟨t.s.upd h1 h2, by rw [off_upd_ne h1 h2]; exact t.r.mut hz⟩
/-- one more thing is held -/
theorem Stt.hold {a c z : Addr} {n : Int} {R H : Hp} {o : HO} (t : Stt a c n R H) (hz : H z = some o) (h1 : z ≠ a) (h2 : z ≠ c) : Stt a c n (upd R z o) H :=
  ⟨t.s, fun b u h => by
    by_cases hb : b = z
    · rw [hb, upd_same] at h
      rw [hb, off_ne h1 h2, hz]
      exact h
    · rw [upd_ne hb] at h
      exact t.r b u h⟩
theorem Ex.held {R : Hp} {z : Addr} {o : HO} (h : R z = none) : Ex R (upd R z o) := Ex.new h
end Ts


set_option Elab.async false
set_option linter.all false
set_option maxRecDepth 100000
set_option maxHeartbeats 4000000
namespace Ts
open PySem PySem.Spec L2
open Evl (Ex)
/-! ## several except clauses, with and without a name; nothing else may come -/
abbrev Suite := Addr → Value → Option Addr → TS
/-- the ends behind a suite whose name is let go -/
def lets (i : Nat) (D : Ends) : Ends := { nx := fun σ H => D.nx (σ.set i none) H, rt := D.rt, bk := fun σ H => D.bk (σ.set i none) H, ct := fun σ H => D.ct (σ.set i none) H }
def wClauses (K : PySem.W.Frag) (i : Nat) (D : Ends) : List (Value × Bool × Suite) → WX
  | [] => fun _ _ _ _ => False
  | (c, true, ts) :: r => fun cls d σ H => ∃ b, PySem.W.exmOne K cls c = some b ∧ (b = true → ∀ a, H a = none → i < σ.length → ts a cls d (lets i D) (σ.set i (some (.ref a))) H) ∧ (b = false → wClauses K i D r cls d σ H)
  | (c, false, ts) :: r => fun cls d σ H => ∃ b, PySem.W.exmOne K cls c = some b ∧ (b = true → ∀ a, H a = none → ts a cls d D σ H) ∧ (b = false → wClauses K i D r cls d σ H)
def SuiteOk (X : Cx) (st : List Stmt) (ts : Suite) : Prop := ∀ (a : Addr) (oe : Obj) (cls : Value) (d : Option Addr) (pn : List (Addr × Obj)), Zc cls d oe → (∃ vs, oe.data = .fields vs) → PSs (X.suite a ((a, oe) :: pn)) st (ts a cls d)
inductive Clauses (X : Cx) (n : Str) : List ExceptHandler → List (Value × Bool × Suite) → Prop
  | nil : Clauses X n [] []
  | as_ {x : Str} {c : Value} {ts : Suite} {b₀ : Stmt} {st : List Stmt} {np p : Pos} {hds : List ExceptHandler} {l : List (Value × Bool × Suite)} (hc : Names X x c) (hs : SuiteOk X (b₀ :: st) ts) (r : Clauses X n hds l) :
      Clauses X n (.ExceptHandler (some (.Name x np)) (some n) (b₀ :: st) p :: hds) ((c, true, ts) :: l)
  | bare {x : Str} {c : Value} {ts : Suite} {b₀ : Stmt} {st : List Stmt} {np p : Pos} {hds : List ExceptHandler} {l : List (Value × Bool × Suite)} (hc : Names X x c) (hs : SuiteOk X (b₀ :: st) ts) (r : Clauses X n hds l) :
      Clauses X n (.ExceptHandler (some (.Name x np)) none (b₀ :: st) p :: hds) ((c, false, ts) :: l)
section
variable {X : Cx} {n : Str} {i : Nat} {body : List Stmt} {h₀ : ExceptHandler} {hds : List ExceptHandler} {l : List (Value × Bool × Suite)} {pos : Pos} {tb : WX → TS}
theorem ps_clauses (hs : X.stack = X.env :: X.outer) (hf : X.env.frame = some X.env.locals) (hN : X.N.Nodup) (hi : X.N[i]? = some n) (hln : X.env.kindOf n = some .local)
    (hb : ∀ (W : WX) (pn : List (Addr × Obj)) (xe : Value → Shared → Prop), Takes (X.tr pn xe) W → PSs (X.tr pn xe) body (tb W))
    (hh : Clauses X n (h₀ :: hds) l) : L2.PS X (.Try body (h₀ :: hds) [] [] pos) (fun D σ H => tb (wClauses X.K i D l) D σ H) := by
  refine ⟨fun pins s σ H D I h => wpAny_Try_except ?_⟩
  have hfr : X.A.frames = some (X.env :: X.outer) := by rw [I.ok.frames, hs]
  have hloc : Loc X.env.scope n := .inl hln
  let now : Value → Shared → Prop := fun e s1 => wpAny (model X.prog X.w) X.A (noteFrame e X.env) (fun _ s2 => wpAny (model X.prog X.w) X.A (setFlight e none) (fun _ s3 => wpAny (model X.prog X.w) X.A (handleBy e X.env (h₀ :: hds)) (SP X pins D) X.xe s3) X.xe s2) X.xe s1
  have got : Takes (X.tr (X.pn ++ pins) now) (wClauses X.K i D l) := by
    intro u s' xx
    obtain ⟨a, B, sI, pins', σ', H', cls, d, rfl, J', nb, up, sky, na, os, ag, w⟩ := xx
    have J : Inv X pins σ' H' sI := J'.ofTry I.ok
    show wpAny (model X.prog X.w) X.A (noteFrame (.ref a) X.env) _ _ _
    refine Sky.land Zc.steady hfr hf (show Sky B (X.env :: X.outer) a (Zc cls d) X.env.locals s'.heap from hs ▸ sky) fun h3 fl up3 => ?_
    have J3 : Inv X pins σ' H' { s' with heap := h3 } := J.landed nb fl.1 (up.trans up3) os ag
    obtain ⟨oe, vs, he, hz, hd⟩ := fl.there
    have aside : a ∉ frs (X.env :: X.outer) := fun hm => by
      obtain ⟨_, o2, g1, g2⟩ := fl.2.2.1.mem hm
      rw [he] at g1
      cases g1
      exact g2 _ hd
    have nL : a ≠ X.env.locals := fun z => aside (List.mem_filterMap.mpr ⟨X.env, .head _, by rw [hf, z]⟩)
    have nF : a ∉ X.fs := fun hm => by
      obtain ⟨e, q1, q2⟩ := List.mem_filterMap.mp hm
      exact aside (List.mem_filterMap.mpr ⟨e, .tail _ q1, q2⟩)
    have S3 := J3.suite he hd na nL nF
    -- a clause's class, looked up
    have named : ∀ {x : Str} {c : Value} {np : Pos} {Q E : Value → Shared → Prop}, Names X x c → Q c { s' with heap := h3 } → wpAny (model X.prog X.w) (X.A.mark (some (.ref a))) (eval (.Name x np) X.env) Q E { s' with heap := h3 } := by
      intro x c np Q E hc q
      rcases hc with ⟨g, gd, g2 | ⟨g2, g3, g4⟩⟩
      · exact ld_glob (X := X.suite a ((a, oe) :: (X.pn ++ pins))) S3 g g2 q gd
      · exact ld_blt (X := X.suite a ((a, oe) :: (X.pn ++ pins))) S3 g g2 g3 q g4 gd
    have asks : ∀ {c : Value} {b : Bool}, PySem.W.exmOne X.K cls c = some b → _ := fun {c b} hb1 =>
      PySem.W.exm_one (M := model X.prog X.w) J3.kIn (fun A Q E s k q => wpAny_typeOf_ref (k _ _ he) (by rw [hz.1]; exact q)) hb1
    have turn : ∀ {hk : List ExceptHandler} {lk : List (Value × Bool × Suite)}, Clauses X n hk lk → wClauses X.K i D lk cls d σ' H' → wpAny (model X.prog X.w) X.A (handleBy (.ref a) X.env hk) (SP X pins D) X.xe { s' with heap := h3 } := by
      intro hk lk hc
      induction hc with
      | nil => exact fun w => w.elim
      | @as_ x c ts b₀ st np p hds2 l2 hc hsu r ih =>
        rintro ⟨b, hb1, yes, no⟩
        refine wpAny_handleBy_cons (codeAny_handlers_test ?_) (fun q => nomatch q)
        refine named hc ((asks hb1).here ?_)
        cases b with
        | false => exact ih (no rfl)
        | true =>
          refine codeAny_handlers_suite_as (HandSPX.lands_againZ fl fun h4 fl4 up4 => ?_)
          have J4 : Inv X pins σ' H' { s' with heap := h4 } := J.landed nb fl4.1 ((up.trans up3).trans up4) os ag
          obtain ⟨oe4, vs4, he4, hz4, hd4⟩ := fl4.there
          refine store_ok (X := X.suite a ((a, oe4) :: (X.pn ++ pins))) (v := .ref a) (J4.suite he4 hd4 na nL nF) hN hi hloc rfl (fun s5 S5 => ?_) (.inr hln)
          refine wpAny_mono ((hsu a oe4 cls d (X.pn ++ pins) hz4 ⟨_, hd4⟩).run [] s5 _ H' _ S5 (yes rfl a na (by rw [J.len]; exact (List.getElem?_eq_some_iff.mp hi).1))) (fun f s6 hsp => ?_) (fun _ _ z => z.elim)
          have fin : ∀ {σ6 : L2.St} {H6 : Hp} {Q : Shared → Prop}, Inv (X.suite a ((a, oe4) :: (X.pn ++ pins))) [] σ6 H6 s6 → (∀ s7, Inv X pins (σ6.set i none) H6 s7 → Q s7) →
              wpAny (model X.prog X.w) X.A (do bindName X.env n .none; unbindBehindTheSuite X.env n p) (fun _ s7 => Q s7) X.xe s6 := fun S6 hq => gone_ok (S6.unsuite I.ok) hN hi hln hq
          cases f <;> first
            | (obtain ⟨σ6, H6, S6, q6⟩ := hsp; exact fin S6 fun s7 J7 => ⟨_, _, J7, q6⟩)
            | (obtain ⟨v6, σ6, H6, S6, r6, q6⟩ := hsp; exact fin S6 fun s7 J7 => ⟨_, _, _, J7, r6, q6⟩)
      | @bare x c ts b₀ st np p hds2 l2 hc hsu r ih =>
        rintro ⟨b, hb1, yes, no⟩
        refine wpAny_handleBy_cons (codeAny_handlers_test ?_) (fun q => nomatch q)
        refine named hc ((asks hb1).here ?_)
        cases b with
        | false => exact ih (no rfl)
        | true =>
          refine codeAny_handlers_suite (HandSPX.lands_againZ fl fun h4 fl4 up4 => ?_)
          have J4 : Inv X pins σ' H' { s' with heap := h4 } := J.landed nb fl4.1 ((up.trans up3).trans up4) os ag
          obtain ⟨oe4, vs4, he4, hz4, hd4⟩ := fl4.there
          refine wpAny_mono ((hsu a oe4 cls d (X.pn ++ pins) hz4 ⟨_, hd4⟩).run [] _ _ H' _ (J4.suite he4 hd4 na nL nF) (yes rfl a na)) (fun f s6 hsp => ?_) (fun _ _ z => z.elim)
          cases f <;> first
            | (obtain ⟨σ6, H6, S6, q6⟩ := hsp; exact ⟨_, _, S6.unsuite I.ok, q6⟩)
            | (obtain ⟨v6, σ6, H6, S6, r6, q6⟩ := hsp; exact ⟨_, _, _, S6.unsuite I.ok, r6, q6⟩)
    exact turn hh w
  refine wpAny_mono ((hb (wClauses X.K i D l) (X.pn ++ pins) now got).run [] s σ H D (I.toTry _) h) (fun f s1 hsp => ?_) (fun e s1 he => he)
  cases f <;> first
    | (obtain ⟨σ', H', J', q⟩ := hsp; exact wpAny_execs_nil ⟨σ', H', J'.ofTry I.ok, q⟩)
    | (obtain ⟨σ', H', J', q⟩ := hsp; exact ⟨σ', H', J'.ofTry I.ok, q⟩)
    | (obtain ⟨v, σ', H', J', r, q⟩ := hsp; exact ⟨v, σ', H', J'.ofTry I.ok, r, q⟩)
end
end Ts


set_option Elab.async false
set_option linter.all false
set_option maxRecDepth 100000
set_option maxHeartbeats 4000000
namespace CmbK
open PySem PySem.Spec
open Sem (wp)
theorem mro_cmb : mroOf (.type "itertools.combinations") = pure [.type "itertools.combinations", .type "object"] := by rw [mroOf_type]; kernel_rfl
theorem lookup_cmb_new : typeLookup (.type "itertools.combinations") "__new__" = pure (some (.builtin "itertools.combinations.__new__")) := by rw [typeLookup_type, builtinLookup_eq_fast]; kernel_rfl
theorem slot_cmb_init : Slot "itertools.combinations" "__init__" "object.__init__" :=
  .of (owner := "object") (n := "__init__") (by rw [typeLookup_type, builtinLookup_eq_fast]; kernel_rfl) (by decide +kernel) (by decide +kernel) (by decide +kernel)
    (by first | exact .inl (by decide +kernel) | exact .inr (by decide +kernel)) (by rw [isSubtype_type]; kernel_rfl)
theorem sub_cmb : isSubtype (.type "itertools.combinations") (.type "itertools.combinations") = pure true := by rw [isSubtype_type]; kernel_rfl
theorem called_cmb : TypeCalled "itertools.combinations" "itertools.combinations.__new__" "object.__init__" :=
  ⟨by decide +kernel, by decide +kernel, ⟨_, _, mro_cmb⟩, madeBy_type mro_cmb lookup_cmb_new (by decide +kernel), by decide +kernel, sub_cmb, slot_cmb_init⟩
theorem typeCall_cmb_2 (a b : Value) : checkTypeCall "itertools.combinations" ⟨[a, b], []⟩ = pure () := by kernel_rfl
theorem newCall_cmb_2 (a b : Value) : checkBuiltinCall "itertools.combinations.__new__" ⟨[.type "itertools.combinations", a, b], []⟩ = pure () := by kernel_rfl
theorem entry_cmb_new : entryFor table "itertools.combinations.__new__" = some Builtin.«itertools.combinations.__new__» := entryFor_of_tree (by kernel_rfl)
theorem slot_cmb_iter : Slot "itertools.combinations" "__iter__" "itertools.combinations.__iter__" :=
  .of (owner := "itertools.combinations") (n := "__iter__") (by rw [typeLookup_type, builtinLookup_eq_fast]; kernel_rfl) (by decide +kernel) (by decide +kernel) (by decide +kernel)
    (by first | exact .inl (by decide +kernel) | exact .inr (by decide +kernel)) sub_cmb
theorem slot_cmb_next : Slot "itertools.combinations" "__next__" "itertools.combinations.__next__" :=
  .of (owner := "itertools.combinations") (n := "__next__") (by rw [typeLookup_type, builtinLookup_eq_fast]; kernel_rfl) (by decide +kernel) (by decide +kernel) (by decide +kernel)
    (by first | exact .inl (by decide +kernel) | exact .inr (by decide +kernel)) sub_cmb
theorem entry_cmb_iter : entryFor table "itertools.combinations.__iter__" = some Builtin.«dict_keyiterator.__iter__» :=
  entryFor_alias (id' := "dict_keyiterator.__iter__") (by kernel_rfl) (by first | rfl | decide +kernel | (unfold String.splitOn; simp +decide [String.splitOnAux])) (by decide +kernel) (by kernel_rfl)
theorem entry_cmb_next : entryFor table "itertools.combinations.__next__" = some Builtin.«itertools.combinations.__next__» := entryFor_of_tree (by kernel_rfl)
theorem owner_cmb : Manifest.owners.lookup (String.ofList "itertools.combinations".toList.reverse.reverse) = some Manifest.sig_itertools_combinations := by kernel_rfl
theorem noDict_cmb : typeHasDict (.type "itertools.combinations") = false := by decide +kernel
end CmbK


set_option Elab.async false
set_option linter.all false
set_option maxRecDepth 100000
set_option maxHeartbeats 4000000
namespace CmbK
open PySem PySem.Spec PyProof.Rows
open Sem (wp)
section
variable {prog : Program} {w : World} {A : Around} {E : Value → Shared → Prop} {s : Shared}
theorem rec_tail {fs : List Value} {R : Result → Shared → Prop} (hz : fs.length ≤ 2000) (h : R (.ok (.ret (.ref s.heap.objs.size))) { s with heap := s.heap.push { cls := .type "itertools.combinations", data := .fields fs.toArray } }) :
    wpAny (model prog w) A (do
              let __do_lift ← Builtin.Itertools.itNewRecord (.type "itertools.combinations") fs
              ret __do_lift) (fun fin s' => ∃ v, fin = Fin.done (Flow.ret v) ∧ R (Except.ok (Flow.ret v)) s') E s := by
  have hd := noDict_cmb
  refine wpAny_bind ?_
  unfold Builtin.Itertools.itNewRecord
  simp only [hd, Bool.not_false, if_true]
  refine wpAny_newObj_type ?_ ?_
  · exact wpAny_pure ⟨_, rfl, h⟩
  · show fs.toArray.size ≤ sizeLine + 2
    rw [List.size_toArray, sizeLine_eq]
    omega
theorem tup_tail {vs : List Value} {Q : Value → Shared → Prop} (hz : vs.length ≤ 2000) (h : Q (.ref s.heap.objs.size) { s with heap := s.heap.push { cls := .type "tuple", data := .seq vs.toArray } }) :
    wpAny (model prog w) A (if vs.toArray.size > sizeLine then do
      unsupported "sequence:memory"
      newObjAsIs (Value.type "tuple") (Data.seq vs.toArray)
    else newObjAsIs (Value.type "tuple") (Data.seq vs.toArray)) Q E s := by
  rw [if_neg (by rw [List.size_toArray, sizeLine_eq]; omega)]
  simp only [newObjAsIs]
  exact wpAny_bind (wpAny_alloc (wpAny_pure h))
end
end CmbK


set_option Elab.async false
set_option linter.all false
set_option maxRecDepth 100000
set_option maxHeartbeats 4000000
namespace CmbK
open PySem PySem.Spec PyProof.Rows
open Sem (wp)
theorem owner_cmb' : Manifest.owners.lookup (String.ofList ['s', 'n', 'o', 'i', 't', 'a', 'n', 'i', 'b', 'm', 'o', 'c', '.', 's', 'l', 'o', 'o', 't', 'r', 'e', 't', 'i'].reverse) = some Manifest.sig_itertools_combinations := by kernel_rfl
theorem args_cmb_iter (a : Value) : argsOk "itertools.combinations.__iter__" ⟨[a], []⟩ := by
  unfold argsOk; rw [signature?_of (id := "itertools.combinations.__iter__") (n := ['_', '_', 'r', 'e', 't', 'i', '_', '_']) (o := ['s', 'n', 'o', 'i', 't', 'a', 'n', 'i', 'b', 'm', 'o', 'c', '.', 's', 'l', 'o', 'o', 't', 'r', 'e', 't', 'i']) (by kernel_rfl) owner_cmb']; kernel_rfl
theorem args_cmb_next (a : Value) : argsOk "itertools.combinations.__next__" ⟨[a], []⟩ := by
  unfold argsOk; rw [signature?_of (id := "itertools.combinations.__next__") (n := ['_', '_', 't', 'x', 'e', 'n', '_', '_']) (o := ['s', 'n', 'o', 'i', 't', 'a', 'n', 'i', 'b', 'm', 'o', 'c', '.', 's', 'l', 'o', 'o', 't', 'r', 'e', 't', 'i']) (by kernel_rfl) owner_cmb']; kernel_rfl
/-- the indexes that stand in an object of combinations -/
def idxV (ns : List Nat) : List Value := ns.map fun (n : Nat) => rawInt n
abbrev cmbObj (P : Addr) (k : Int) (old : Value) (ns : List Nat) : Obj := { cls := .type "itertools.combinations", dict := none, data := .fields (([.ref P, rawInt k, old] ++ idxV ns).toArray), slots := #[] }
/-- the next indexes -/
def nextC (n : Nat) (indices : List Nat) : Option (List Nat) :=
  let r := indices.length
  match (List.range r).reverse.find? fun i => indices.getD i 0 != i + n - r with
  | none => none
  | some i => some (indices.take i ++ (List.range (r - i)).map (indices.getD i 0 + 1 + ·))
section
variable {prog : Program} {w : World} {A : Around} {E : Value → Shared → Prop} {s : Shared}
end
/-- the heap behind the making -/
abbrev hCol (h : Heap) (vs : List Value) : Heap := (h.push (seqObj "list" #[] 0)).update h.objs.size (Obj.mapSeq (· ++ vs.toArray))
abbrev hTup (h : Heap) (vs : List Value) : Heap := (hCol h vs).push { cls := .type "tuple", data := .seq vs.toArray }
theorem meets_cmb_new (l : Addr) (vs : List Value) (r : Nat) (t : Tok) (hr : r ≤ vs.length) (hz : vs.length ≤ 1000) :
    Meets (Builtin.«itertools.combinations.__new__» ⟨[.type "itertools.combinations", .ref l, .int r t], []⟩)
      (fun _ R s => s.heap.IsList l vs.toArray ∧ R (.ok (.ret (.ref (hTup s.heap vs).objs.size))) { s with heap := (hTup s.heap vs).push (cmbObj (hCol s.heap vs).objs.size 0 .none (List.range r)) }) :=
  .of_wp fun prog w A R s ⟨hl, h⟩ => by
    have hsub := sub_cmb
    have hd := noDict_cmb
    have es : ("itertools." ++ "combinations" : String) = "itertools.combinations" := by decide
    have hn : ¬ ((decide ((r : Int) < -(2 ^ 63 : Int)) || decide ((r : Int) ≥ (2 ^ 63 : Int))) = true) := by
      have a : decide ((r : Int) < -(2 ^ 63 : Int)) = false := decide_eq_false (by omega)
      have b : decide ((r : Int) ≥ (2 ^ 63 : Int)) = false := decide_eq_false (by omega)
      rw [a, b]
      decide
    have hn2 : ¬ ((r : Int) < 0) := by omega
    have hn3 : ¬ (Builtin.Itertools.itTooMany (r : Int) = true) := by
      unfold Builtin.Itertools.itTooMany
      rw [decide_eq_true_iff]
      omega
    have hn4 : ¬ (((r : Int).toNat) > vs.length) := by omega
    obtain ⟨hp, g, dd, tk, os⟩ := s
    repeat (first
      | (with_reducible refine collect_list hl ?_ (by rw [sizeLine_eq]; omega))
      | wp_step
      | simp only [List.head?_cons, Option.some_or, List.getElem?_cons_succ, List.getElem?_cons_zero, List.length_cons, List.length_nil, List.forIn_nil, es]
      | (with_reducible refine wpAny_ite_false (decide_eq_false hn) ?_)
      | (with_reducible refine wpAny_ite_false hn2 ?_)
      | (with_reducible refine wpAny_ite_false hn3 ?_)
      | (with_reducible refine wpAny_newTuple ?_ (by rw [sizeLine_eq]; omega)))
    have er : (r : Int).toNat = r := Int.toNat_natCast r
    rw [er]
    refine tup_tail (by omega) ?_
    refine wpAny_pure ?_
    dsimp only
    rw [if_neg (show ¬ r > vs.length by omega)]
    refine rec_tail ?_ ?_
    · rw [List.length_append, List.length_map, List.length_range]
      show 3 + r ≤ 2000
      omega
    · exact h
end CmbK


set_option Elab.async false
set_option linter.all false
set_option maxRecDepth 100000
set_option maxHeartbeats 4000000
namespace CmbK
open PySem PySem.Spec PyProof.Rows
open Sem (wp)
theorem map_idx (f : Value → Nat) (hf : ∀ n : Nat, f (rawInt n) = n) : ∀ ns : List Nat, (idxV ns).map f = ns
  | [] => rfl
  | n :: ns => by
    show f (rawInt n) :: (idxV ns).map f = n :: ns
    rw [map_idx f hf ns, hf]
section
variable {prog : Program} {w : World} {A : Around} {E : Value → Shared → Prop} {s : Shared}
theorem call_cmb {l : Addr} {vs : List Value} {r : Nat} {t : Tok} {Q : Value → Shared → Prop} (hl : s.heap.IsList l vs.toArray) (hr : r ≤ vs.length) (hz : vs.length ≤ 1000)
    (h : ∀ h' P it, (∀ b o, s.heap.get? b = some o → h'.get? b = some o) → s.heap.objs.size ≤ P → s.heap.objs.size ≤ it → P ≠ it → h'.get? P = some { cls := .type "tuple", data := .seq vs.toArray } → h'.get? it = some (cmbObj P 0 .none (List.range r)) → Q (.ref it) { s with heap := h' }) :
    wpAny (model prog w) A (call (.type "itertools.combinations") [.ref l, .int r t]) Q E s := by
  refine callType_new called_cmb (by decide +kernel) (typeCall_cmb_2 _ _) (newCall_cmb_2 _ _) (fun obj => F.args_object_init_3 obj _ _) entry_cmb_new (meets_cmb_new l vs r t hr hz) ⟨hl, ?_⟩
  show _ ∧ _
  have e1 : (hCol s.heap vs).objs.size = s.heap.objs.size + 1 := by rw [Heap.size_update, Heap.size_push]
  have e2 : (hTup s.heap vs).objs.size = s.heap.objs.size + 2 := by rw [Heap.size_push, e1]
  have k1 : ∀ b o, s.heap.get? b = some o → (hCol s.heap vs).get? b = some o := fun b o q => (Heap.get?_update_other _ _ (Nat.ne_of_gt (Heap.lt_size q))).trans (Heap.get?_push_of_some _ q)
  refine ⟨⟨_, Heap.get?_push_size _ rfl, rfl⟩, h _ (hCol s.heap vs).objs.size _ (fun b o q => Heap.get?_push_of_some _ (Heap.get?_push_of_some _ (k1 b o q))) (by omega) (by omega) (by omega) (Heap.get?_push_of_some _ (Heap.get?_push_size _ rfl)) (Heap.get?_push_size _ rfl)⟩
theorem iter_cmb {it P : Addr} {k : Int} {old : Value} {ns : List Nat} {Q : Value → Shared → Prop} (hit : s.heap.get? it = some (cmbObj P k old ns)) (h : Q (.ref it) s) : wpAny (model prog w) A (pyIter (.ref it)) Q E s := by
  have hT : s.TypeIs (.ref it) "itertools.combinations" := ⟨_, hit, rfl⟩
  refine wpAny_pyIter_slot hT slot_cmb_iter (wpAny_call_entry slot_cmb_iter hT entry_cmb_iter ?_ (args_cmb_iter _))
  show wpAny _ _ (ret (.ref it)) _ _ s
  exact wpAny_pure ⟨_, rfl, "itertools.combinations", _, hT, slot_cmb_next.lookup, h⟩
theorem nums_from {it P : Addr} {k : Int} {old : Value} {ns : List Nat} {Q : List Nat → Shared → Prop} (hit : s.heap.get? it = some (cmbObj P k old ns)) (h : Q ns s) : wpAny (model prog w) A (Builtin.Itertools.itNumbersFrom (.ref it) 3) Q E s := by
  unfold Builtin.Itertools.itNumbersFrom
  refine wpAny_bind (wpAny_load hit (wpAny_pure ?_))
  show Q (List.map _ (idxV ns)) s
  rw [map_idx _ (fun n => Int.toNat_natCast n)]
  exact h
theorem set1 (P : Addr) (k k' : Int) (old : Value) (ns : List Nat) : ((([.ref P, rawInt k, old] ++ idxV ns).toArray : Array Value).setIfInBounds 1 (rawInt k')) = ([.ref P, rawInt k', old] ++ idxV ns).toArray := by
  simp
theorem set2 (P : Addr) (k : Int) (old v : Value) (ns : List Nat) : ((([.ref P, rawInt k, old] ++ idxV ns).toArray : Array Value).setIfInBounds 2 v) = ([.ref P, rawInt k, v] ++ idxV ns).toArray := by
  simp
theorem set3 (P : Addr) (k : Int) (old : Value) (ns ms : List Nat) : ((([.ref P, rawInt k, old] ++ idxV ns).toArray : Array Value).extract 0 3 ++ (ms.map fun (n : Nat) => rawInt n).toArray) = ([.ref P, rawInt k, old] ++ idxV ms).toArray := by
  simp [idxV]
theorem hand_out {it P : Addr} {old : Value} {ns : List Nat} {vs : List Value} {Q : Value → Shared → Prop} (hit : s.heap.get? it = some (cmbObj P 1 old ns)) (hP : s.heap.get? P = some { cls := .type "tuple", data := .seq vs.toArray }) (hz : ns.length ≤ 1000)
    (hQ : ∀ h' T, s.heap.objs.size ≤ T → (∀ b o, b ≠ it → s.heap.get? b = some o → h'.get? b = some o) → h'.get? T = some { cls := .type "tuple", data := .seq (ns.map fun i => vs.getD i .none).toArray } → h'.get? it = some (cmbObj P 1 (.ref T) ns) → Q (.ref T) { s with heap := h' }) :
    wpAny (model prog w) A (do
      let result ← (do let items ← Builtin.Itertools.itPoolItems (.ref P); newTuple (ns.map fun i => items.getD i .none))
      let before ← field (.ref it) 2
      setField (.ref it) 2 result
      letGo [before] [result]
      ret result) (fun fin s' => ∃ v, fin = Fin.done (Flow.ret v) ∧ Q v s') E s := by
  refine wpAny_bind ?_
  refine wpAny_bind ?_
  show wpAny _ _ ((load P >>= _) >>= _) _ _ s
  refine wpAny_bind (wpAny_bind (wpAny_load hP (wpAny_pure (wpAny_pure ?_))))
  refine wpAny_newTuple ?_ (by rw [List.length_map, sizeLine_eq]; omega)
  have e0 : (ns.map fun i => vs.toArray.getD i .none) = ns.map fun i => vs.getD i .none := List.map_congr_left fun i _ => by simp
  rw [e0]
  have lt : it < s.heap.objs.size := Heap.lt_size hit
  have hit2 : (s.heap.push { cls := .type "tuple", data := .seq (ns.map fun i => vs.getD i .none).toArray }).get? it = some (cmbObj P 1 old ns) := Heap.get?_push_of_some _ hit
  refine wpAny_bind (wpAny_field hit2 rfl (x := old) rfl ?_)
  refine wpAny_bind (wpAny_setField hit2 rfl (by simp) ?_)
  refine wpAny_bind (wpAny_letGo (wpAny_pure ⟨_, rfl, ?_⟩))
  refine hQ _ s.heap.objs.size (Nat.le_refl _) (fun b o hb q => (Heap.get?_update_other _ _ (Ne.symm hb)).trans (Heap.get?_push_of_some _ q)) ((Heap.get?_update_other _ _ (Nat.ne_of_lt lt)).trans (Heap.get?_push_size _ rfl)) ?_
  have z := Heap.get?_update_self (Obj.mapFields (·.setIfInBounds 2 (.ref s.heap.objs.size))) hit2 rfl
  refine z.trans ?_
  show some ({ cls := .type "itertools.combinations", dict := none, data := .fields ((([.ref P, rawInt 1, old] ++ idxV ns).toArray : Array Value).setIfInBounds 2 (.ref s.heap.objs.size)), slots := #[] } : Obj) = _
  rw [set2]
theorem cmb_item {it P : Addr} {k : Int} {old : Value} {ns ns' : List Nat} {vs : List Value} {Q : Option Value → Shared → Prop} (hit : s.heap.get? it = some (cmbObj P k old ns)) (hP : s.heap.get? P = some { cls := .type "tuple", data := .seq vs.toArray }) (ne : P ≠ it)
    (hk : (k = 0 ∧ ns' = ns) ∨ (k = 1 ∧ nextC vs.length ns = some ns')) (hz : ns'.length ≤ 1000)
    (hQ : ∀ h' T, s.heap.objs.size ≤ T → (∀ b o, b ≠ it → s.heap.get? b = some o → h'.get? b = some o) → h'.get? T = some { cls := .type "tuple", data := .seq (ns'.map fun i => vs.getD i .none).toArray } → h'.get? it = some (cmbObj P 1 (.ref T) ns') → Q (some (.ref T)) { s with heap := h' }) :
    wpAny (model prog w) A (callSpecial? (.ref it) "__next__") Q E s := by
  have hT : s.TypeIs (.ref it) "itertools.combinations" := ⟨_, hit, rfl⟩
  refine wpAny_callSpecial?_slot (name := Str.ofString "__next__") hT slot_cmb_next (wpAny_call_entry slot_cmb_next hT entry_cmb_next ?_ (args_cmb_next _))
  show wpAny _ _ (field (.ref it) 0 >>= _) _ _ s
  refine wpAny_bind (wpAny_field hit rfl (x := .ref P) rfl ?_)
  show wpAny _ _ (Builtin.Itertools.itNumbersFrom (.ref it) 3 >>= _) _ _ s
  refine wpAny_bind (nums_from hit ?_)
  show wpAny _ _ (Builtin.Itertools.itIntField (.ref it) 1 >>= _) _ _ s
  refine wpAny_bind ?_
  show wpAny _ _ (field (.ref it) 1 >>= _) _ _ s
  refine wpAny_bind (wpAny_field hit rfl (x := rawInt k) rfl (wpAny_pure ?_))
  rcases hk with ⟨rfl, rfl⟩ | ⟨rfl, hk⟩
  · show wpAny _ _ (setField (.ref it) 1 (rawInt 1) >>= _) _ _ s
    refine wpAny_bind (wpAny_setField hit rfl (by simp) ?_)
    have z := Heap.get?_update_self (Obj.mapFields (·.setIfInBounds 1 (rawInt 1))) hit rfl
    have z2 : (s.heap.update it (Obj.mapFields (·.setIfInBounds 1 (rawInt 1)))).get? it = some (cmbObj P 1 old ns') := by
      refine z.trans ?_
      show some ({ cls := .type "itertools.combinations", dict := none, data := .fields ((([.ref P, rawInt 0, old] ++ idxV ns').toArray : Array Value).setIfInBounds 1 (rawInt 1)), slots := #[] } : Obj) = _
      rw [set1]
    refine hand_out (s := { s with heap := s.heap.update it (Obj.mapFields (·.setIfInBounds 1 (rawInt 1))) }) (Q := fun v s' => Q (some v) s') z2 ((Heap.get?_update_other _ _ (Ne.symm ne)).trans hP) hz fun h' T hT' k1 k2 k3 => ?_
    exact hQ h' T (by rw [Heap.size_update] at hT'; exact hT') (fun b o hb q => k1 b o hb ((Heap.get?_update_other _ _ (Ne.symm hb)).trans q)) k2 k3
  · show wpAny _ _ (Builtin.Itertools.itPoolItems (.ref P) >>= _) _ _ s
    refine wpAny_bind ?_
    show wpAny _ _ ((load P >>= _) >>= _) _ _ s
    refine wpAny_bind (wpAny_bind (wpAny_load hP (wpAny_pure (wpAny_pure ?_))))
    show wpAny _ _ (match nextC vs.toArray.size ns with
      | some next => _
      | none => _) _ _ s
    rw [List.size_toArray, hk]
    show wpAny _ _ (Builtin.Itertools.itSetNumbersFrom (.ref it) 3 ns' >>= _) _ _ s
    refine wpAny_bind ?_
    show wpAny _ _ (updateFields it _) _ _ s
    refine wpAny_updateFields hit rfl ?_ ?_
    · have z := Heap.get?_update_self (Obj.mapFields fun fs => fs.extract 0 3 ++ (ns'.map fun (n : Nat) => rawInt n).toArray) hit rfl
      have z2 : (s.heap.update it (Obj.mapFields fun fs => fs.extract 0 3 ++ (ns'.map fun (n : Nat) => rawInt n).toArray)).get? it = some (cmbObj P 1 old ns') := by
        refine z.trans ?_
        show some ({ cls := .type "itertools.combinations", dict := none, data := .fields ((([.ref P, rawInt 1, old] ++ idxV ns).toArray : Array Value).extract 0 3 ++ (ns'.map fun (n : Nat) => rawInt n).toArray), slots := #[] } : Obj) = _
        rw [set3]
      refine hand_out (s := { s with heap := s.heap.update it (Obj.mapFields fun fs => fs.extract 0 3 ++ (ns'.map fun (n : Nat) => rawInt n).toArray) }) (Q := fun v s' => Q (some v) s') z2 ((Heap.get?_update_other _ _ (Ne.symm ne)).trans hP) hz fun h' T hT' k1 k2 k3 => ?_
      exact hQ h' T (by rw [Heap.size_update] at hT'; exact hT') (fun b o hb q => k1 b o hb ((Heap.get?_update_other _ _ (Ne.symm hb)).trans q)) k2 k3
    · rw [set3, List.size_toArray, List.length_append, idxV, List.length_map, sizeLine_eq]
      show 3 + ns'.length ≤ _
      omega
theorem cmb_end {it P : Addr} {old : Value} {ns : List Nat} {vs : List Value} {Q : Option Value → Shared → Prop} (hh : A.handled = none) (hit : s.heap.get? it = some (cmbObj P 1 old ns)) (hP : s.heap.get? P = some { cls := .type "tuple", data := .seq vs.toArray })
    (hk : nextC vs.length ns = none) (hQ : ∀ h', Heap.ExtBut it s.heap h' → Q none { s with heap := h' }) : wpAny (model prog w) A (pyNext (.ref it)) Q E s := by
  have hT : s.TypeIs (.ref it) "itertools.combinations" := ⟨_, hit, rfl⟩
  unfold pyNext
  refine wpAny_bind (wpAny_attempt (wpAny_callSpecial?_slot (name := Str.ofString "__next__") hT slot_cmb_next (wpAny_call_entry slot_cmb_next hT entry_cmb_next ?_ (args_cmb_next _))))
  show wpAny _ _ (field (.ref it) 0 >>= _) _ _ s
  refine wpAny_bind (wpAny_field hit rfl (x := .ref P) rfl ?_)
  show wpAny _ _ (Builtin.Itertools.itNumbersFrom (.ref it) 3 >>= _) _ _ s
  refine wpAny_bind (nums_from hit ?_)
  show wpAny _ _ (Builtin.Itertools.itIntField (.ref it) 1 >>= _) _ _ s
  refine wpAny_bind ?_
  show wpAny _ _ (field (.ref it) 1 >>= _) _ _ s
  refine wpAny_bind (wpAny_field hit rfl (x := rawInt 1) rfl (wpAny_pure ?_))
  show wpAny _ _ (Builtin.Itertools.itPoolItems (.ref P) >>= _) _ _ s
  refine wpAny_bind ?_
  show wpAny _ _ ((load P >>= _) >>= _) _ _ s
  refine wpAny_bind (wpAny_bind (wpAny_load hP (wpAny_pure (wpAny_pure ?_))))
  show wpAny _ _ (match nextC vs.toArray.size ns with
    | some next => _
    | none => _) _ _ s
  rw [List.size_toArray, hk]
  show wpAny _ _ (setField (.ref it) 1 (rawInt 2) >>= _) _ _ s
  refine wpAny_bind (wpAny_setField hit rfl (by simp) ?_)
  show wpAny _ _ (newExc (.type "StopIteration") [] >>= _) _ _ _
  refine wpAny_bind ?_
  simp only [newExc, newTuple]
  refine wpAny_bind (wpAny_newObj_type ?_ (by size_fits))
  refine wpAny_bind (m := firstArgMember _ _) (wpAny_of_eq (a := Value.none) (by first | rfl | (simp only [firstArgMember]; rfl)) ?_)
  refine wpAny_newObj_type ?_ (by size_fits)
  simp only [raiseNew]
  refine wpAny_bind (wpAny_handled ?_)
  first | rw [show A.in1.handled = none from hh] | rw [hh]
  refine wpAny_bind (wpAny_pure (wpAny_throw ?_))
  refine wpAny_bind (wpAny_isInstance (T := "StopIteration") (b := true) ⟨_, Heap.get?_push_size _ rfl, rfl⟩ isSubtype_stop ?_)
  exact wpAny_pure (hQ _ (((Heap.SameBut.update ..).extBut.push _).push _))
end
end CmbK


set_option Elab.async false
set_option linter.all false
set_option maxRecDepth 100000
set_option maxHeartbeats 4000000
namespace CmbK
open PySem PySem.Spec PyProof.Rows L2
/-- a chain of indexes, from the first to the last -/
structure Chain (n r : Nat) (cs : List (List Nat)) : Prop where
  first : cs[0]? = some (List.range r)
  next : ∀ i c, cs[i]? = some c → nextC n c = cs[i + 1]?
  small : ∀ c ∈ cs, c.length ≤ 1000
/-- all of them -/
def combs : List Nat → Nat → List (List Nat)
  | _, 0 => [[]]
  | [], _ + 1 => []
  | a :: l, r + 1 => (combs l r).map (a :: ·) ++ combs l (r + 1)
def chainB (n r : Nat) (cs : List (List Nat)) : Bool := (cs[0]? == some (List.range r)) && (List.range cs.length).all (fun i => nextC n (cs.getD i []) == cs[i + 1]?) && cs.all fun c => decide (c.length ≤ 1000)
theorem chain_of {n r : Nat} {cs : List (List Nat)} (h : chainB n r cs = true) : Chain n r cs := by
  unfold chainB at h
  rw [Bool.and_eq_true, Bool.and_eq_true] at h
  obtain ⟨⟨h1, h2⟩, h3⟩ := h
  refine ⟨eq_of_beq h1, fun i c hc => ?_, fun c hc => of_decide_eq_true (List.all_eq_true.mp h3 c hc)⟩
  obtain ⟨hi, hx⟩ := List.getElem?_eq_some_iff.mp hc
  have z := eq_of_beq (List.all_eq_true.mp h2 i (List.mem_range.mpr hi))
  rw [List.getD_eq_getElem?_getD, hc] at z
  exact z
theorem chain10 : ∀ r, r ≤ 10 → Chain 10 r (combs (List.range 10) r) := by
  intro r hr
  refine chain_of ?_
  have z : (List.range 11).all (fun r => chainB 10 r (combs (List.range 10) r)) = true := by decide +kernel
  exact List.all_eq_true.mp z r (List.mem_range.mpr (by omega))
theorem vals_getD {xs : List V} {us : List Value} (r : Vals xs us) (j : Nat) : RelV (xs.getD j .non) (us.getD j .none) := by
  rw [List.getD_eq_getElem?_getD, List.getD_eq_getElem?_getD]
  have hl := r.length
  by_cases h : j < xs.length
  · obtain ⟨u, hu, ru⟩ := r.get (List.getElem?_eq_getElem h)
    rw [List.getElem?_eq_getElem h, hu]
    exact ru
  · rw [List.getElem?_eq_none (by omega), List.getElem?_eq_none (by omega)]
    rfl
theorem vals_map {xs : List V} {us : List Value} (r : Vals xs us) : ∀ c : List Nat, Vals (c.map fun j => xs.getD j .non) (c.map fun j => us.getD j .none)
  | [] => .nil
  | j :: c => .cons (vals_getD r j) (vals_map r c)
/-- the things at these places, in new tuples, one behind another -/
def ItC (xs : List V) (cs : List (List Nat)) : It :=
  ⟨fun i _ => i < cs.length, fun i H v H' => ∃ T c, v = .ref T ∧ H T = none ∧ cs[i]? = some c ∧ H' = upd H T (.tup (c.map fun j => xs.getD j .non)), fun i _ => i = cs.length⟩
def stC (it P : Addr) (us : List Value) (r : Nat) (cs : List (List Nat)) (i : Nat) (h : Heap) : Prop :=
  h.get? P = some { cls := .type "tuple", data := .seq us.toArray } ∧ ((i = 0 ∧ h.get? it = some (cmbObj P 0 .none (List.range r))) ∨ ∃ j c old, i = j + 1 ∧ cs[j]? = some c ∧ h.get? it = some (cmbObj P 1 old c))
theorem turn_cmb {P0 : Program} {w : World} {K : PySem.W.Frag} {tg : Expr} {xs : List V} {us : List Value} {r : Nat} {cs : List (List Nat)} (it P : Addr) (rv : Vals xs us) (ch : Chain us.length r cs) (ne : P ≠ it) :
    Turn P0 w K tg (ItC xs cs) [it, P] it (stC it P us r cs) where
  mem := by simp
  obj := fun i h st b hb => by
    obtain ⟨hP, hi⟩ := st
    have eb : b = it ∨ b = P := by simpa using hb
    rcases eb with rfl | rfl
    · rcases hi with ⟨_, hi⟩ | ⟨_, _, _, _, _, hi⟩
      · exact ⟨_, hi, fun v q => nomatch q⟩
      · exact ⟨_, hi, fun v q => nomatch q⟩
    · exact ⟨_, hP, fun v q => nomatch q⟩
  keep := fun i h h' ⟨hP, hi⟩ k => ⟨k P (by simp) _ hP, hi.imp (fun ⟨a, b⟩ => ⟨a, k it (by simp) _ b⟩) fun ⟨j, c, o, a, b, d⟩ => ⟨j, c, o, a, b, k it (by simp) _ d⟩⟩
  item := by
    intro X hP hw hK hc i pins s σ H E I hf st hg
    subst hP hw hK
    obtain ⟨hPt, hi⟩ := st
    obtain ⟨c, hci⟩ : ∃ c, cs[i]? = some c := ⟨_, List.getElem?_eq_getElem hg⟩
    have go : ∀ (k : Int) (old : Value) (ns : List Nat), s.heap.get? it = some (cmbObj P k old ns) → ((k = 0 ∧ c = ns) ∨ (k = 1 ∧ nextC us.length ns = some c)) →
        wpAny (model X.prog X.w) X.A (pyNext (.ref it)) (fun ov s1 => ∃ u, ov = some u ∧ wpAny (model X.prog X.w) X.A (letOwnedTupleGo tg (.ref it) u) (fun _ s2 => ∃ x H', Inv X pins σ H' s2 ∧ RelV x u ∧ (ItC xs cs).yld i H x H' ∧ stC it P us r cs (i + 1) s2.heap ∧ ∀ b ∈ [it, P], H' b = none) E s1) E s := by
      intro k old ns hit hk
      unfold pyNext
      refine wpAny_bind (wpAny_attempt (cmb_item hit hPt ne hk (ch.small c (List.mem_of_getElem? hci)) fun h' T hT k1 k2 k3 => wpAny_pure ⟨_, rfl, ?_⟩))
      have lP : P < s.heap.objs.size := Heap.lt_size hPt
      have lI : it < s.heap.objs.size := Heap.lt_size hit
      have new : ObjOk X.prog X.w (upd H T (.tup (c.map fun j => xs.getD j .non))) h' T (.tup (c.map fun j => xs.getD j .non)) := ⟨by rw [List.length_map]; exact Nat.le_trans (ch.small c (List.mem_of_getElem? hci)) (by decide), _, vals_map rv c, ⟨_, k2, rfl, _, rfl⟩⟩
      have J : Inv X pins σ (upd H T (.tup (c.map fun j => xs.getD j .non))) { s with heap := h', toks := s.toks } :=
        I.turnedNew (ch := [it, P]) (fun b ob hb q => k1 b ob (fun z => hb (by simp [z])) q) hf hT new
      refine go_of (s := { s with heap := h' }) k3 rfl rfl (by decide) ⟨.ref T, _, J, rfl, ⟨T, c, rfl, I.hok.fresh hT, hci, rfl⟩, ⟨k1 P _ ne hPt, .inr ⟨i, c, _, rfl, hci, k3⟩⟩, fun b hb => ?_⟩
      have hb' : b < s.heap.objs.size := by
        have eb : b = it ∨ b = P := by simpa using hb
        rcases eb with rfl | rfl
        · exact lI
        · exact lP
      rw [upd_ne (Nat.ne_of_lt (Nat.lt_of_lt_of_le hb' hT))]
      exact (hf b hb).1
    rcases hi with ⟨e, hi⟩ | ⟨j, d, old, e, hd, hi⟩
    · subst e
      exact go 0 .none _ hi (.inl ⟨rfl, by rw [ch.first] at hci; exact (Option.some.inj hci).symm⟩)
    · subst e
      exact go 1 old d hi (.inr ⟨rfl, by rw [ch.next j d hd, hci]⟩)
  done := by
    intro X hP hw hK hc i pins s σ H E I hf st hg
    subst hP hw hK
    obtain ⟨hPt, hi⟩ := st
    have hg : i = cs.length := hg
    obtain ⟨f0, f1, f2, f3, f4, f5⟩ := hf it (by simp)
    rcases hi with ⟨e, hi⟩ | ⟨j, d, old, e, hd, hi⟩
    · have z := (List.getElem?_eq_some_iff.mp ch.first).1
      omega
    · refine cmb_end (I.ok.hd hc) hi hPt ?_ fun h' eb => ⟨rfl, I.turned (t' := s.toks) (fun b o hb q => eb b o hb q) f0 f1 f3 f4 f5⟩
      rw [ch.next j d hd, ← e, hg]
      exact List.getElem?_eq_none (Nat.le_refl _)
  self := fun A i s Q E ⟨_, hi⟩ k => by
    rcases hi with ⟨_, hi⟩ | ⟨_, _, _, _, _, hi⟩
    · exact iter_cmb hi k
    · exact iter_cmb hi k
def iCmb (K : PySem.W.Frag) (ta : TA) : TI := fun σ H R => ta σ H fun vs H1 => ∃ a xs r cs, vs = [.ref a, .int (r : Nat)] ∧ SqL K H1 a xs ∧ xs.length ≤ 1000 ∧ r ≤ xs.length ∧ Chain xs.length r cs ∧ R (ItC xs cs) H1
theorem pi_cmb {X : Cx} {tg a b : Expr} {ta : TA} {p pos : Pos} (hg : Gl X "combinations") (hm : X.mg "combinations" = some (.type "itertools.combinations")) (ha : PA X [a, b] ta)
    (hs : starEach [a, b] X.env = [(false, eval a X.env), (false, eval b X.env)] := by rfl) (hs2 : starEach [b] X.env = [(false, eval b X.env)] := by rfl) :
    PI X tg (.Call (.Name "combinations" p) [a, b] [] pos) (iCmb X.K ta) := by
  refine ⟨fun pins s σ H R I h => ?_⟩
  refine Call_ (ld_glob I hg hm (PyProof.Rows.callWith_type1 (thn (ha.run pos pins s σ H _ I h) fun us s1 ⟨vs, H1, I1, r1, q1⟩ => ?_) (by rw [hs, hs2]) (by rw [hs2]; rfl)))
  obtain ⟨l, xs, r, cs, rfl, hl, hz, hr, ch, q⟩ := q1
  cases r1 with
  | cons r1 rr =>
    cases rr with
    | cons r2 rr =>
      cases rr
      cases r1
      obtain ⟨t, rfl⟩ := r2
      obtain ⟨its, rv, pl, hz2⟩ := I1.list hl
      have hlen := rv.length
      refine call_cmb (show s1.heap.IsList l its.toArray from pl.isList) (by omega) (by omega) fun h' P it kp hP hI ne k1 k2 => ?_
      refine iter_cmb (s := { s1 with heap := h' }) k2 ?_
      have I2 : Inv X pins σ H1 { s1 with heap := h' } := I1.kept (t' := s1.toks) kp
      have ch2 : Chain its.length r cs := by rw [← hlen]; exact ch
      refine ⟨it, [it, P], _, _, H1, rfl, I2, turn_cmb it P rv ch2 ne, ⟨k1, .inl ⟨rfl, k2⟩⟩, fun b hb => ?_, q⟩
      have hle : s1.heap.objs.size ≤ b := by
        have eb : b = it ∨ b = P := by simpa using hb
        rcases eb with z | z
        · rw [z]; exact hI
        · rw [z]; exact hP
      exact I1.fpOk hle (I1.hok.fresh hle)
theorem walk_cmb {xs : List V} {cs : List (List Nat)} : Walk (ItC xs cs) cs.length (fun _ => True) (fun i H v H' => ∃ T c, v = .ref T ∧ H T = none ∧ cs[i]? = some c ∧ H' = upd H T (.tup (c.map fun j => xs.getD j .non))) :=
  ⟨fun i _ hi _ => hi, fun _ _ => rfl, fun _ _ _ _ _ _ y => y⟩
end CmbK


set_option Elab.async false
set_option linter.all false
set_option maxRecDepth 100000
set_option maxHeartbeats 4000000
namespace Ts
open PySem PySem.Spec PyProof.Rows L2
open PySem.W (dataLe)
open Evl (Ex)
section
variable {X : Cx} {n : Nat}
/-- a == b by an own __eq__ that tells a truth -/
def rOwnEq (C : Addr) (sp : Sp) (E : XK) : R2 := fun x y H Q => ∃ a b dx dy fs gs, x = .ref a ∧ y = .ref b ∧ H a = some (.ins C dx fs) ∧ H b = some (.ins C dy gs) ∧ sp [.ref a, .ref b] H (fun v H' => (∃ r, v = .bl r) ∧ Q v H') E
theorem op_ownEq {CX : CXT} {C f : Addr} {fd : FuncData} {ps : List Str} {sp : Sp} {E : XK} (F : FnOk X.prog X.w X.K X.mg X.base CX n f fd ps sp)
    (hs : PySem.W.findIn X.K (.ref C) "__eq__" = some (some (.ref f))) (hf : PySem.W.isFn X.K (.ref f) = true) (hb : Binds X.K fd ps []) (hx : Passes CX X E) (hr : Room n X.A) : OpR X (compareOp .Eq) (rOwnEq C sp E) := by
  intro pins s σ H x y v u Q I rx ry hq
  obtain ⟨a, b, dx, dy, fs, gs, rfl, rfl, ha, hb', hsp⟩ := hq
  cases rx
  cases ry
  show wpAny (model X.prog X.w) X.A (richCompare .Eq (.ref a) (.ref b)) (EP X pins σ Q) X.xe s
  obtain ⟨mA, J, _⟩ := ins_get I.hok ha
  obtain ⟨mB, J', _⟩ := ins_get I.hok hb'
  obtain ⟨od, J, _⟩ := J.look
  obtain ⟨od', J', _⟩ := J'.look
  obtain ⟨m, hF⟩ := I.fr
  refine PySem.W.cmp_K (op := .Eq) (tb := .ref C) hr.units0 hF I.ok.mod.kin J J'.type (by simp [PySem.W.notFirst]) hs hf ?_
  have hl := F.len _ _ _ _ hsp
  have r2 : Vals [V.ref a, V.ref b] [Value.ref a, Value.ref b] := .cons rfl (.cons rfl .nil)
  refine wpAny_call (codeAny_mono (F.run X.A X.stack s H ⟨[.ref a, .ref b], []⟩ [.ref a, .ref b] [.ref a, .ref b] _ E hr I.env0 (by
    have := hb s [.ref a, .ref b] I.kIn (by simpa using hl)
    simpa using this) r2 hsp) fun r s' hq => ?_)
  cases r with
  | error e => exact hx pins σ H s e s' I hq
  | ok fl =>
    cases fl with
    | ret w =>
      obtain ⟨z, H', I', rz, ⟨q, ez⟩, qz⟩ := I.after hq
      subst ez
      obtain rfl : w = Value.bool q := rz
      exact ⟨.bl q, H', I', rfl, qz⟩
    | next => exact False.elim hq
    | brk => exact False.elim hq
    | cont => exact False.elim hq
end
theorem eqv_d (r r' : Rl) : PyData.eqv r.d r'.d = decide (r = r') := by
  obtain ⟨a, b, c, d, e⟩ := r
  obtain ⟨a', b', c', d', e'⟩ := r'
  have hh : PyData.eqv (hiD b) (hiD b') = decide (b = b') := by
    cases b <;> cases b' <;> first | rfl | (simp [hiD, PyData.eqv]; done) | (rename_i i j; show (i == j) = _; by_cases h : i = j <;> simp [h])
  show (PyData.eqv (.int a) (.int a') && (PyData.eqv (hiD b) (hiD b') && (PyData.eqv (.str c) (.str c') && (PyData.eqv (.int d) (.int d') && (PyData.eqv (.int e) (.int e') && true))))) = _
  rw [hh]
  simp only [PyData.eqv, Rl.mk.injEq]
  by_cases h1 : a = a' <;> by_cases h2 : b = b' <;> by_cases h3 : c = c' <;> by_cases h4 : d = d' <;> by_cases h5 : e = e' <;> simp [h1, h2, h3, h4, h5]
theorem eqv_ds : ∀ rs rs' : List Rl, PyData.eqvAll (rs.map Rl.d) (rs'.map Rl.d) = decide (rs = rs')
  | [], [] => by simp [PyData.eqvAll]
  | [], _ :: _ => by simp [PyData.eqvAll]
  | _ :: _, [] => by simp [PyData.eqvAll]
  | r :: rs, r' :: rs' => by
    show (PyData.eqv r.d r'.d && PyData.eqvAll (rs.map Rl.d) (rs'.map Rl.d)) = _
    rw [eqv_d, eqv_ds rs rs']
    by_cases h1 : r = r' <;> by_cases h2 : rs = rs' <;> simp [h1, h2]
theorem dp_rule {K : PySem.W.Frag} {H : Hp} {p : Addr} {r : Rl} (h : H p = some (.tup r.vs)) : Dp K H (.ref p) r.d := by
  refine .tup (SqT.of h) (.cons (.int _) (.cons ?_ (.cons (.str _) (.cons (.int _) (.cons (.int _) .nil)))))
  cases r.high with
  | none => exact .non
  | some i => exact .int _
theorem dp_rules {K : PySem.W.Frag} {H : Hp} : ∀ {qs : List (Addr × Rl)}, RulesAt H qs → DpAll K H (qs.map fun q => V.ref q.1) ((qs.map (·.2)).map Rl.d)
  | [], _ => .nil
  | q :: t, h => .cons (dp_rule (h q List.mem_cons_self)) (dp_rules fun x hx => h x (List.mem_cons_of_mem _ hx))
theorem depth_d (r : Rl) : PyData.depth r.d = PyData.depth (.tuple [.none]) := by
  obtain ⟨a, b, c, d, e⟩ := r
  cases b <;> rfl
theorem shaped_rules {rs : List Rl} (hs : ∀ r ∈ rs, PyData.canLay0 r.d = true) : SeqAt.shaped (.list (rs.map Rl.d)) = true := by
  have z : ∀ rs : List Rl, (∀ r ∈ rs, PyData.canLay0 r.d = true) → PyData.canLayAll0 (rs.map Rl.d) = true ∧ PyData.depthAll (rs.map Rl.d) ≤ 10 := by
    intro rs hs
    induction rs with
    | nil => exact ⟨rfl, by decide⟩
    | cons r rs ih =>
      obtain ⟨h1, h2⟩ := ih fun x hx => hs x (List.mem_cons_of_mem _ hx)
      refine ⟨?_, ?_⟩
      · show (PyData.canLay0 r.d && PyData.canLayAll0 (rs.map Rl.d)) = true
        rw [hs r List.mem_cons_self, h1]
        rfl
      · show max (PyData.depth r.d) (PyData.depthAll (rs.map Rl.d)) ≤ 10
        rw [depth_d]
        exact Nat.max_le.mpr ⟨by decide, h2⟩
  obtain ⟨h1, h2⟩ := z rs hs
  unfold SeqAt.shaped
  rw [Bool.and_eq_true]
  refine ⟨h1, decide_eq_true ?_⟩
  show PyData.depthAll (rs.map Rl.d) + 1 ≤ 64
  omega
section
variable {P : Program} {w : World} {K : PySem.W.Frag} {mg : Str → Option Value} {base : Heap}
abbrev s_beq : Stmt := inClass (top 17) 2
theorem sc_beq : FnScope ["self", "other"] ["self", "other"] (defScope s_beq) := ⟨rfl, rfl, rfl, by decide +kernel, rfl, by decide +kernel, by decide +kernel⟩
def spBeq (C : Addr) : Sp := fun vs H Q _ => ∃ a b rs rs', vs = [.ref a, .ref b] ∧ BookAt C H a rs ∧ BookAt C H b rs' ∧ (∀ r ∈ rs, PyData.canLay0 r.d = true) ∧ (∀ r ∈ rs', PyData.canLay0 r.d = true) ∧ Q (.bl (decide (rs = rs'))) H
theorem ok_beq {f fI fR C : Addr} {fd : FuncData} (F : Fun K "__eq__" "Book.__eq__" s_beq f fd) (B : BkC K mg C fI fR) (T : Bl mg) : FnOk P w K mg base CX0 1 f fd ["self", "other"] (spBeq C) := by
  refine F.ok sc_beq (fun vs H Q E h => ?_) (fun cdv A outer s H vs Q E hr h => ?_)
  · obtain ⟨a, b, rs, rs', rfl, _⟩ := h
    rfl
  · obtain ⟨a, b, rs, rs', rfl, ⟨dx, L, qs, hp, hL, hR, hm⟩, ⟨dx', L', qs', hp', hL', hR', hm'⟩, c1, c2, k⟩ := h
    have hu := Nat.lt_of_le_of_lt (Nat.add_le_add_left (by decide : 64 ≤ 64) _) hr.units
    refine ⟨_, pss_one (ps_ret (pe_and (pe_callB call_isi (by rfl) T.isinstance (by decide +kernel) (pa_cons (pv 1) (pa_cons (pe_glob (v := .ref C) rfl B.gC rfl) pa_nil))) (pe_one (pe_cmpR (op_eqD hu) (pe_fld (pv 0) rfl) (pe_fld (pv 1) rfl) (nomark _))))), ?_⟩
    refine ⟨_, rfl, _, _, _, _, _, rfl, .own C, .base (TyOf.ins hp' B.cl B.ha B.hn B.htk B.hm), B.me, _, rfl, iteT ?_⟩
    refine ⟨_, rfl, a, C, dx, _, _, rfl, hp, B.cl, B.nA, rfl, _, rfl, b, C, dx', _, _, rfl, hp', B.cl, B.nA, rfl, .list (rs.map Rl.d), .list (rs'.map Rl.d), .lst (SqL.of hL) ?_, .lst (SqL.of hL') ?_, shaped_rules c1, shaped_rules c2, ?_⟩
    · rw [← hm]
      exact dp_rules hR
    · rw [← hm']
      exact dp_rules hR'
    · have e : PyData.eqv (.list (rs.map Rl.d)) (.list (rs'.map Rl.d)) = decide (rs = rs') := eqv_ds rs rs'
      rw [e]
      exact k
end
end Ts


set_option Elab.async false
set_option linter.all false
set_option maxRecDepth 100000
set_option maxHeartbeats 4000000
namespace Ts
open PySem PySem.Spec L2 CmbK
open Evl (Ex)
def one (n : Int) (s : Str) : Rl := ⟨n, some n, s, 0, 1⟩
/-- the small rules, ascending -/
def smallR : List Rl := [one 0 "two", one 1 "none", one 1 "one", one 1 "two", one 2 "none", one 2 "one", one 2 "two", one 3 "none", one 3 "one", one 3 "two"]
def rAt (j : Nat) : Rl := smallR.getD j (one 0 "two")
/-- the rows of indexes whose rules make the small books with fewer than i rules -/
def rowsC (i : Nat) : List (List Nat) := (List.range i).flatMap fun r => combs (List.range 10) r
def allC : List (List Nat) := rowsC 11
def rowR (c : List Nat) : List Rl := c.map rAt
theorem small_turn : ∀ (i j : Nat) (x : V), i < 3 → lefts[j]? = some x → ∃ r, (smallR.drop 1)[3 * i + j]? = some r ∧ r.vs = [.int (1 + (i : Nat)), .int (1 + (i : Nat)), x, .int 0, .int 1]
  | 0, 0, _, _, h => by cases h; exact ⟨_, rfl, rfl⟩
  | 0, 1, _, _, h => by cases h; exact ⟨_, rfl, rfl⟩
  | 0, 2, _, _, h => by cases h; exact ⟨_, rfl, rfl⟩
  | 1, 0, _, _, h => by cases h; exact ⟨_, rfl, rfl⟩
  | 1, 1, _, _, h => by cases h; exact ⟨_, rfl, rfl⟩
  | 1, 2, _, _, h => by cases h; exact ⟨_, rfl, rfl⟩
  | 2, 0, _, _, h => by cases h; exact ⟨_, rfl, rfl⟩
  | 2, 1, _, _, h => by cases h; exact ⟨_, rfl, rfl⟩
  | 2, 2, _, _, h => by cases h; exact ⟨_, rfl, rfl⟩
  | 0, j + 3, _, _, h => by cases h
  | 1, j + 3, _, _, h => by cases h
  | 2, j + 3, _, _, h => by cases h
  | i + 3, _, _, hi, _ => by omega
theorem RulesAt.mut {H : Hp} {qs : List (Addr × Rl)} {M : Addr} {l l' : List V} (h : RulesAt H qs) (hM : H M = some (.lst l)) : RulesAt (upd H M (.lst l')) qs := fun q hq => by
  have z := h q hq
  have ne : q.1 ≠ M := fun e => by
    rw [e, hM] at z
    cases z
  rw [upd_ne ne]
  exact z
theorem RulesAt.ex {H H' : Hp} {qs : List (Addr × Rl)} (h : RulesAt H qs) (e : Ex H H') : RulesAt H' qs := fun q hq => e _ _ (h q hq)
theorem take_succ {α : Type} {l : List α} {k : Nat} {x : α} (h : l[k]? = some x) : l.take (k + 1) = l.take k ++ [x] := by
  rw [List.take_add_one, h]
  rfl
/-- rows of things of xs -/
def RowsAt (xs : List V) (H : Hp) (ts : List (Addr × List Nat)) : Prop := ∀ q ∈ ts, H q.1 = some (.tup (q.2.map fun j => xs.getD j .non))
theorem RowsAt.mut {xs : List V} {H : Hp} {qs : List (Addr × List Nat)} {M : Addr} {l l' : List V} (h : RowsAt xs H qs) (hM : H M = some (.lst l)) : RowsAt xs (upd H M (.lst l')) qs := fun q hq => by
  have z := h q hq
  have ne : q.1 ≠ M := fun e => by
    rw [e, hM] at z
    cases z
  rw [upd_ne ne]
  exact z
theorem RowsAt.ex {xs : List V} {H H' : Hp} {qs : List (Addr × List Nat)} (h : RowsAt xs H qs) (e : Ex H H') : RowsAt xs H' qs := fun q hq => e _ _ (h q hq)
theorem rows_len : ∀ i, i ≤ 11 → (rowsC i).length ≤ 1024 := by
  intro i hi
  have z : (List.range 12).all (fun i => decide ((rowsC i).length ≤ 1024)) = true := by decide +kernel
  exact of_decide_eq_true (List.all_eq_true.mp z i (List.mem_range.mpr (by omega)))
theorem rows_succ (i : Nat) : rowsC (i + 1) = rowsC i ++ combs (List.range 10) i := by
  unfold rowsC
  rw [List.range_succ (n := i), List.flatMap_append]
  show _ ++ (combs (List.range 10) i ++ []) = _
  rw [List.append_nil]
section
variable {P : Program} {w : World} {K : PySem.W.Frag} {mg : Str → Option Value} {base : Heap}
abbrev s_srules := top 22
abbrev s_srows := top 23
theorem sc_srules : FnScope ["rules", "number", "left"] [] (defScope s_srules) := ⟨rfl, rfl, rfl, by decide +kernel, rfl, by decide +kernel, by decide +kernel⟩
theorem sc_srows : FnScope ["rules", "many", "row"] [] (defScope s_srows) := ⟨rfl, rfl, rfl, by decide +kernel, rfl, by decide +kernel, by decide +kernel⟩
def spSrules : Sp := fun vs H Q _ => vs = [] ∧ ∀ (L : Addr) H' (qs : List (Addr × Rl)), H L = none → Ex H H' → H' L = some (.lst (qs.map fun q => V.ref q.1)) → RulesAt H' qs → qs.map (·.2) = smallR → Q (.ref L) H'
theorem ok_srules {f : Addr} {fd : FuncData} (F : FD K mg "small_rules" "small_rules" s_srules f fd) (T : Bl mg) {tm : Tok} (hMS : mg "MOST_SMALL" = some (.int 3 tm)) {tl : Addr} (hL : mg "LEFTS" = some (.ref tl)) (hT : ∀ H : Hp, SqT K H tl lefts) : FnOk P w K mg base CX0 1 f fd [] spSrules := by
  refine F.F.ok sc_srules (fun vs H Q E h => ?_) (fun cdv A outer s H vs Q E hr h => ?_)
  · obtain ⟨rfl, _⟩ := h
    rfl
  · obtain ⟨rfl, k⟩ := h
    have nd := sc_srules.nd
    refine ⟨_, (pss_cons (ps_setLc2 (wi1 := iTup K (tC (.ref tl))) (i := 0) (own := [("number", 1), ("left", 2)]) (vs1 := [2]) (g := gName 1) (g1 := gName 2) (tt := tYes) (tt1 := tYes) rfl nd rfl rfl (sw_true rfl rfl rfl (by decide +kernel)) (pi_range2 (by rfl) T.range (pa_cons pe_int (pa_cons (pe_op op_add (pe_glob (v := .int 3) rfl hMS ⟨_, rfl⟩) pe_int) pa_nil))) (blkOk_by (N := ["rules", "number", "left"]) (sc := defScope s_srules) (by decide +kernel)) (by decide)
        (fun _ _ _ _ _ => pg_name (i := 1) nd rfl (Or.inl rfl)) (fun _ _ _ _ _ => pts_nil) (fun _ _ _ _ _ => pi_tup (pe_glob (v := .ref tl) rfl hL rfl)) (fun _ _ _ _ _ => pg_name (i := 2) nd rfl (Or.inl rfl)) (fun _ _ _ _ _ => pts_nil)
        (fun _ _ _ _ _ => pe_tup (pa_cons (pv 1) (pa_cons (pv 1) (pa_cons (pv 2) (pa_cons pe_int (pa_cons pe_int pa_nil)))))))
      (pss_one (ps_ret (pe_op op_cat (pe_lst (pa_cons (pe_tup (pa_cons pe_int (pa_cons pe_int (pa_cons pe_str (pa_cons pe_int (pa_cons pe_int pa_nil)))))) pa_nil)) (pv 0))))), ?_⟩
    refine ⟨_, _, rfl, rfl, _, _, rfl, ⟨by decide, by decide, by decide, by decide⟩, fun D hD => ?_⟩
    refine it_gen (walk_range (lo := 1) (n := ((3 : Int) + 1 - 1).toNat)) (fun i H' => Ex H H' ∧ ∃ qs : List (Addr × Rl), H' D = some (.lst (qs.map fun q => V.ref q.1)) ∧ RulesAt H' qs ∧ qs.map (·.2) = (smallR.drop 1).take (3 * i))
      ⟨Ex.new hD, [], upd_same, (fun q hq => by cases hq), rfl⟩ (fun _ _ _ _ => trivial) (fun i x H1 H2 hi p y => ?_) (fun H' p => ?_)
    · obtain ⟨e, qs, hd, hR, hm⟩ := p
      obtain ⟨eH, rfl⟩ := y
      subst eH
      have hi : i < 3 := hi
      refine ⟨rfl, yes_of ⟨tl, rfl, ⟨_, hT _⟩, ?_⟩⟩
      refine it_gen (walk_tup (xs := lefts)) (fun j H' => Ex H H' ∧ ∃ qs : List (Addr × Rl), H' D = some (.lst (qs.map fun q => V.ref q.1)) ∧ RulesAt H' qs ∧ qs.map (·.2) = (smallR.drop 1).take (3 * i + j)) ⟨e, qs, hd, hR, hm⟩ (fun _ _ _ _ => hT _) (fun j x H3 H4 hj p y => ?_) (fun H' p => ?_)
      · obtain ⟨e, qs, hd, hR, hm⟩ := p
        obtain ⟨eH, hx⟩ := y
        subst eH
        obtain ⟨r, hr1, hr2⟩ := small_turn i j x hi hx
        refine ⟨rfl, yes_of ⟨_, rfl, _, rfl, _, rfl, by show 5 ≤ sizeLine; decide, fun z nz => ?_⟩⟩
        have ez := Ex.new (o := .tup [.int (1 + (i : Nat)), .int (1 + (i : Nat)), x, .int 0, .int 1]) nz
        have hz : upd H4 z (.tup [.int (1 + (i : Nat)), .int (1 + (i : Nat)), x, .int 0, .int 1]) z = some (.tup r.vs) := by rw [upd_same, hr2]
        have hl : qs.length ≤ 9 := by
          have := congrArg List.length hm
          rw [List.length_map, List.length_take] at this
          have : (smallR.drop 1).length = 9 := rfl
          omega
        refine ⟨_, ez _ _ hd, by rw [List.length_map]; exact Nat.lt_of_le_of_lt hl (by decide), (e.trans ez).mut hD, qs ++ [(z, r)], by rw [upd_same, List.map_append]; rfl, RulesAt.mut (fun q hq => ?_) (ez _ _ hd), ?_⟩
        · rcases List.mem_append.mp hq with hq | hq
          · exact ez _ _ (hR q hq)
          · rw [List.mem_singleton.mp hq]
            exact hz
        · rw [List.map_append, hm, ← Nat.add_assoc, take_succ hr1]
          rfl
      · obtain ⟨e, qs, hd, hR, hm⟩ := p
        exact ⟨e, qs, hd, hR, hm⟩
    · obtain ⟨e, qs, hd, hR, hm⟩ := p
      have hm : qs.map (·.2) = smallR.drop 1 := hm
      refine ⟨by show 5 ≤ sizeLine; decide, fun t nt => ⟨by show 1 ≤ sizeLine; decide, fun l nl => ?_⟩⟩
      have et := Ex.new (o := .tup [.int 0, .int 0, .str "two", .int 0, .int 1]) nt
      have ht : upd H' t (.tup [.int 0, .int 0, .str "two", .int 0, .int 1]) t = some (.tup (one 0 "two").vs) := upd_same
      have nl2 := nl
      generalize upd H' t (.tup [.int 0, .int 0, .str "two", .int 0, .int 1]) = H2 at et ht nl ⊢
      have el := Ex.new (o := .lst [V.ref t]) nl
      have hl : upd H2 l (.lst [V.ref t]) l = some (.lst [V.ref t]) := upd_same
      generalize upd H2 l (.lst [V.ref t]) = H3 at el hl ⊢
      refine ⟨_, rfl, l, D, _, _, rfl, rfl, hl, el _ _ (et _ _ hd), ?_, fun p np => ?_⟩
      · have hq : qs.length ≤ 9 := by
          have := congrArg List.length hm
          rw [List.length_map] at this
          have : (smallR.drop 1).length = 9 := rfl
          omega
        rw [List.length_map]
        show 1 + qs.length ≤ sizeLine
        exact Nat.le_trans (show 1 + qs.length ≤ 10 by omega) (by decide)
      · have eA := (e.trans et).trans el
        have ep := Ex.new (o := .lst ([V.ref t] ++ qs.map fun q => V.ref q.1)) np
        refine k p _ ((t, one 0 "two") :: qs) (Evl.fresh_back eA np) (eA.trans ep) (by rw [upd_same]; rfl) (fun q hq => ?_) (by rw [List.map_cons, hm]; rfl)
        rcases List.mem_cons.mp hq with rfl | hq
        · exact ep _ _ (el _ _ ht)
        · exact ep _ _ (el _ _ (et _ _ (hR q hq)))
def spSrows : Sp := fun vs H Q _ => vs = [] ∧ ∀ (L R : Addr) H' (qs : List (Addr × Rl)) (ts : List (Addr × List Nat)), H L = none → H R = none → Ex H H' → H' R = some (.lst (qs.map fun q => V.ref q.1)) → RulesAt H' qs → qs.map (·.2) = smallR →
  H' L = some (.lst (ts.map fun q => V.ref q.1)) → RowsAt (qs.map fun q => V.ref q.1) H' ts → ts.map (·.2) = allC → Q (.ref L) H'
theorem ok_srows {f f1 : Addr} {fd fd1 : FuncData} (F : FD K mg "small_rows" "small_rows" s_srows f fd) (F_srules : FD K mg "small_rules" "small_rules" s_srules f1 fd1) (G_srules : FnOk P w K mg base CX0 1 f1 fd1 [] spSrules) (T : Bl mg)
    (hcomb : mg "combinations" = some (.type "itertools.combinations")) : FnOk P w K mg base CX0 2 f fd [] spSrows := by
  have b_srules : Binds K fd1 [] [] := F_srules.F.binds fun _ _ _ _ _ _ us hl => match us, hl with | [], _ => rfl
  refine F.F.ok sc_srows (fun vs H Q E h => ?_) (fun cdv A outer s H vs Q E hr h => ?_)
  · obtain ⟨rfl, _⟩ := h
    rfl
  · obtain ⟨rfl, k⟩ := h
    have nd := sc_srows.nd
    refine ⟨_, (pss_cons (ps_set (i := 0) nd rfl (Or.inr rfl) (pe_call0 G_srules hr (by rfl) F_srules.g F_srules.F.kp b_srules .nil pass0))
      (pss_one (ps_ret (pe_lc2 (wi1 := iCmb K (tCons (tVar 0) (tCons (tVar 1) tNil))) (own := [("many", 1), ("row", 2)]) (vs1 := [2]) (g := gName 1) (g1 := gName 2) (tt := tYes) (tt1 := tYes) rfl nd (pi_range1 (by rfl) T.range (pa_cons (pe_op op_add (pe_callB call_len_seq (by rfl) T.len PySem.boot_len (pa_cons (pv 0) pa_nil)) pe_int) pa_nil)) (blkOk_by (N := ["rules", "many", "row"]) (sc := defScope s_srows) (by decide +kernel)) (by decide)
        (fun _ _ _ _ _ => pg_name (i := 1) nd rfl (Or.inl rfl)) (fun _ _ _ _ _ => pts_nil) (fun _ _ _ _ _ => pi_cmb (by rfl) hcomb (pa_cons (pv 0) (pa_cons (pv 1) pa_nil))) (fun _ _ _ _ _ => pg_name (i := 2) nd rfl (Or.inl rfl)) (fun _ _ _ _ _ => pts_nil)
        (fun _ _ _ _ _ => pv 2))))), ?_⟩
    refine ⟨rfl, fun R H1 qs nR e1 hR hRu hm => ?_⟩
    have hlen : qs.length = 10 := by
      have := congrArg List.length hm
      rw [List.length_map] at this
      exact this
    refine ⟨_, rfl, R, _, rfl, .inl (SqL.of hR), _, _, rfl, rfl, _, rfl, by rw [List.length_map, hlen]; decide, by rw [List.length_map, hlen]; decide, fun D hD => ?_⟩
    have en : ((((qs.map fun q => V.ref q.1).length : Nat) : Int) + 1).toNat = 11 := by rw [List.length_map, hlen]; rfl
    rw [en]
    refine it_gen (walk_range (lo := 0) (n := 11)) (fun i H' => Ex H1 H' ∧ ∃ ts : List (Addr × List Nat), H' D = some (.lst (ts.map fun q => V.ref q.1)) ∧ RowsAt (qs.map fun q => V.ref q.1) H' ts ∧ ts.map (·.2) = rowsC i)
      ⟨Ex.new hD, [], upd_same, (fun q hq => by cases hq), rfl⟩ (fun _ _ _ _ => trivial) (fun i x H2 H3 hi p y => ?_) (fun H' p => ?_)
    · obtain ⟨e, ts, hd, hT, hm2⟩ := p
      obtain ⟨eH, hx⟩ := y
      subst eH
      obtain rfl : x = .int ((i : Nat) : Int) := by
        rw [hx]
        show V.int (0 + ((i : Nat) : Int)) = _
        rw [Int.zero_add]
      refine ⟨rfl, yes_of ⟨_, rfl, _, rfl, R, qs.map fun q => V.ref q.1, i, combs (List.range 10) i, rfl, SqL.of (e _ _ hR), by rw [List.length_map, hlen]; decide, by rw [List.length_map, hlen]; omega, by rw [List.length_map, hlen]; exact chain10 i (by omega), ?_⟩⟩
      refine it_gen walk_cmb (fun j H' => Ex H1 H' ∧ ∃ ts : List (Addr × List Nat), H' D = some (.lst (ts.map fun q => V.ref q.1)) ∧ RowsAt (qs.map fun q => V.ref q.1) H' ts ∧ ts.map (·.2) = rowsC i ++ (combs (List.range 10) i).take j) ⟨e, ts, hd, hT, by rw [hm2, List.take_zero, List.append_nil]⟩ (fun _ _ _ _ => trivial) (fun j x H4 H5 hj p y => ?_) (fun H' p => ?_)
      · obtain ⟨e, ts, hd, hT, hm2⟩ := p
        obtain ⟨z, c, rfl, nz, hc, rfl⟩ := y
        have ez := Ex.new (o := .tup (c.map fun j => (qs.map fun q => V.ref q.1).getD j .non)) nz
        have hz : upd H4 z (.tup (c.map fun j => (qs.map fun q => V.ref q.1).getD j .non)) z = some (.tup (c.map fun j => (qs.map fun q => V.ref q.1).getD j .non)) := upd_same
        have hl : ts.length ≤ 1024 := by
          have z1 := congrArg List.length hm2
          have z2 := rows_len (i + 1) (by omega)
          rw [rows_succ, List.length_append] at z2
          rw [List.length_map, List.length_append, List.length_take] at z1
          omega
        refine ⟨rfl, yes_of ⟨_, rfl, _, ez _ _ hd, by rw [List.length_map]; exact Nat.lt_of_le_of_lt hl (by decide), (e.trans ez).mut hD, ts ++ [(z, c)], by rw [upd_same, List.map_append]; rfl, RowsAt.mut (fun q hq => ?_) (ez _ _ hd), ?_⟩⟩
        · rcases List.mem_append.mp hq with hq | hq
          · exact ez _ _ (hT q hq)
          · rw [List.mem_singleton.mp hq]
            exact hz
        · rw [List.map_append, hm2, take_succ hc, List.append_assoc]
          rfl
      · obtain ⟨e, ts, hd, hT, hm2⟩ := p
        rw [List.take_length] at hm2
        exact ⟨e, ts, hd, hT, by rw [hm2, rows_succ]⟩
    · obtain ⟨e, ts, hd, hT, hm2⟩ := p
      exact k D R H' qs ts (Evl.fresh_back e1 hD) nR (e1.trans e) (e _ _ hR) (hRu.ex e) hm hd hT hm2
end
end Ts


set_option Elab.async false
set_option linter.all false
set_option maxRecDepth 100000
set_option maxHeartbeats 4000000
namespace Ts
open PySem PySem.Spec L2 CmbK
open PySem.W (dataLe)
open Evl (Ex)
abbrev Rl.ds (r : Rl) : List PyData := [.int r.low, hiD r.high, .str r.left, .int r.rest, .int r.mod]
theorem hiOf_hiD (h : Option Int) : hiOf (hiD h) = h := by cases h <;> rfl
theorem items_mk (k : Bool) (l : List PyData) : items (mk k l) = l := by cases k <;> rfl
theorem isRow_mk (k : Bool) (l : List PyData) : isRow (mk k l) = true := by cases k <;> rfl
theorem rlOf_mk (k : Bool) (r : Rl) : rlOf (mk k r.ds) = r := by
  unfold rlOf
  rw [items_mk]
  show (⟨r.low, hiOf (hiD r.high), r.left, r.rest, r.mod⟩ : Rl) = r
  rw [hiOf_hiD]
theorem isRule_mk (k : Bool) {r : Rl} (h : r.Ok) : isRule (mk k r.ds) = true := by
  unfold isRule
  rw [isRow_mk, items_mk]
  show (true && rule5 _ _ _ _ _) = true
  have h0 := h.low0
  have h1 := h.low1
  have h2 := h.rest0
  have h3 := h.rest1
  have m0 : 0 ≤ r.mod := by omega
  have z1 : isNum (.int r.low) = true := decide_eq_true h0
  have z2 : isNum (.int r.rest) = true := decide_eq_true h2
  have z3 : isNum (.int r.mod) = true := decide_eq_true m0
  have z4 : isLeft (.str r.left) = true := h.left
  unfold rule5
  rw [z1, z2, z3, z4]
  have z5 : (!(decide (intOf (.int r.low) = 0) && !isTwo (.str r.left))) = true := by
    show (!(decide (r.low = 0) && !decide (V.str r.left = V.str "two"))) = true
    by_cases c : r.low = 0
    · rw [decide_eq_true (h1 c)]
      simp
    · rw [decide_eq_false c]
      rfl
  have z6 : decide (intOf (.int r.rest) < intOf (.int r.mod)) = true := decide_eq_true h3
  rw [z5, z6]
  have z7 : (if isNon (hiD r.high) = true then decide (intOf (.int r.mod) = 1) && !isTwo (.str r.left) else isNum (hiD r.high) && decide (intOf (.int r.low) ≤ intOf (hiD r.high))) = true := by
    cases e : r.high with
    | none =>
      obtain ⟨g1, g2⟩ := h.grow e
      show (decide (r.mod = 1) && !decide (V.str r.left = V.str "two")) = true
      rw [decide_eq_true g1, decide_eq_false g2]
      rfl
    | some i =>
      have g := h.high i e
      have g0 : 0 ≤ i := by omega
      show (decide (0 ≤ i) && decide (r.low ≤ i)) = true
      rw [decide_eq_true g0, decide_eq_true g]
      rfl
  rw [z7]
  rfl
theorem fault_none : ∀ {ds : List PyData} {i : Nat} {seen : List Rl} {g s : Bool}, (∀ e ∈ ds, isRule e = true) → (ds.map rlOf).Nodup → (∀ e ∈ ds, rlOf e ∉ seen) → ((g = false ∧ ∀ e ∈ ds, (rlOf e).high ≠ none) ∨ (s = false ∧ ∀ e ∈ ds, V.str (rlOf e).left ≠ V.str "two")) → faultAt ds i seen g s = none
  | [], _, _, _, _, _, _, _, _ => rfl
  | d :: ds, i, seen, g, s, h1, h2, h3, h4 => by
    rw [faultAt_cons, if_pos (h1 d List.mem_cons_self), if_neg (by rw [decide_eq_false (h3 d List.mem_cons_self)]; decide)]
    rw [List.map_cons, List.nodup_cons] at h2
    have hq : ((g || (rlOf d).high.isNone) && (s || decide (V.str (rlOf d).left = V.str "two"))) = false := by
      rcases h4 with ⟨rfl, h⟩ | ⟨rfl, h⟩
      · have z := h d List.mem_cons_self
        cases e : (rlOf d).high with
        | none => exact absurd e z
        | some j => rfl
      · rw [decide_eq_false (h d List.mem_cons_self)]
        simp
    rw [if_neg (by rw [hq]; decide)]
    refine fault_none (fun e he => h1 e (List.mem_cons_of_mem _ he)) h2.2 (fun e he m => ?_) ?_
    · rcases List.mem_append.mp m with m | m
      · exact h3 e (List.mem_cons_of_mem _ he) m
      · have m : rlOf e = rlOf d := List.mem_singleton.mp m
        exact h2.1 (List.mem_map.mpr ⟨e, he, m⟩)
    · refine h4.imp (fun h => ⟨?_, fun e he => h.2 e (List.mem_cons_of_mem _ he)⟩) fun h => ⟨?_, fun e he => h.2 e (List.mem_cons_of_mem _ he)⟩
      · have z := h.2 d List.mem_cons_self
        rw [h.1]
        cases e : (rlOf d).high with
        | none => exact absurd e z
        | some j => rfl
      · rw [h.1, decide_eq_false (h.2 d List.mem_cons_self)]
        rfl
theorem rules_D {H : Hp} : ∀ {qs : List (Addr × Rl)}, (∀ q ∈ qs, H q.1 = some (.tup q.2.vs)) → DAll H (qs.map fun q => V.ref q.1) (qs.map fun q => q.2.d)
  | [], _ => .nil
  | q :: t, h => by
    refine .cons ?_ (rules_D fun x hx => h x (List.mem_cons_of_mem _ hx))
    refine .tup (h q List.mem_cons_self) (.cons (.int _) (.cons ?_ (.cons (.str _) (.cons (.int _) (.cons (.int _) .nil)))))
    cases q.2.high with
    | none => exact .non
    | some i => exact .int _
theorem new_del {H : Hp} {p dx : Addr} {C : Addr} (np : H p = none) (ndx : H dx = none) : Ex H (del (upd (upd H dx (.own p)) p (.ins C dx [])) p) := fun z o hz => by
  have n1 : z ≠ p := fun w => by
    rw [w, np] at hz
    cases hz
  have n2 : z ≠ dx := fun w => by
    rw [w, ndx] at hz
    cases hz
  rw [del_ne n1, upd_ne n1, upd_ne n2]
  exact hz
theorem rule_D {H : Hp} {p : Addr} {r : Rl} (h : H p = some (.tup r.vs)) : D H (.ref p) r.d := by
  refine .tup h (.cons (.int _) (.cons ?_ (.cons (.str _) (.cons (.int _) (.cons (.int _) .nil)))))
  cases r.high with
  | none => exact .non
  | some i => exact .int _
theorem BookAt.ex {C : Addr} {H H' : Hp} {p : Addr} {rs : List Rl} (e : Ex H H') (h : BookAt C H p rs) : BookAt C H' p rs := by
  obtain ⟨dx, L, qs, h1, h2, h3, h4⟩ := h
  exact ⟨dx, L, qs, e _ _ h1, e _ _ h2, fun q hq => e _ _ (h3 q hq), h4⟩
structure BkMade (K : PySem.W.Frag) (mg : Str → Option Value) (CB fI : Addr) : Prop where
  g : mg "Book" = some (.ref CB)
  made : Mk K CB fI
theorem rAt_one : ∀ j, ∃ n s, rAt j = one n s ∧ 0 ≤ n ∧ n ≤ 3 ∧ s.length ≤ 100 ∧ isRule (rAt j).d = true ∧ PyData.canLay0 (rAt j).d = true
  | 0 => ⟨0, "two", rfl, by decide, by decide, by decide, by decide +kernel, by decide +kernel⟩
  | 1 => ⟨1, "none", rfl, by decide, by decide, by decide, by decide +kernel, by decide +kernel⟩
  | 2 => ⟨1, "one", rfl, by decide, by decide, by decide, by decide +kernel, by decide +kernel⟩
  | 3 => ⟨1, "two", rfl, by decide, by decide, by decide, by decide +kernel, by decide +kernel⟩
  | 4 => ⟨2, "none", rfl, by decide, by decide, by decide, by decide +kernel, by decide +kernel⟩
  | 5 => ⟨2, "one", rfl, by decide, by decide, by decide, by decide +kernel, by decide +kernel⟩
  | 6 => ⟨2, "two", rfl, by decide, by decide, by decide, by decide +kernel, by decide +kernel⟩
  | 7 => ⟨3, "none", rfl, by decide, by decide, by decide, by decide +kernel, by decide +kernel⟩
  | 8 => ⟨3, "one", rfl, by decide, by decide, by decide, by decide +kernel, by decide +kernel⟩
  | 9 => ⟨3, "two", rfl, by decide, by decide, by decide, by decide +kernel, by decide +kernel⟩
  | _ + 10 => ⟨0, "two", rfl, by decide, by decide, by decide, by show isRule (rAt 0).d = true; decide +kernel, by show PyData.canLay0 (rAt 0).d = true; decide +kernel⟩
theorem rAt_rule (j : Nat) : isRule (rAt j).d = true := let ⟨_, _, _, _, _, _, h, _⟩ := rAt_one j; h
theorem rAt_lay (j : Nat) : PyData.canLay0 (rAt j).d = true := let ⟨_, _, _, _, _, _, _, h⟩ := rAt_one j; h
theorem rAt_high (j : Nat) : (rAt j).high ≠ none := by
  obtain ⟨n, s, e, _⟩ := rAt_one j
  rw [e]
  intro z
  cases z
theorem wr_small {n : Int} (h0 : 0 ≤ n) (h3 : n ≤ 3) : Wr n := by
  unfold Wr
  have : n.natAbs.log2 ≤ n.natAbs := Nat.log2_le_self _
  omega
theorem rAt_sml (j : Nat) : (rAt j).Sml := by
  obtain ⟨n, s, e, h0, h3, hs, _⟩ := rAt_one j
  rw [e]
  exact ⟨wr_small h0 h3, wr_small h0 h3, hs, wr_small (n := 0) (by decide) (by decide), wr_small (n := 1) (by decide) (by decide)⟩
theorem rlOf_d (r : Rl) : rlOf r.d = r := rlOf_mk false r
/-- what holds of all rows of indexes -/
theorem allC_good : ∀ c ∈ allC, c.Pairwise (· < ·) ∧ (∀ j ∈ c, j < 10) ∧ c.length ≤ 10 := by
  intro c hc
  have z : (allC.all fun c => decide (c.Pairwise (· < ·)) && (c.all fun j => decide (j < 10)) && decide (c.length ≤ 10)) = true := by decide +kernel
  have h := List.all_eq_true.mp z c hc
  rw [Bool.and_eq_true, Bool.and_eq_true] at h
  exact ⟨of_decide_eq_true h.1.1, fun j hj => of_decide_eq_true (List.all_eq_true.mp h.1.2 j hj), of_decide_eq_true h.2⟩
theorem rAt_inj : ∀ i j, i < 10 → j < 10 → rAt i = rAt j → i = j := by
  intro i j hi hj h
  have z : ((List.range 10).all fun i => (List.range 10).all fun j => !decide (rAt i = rAt j) || decide (i = j)) = true := by decide +kernel
  have q := List.all_eq_true.mp (List.all_eq_true.mp z i (List.mem_range.mpr hi)) j (List.mem_range.mpr hj)
  rw [decide_eq_true h] at q
  exact of_decide_eq_true (by simpa using q)
theorem allC_len : allC.length = 1024 := by decide +kernel
theorem rowR_nodup {c : List Nat} (h : c ∈ allC) : (rowR c).Nodup := by
  obtain ⟨h1, h2, _⟩ := allC_good c h
  unfold rowR
  refine List.pairwise_map.mpr (h1.imp_of_mem fun {a b} ha hb hab e => ?_)
  have := rAt_inj a b (h2 a ha) (h2 b hb) e
  omega
theorem row_fault {c : List Nat} (h : c ∈ allC) (k : Bool) : faultV (mk k ((rowR c).map Rl.d)) = .non ∧ (items (mk k ((rowR c).map Rl.d))).map rlOf = rowR c ∧ (items (mk k ((rowR c).map Rl.d))).length ≤ 60 ∧ ∀ e ∈ items (mk k ((rowR c).map Rl.d)), isRule e = true → (rlOf e).Sml := by
  have hm : ((rowR c).map Rl.d).map rlOf = rowR c := by
    rw [List.map_map]
    have : (rlOf ∘ Rl.d) = id := funext fun r => rlOf_d r
    rw [this, List.map_id]
  have he : ∀ e ∈ (rowR c).map Rl.d, ∃ j, e = (rAt j).d := fun e he => by
    obtain ⟨r, hr, rfl⟩ := List.mem_map.mp he
    obtain ⟨j, _, rfl⟩ := List.mem_map.mp hr
    exact ⟨j, rfl⟩
  rw [items_mk]
  refine ⟨?_, hm, ?_, fun e h' _ => ?_⟩
  · unfold faultV
    rw [if_pos (isRow_mk k _), items_mk, fault_none (fun e h' => ?_) (by rw [hm]; exact rowR_nodup h) (fun e _ m => by cases m) (.inl ⟨rfl, fun e h' => ?_⟩)]
    · obtain ⟨j, rfl⟩ := he e h'
      exact rAt_rule j
    · obtain ⟨j, rfl⟩ := he e h'
      rw [rlOf_d]
      exact rAt_high j
  · rw [List.length_map]
    unfold rowR
    rw [List.length_map]
    have := (allC_good c h).2.2
    omega
  · obtain ⟨j, rfl⟩ := he e h'
    rw [rlOf_d]
    exact rAt_sml j
theorem rAt_get {qs : List (Addr × Rl)} (hm : qs.map (·.2) = smallR) {j : Nat} (hj : j < 10) : ∃ q ∈ qs, (qs.map fun q => V.ref q.1).getD j .non = .ref q.1 ∧ q.2 = rAt j := by
  have hl : qs.length = 10 := by
    have := congrArg List.length hm
    rw [List.length_map] at this
    exact this
  have hq : j < qs.length := by omega
  refine ⟨qs[j], List.getElem_mem hq, ?_, ?_⟩
  · rw [List.getD_eq_getElem?_getD, List.getElem?_map, List.getElem?_eq_getElem hq]
    rfl
  · have z : (qs.map (·.2))[j]? = some qs[j].2 := by rw [List.getElem?_map, List.getElem?_eq_getElem hq]; rfl
    rw [hm] at z
    unfold rAt
    rw [List.getD_eq_getElem?_getD, z]
    rfl
theorem row_D {H : Hp} {qs : List (Addr × Rl)} (hR : RulesAt H qs) (hm : qs.map (·.2) = smallR) : ∀ {c : List Nat}, (∀ j ∈ c, j < 10) → DAll H (c.map fun j => (qs.map fun q => V.ref q.1).getD j .non) ((rowR c).map Rl.d)
  | [], _ => .nil
  | j :: c, h => by
    obtain ⟨q, hq, e1, e2⟩ := rAt_get hm (h j List.mem_cons_self)
    refine .cons ?_ (row_D hR hm fun x hx => h x (List.mem_cons_of_mem _ hx))
    show D H ((qs.map fun q => V.ref q.1).getD j .non) (rAt j).d
    rw [e1, ← e2]
    exact rule_D (hR q hq)
section
variable {P : Program} {w : World} {K : PySem.W.Frag} {mg : Str → Option Value} {base : Heap}
abbrev s_sbook := top 24
theorem sc_sbook : FnScope ["number", "rows"] ["number"] (defScope s_sbook) := ⟨rfl, rfl, rfl, by decide +kernel, rfl, by decide +kernel, by decide +kernel⟩
def spSbook (CB CN : Addr) : Sp := fun vs H Q E => ∃ v d, vs = [v] ∧ D H v d ∧ (isBelow 1024 d = false → ∀ H', Ex H H' → Raised H' "thing" v CN E) ∧
  ∀ m : Nat, d = .int (m : Nat) → m < 1024 → ∀ H' b, H b = none → Ex H H' → BookAt CB H' b (sortR (rowR (allC.getD m []))) → (∀ dx L, H' b = some (.ins CB dx [("_rules", .ref L)]) → H L = none) → Q (.ref b) H'
theorem ok_sbook {f f1 f2 fI CB CR CN : Addr} {fd fd1 fd2 fdI : FuncData} (F : FD K mg "small_book" "small_book" s_sbook f fd) (F_srows : FD K mg "small_rows" "small_rows" s_srows f1 fd1) (G_srows : FnOk P w K mg base CX0 2 f1 fd1 [] spSrows)
    (F_nb : FD K mg "need_below" "need_below" s_need_below f2 fd2) (G_nb : FnOk P w K mg base (L2.CX P w) 3 f2 fd2 ["many", "thing"] (spBelowN CN)) (T : Bl mg)
    (BC : BkMade K mg CB fI) (F_I : Fun K "__init__" "Book.__init__" s_binit fI fdI) (G_binit : FnOk P w K mg base (L2.CX P w) 5 fI fdI ["self", "rules"] (spBook CB CR)) : FnOk P w K mg base (L2.CX P w) 7 f fd ["number"] (spSbook CB CN) := by
  have b_srows : Binds K fd1 [] [] := F_srows.F.binds fun _ _ _ _ _ _ us hl => match us, hl with | [], _ => rfl
  have b_nb : Binds K fd2 ["many", "thing"] [] := F_nb.F.binds fun _ _ _ _ _ _ us hl => match us, hl with | [_, _], _ => rfl
  have b_binit : Binds K fdI ["self", "rules"] [] := F_I.binds fun _ _ _ _ _ _ us hl => match us, hl with | [_, _], _ => rfl
  refine F.F.okX sc_sbook (fun vs H Q E h => ?_) (fun cdv A outer s H vs Q E hr h => ?_)
  · obtain ⟨v, d, rfl, _⟩ := h
    rfl
  · obtain ⟨v, d, rfl, hd, k2, k1⟩ := h
    have nd := sc_sbook.nd
    refine ⟨_, (pss_cons (ps_set (i := 1) nd rfl (Or.inl rfl) (pe_call0 G_srows (hr.mono (by decide)) (by rfl) F_srows.g F_srows.F.kp b_srows .nil pass0))
      (pss_cons (ps_expr (pe_call G_nb (hr.mono (by decide)) (by rfl) F_nb.g F_nb.F.kp b_nb .nil (passes_call (takes_of rfl rfl rfl rfl) (fun _ _ _ _ h => h)) (pa_cons (pe_callB call_len_seq (by rfl) T.len PySem.boot_len (pa_cons (pv 1) pa_nil)) (pa_cons (pv 0) pa_nil))))
      (pss_one (ps_ret (pe_make BC.made G_binit (hr.mono (by decide)) (by rfl) BC.g b_binit .nil (passes_call (takes_of rfl rfl rfl rfl) (fun _ _ _ _ h => h)) (pa_cons (pe_ix ix_seq (pv 1) (pv 0) (fun _ _ => rfl)) pa_nil)))))), ?_⟩
    refine ⟨rfl, fun L R H1 qs ts nL nR e1 hR hRu hm hL hT ht => ?_⟩
    have hlen : (ts.map fun q => V.ref q.1).length = 1024 := by
      have := congrArg List.length ht
      rw [List.length_map, allC_len] at this
      rw [List.length_map, this]
    refine ⟨_, rfl, L, _, rfl, .inl (SqL.of hL), _, rfl, _, v, d, rfl, hd.ex e1, fun hb H2 e2 => ?_, fun hb H2 e2 => k2 (by rw [hlen] at hb; exact hb) H2 (e1.trans e2)⟩
    rw [hlen] at hb
    obtain ⟨n, rfl⟩ : ∃ n, d = .int n := by
      cases d <;> first
        | exact ⟨_, rfl⟩
        | cases hb
    have hb : (decide (0 ≤ n) && decide (n < 1024)) = true := hb
    obtain ⟨n0, n1⟩ := Bool.and_eq_true_iff.mp hb
    have n0 := of_decide_eq_true n0
    have n1 := of_decide_eq_true n1
    obtain ⟨m, rfl⟩ := Int.eq_ofNat_of_zero_le n0
    have hm1 : m < 1024 := by omega
    have hmt : m < ts.length := by rw [List.length_map] at hlen; omega
    obtain rfl := hd.int_of
    have e12 := e1.trans e2
    have hc : ts[m].2 = allC.getD m [] := by
      have z : (ts.map (·.2))[m]? = some ts[m].2 := by rw [List.getElem?_map, List.getElem?_eq_getElem hmt]; rfl
      rw [ht] at z
      rw [List.getD_eq_getElem?_getD, z]
      rfl
    have hmem : allC.getD m [] ∈ allC := by
      rw [List.getD_eq_getElem?_getD, List.getElem?_eq_getElem (by rw [allC_len]; exact hm1)]
      exact List.getElem_mem _
    refine ⟨_, rfl, _, rfl, ix_row (.inl (e2 _ _ hL)) (atI_nat (j := m) (by rw [List.getElem?_map, List.getElem?_eq_getElem hmt]; rfl)) ?_⟩
    intro p dx np ndx hne
    have e3 := new_del (C := CB) np ndx
    have hTt := e2 _ _ (hT ts[m] (List.getElem_mem hmt))
    rw [hc] at hTt
    obtain ⟨f1, f2', f3, f4⟩ := row_fault hmem false
    have hdd : D H2 (.ref ts[m].1) (mk false ((rowR (allC.getD m [])).map Rl.d)) := .tup hTt (row_D (hRu.ex e2) hm (allC_good _ hmem).2.1)
    refine ⟨p, dx, .ref ts[m].1, _, rfl, upd_same, hdd.ex e3, f3, f4, fun z => absurd f1 z, fun _ H4 e4 bk newL => ⟨rfl, ?_⟩⟩
    rw [f2'] at bk
    refine k1 m rfl hm1 H4 p (Evl.fresh_back e12 np) (e12.trans (e3.trans e4)) bk fun dx' L' hL' => ?_
    have z := newL dx' L' hL'
    have z2 : upd H2 dx (.own p) L' = none := Evl.fresh_back (Ex.new (o := .ins CB dx []) (by rw [upd_ne hne.symm]; exact np)) z
    exact Evl.fresh_back e12 (Evl.fresh_back (Ex.new (o := .own p) ndx) z2)
end
end Ts


set_option Elab.async false
set_option linter.all false
set_option maxRecDepth 100000
set_option maxHeartbeats 4000000
/-! ## sorted, of a list of any data that are alike -/
namespace Ts
open PySem PySem.Spec L2 PyProof.Rows
open PySem.W (dataLe)
open Evl (Ex)
theorem each_dp {X : Cx} {pins : List (Addr × Obj)} {σ : L2.St} {H : Hp} {s : Shared} (I : Inv X pins σ H s) {β : Type} (val : β → V) (enc : β → PyData) : ∀ {bs : List β} {vs : List Value}, Vals (bs.map val) vs → (∀ b ∈ bs, Dp X.K H (val b) (enc b)) →
    PySem.W.EachIs (fun (v : Value) (b : β) => RelV (val b) v) vs bs ∧ PySem.W.EachIs (fun v (b : β) => ∃ as, Reads s.heap v (enc b) as) vs bs
  | [], _, r, _ => by
    cases r
    exact ⟨.nil, .nil⟩
  | q :: t, _, r, k => by
    rw [List.map_cons] at r
    cases r with
    | cons r rr =>
      obtain ⟨h1, h2⟩ := each_dp I val enc rr fun x hx => k x (List.mem_cons_of_mem _ hx)
      exact ⟨.cons r h1, .cons (Dp.reads I _ _ _ (k q List.mem_cons_self) r) h2⟩
theorem each_valsB {β : Type} (val : β → V) : ∀ {vs : List Value} {bs : List β}, PySem.W.EachIs (fun (v : Value) (b : β) => RelV (val b) v) vs bs → Vals (bs.map val) vs
  | _, _, .nil => .nil
  | _, _, .cons r rr => .cons r (each_valsB val rr)
section
variable {X : Cx}
def rSortDp (K : PySem.W.Frag) : List V → Hp → VK → Prop := fun vs H Q => ∃ (β : Type) (val : β → V) (enc : β → PyData) (l : Addr) (bs : List β), vs = [.ref l] ∧ H l = some (.lst (bs.map val)) ∧ (∀ b ∈ bs, Dp K H (val b) (enc b)) ∧
  PySem.W.AllAlike (bs.map enc) ∧ PySem.W.Sortable (bs.map enc) ∧ (∀ b ∈ bs, (enc b).depth ≤ 60) ∧ ∀ (p : Addr), H p = none → Q (.ref p) (upd H p (.lst ((bs.mergeSort (dataLe false enc)).map val)))
theorem cr_sortedDp (hr : Room 1 X.A) : CallR X (.builtin "sorted") (rSortDp X.K) := by
  intro pins s σ H xs us Q I r h
  obtain ⟨β, val, enc, l, bs, rfl, hl, hb, al, so, dp, q⟩ := h
  obtain ⟨its, rv, hL, hz⟩ := I.list (show SqL X.K H l _ from .inl (.inl hl))
  rw [Vals.ref1 r]
  have hlen := rv.length
  rw [List.length_map] at hlen hz
  obtain ⟨e1, e2⟩ := each_dp I val enc rv hb
  refine PySem.W.sorted_data (enc := enc) hL.isList e1 e2 al so (by omega) (fun b hbm => ?_) fun out ho eo => ?_
  · have z := dp b hbm
    have := hr.units
    omega
  · obtain ⟨ep, he'⟩ := PyProof.Rows.sortedAll_at s.heap its out.toArray
    have hp : (bs.mergeSort (dataLe false enc)).Perm bs := List.mergeSort_perm _ _
    refine ⟨.ref _, upd H (s.heap.objs.size + 1) (.lst (_ : List V)), I.laid (t' := s.toks) (fun _ _ => PyProof.Rows.sortedAll_old) (Nat.le_succ _) ⟨?_, out, ep, each_valsB val eo, by simpa using he'⟩, rfl, q _ (I.hok.fresh (Nat.le_succ _))⟩
    rw [List.length_map, hp.length_eq]
    exact hz
end
end Ts


set_option Elab.async false
set_option linter.all false
set_option maxRecDepth 100000
set_option maxHeartbeats 4000000
namespace Ts
open PySem PySem.Spec L2 CmbK PyProof.Rows
open PySem.W (dataLe dataLt alike alikeAll keyToks keyToksAll dataLt_cons dataLt_list dataLt_pair dataLt_int)
open Evl (Ex)
/-! ## index lists by length, then as lists compare -/
def ltN : List Nat → List Nat → Bool
  | _, [] => false
  | [], _ :: _ => true
  | a :: s, b :: t => if a = b then ltN s t else decide (a < b)
def ltC (c d : List Nat) : Bool := if c.length = d.length then ltN c d else decide (c.length < d.length)
theorem ltN_irr : ∀ c, ltN c c = false
  | [] => rfl
  | a :: s => by
    unfold ltN
    rw [if_pos rfl]
    exact ltN_irr s
theorem ltN_trans : ∀ {s t u}, ltN s t = true → ltN t u = true → ltN s u = true
  | _, [], _, h, _ => by
    unfold ltN at h
    cases h
  | _, _ :: _, [], _, h => by cases h
  | [], _ :: _, _ :: _, _, _ => rfl
  | a :: s, b :: t, c :: u, h1, h2 => by
    unfold ltN at h1 h2 ⊢
    by_cases e : a = b
    · subst e
      rw [if_pos rfl] at h1
      by_cases f : a = c
      · subst f
        rw [if_pos rfl] at h2 ⊢
        exact ltN_trans h1 h2
      · rw [if_neg f] at h2 ⊢
        exact h2
    · rw [if_neg e] at h1
      have h1 := of_decide_eq_true h1
      by_cases f : b = c
      · subst f
        rw [if_neg e]
        exact decide_eq_true h1
      · rw [if_neg f] at h2
        have h2 := of_decide_eq_true h2
        rw [if_neg (by omega)]
        exact decide_eq_true (by omega)
theorem ltN_tri : ∀ s t, s = t ∨ ltN s t = true ∨ ltN t s = true
  | [], [] => .inl rfl
  | [], _ :: _ => .inr (.inl rfl)
  | _ :: _, [] => .inr (.inr rfl)
  | a :: s, b :: t => by
    unfold ltN
    by_cases e : a = b
    · subst e
      rw [if_pos rfl, if_pos rfl]
      rcases ltN_tri s t with h | h | h
      · exact .inl (by rw [h])
      · exact .inr (.inl h)
      · exact .inr (.inr h)
    · rw [if_neg e, if_neg (fun z => e z.symm)]
      rcases Nat.lt_or_lt_of_ne e with h | h
      · exact .inr (.inl (decide_eq_true h))
      · exact .inr (.inr (decide_eq_true h))
theorem ltC_irr (c : List Nat) : ltC c c = false := by
  unfold ltC
  rw [if_pos rfl]
  exact ltN_irr c
theorem ltC_trans {s t u : List Nat} (h1 : ltC s t = true) (h2 : ltC t u = true) : ltC s u = true := by
  unfold ltC at *
  by_cases e : s.length = t.length
  · rw [if_pos e] at h1
    by_cases f : t.length = u.length
    · rw [if_pos f] at h2
      rw [if_pos (e.trans f)]
      exact ltN_trans h1 h2
    · rw [if_neg f] at h2
      rw [if_neg (by omega), e]
      exact h2
  · rw [if_neg e] at h1
    have h1 := of_decide_eq_true h1
    by_cases f : t.length = u.length
    · rw [if_neg (by omega)]
      exact decide_eq_true (by omega)
    · rw [if_neg f] at h2
      have h2 := of_decide_eq_true h2
      rw [if_neg (by omega)]
      exact decide_eq_true (by omega)
theorem ltC_tri (s t : List Nat) : s = t ∨ ltC s t = true ∨ ltC t s = true := by
  unfold ltC
  by_cases e : s.length = t.length
  · rw [if_pos e, if_pos e.symm]
    exact ltN_tri s t
  · rw [if_neg e, if_neg (fun z => e z.symm)]
    rcases Nat.lt_or_lt_of_ne e with h | h
    · exact .inr (.inl (decide_eq_true h))
    · exact .inr (.inr (decide_eq_true h))
/-- each one less than the next one -/
def ascB : List (List Nat) → Bool
  | a :: b :: l => ltC a b && ascB (b :: l)
  | _ => true
theorem asc_all : ∀ {l : List (List Nat)}, ascB l = true → l.Pairwise fun a b => ltC a b = true
  | [], _ => .nil
  | [a], _ => List.pairwise_singleton _ _
  | a :: b :: l, h => by
    have h : (ltC a b && ascB (b :: l)) = true := h
    obtain ⟨h1, h2⟩ := Bool.and_eq_true_iff.mp h
    have z := asc_all h2
    refine List.pairwise_cons.mpr ⟨fun c hc => ?_, z⟩
    rcases List.mem_cons.mp hc with rfl | hc
    · exact h1
    · exact ltC_trans h1 ((List.pairwise_cons.mp z).1 c hc)
theorem asc_uniq : ∀ {l l' : List (List Nat)}, l.Pairwise (fun a b => ltC b a = false) → l'.Pairwise (fun a b => ltC a b = true) → l.Perm l' → l = l'
  | [], l', _, _, p => (List.nil_perm.mp p).symm
  | a :: l, l', h, h', p => by
    cases l' with
    | nil => exact absurd p.symm (by intro z; have := z.length_eq; simp at this)
    | cons b l' =>
      obtain ⟨h1, h2⟩ := List.pairwise_cons.mp h
      obtain ⟨g1, g2⟩ := List.pairwise_cons.mp h'
      have e : a = b := by
        have ma : a ∈ b :: l' := p.mem_iff.mp List.mem_cons_self
        have mb : b ∈ a :: l := p.mem_iff.mpr List.mem_cons_self
        rcases List.mem_cons.mp ma with e | ma
        · exact e
        · rcases List.mem_cons.mp mb with e | mb
          · exact e.symm
          · have := g1 a ma
            rw [h1 b mb] at this
            cases this
      subst e
      rw [asc_uniq h2 g2 (List.perm_cons a |>.mp p)]
theorem perm_mem {α : Type} [DecidableEq α] : ∀ {l l' : List α}, l.Nodup → l'.Nodup → (∀ x, x ∈ l ↔ x ∈ l') → l.Perm l'
  | [], l', _, _, h => by
    cases l' with
    | nil => exact .nil
    | cons b l' => exact absurd ((h b).mpr List.mem_cons_self) (by simp)
  | a :: l, l', h, h', m => by
    obtain ⟨h1, h2⟩ := List.nodup_cons.mp h
    have ma : a ∈ l' := (m a).mp List.mem_cons_self
    refine (List.Perm.cons a (perm_mem h2 (h'.erase a) fun x => ?_)).trans (List.perm_cons_erase ma).symm
    rw [h'.mem_erase_iff]
    constructor
    · intro hx
      exact ⟨fun e => h1 (e ▸ hx), (m x).mp (List.mem_cons_of_mem _ hx)⟩
    · rintro ⟨hx, hx'⟩
      rcases List.mem_cons.mp ((m x).mpr hx') with e | e
      · exact absurd e hx
      · exact e
theorem combs_mem : ∀ {l : List Nat} {r : Nat} {c : List Nat}, c ∈ combs l r ↔ c.Sublist l ∧ c.length = r
  | l, 0, c => by
    have e : combs l 0 = [[]] := by cases l <;> rfl
    rw [e, List.mem_singleton]
    constructor
    · rintro rfl
      exact ⟨List.nil_sublist _, rfl⟩
    · rintro ⟨_, h⟩
      exact List.eq_nil_of_length_eq_zero h
  | [], r + 1, c => by
    show c ∈ [] ↔ _
    constructor
    · intro h
      cases h
    · rintro ⟨h1, h2⟩
      rw [List.sublist_nil] at h1
      rw [h1] at h2
      cases h2
  | a :: l, r + 1, c => by
    show c ∈ (combs l r).map (a :: ·) ++ combs l (r + 1) ↔ _
    rw [List.mem_append, combs_mem, List.mem_map]
    constructor
    · rintro (⟨d, hd, rfl⟩ | ⟨h1, h2⟩)
      · obtain ⟨h1, h2⟩ := combs_mem.mp hd
        exact ⟨h1.cons_cons a, by rw [List.length_cons, h2]⟩
      · exact ⟨h1.cons a, h2⟩
    · rintro ⟨h1, h2⟩
      cases h1 with
      | cons _ h1 => exact .inr ⟨h1, h2⟩
      | cons_cons _ h1 => exact .inl ⟨_, combs_mem.mpr ⟨h1, by simpa using h2⟩, rfl⟩
/-- all sublists, as the law finds them -/
def foundC : Nat → List (List Nat)
  | 0 => [[]]
  | i + 1 => foundC i ++ (foundC i).map (· ++ [i])
theorem found_mem : ∀ {i : Nat} {c : List Nat}, c ∈ foundC i ↔ c.Sublist (List.range i)
  | 0, c => by
    show c ∈ [[]] ↔ c.Sublist []
    rw [List.mem_singleton, List.sublist_nil]
  | i + 1, c => by
    show c ∈ foundC i ++ (foundC i).map (· ++ [i]) ↔ _
    rw [List.mem_append, List.mem_map, found_mem, List.range_succ]
    constructor
    · rintro (h | ⟨d, hd, rfl⟩)
      · exact h.trans (List.sublist_append_left _ _)
      · exact (found_mem.mp hd).append (List.Sublist.refl _)
    · intro h
      obtain ⟨a, b, rfl, h1, h2⟩ := List.sublist_append_iff.mp h
      cases h2 with
      | cons _ h2 =>
        rw [List.sublist_nil.mp h2, List.append_nil]
        exact .inl h1
      | cons_cons _ h2 =>
        rw [List.sublist_nil.mp h2]
        exact .inr ⟨a, found_mem.mpr h1, rfl⟩
theorem found_nodup : ∀ i, (foundC i).Nodup
  | 0 => by decide
  | i + 1 => by
    refine List.nodup_append.mpr ⟨found_nodup i, List.pairwise_map.mpr ((found_nodup i).imp fun h e => h (List.append_cancel_right e)), fun a ha b hb e => ?_⟩
    subst e
    obtain ⟨d, _, rfl⟩ := List.mem_map.mp hb
    have z := (found_mem.mp ha).subset (List.mem_append_right _ (List.mem_singleton.mpr rfl))
    rw [List.mem_range] at z
    omega
/-! ## the law's order is the same -/
def encC (c : List Nat) : PyData := .tuple [.int c.length, .list ((rowR c).map Rl.d)]
theorem alike_r (i j : Nat) : alike (rAt i).d (rAt j).d = true := by
  obtain ⟨n, s, e, _⟩ := rAt_one i
  obtain ⟨m, t, f, _⟩ := rAt_one j
  rw [e, f]
  show alike (.tuple [.int n, .int n, .str s, .int 0, .int 1]) (.tuple [.int m, .int m, .str t, .int 0, .int 1]) = true
  simp [alike, alikeAll]
theorem alike_rows : ∀ a b : List Nat, alikeAll ((rowR a).map Rl.d) ((rowR b).map Rl.d) = true
  | [], _ => by simp [rowR, alikeAll]
  | _ :: _, [] => by simp [rowR, alikeAll]
  | i :: a, j :: b => by
    have h := alike_rows a b
    show alikeAll ((rAt i).d :: (rowR a).map Rl.d) ((rAt j).d :: (rowR b).map Rl.d) = true
    simp only [alikeAll]
    rw [alike_r, h]
    rfl
theorem alike_enc (a b : List Nat) : alike (encC a) (encC b) = true := by
  show alike (.tuple [.int a.length, .list ((rowR a).map Rl.d)]) (.tuple [.int b.length, .list ((rowR b).map Rl.d)]) = true
  have h := alike_rows a b
  simp [alike, alikeAll, h]
theorem lt_r : ∀ i j, i < 10 → j < 10 → dataLt (rAt i).d (rAt j).d = decide (i < j) := by
  intro i j hi hj
  have z : ((List.range 10).all fun i => (List.range 10).all fun j => dataLt (rAt i).d (rAt j).d == decide (i < j)) = true := by decide +kernel
  exact eq_of_beq (List.all_eq_true.mp (List.all_eq_true.mp z i (List.mem_range.mpr hi)) j (List.mem_range.mpr hj))
theorem lt_rows : ∀ a b : List Nat, (∀ j ∈ a, j < 10) → (∀ j ∈ b, j < 10) → PyProof.Rows.lexLt itemOrd (keyToksAll ((rowR a).map Rl.d)) (keyToksAll ((rowR b).map Rl.d)) = ltN a b
  | [], [], _, _ => PyProof.Rows.lex_irrefl _
  | [], j :: b, _, _ => by
    show PyProof.Rows.lexLt itemOrd (keyToksAll []) (keyToksAll ((rAt j).d :: (rowR b).map Rl.d)) = true
    rw [PySem.W.toks_all_cons]
    simp only [keyToksAll]
    rw [PyProof.Rows.lex_diff (O := itemOrd) (by simp)]
    rfl
  | i :: a, [], _, _ => by
    show PyProof.Rows.lexLt itemOrd (keyToksAll ((rAt i).d :: (rowR a).map Rl.d)) (keyToksAll []) = false
    rw [PySem.W.toks_all_cons]
    simp only [keyToksAll]
    rw [PyProof.Rows.lex_diff (O := itemOrd) (by simp)]
    rfl
  | i :: a, j :: b, ha, hb => by
    have ih := lt_rows a b (fun x hx => ha x (List.mem_cons_of_mem _ hx)) (fun x hx => hb x (List.mem_cons_of_mem _ hx))
    have hi := ha i List.mem_cons_self
    have hj := hb j List.mem_cons_self
    show PyProof.Rows.lexLt itemOrd (keyToksAll ((rAt i).d :: (rowR a).map Rl.d)) (keyToksAll ((rAt j).d :: (rowR b).map Rl.d)) = ltN (i :: a) (j :: b)
    rw [dataLt_cons (alike_r i j), eqv_d, ih, lt_r i j hi hj]
    show _ = if i = j then ltN a b else decide (i < j)
    by_cases e : i = j
    · subst e
      rw [if_pos (decide_eq_true rfl), if_pos rfl]
    · have ne : rAt i ≠ rAt j := fun z => e (rAt_inj i j hi hj z)
      rw [if_neg (by rw [decide_eq_false ne]; decide), if_neg e]
theorem lt_enc (a b : List Nat) (ha : ∀ j ∈ a, j < 10) (hb : ∀ j ∈ b, j < 10) : dataLt (encC a) (encC b) = ltC a b := by
  have al : alike (.list ((rowR a).map Rl.d)) (.list ((rowR b).map Rl.d)) = true := by
    have h := alike_rows a b
    simp [alike, h]
  have h1 : dataLt (.list ((rowR a).map Rl.d)) (.list ((rowR b).map Rl.d)) = ltN a b := by
    rw [dataLt_list]
    exact lt_rows a b ha hb
  have h2 : PyData.eqv (.list ((rowR a).map Rl.d)) (.list ((rowR b).map Rl.d)) = decide (rowR a = rowR b) := eqv_ds _ _
  show dataLt (.tuple [.int a.length, .list ((rowR a).map Rl.d)]) (.tuple [.int b.length, .list ((rowR b).map Rl.d)]) = _
  rw [dataLt_pair (by simp [alike]) al, h1, h2, dataLt_int]
  have h3 : PyData.eqv (.int (a.length : Int)) (.int (b.length : Int)) = decide (a.length = b.length) := by
    show ((a.length : Int) == (b.length : Int)) = _
    by_cases e : a.length = b.length
    · rw [e]; simp
    · have : ¬ ((a.length : Int) = (b.length : Int)) := by omega
      simp [e, this]
  rw [h3]
  unfold ltC
  by_cases e : a.length = b.length
  · rw [if_pos (decide_eq_true e), if_pos e]
    by_cases f : rowR a = rowR b
    · rw [if_pos (decide_eq_true f)]
      have ab : a = b := by
        have z : ∀ a b : List Nat, (∀ j ∈ a, j < 10) → (∀ j ∈ b, j < 10) → rowR a = rowR b → a = b := by
          intro a
          induction a with
          | nil =>
            intro b _ _ h
            cases b with
            | nil => rfl
            | cons j b => cases h
          | cons i a ih =>
            intro b ha hb h
            cases b with
            | nil => cases h
            | cons j b =>
              have h : rAt i :: rowR a = rAt j :: rowR b := h
              injection h with h1 h2
              rw [rAt_inj i j (ha i List.mem_cons_self) (hb j List.mem_cons_self) h1, ih b (fun x hx => ha x (List.mem_cons_of_mem _ hx)) (fun x hx => hb x (List.mem_cons_of_mem _ hx)) h2]
        exact z a b ha hb f
      rw [ab, ltN_irr]
    · rw [if_neg (by rw [decide_eq_false f]; decide)]
  · rw [if_neg (by rw [decide_eq_false e]; decide), if_neg e]
    by_cases g : a.length < b.length
    · rw [decide_eq_true g]
      exact decide_eq_true (by omega)
    · rw [decide_eq_false g]
      exact decide_eq_false (by omega)
theorem allC_asc : allC.Pairwise fun a b => ltC a b = true := asc_all (by decide +kernel)
theorem allC_mem (c : List Nat) : c ∈ allC ↔ c.Sublist (List.range 10) := by
  unfold allC rowsC
  rw [List.mem_flatMap]
  constructor
  · rintro ⟨r, _, h⟩
    exact (combs_mem.mp h).1
  · intro h
    refine ⟨c.length, List.mem_range.mpr ?_, combs_mem.mpr ⟨h, rfl⟩⟩
    have := h.length_le
    rw [List.length_range] at this
    omega
theorem found_perm : (foundC 10).Perm allC := perm_mem (found_nodup 10) (allC_asc.imp fun {a b} h e => by rw [e, ltC_irr] at h; cases h) fun c => found_mem.trans (allC_mem c).symm
/-- what sorted makes of all that is found -/
theorem sorted_allC {β : Type} (idx : β → List Nat) {bs : List β} (h : bs.map idx = foundC 10) : (bs.mergeSort (dataLe false fun b => encC (idx b))).map idx = allC := by
  have sm : ∀ c ∈ foundC 10, ∀ j ∈ c, j < 10 := fun c hc j hj => List.mem_range.mp ((found_mem.mp hc).subset hj)
  have hp : (bs.mergeSort (dataLe false fun b => encC (idx b))).Perm bs := List.mergeSort_perm _ _
  have pw : (bs.mergeSort (dataLe false fun b => encC (idx b))).Pairwise fun a b => dataLe false (fun b => encC (idx b)) a b = true := PySem.W.sort_pairwise (PySem.W.sortLe_total _ _ _) _
  refine asc_uniq ?_ allC_asc ?_
  · refine List.pairwise_map.mpr (pw.imp_of_mem fun {a b} ha hb hab => ?_)
    have ma : idx a ∈ foundC 10 := by rw [← h]; exact List.mem_map.mpr ⟨a, hp.mem_iff.mp ha, rfl⟩
    have mb : idx b ∈ foundC 10 := by rw [← h]; exact List.mem_map.mpr ⟨b, hp.mem_iff.mp hb, rfl⟩
    have z : (!dataLt (encC (idx b)) (encC (idx a))) = true := hab
    rw [lt_enc _ _ (sm _ mb) (sm _ ma)] at z
    simpa using z
  · have z := hp.map idx
    rw [h] at z
    exact z.trans found_perm
end Ts


set_option Elab.async false
set_option linter.all false
set_option maxRecDepth 100000
set_option maxHeartbeats 4000000
namespace Ts
open PySem PySem.Spec L2 CmbK
open PySem.W (dataLe)
open Evl (Ex)
/-- lists of things of xs -/
def ListsAt (xs : List V) (H : Hp) (ts : List (Addr × List Nat)) : Prop := ∀ q ∈ ts, H q.1 = some (.lst (q.2.map fun j => xs.getD j .non))
theorem ListsAt.ex {xs : List V} {H H' : Hp} {qs : List (Addr × List Nat)} (h : ListsAt xs H qs) (e : Ex H H') : ListsAt xs H' qs := fun q hq => e _ _ (h q hq)
theorem depth_rows : ∀ rs : List Rl, PyData.depthAll (rs.map Rl.d) ≤ 10
  | [] => by decide
  | r :: rs => by
    show max (PyData.depth r.d) (PyData.depthAll (rs.map Rl.d)) ≤ 10
    rw [depth_d]
    exact Nat.max_le.mpr ⟨by decide, depth_rows rs⟩
theorem depth_enc (c : List Nat) : (encC c).depth ≤ 60 := by
  have h := depth_rows (rowR c)
  show max 0 (max (PyData.depthAll ((rowR c).map Rl.d) + 1) 0) + 1 ≤ 60
  omega
theorem row_Dp {K : PySem.W.Frag} {H : Hp} {qs : List (Addr × Rl)} (hR : RulesAt H qs) (hm : qs.map (·.2) = smallR) : ∀ {c : List Nat}, (∀ j ∈ c, j < 10) → DpAll K H (c.map fun j => (qs.map fun q => V.ref q.1).getD j .non) ((rowR c).map Rl.d)
  | [], _ => .nil
  | j :: c, h => by
    obtain ⟨q, hq, e1, e2⟩ := rAt_get hm (h j List.mem_cons_self)
    refine .cons ?_ (row_Dp hR hm fun x hx => h x (List.mem_cons_of_mem _ hx))
    show Dp K H ((qs.map fun q => V.ref q.1).getD j .non) (rAt j).d
    rw [e1, ← e2]
    exact dp_rule (hR q hq)
theorem gsmall_turn : ∀ (i j : Nat) (x y : V), [V.int 1, V.int 2, V.int 3][i]? = some x → lefts[j]? = some y → ∃ r, smallR[1 + 3 * i + j]? = some r ∧ r.vs = [x, x, y, .int 0, .int 1]
  | 0, 0, _, _, h, g => by cases h; cases g; exact ⟨_, rfl, rfl⟩
  | 0, 1, _, _, h, g => by cases h; cases g; exact ⟨_, rfl, rfl⟩
  | 0, 2, _, _, h, g => by cases h; cases g; exact ⟨_, rfl, rfl⟩
  | 1, 0, _, _, h, g => by cases h; cases g; exact ⟨_, rfl, rfl⟩
  | 1, 1, _, _, h, g => by cases h; cases g; exact ⟨_, rfl, rfl⟩
  | 1, 2, _, _, h, g => by cases h; cases g; exact ⟨_, rfl, rfl⟩
  | 2, 0, _, _, h, g => by cases h; cases g; exact ⟨_, rfl, rfl⟩
  | 2, 1, _, _, h, g => by cases h; cases g; exact ⟨_, rfl, rfl⟩
  | 2, 2, _, _, h, g => by cases h; cases g; exact ⟨_, rfl, rfl⟩
  | 0, j + 3, _, _, h, g => by cases g
  | 1, j + 3, _, _, h, g => by cases g
  | 2, j + 3, _, _, h, g => by cases g
  | i + 3, _, _, _, h, g => by cases h
theorem found_len : ∀ i, i ≤ 10 → (foundC i).length ≤ 1024 := by
  intro i hi
  have z : (List.range 11).all (fun i => decide ((foundC i).length ≤ 1024)) = true := by decide +kernel
  exact of_decide_eq_true (List.all_eq_true.mp z i (List.mem_range.mpr (by omega)))
def rLenB (K : PySem.W.Frag) : List V → Hp → VK → Prop := fun xs H Q => ∃ p ys, xs = [V.ref p] ∧ (SqL K H p ys ∨ SqT K H p ys) ∧ Q (.int (ys.length : Nat)) H
section
variable {P : Program} {w : World} {K : PySem.W.Frag} {mg : Str → Option Value} {base : Heap}
abbrev s_gs := top 26
abbrev NGs : List Str := ["rules", "found", "many", "rule", "left", "some"]
theorem sc_gs : FnScope NGs [] (defScope s_gs) := ⟨rfl, rfl, rfl, by decide +kernel, rfl, by decide +kernel, by decide +kernel⟩
def spGs : Sp := fun vs H Q _ => vs = [] ∧ ∀ (L : Addr) H' (qs : List (Addr × Rl)) (ts : List (Addr × List Nat)), H L = none → Ex H H' → RulesAt H' qs → qs.map (·.2) = smallR →
  H' L = some (.lst (ts.map fun q => V.ref q.1)) → ListsAt (qs.map fun q => V.ref q.1) H' ts → ts.map (·.2) = allC → (∀ q ∈ ts, H q.1 = none) → Q (.ref L) H'
/-- the end: sorted by how many they are -/
theorem gs_end {σ : L2.St} {H H1 : Hp} {F : Addr} {qs : List (Addr × Rl)} {ts : List (Addr × List Nat)} {Q : VK} (h1 : σ[1]? = some (some (.ref F))) (e : Ex H H1) (hR : RulesAt H1 qs) (hm : qs.map (·.2) = smallR) (hF : H1 F = some (.lst (ts.map fun q => V.ref q.1)))
    (hT : ListsAt (qs.map fun q => V.ref q.1) H1 ts) (ht : ts.map (·.2) = foundC 10) (hN : ∀ q ∈ ts, H q.1 = none) (hl : σ.length = 6)
    (k : ∀ (L : Addr) H' (ts : List (Addr × List Nat)), H L = none → Ex H H' → RulesAt H' qs → H' L = some (.lst (ts.map fun q => V.ref q.1)) → ListsAt (qs.map fun q => V.ref q.1) H' ts → ts.map (·.2) = allC → (∀ q ∈ ts, H q.1 = none) → Q (.ref L) H') :
    tLc (iList K (tCB (rSortDp K) (tCons (tLc (iList K (tVar 1)) (gName 5) tYes (tTup (tCons (tCB (rLenB K) (tCons (tVar 5) tNil)) (tCons (tVar 5) tNil))) [5]) tNil))) (gTup K 2 (gCons (gName 2) (gCons (gName 5) gNil))) tYes (tVar 5) [2, 5] σ H1 Q := by
  have sm : ∀ q ∈ ts, ∀ j ∈ q.2, j < 10 := fun q hq j hj => by
    have z : q.2 ∈ foundC 10 := by rw [← ht]; exact List.mem_map.mpr ⟨q, hq, rfl⟩
    exact List.mem_range.mp ((found_mem.mp z).subset hj)
  have hlt : ts.length ≤ 1024 := by
    have z1 := congrArg List.length ht
    rw [List.length_map] at z1
    have z2 := found_len 10 (by omega)
    omega
  obtain ⟨s0, s1, s2, s3, s4, s5, rfl⟩ : ∃ s0 s1 s2 s3 s4 s5, σ = [s0, s1, s2, s3, s4, s5] := by
    match σ, hl with
    | [a, b, c, d, e, f], _ => exact ⟨a, b, c, d, e, f, rfl⟩
  have h1 : s1 = some (.ref F) := Option.some.inj h1
  subst h1
  refine ⟨_, rfl, F, rfl, ⟨_, SqL.of hF⟩, fun D1 hD1 => ?_⟩
  refine it_gen (walk_list (xs := ts.map fun q => V.ref q.1)) (fun j H7 => Ex H1 H7 ∧ ∃ us : List (Addr × (Addr × List Nat)), H7 D1 = some (.lst (us.map fun q => V.ref q.1)) ∧ (∀ u ∈ us, H7 u.1 = some (.tup [.int (u.2.2.length : Nat), .ref u.2.1])) ∧ us.map (·.2) = ts.take j)
    ⟨Ex.new hD1, [], upd_same, (fun q hq => by cases hq), rfl⟩ (fun _ _ _ p => SqL.of (p.1 _ _ hF)) (fun j y H7 H8 hj p yy => ?_) (fun H7 p => ?_)
  · obtain ⟨e7, us, hd, hU, hus⟩ := p
    obtain ⟨eq, hy⟩ := yy
    subst eq
    rw [List.getElem?_map] at hy
    cases hq : ts[j]? with
    | none => rw [hq] at hy; cases hy
    | some q =>
      rw [hq] at hy
      cases hy
      have mq := List.mem_of_getElem? hq
      have hql := e7 _ _ (hT q mq)
      refine ⟨rfl, yes_of ⟨_, rfl, q.1, _, rfl, .inl (SqL.of hql), _, rfl, by show 2 ≤ sizeLine; decide, fun z nz => ?_⟩⟩
      rw [List.length_map]
      have ez := Ex.new (o := .tup [V.int (q.2.length : Nat), .ref q.1]) nz
      have nD : z ≠ D1 := fun w => by
        rw [w, hd] at nz
        cases nz
      have hul : us.length ≤ 1024 := by
        have z := congrArg List.length hus
        rw [List.length_map, List.length_take] at z
        omega
      refine ⟨_, ez _ _ hd, by rw [List.length_map]; exact Nat.lt_of_le_of_lt hul (by decide), (e7.trans ez).mut hD1, us ++ [(z, q)], by rw [upd_same, List.map_append]; rfl, fun u hu => ?_, by rw [List.map_append, hus, take_succ hq]; rfl⟩
      rcases List.mem_append.mp hu with hu | hu
      · have w := ez _ _ (hU u hu)
        have n : u.1 ≠ D1 := fun z => by
          rw [z, ez _ _ hd] at w
          cases w
        rw [upd_ne n]
        exact w
      · rw [List.mem_singleton.mp hu]
        show upd (upd H8 z _) D1 _ z = _
        rw [upd_ne nD, upd_same]
  · obtain ⟨e7, us, hd, hU, hus⟩ := p
    rw [List.length_map, List.take_length] at hus
    have hidx : us.map (fun u => u.2.2) = foundC 10 := by
      rw [← ht, ← hus, List.map_map]
      rfl
    have mem2 : ∀ u ∈ us, u.2 ∈ ts := fun u hu => by
      rw [← hus]
      exact List.mem_map.mpr ⟨u, hu, rfl⟩
    refine ⟨Addr × (Addr × List Nat), fun u => .ref u.1, fun u => encC u.2.2, D1, us, rfl, hd, fun u hu => ?_, PySem.W.AllAlike.of fun b b' => alike_enc _ _, PySem.W.Sortable.tuples fun b => ⟨_, _, rfl⟩, fun u _ => depth_enc _, fun p np => ?_⟩
    · have m := mem2 u hu
      refine .tup (SqT.of (hU u hu)) (.cons (.int _) (.cons (.lst (SqL.of (e7 _ _ (hT u.2 m))) (row_Dp (hR.ex e7) hm (sm u.2 m))) .nil))
    · have so := sorted_allC (fun u : Addr × (Addr × List Nat) => u.2.2) hidx
      have pm : (us.mergeSort (dataLe false fun u => encC u.2.2)).Perm us := List.mergeSort_perm _ _
      generalize us.mergeSort (dataLe false fun u => encC u.2.2) = ws at so pm np ⊢
      have ep := Ex.new (o := .lst (ws.map fun u => V.ref u.1)) np
      have hp : upd H7 p (.lst (ws.map fun u => V.ref u.1)) p = some (.lst (ws.map fun u => V.ref u.1)) := upd_same
      generalize upd H7 p (.lst (ws.map fun u => V.ref u.1)) = H9 at ep hp ⊢
      have wl : ws.length ≤ 1024 := by
        have z1 := pm.length_eq
        have z2 := congrArg List.length hus
        rw [List.length_map] at z2
        omega
      refine ⟨p, rfl, ⟨_, SqL.of hp⟩, fun D2 hD2 => ?_⟩
      refine it_gen (walk_list (xs := ws.map fun u => V.ref u.1)) (fun j H' => Ex H9 H' ∧ H' D2 = some (.lst ((ws.take j).map fun u => V.ref u.2.1))) ⟨Ex.new hD2, upd_same⟩ (fun _ _ _ q => SqL.of (q.1 _ _ hp)) (fun j y H' H'' hj q yy => ?_) (fun H' q => ?_)
      · obtain ⟨e9, hd2⟩ := q
        obtain ⟨eq, hy⟩ := yy
        subst eq
        rw [List.getElem?_map] at hy
        cases hq : ws[j]? with
        | none => rw [hq] at hy; cases hy
        | some u =>
          rw [hq] at hy
          cases hy
          have mu := pm.mem_iff.mp (List.mem_of_getElem? hq)
          refine ⟨u.1, _, rfl, SqT.of (e9 _ _ (ep _ _ (hU u mu))), rfl, _, _, rfl, _, _, rfl, rfl, rfl, yes_of ⟨_, rfl, _, hd2, ?_, e9.mut hD2, ?_⟩⟩
          · rw [List.length_map, List.length_take]
            exact Nat.lt_of_le_of_lt (show min j ws.length ≤ 1024 by omega) (by decide)
          · rw [upd_same, take_succ hq, List.map_append]
            rfl
      · obtain ⟨e9, hd2⟩ := q
        rw [List.length_map, List.take_length] at hd2
        have ee := (e7.trans ep).trans e9
        have e79 := (e.trans e7).trans ep
        refine k D2 H' (ws.map (·.2)) (Evl.fresh_back e79 hD2) (e79.trans e9) (hR.ex ee) (by rw [hd2, List.map_map]; rfl) (fun q hq => ?_) (by rw [List.map_map]; exact so) (fun q hq => ?_)
        · obtain ⟨u, hu, rfl⟩ := List.mem_map.mp hq
          exact ee _ _ (hT u.2 (mem2 u (pm.mem_iff.mp hu)))
        · obtain ⟨u, hu, rfl⟩ := List.mem_map.mp hq
          exact hN u.2 (mem2 u (pm.mem_iff.mp hu))
theorem ok_gs {f : Addr} {fd : FuncData} (F : FD K mg "_law_g_small" "_law_g_small" s_gs f fd) (T : Bl mg) (hsorted : mg "sorted" = none) : FnOk P w K mg base CX0 2 f fd [] spGs := by
  refine F.F.ok sc_gs (fun vs H Q E h => ?_) (fun cdv A outer s H vs Q E hr h => ?_)
  · obtain ⟨rfl, _⟩ := h
    rfl
  · obtain ⟨rfl, k⟩ := h
    have nd := sc_gs.nd
    refine ⟨_, (pss_cons (ps_par (i := 0) (j := 1) (by rfl) nd rfl rfl (by decide) rfl rfl (pa_cons (pe_lst (pa_cons (pe_tup (pa_cons pe_int (pa_cons pe_int (pa_cons pe_str (pa_cons pe_int (pa_cons pe_int pa_nil)))))) pa_nil)) (pa_cons (pe_lst (pa_cons (pe_lst pa_nil) pa_nil)) pa_nil)) (by rfl))
      (pss_cons (ps_for PassesOwn.never rfl (pi_tup (pe_tup (pa_cons pe_int (pa_cons pe_int (pa_cons pe_int pa_nil))))) (pg_name (i := 2) nd rfl (Or.inr rfl)) (pss_one (ps_expr (pe_bm PySem.F.plainAttrs_list PySem.F.slot_list_extend PySem.F.type_list_extend mt_extend (pv 0)
        (pa_cons (pe_lc (own := [("left", 4)]) (g := gName 4) (tt := tYes) rfl nd (pi_tup (pe_tup (pa_cons pe_str (pa_cons pe_str (pa_cons pe_str pa_nil))))) (blkOk_by (N := NGs) (sc := defScope s_gs) (by decide +kernel)) (fun _ _ _ _ _ => pg_name (i := 4) nd rfl (Or.inl rfl)) (fun _ _ _ _ _ => pts_nil) (fun _ _ _ _ _ => pe_tup (pa_cons (pv 2) (pa_cons (pv 2) (pa_cons (pv 4) (pa_cons pe_int (pa_cons pe_int pa_nil))))))) pa_nil)))))
      (pss_cons (ps_for PassesOwn.never rfl (pi_list (pv 0)) (pg_name (i := 3) nd rfl (Or.inr rfl)) (pss_one (ps_set (i := 1) nd rfl (Or.inl rfl) (pe_op op_cat (pv 1)
        (pe_lc (own := [("some", 5)]) (g := gName 5) (tt := tYes) rfl nd (pi_list (pv 1)) (blkOk_by (N := NGs) (sc := defScope s_gs) (by decide +kernel)) (fun _ _ _ _ _ => pg_name (i := 5) nd rfl (Or.inl rfl)) (fun _ _ _ _ _ => pts_nil) (fun _ _ _ _ _ => pe_op op_cat (pv 5) (pe_lst (pa_cons (pv 3) pa_nil))))))))
      (pss_one (ps_ret (pe_lc (own := [("many", 2), ("some", 5)]) (g := gTup K 2 (gCons (gName 2) (gCons (gName 5) gNil))) (tt := tYes) rfl nd (pi_list (pe_callB (cr_sortedDp hr) (by rfl) hsorted (by decide +kernel) (pa_cons
        (pe_lc (own := [("some", 5)]) (g := gName 5) (tt := tYes) rfl nd (pi_list (pv 1)) (blkOk_by (N := NGs) (sc := defScope s_gs) (by decide +kernel)) (fun _ _ _ _ _ => pg_name (i := 5) nd rfl (Or.inl rfl)) (fun _ _ _ _ _ => pts_nil) (fun _ _ _ _ _ => pe_tup (pa_cons (pe_callB (r := rLenB K) call_len_seq (by rfl) T.len PySem.boot_len (pa_cons (pv 5) pa_nil)) (pa_cons (pv 5) pa_nil)))) pa_nil)))
        (blkOk_by (N := NGs) (sc := defScope s_gs) (by decide +kernel)) (fun _ _ _ _ _ => pg_tup rfl (pgs_cons (pg_name (i := 2) nd rfl (Or.inl rfl)) (pgs_cons (pg_name (i := 5) nd rfl (Or.inl rfl)) pgs_nil))) (fun _ _ _ _ _ => pts_nil) (fun _ _ _ _ _ => pv 5))))))), ?_⟩
    refine ⟨by show 5 ≤ sizeLine; decide, fun t nt => ⟨by show 1 ≤ sizeLine; decide, fun Lr nLr => ⟨Nat.zero_le _, fun p0 np0 => ⟨by show 1 ≤ sizeLine; decide, fun Lf nLf => ⟨_, _, rfl, ?_⟩⟩⟩⟩⟩
    have e1 := Ex.new (o := .tup [.int 0, .int 0, .str "two", .int 0, .int 1]) nt
    have ht : upd H t (.tup [.int 0, .int 0, .str "two", .int 0, .int 1]) t = some (.tup (one 0 "two").vs) := upd_same
    generalize upd H t (.tup [.int 0, .int 0, .str "two", .int 0, .int 1]) = H1 at e1 ht nLr np0 nLf ⊢
    have e2 := Ex.new (o := .lst [V.ref t]) nLr
    have hLr : upd H1 Lr (.lst [V.ref t]) Lr = some (.lst [V.ref t]) := upd_same
    have LrH : H Lr = none := Evl.fresh_back e1 nLr
    generalize upd H1 Lr (.lst [V.ref t]) = H2 at e2 hLr np0 nLf ⊢
    have p0H : H p0 = none := Evl.fresh_back (e1.trans e2) np0
    have e3 := Ex.new (o := .lst []) np0
    have hp0 : upd H2 p0 (.lst []) p0 = some (.lst []) := upd_same
    generalize upd H2 p0 (.lst []) = H3 at e3 hp0 nLf ⊢
    have e4 := Ex.new (o := .lst [V.ref p0]) nLf
    have hLf : upd H3 Lf (.lst [V.ref p0]) Lf = some (.lst [V.ref p0]) := upd_same
    generalize upd H3 Lf (.lst [V.ref p0]) = H4 at e4 hLf ⊢
    have hLr4 := e4 _ _ (e3 _ _ hLr)
    have ht4 := e4 _ _ (e3 _ _ (e2 _ _ ht))
    have hp04 := e4 _ _ hp0
    have eH := ((e1.trans e2).trans e3).trans e4
    have nLrf : Lf ≠ Lr := fun z => by
      rw [z, e3 _ _ hLr] at nLf
      cases nLf
    have nLr0 : p0 ≠ Lr := fun z => by
      rw [z, hLr] at np0
      cases np0
    refine ⟨by show 3 ≤ sizeLine; decide, fun tp ntp => ?_⟩
    have e5 := Ex.new (o := .tup [V.int 1, V.int 2, V.int 3]) ntp
    have htp : upd H4 tp (.tup [V.int 1, V.int 2, V.int 3]) tp = some (.tup [V.int 1, V.int 2, V.int 3]) := upd_same
    generalize upd H4 tp (.tup [V.int 1, V.int 2, V.int 3]) = H5 at e5 htp ⊢
    refine ⟨tp, rfl, ⟨_, SqT.of htp⟩, for_tup (K := K) (a := tp) (xs := [V.int 1, V.int 2, V.int 3]) (fun i σ H' => ∃ (v2 : Option V) (qs : List (Addr × Rl)), σ = [some (.ref Lr), some (.ref Lf), v2, none, none, none] ∧ Ex H H' ∧ H' tp = some (.tup [V.int 1, V.int 2, V.int 3]) ∧
        H' Lr = some (.lst (qs.map fun q => V.ref q.1)) ∧ RulesAt H' qs ∧ qs.map (·.2) = smallR.take (1 + 3 * i) ∧ H' Lf = some (.lst [V.ref p0]) ∧ H' p0 = some (.lst []))
      ⟨none, [(t, one 0 "two")], rfl, eH.trans e5, htp, e5 _ _ hLr4, (fun q hq => by rw [List.mem_singleton.mp hq]; exact e5 _ _ ht4), rfl, e5 _ _ hLf, e5 _ _ hp04⟩ (fun i σ H' _ q => ?_) (fun i x σ H' hx q => ?_) (fun σ H' q => ?_)⟩
    · obtain ⟨v2, qs, rfl, _, q, _⟩ := q
      exact SqT.of q
    · obtain ⟨v2, qs, rfl, e, htp', hLr', hR, hm, hLf', hp0'⟩ := q
      have hi : i < 3 := (List.getElem?_eq_some_iff.mp hx).1
      refine gn1 ?_
      dsimp only
      refine ⟨_, rfl, .inl ⟨rfl, _, SqL.of hLr'⟩, by show 3 ≤ sizeLine; decide, fun t3 nt3 => ?_⟩
      have e6 := Ex.new (o := .tup [V.str "none", .str "one", .str "two"]) nt3
      have ht3 : upd H' t3 (.tup [V.str "none", .str "one", .str "two"]) t3 = some (.tup lefts) := upd_same
      generalize upd H' t3 (.tup [V.str "none", .str "one", .str "two"]) = H6 at e6 ht3 ⊢
      refine ⟨t3, rfl, ⟨_, SqT.of ht3⟩, fun D hD => ?_⟩
      have nDr : D ≠ Lr := fun z => by
        rw [z, e6 _ _ hLr'] at hD
        cases hD
      refine it_gen (walk_tup (xs := lefts)) (fun j H7 => Ex H6 H7 ∧ ∃ rs : List (Addr × Rl), H7 D = some (.lst (rs.map fun q => V.ref q.1)) ∧ RulesAt H7 rs ∧ rs.map (·.2) = (smallR.drop (1 + 3 * i)).take j) ⟨Ex.new hD, [], upd_same, (fun q hq => by cases hq), rfl⟩ (fun _ _ _ p => SqT.of (p.1 _ _ ht3)) (fun j y H7 H8 hj p yy => ?_) (fun H7 p => ?_)
      · obtain ⟨e7, rs, hd, hRs, hms⟩ := p
        obtain ⟨eq, hy⟩ := yy
        subst eq
        obtain ⟨r, hr1, hr2⟩ := gsmall_turn i j x y hx hy
        refine ⟨rfl, yes_of ⟨_, rfl, _, rfl, _, rfl, by show 5 ≤ sizeLine; decide, fun z nz => ?_⟩⟩
        have ez := Ex.new (o := .tup [x, x, y, .int 0, .int 1]) nz
        have hz : upd H8 z (.tup [x, x, y, .int 0, .int 1]) z = some (.tup r.vs) := by rw [upd_same, hr2]
        have hl : rs.length ≤ 10 := by
          have := congrArg List.length hms
          rw [List.length_map, List.length_take, List.length_drop] at this
          have : smallR.length = 10 := rfl
          omega
        refine ⟨_, ez _ _ hd, by rw [List.length_map]; exact Nat.lt_of_le_of_lt hl (by decide), (e7.trans ez).mut hD, rs ++ [(z, r)], by rw [upd_same, List.map_append]; rfl, RulesAt.mut (fun q hq => ?_) (ez _ _ hd), ?_⟩
        · rcases List.mem_append.mp hq with hq | hq
          · exact ez _ _ (hRs q hq)
          · rw [List.mem_singleton.mp hq]
            exact hz
        · rw [List.map_append, hms, take_succ (by rw [List.getElem?_drop]; exact hr1)]
          rfl
      · obtain ⟨e7, rs, hd, hRs, hms⟩ := p
        have hl1 : qs.length ≤ 10 := by
          have := congrArg List.length hm
          rw [List.length_map, List.length_take] at this
          have : smallR.length = 10 := rfl
          omega
        have hl2 : rs.length ≤ 10 := by
          have := congrArg List.length hms
          rw [List.length_map, List.length_take, List.length_drop] at this
          have : smallR.length = 10 := rfl
          omega
        have hLr7 := e7 _ _ (e6 _ _ hLr')
        refine ⟨Lr, D, _, _, rfl, rfl, hLr7, hd, ?_, _, qs ++ rs, rfl, ((e.trans e6).trans e7).mut LrH, ?_, ?_, RulesAt.mut (fun q hq => ?_) hLr7, ?_, ?_, ?_⟩
        · rw [List.length_map, List.length_map]
          exact Nat.le_trans (show qs.length + rs.length ≤ 20 by omega) (by decide)
        · have n : tp ≠ Lr := fun z => by
            rw [z, hLr'] at htp'
            cases htp'
          rw [upd_ne n]
          exact e7 _ _ (e6 _ _ htp')
        · rw [upd_same, List.map_append]
        · rcases List.mem_append.mp hq with hq | hq
          · exact e7 _ _ (e6 _ _ (hR q hq))
          · exact hRs q hq
        · rw [List.map_append, hm, hms]
          have z : lefts.length = 3 := rfl
          rw [z, show 1 + 3 * (i + 1) = (1 + 3 * i) + 3 by omega]
          exact List.take_add.symm
        · rw [upd_ne nLrf]
          exact e7 _ _ (e6 _ _ hLf')
        · rw [upd_ne nLr0]
          exact e7 _ _ (e6 _ _ hp0')
    · obtain ⟨v2, qs, rfl, e, _, hLr', hR, hm, hLf', hp0'⟩ := q
      have hm : qs.map (·.2) = smallR := hm
      have hlq : qs.length = 10 := by
        have := congrArg List.length hm
        rw [List.length_map] at this
        exact this
      refine ⟨_, rfl, Lr, rfl, ⟨_, SqL.of hLr'⟩, for_list (K := K) (a := Lr) (xs := qs.map fun q => V.ref q.1) (fun i σ H' => ∃ (F : Addr) (v3 : Option V) (ts : List (Addr × List Nat)), σ = [some (.ref Lr), some (.ref F), v2, v3, none, none] ∧ Ex H H' ∧
          H' Lr = some (.lst (qs.map fun q => V.ref q.1)) ∧ RulesAt H' qs ∧ H' F = some (.lst (ts.map fun q => V.ref q.1)) ∧ ListsAt (qs.map fun q => V.ref q.1) H' ts ∧ ts.map (·.2) = foundC i ∧ ∀ q ∈ ts, H q.1 = none)
        ⟨Lf, none, [(p0, [])], rfl, e, hLr', hR, hLf', (fun q hq => by rw [List.mem_singleton.mp hq]; exact hp0'), rfl, fun q hq => by rw [List.mem_singleton.mp hq]; exact p0H⟩ (fun i σ H' _ q => ?_) (fun i x σ H' hx q => ?_) (fun σ H' q => ?_)⟩
      · obtain ⟨F, v3, ts, rfl, _, q, _⟩ := q
        exact SqL.of q
      · obtain ⟨F, v3, ts, rfl, e, hLr', hR, hF, hT, hts, hN⟩ := q
        have hi : i < 10 := by
          have := (List.getElem?_eq_some_iff.mp hx).1
          rw [List.length_map] at this
          omega
        have hxi : (qs.map fun q => V.ref q.1).getD i .non = x := by
          rw [List.getD_eq_getElem?_getD, hx]
          rfl
        have hlt : ts.length ≤ 1024 := by
          have z1 := congrArg List.length hts
          rw [List.length_map] at z1
          have z2 := found_len i (by omega)
          omega
        refine gn1 ?_
        dsimp only
        refine ⟨_, rfl, _, rfl, F, rfl, ⟨_, SqL.of hF⟩, fun D hD => ?_⟩
        refine it_gen (walk_list (xs := ts.map fun q => V.ref q.1)) (fun j H7 => Ex H' H7 ∧ ∃ us : List (Addr × List Nat), H7 D = some (.lst (us.map fun q => V.ref q.1)) ∧ (∀ q ∈ us, q.1 ≠ D) ∧ ListsAt (qs.map fun q => V.ref q.1) H7 us ∧ us.map (·.2) = ((foundC i).map (· ++ [i])).take j ∧ ∀ q ∈ us, H q.1 = none)
          ⟨Ex.new hD, [], upd_same, (fun q hq => by cases hq), (fun q hq => by cases hq), rfl, fun q hq => by cases hq⟩ (fun _ _ _ p => SqL.of (p.1 _ _ hF)) (fun j y H7 H8 hj p yy => ?_) (fun H7 p => ?_)
        · obtain ⟨e7, us, hd, hn, hU, hus, hNu⟩ := p
          obtain ⟨eq, hy⟩ := yy
          subst eq
          rw [List.getElem?_map] at hy
          cases hq : ts[j]? with
          | none => rw [hq] at hy; cases hy
          | some q =>
            rw [hq] at hy
            cases hy
            have mq := List.mem_of_getElem? hq
            have hc : (foundC i)[j]? = some q.2 := by
              rw [← hts, List.getElem?_map, hq]
              rfl
            have hql := e7 _ _ (hT q mq)
            have hcl : q.2.length ≤ 10 := by
              have z := (found_mem.mp (List.mem_of_getElem? hc)).length_le
              rw [List.length_range] at z
              omega
            refine ⟨rfl, yes_of ⟨_, rfl, _, rfl, by show 1 ≤ sizeLine; decide, fun l nl => ?_⟩⟩
            have el := Ex.new (o := .lst [x]) nl
            have hl : upd H8 l (.lst [x]) l = some (.lst [x]) := upd_same
            generalize upd H8 l (.lst [x]) = H9 at el hl ⊢
            refine ⟨q.1, l, _, _, rfl, rfl, el _ _ hql, hl, by rw [List.length_map]; exact Nat.le_trans (show q.2.length + 1 ≤ 11 by omega) (by decide), fun p np => ?_⟩
            have hd9 := el _ _ hd
            have nD : p ≠ D := fun z => by
              rw [z, hd9] at np
              cases np
            have ep := Ex.new (o := .lst ((q.2.map fun j => (qs.map fun q => V.ref q.1).getD j .non) ++ [x])) np
            have hul : us.length ≤ 1024 := by
              have z := congrArg List.length hus
              rw [List.length_map, List.length_take, List.length_map] at z
              have := found_len i (by omega)
              omega
            refine ⟨_, ep _ _ hd9, by rw [List.length_map]; exact Nat.lt_of_le_of_lt hul (by decide), ((e7.trans el).trans ep).mut hD, us ++ [(p, q.2 ++ [i])], by rw [upd_same, List.map_append]; rfl, fun u hu => ?_, fun u hu => ?_, ?_, fun u hu => ?_⟩
            · rcases List.mem_append.mp hu with hu | hu
              · exact hn u hu
              · rw [List.mem_singleton.mp hu]
                exact nD
            · rcases List.mem_append.mp hu with hu | hu
              · rw [upd_ne (hn u hu)]
                exact ep _ _ (el _ _ (hU u hu))
              · rw [List.mem_singleton.mp hu]
                show upd (upd H9 p _) D _ p = _
                rw [upd_ne nD, upd_same, List.map_append]
                show _ = some (HO.lst (_ ++ [(qs.map fun q => V.ref q.1).getD i .non]))
                rw [hxi]
            · rw [List.map_append, hus, take_succ (by rw [List.getElem?_map, hc]; rfl)]
              rfl
            · rcases List.mem_append.mp hu with hu | hu
              · exact hNu u hu
              · rw [List.mem_singleton.mp hu]
                exact Evl.fresh_back ((e.trans e7).trans el) np
        · obtain ⟨e7, us, hd, hn, hU, hus, hNu⟩ := p
          have hus : us.map (·.2) = (foundC i).map (· ++ [i]) := by
            have z := congrArg List.length hts
            rw [List.length_map] at z
            rw [hus, List.take_of_length_le (by rw [List.length_map, List.length_map]; omega)]
          have hul : us.length ≤ 1024 := by
            have z := congrArg List.length hus
            rw [List.length_map, List.length_map] at z
            have := found_len i (by omega)
            omega
          refine ⟨F, D, _, _, rfl, rfl, e7 _ _ hF, hd, ?_, fun p np => ?_⟩
          · rw [List.length_map, List.length_map]
            exact Nat.le_trans (show ts.length + us.length ≤ 2048 by omega) (by decide)
          · have ep := Ex.new (o := .lst ((ts.map fun q => V.ref q.1) ++ us.map fun q => V.ref q.1)) np
            refine gn1 ?_
            have e8 := e7.trans ep
            refine ⟨p, _, ts ++ us, rfl, e.trans e8, e8 _ _ hLr', hR.ex e8, by rw [upd_same, List.map_append], fun q hq => ?_, by rw [List.map_append, hts, hus]; rfl, fun q hq => ?_⟩
            · rcases List.mem_append.mp hq with hq | hq
              · exact e8 _ _ (hT q hq)
              · exact ep _ _ (hU q hq)
            · rcases List.mem_append.mp hq with hq | hq
              · exact hN q hq
              · exact hNu q hq
      · obtain ⟨F, v3, ts, rfl, e, hLr', hR, hF, hT, hts, hN⟩ := q
        rw [List.length_map, hlq] at hts
        exact gs_end rfl e hR hm hF hT hts hN rfl fun L H' ts' nL e' hR' hL' hT' hts' hN' => k L H' qs ts' nL e' hR' hm hL' hT' hts' hN'
end
end Ts


set_option Elab.async false
set_option linter.all false
set_option maxRecDepth 100000
set_option maxHeartbeats 4000000
namespace Ts
open PySem PySem.Spec L2 CmbK
open Evl (Ex)
/-! ## unlike lists make unlike books -/
theorem mem_sortR {rs : List Rl} {r : Rl} : r ∈ sortR rs ↔ r ∈ rs := (List.mergeSort_perm _ _).mem_iff
theorem asc_ext : ∀ {c d : List Nat}, c.Pairwise (· < ·) → d.Pairwise (· < ·) → (∀ j, j ∈ c ↔ j ∈ d) → c = d
  | [], [], _, _, _ => rfl
  | [], b :: d, _, _, h => absurd ((h b).mpr List.mem_cons_self) (by simp)
  | a :: c, [], _, _, h => absurd ((h a).mp List.mem_cons_self) (by simp)
  | a :: c, b :: d, hc, hd, h => by
    obtain ⟨c1, c2⟩ := List.pairwise_cons.mp hc
    obtain ⟨d1, d2⟩ := List.pairwise_cons.mp hd
    have e : a = b := by
      rcases List.mem_cons.mp ((h a).mp List.mem_cons_self) with z | z
      · exact z
      · rcases List.mem_cons.mp ((h b).mpr List.mem_cons_self) with y | y
        · exact y.symm
        · have h1 := d1 a z
          have h2 := c1 b y
          omega
    subst e
    rw [asc_ext c2 d2 fun j => ?_]
    refine ⟨fun hj => ?_, fun hj => ?_⟩
    · rcases List.mem_cons.mp ((h j).mp (List.mem_cons_of_mem _ hj)) with z | z
      · have h1 := c1 j hj
        omega
      · exact z
    · rcases List.mem_cons.mp ((h j).mpr (List.mem_cons_of_mem _ hj)) with z | z
      · have h1 := d1 j hj
        omega
      · exact z
theorem getD_mem {m : Nat} (h : m < 1024) : allC.getD m [] ∈ allC := by
  rw [List.getD_eq_getElem?_getD, List.getElem?_eq_getElem (by rw [allC_len]; exact h)]
  exact List.getElem_mem _
theorem allC_nodup : allC.Nodup := allC_asc.imp fun {a b} h e => by
  rw [e, ltC_irr] at h
  cases h
/-- the rules of the small book at m -/
abbrev bookR (m : Nat) : List Rl := sortR (rowR (allC.getD m []))
theorem mem_row {c d : List Nat} (hc : ∀ j ∈ c, j < 10) (hd : ∀ j ∈ d, j < 10) (h : ∀ r, r ∈ rowR c → r ∈ rowR d) : ∀ j, j ∈ c → j ∈ d := fun j hj => by
  obtain ⟨i, hi, e⟩ := List.mem_map.mp (h (rAt j) (List.mem_map.mpr ⟨j, hj, rfl⟩))
  rw [rAt_inj j i (hc j hj) (hd i hi) e.symm]
  exact hi
theorem book_inj {m n : Nat} (hm : m < 1024) (hn : n < 1024) : decide (bookR m = bookR n) = decide ((m : Int) = (n : Int)) := by
  rw [decide_eq_decide]
  refine ⟨fun h => ?_, fun h => by rw [Int.ofNat_inj.mp h]⟩
  obtain ⟨a1, a2, _⟩ := allC_good _ (getD_mem hm)
  obtain ⟨b1, b2, _⟩ := allC_good _ (getD_mem hn)
  have hmem : ∀ r, r ∈ rowR (allC.getD m []) ↔ r ∈ rowR (allC.getD n []) := fun r => by
    have z1 : r ∈ bookR m ↔ r ∈ rowR (allC.getD m []) := mem_sortR
    have z2 : r ∈ bookR n ↔ r ∈ rowR (allC.getD n []) := mem_sortR
    rw [← z1, ← z2, h]
  have e := asc_ext a1 b1 fun j => ⟨mem_row a2 b2 (fun r => (hmem r).mp) j, mem_row b2 a2 (fun r => (hmem r).mpr) j⟩
  rw [List.getD_eq_getElem?_getD, List.getD_eq_getElem?_getD, List.getElem?_eq_getElem (by rw [allC_len]; exact hm), List.getElem?_eq_getElem (by rw [allC_len]; exact hn)] at e
  have := (List.getElem_inj allC_nodup).mp e
  omega
theorem book_lay {m : Nat} : ∀ r ∈ bookR m, PyData.canLay0 r.d = true := fun r hr => by
  obtain ⟨j, _, e⟩ := List.mem_map.mp (mem_sortR.mp hr)
  rw [← e]
  exact rAt_lay j
theorem book_len (m : Nat) : (bookR m).length = (allC.getD m []).length := by
  have z : (bookR m).length = (rowR (allC.getD m [])).length := (List.mergeSort_perm _ _).length_eq
  rw [z]
  exact List.length_map ..
theorem book_len10 {m : Nat} (h : m < 1024) : (bookR m).length ≤ 10 := by
  rw [book_len]
  exact (allC_good _ (getD_mem h)).2.2
theorem book_0 : bookR 0 = [] := List.eq_nil_of_length_eq_zero (by rw [book_len]; decide +kernel)
theorem book_1023 : (bookR 1023).length = 10 := by rw [book_len]; decide +kernel
theorem okD_rule (r : Rl) : okD 1 r.d = true := by
  obtain ⟨a, b, c, d, e⟩ := r
  cases b <;> rfl
theorem okD_rules {rs : List Rl} (h : rs.length ≤ 10) : okD 5 (.list (rs.map Rl.d)) = true := by
  have up : ∀ r : Rl, okD 4 r.d = true := fun r => by
    obtain ⟨a, b, c, d, e⟩ := r
    cases b <;> rfl
  refine Bool.and_eq_true_iff.mpr ⟨decide_eq_true (by rw [List.length_map]; omega), List.all_eq_true.mpr fun d hd => ?_⟩
  obtain ⟨r, _, e⟩ := List.mem_map.mp hd
  rw [← e]
  exact up r
/-! ## what stands beside the stream and one dict -/
def restOf (a c d : Addr) (H : Hp) : Hp := fun b => if b = d then none else off a c H b
section
variable {a c d : Addr} {H H' : Hp} {n : Int}
theorem rest_off : Ex (restOf a c d H) (off a c H) := fun b o h => by
  unfold restOf at h
  split at h
  · cases h
  · exact h
theorem rest_ex : Ex (restOf a c d H) H := rest_off.trans off_ex
theorem rest_at {b : Addr} {o : HO} (h : H b = some o) (h1 : b ≠ a) (h2 : b ≠ c) (h3 : b ≠ d) : restOf a c d H b = some o := by
  unfold restOf
  rw [if_neg h3, off_ne h1 h2]
  exact h
theorem rest_none {b : Addr} (h : H b = none) : restOf a c d H b = none := by
  unfold restOf
  split
  · rfl
  · exact off_none h
theorem rest_drawn (e : Ex (off a c H) (off a c H')) : Ex (restOf a c d H) (restOf a c d H') := fun b o h => by
  unfold restOf at h ⊢
  split at h
  · cases h
  · rename_i z
    rw [if_neg z]
    exact e b o h
theorem Ex.rest (e : Ex H H') : Ex (restOf a c d H) (restOf a c d H') := rest_drawn (Ex.offs e)
theorem rest_upd {o : HO} (h1 : d ≠ a) (h2 : d ≠ c) : restOf a c d (upd H d o) = restOf a c d H := funext fun b => by
  unfold restOf
  split
  · rfl
  · rename_i z
    rw [off_upd_ne h1 h2, upd_ne z]
theorem off_rest (h : H d = none) : restOf a c d H = off a c H := funext fun b => by
  unfold restOf
  split
  · rename_i z
    rw [z]
    exact (off_none h).symm
  · rfl
end
/-! ## what a dict of small books holds -/
structure Holds (CB : Addr) (Z : Hp) (kvs : List (Key × V)) : Prop where
  h : ∀ q ∈ kvs, ∃ (m : Nat) (p : Addr), q = (.inl (m : Int), .ref p) ∧ m < 1024 ∧ BookAt CB Z p (bookR m)
theorem Holds.ex {CB : Addr} {Z Z' : Hp} {kvs : List (Key × V)} (h : Holds CB Z kvs) (e : Ex Z Z') : Holds CB Z' kvs := ⟨fun q hq => by
  obtain ⟨m, p, e1, h1, h2⟩ := h.h q hq
  exact ⟨m, p, e1, h1, h2.ex e⟩⟩
theorem putK_mem {κ : Type} [DecidableEq κ] {kvs : List (κ × V)} {k : κ} {v : V} {q : κ × V} (h : q ∈ putK kvs k v) : q ∈ kvs ∨ q = (k, v) := by
  unfold putK at h
  split at h
  · obtain ⟨u, hu, e⟩ := List.mem_map.mp h
    split at e
    · rename_i z
      rw [← e, ← z]
      exact .inr rfl
    · rw [← e]
      exact .inl hu
  · rcases List.mem_append.mp h with z | z
    · exact .inl z
    · exact .inr (List.mem_singleton.mp z)
theorem putK_len {κ : Type} [DecidableEq κ] (kvs : List (κ × V)) (k : κ) (v : V) : (putK kvs k v).length ≤ kvs.length + 1 := by
  unfold putK
  split
  · rw [List.length_map]
    omega
  · rw [List.length_append]
    exact Nat.le_refl _
theorem Holds.put {CB : Addr} {Z : Hp} {kvs : List (Key × V)} (h : Holds CB Z kvs) {m : Nat} {p : Addr} (hm : m < 1024) (hb : BookAt CB Z p (bookR m)) : Holds CB Z (putK kvs (.inl (m : Int)) (.ref p)) := ⟨fun q hq => by
  rcases putK_mem hq with z | z
  · exact h.h q z
  · exact ⟨m, p, z, hm, hb⟩⟩
theorem Holds.get {CB : Addr} {Z : Hp} {kvs : List (Key × V)} (h : Holds CB Z kvs) {x : V} (hx : x ∈ kvs.map fun kv => kV kv.1) : ∃ (m : Nat) (p : Addr), x = .int (m : Int) ∧ m < 1024 ∧ valV kvs (.inl (m : Int)) = some (.ref p) ∧ BookAt CB Z p (bookR m) := by
  obtain ⟨q, hq, e⟩ := List.mem_map.mp hx
  obtain ⟨m, p, rfl, hm, hb⟩ := h.h q hq
  have hs : (kvs.find? fun kv => decide (kv.1 = (.inl (m : Int) : Key))).isSome = true := List.find?_isSome.mpr ⟨_, hq, decide_eq_true rfl⟩
  obtain ⟨u, hu⟩ := Option.isSome_iff_exists.mp hs
  obtain ⟨m', p', e1, h1, h2⟩ := h.h u (List.mem_of_find?_eq_some hu)
  have hk := of_decide_eq_true (List.find?_some (p := fun kv : Key × V => decide (kv.1 = (.inl (m : Int) : Key))) hu)
  rw [e1] at hk
  have em : m' = m := by
    have z : ((m' : Int)) = (m : Int) := Sum.inl.inj hk
    omega
  subst em
  refine ⟨m', p', e.symm, hm, ?_, h2⟩
  unfold valV
  rw [hu, e1]
  rfl
end Ts


set_option Elab.async false
set_option linter.all false
set_option maxRecDepth 100000
set_option maxHeartbeats 4000000
namespace Ts
open PySem PySem.Spec L2
open Evl (Ex)
/-! ## what is told, or how it is refused -/
structure Errs (K : PySem.W.Frag) (mg : Str → Option Value) (CN gN : Addr) : Prop where
  n : XC K mg "BadNumber" "thing" CN gN
  nn : PySem.W.exmOne K (.ref CN) (.ref CN) = some true
def EM (CN : Addr) (Q : VK) : XK := fun cls d H' => cls = .ref CN ∧ ∃ dd v, d = some dd ∧ H' dd = some (.xd [(("thing" : Str), v)]) ∧ ∀ p, H' p = none → Q (.ref p) (upd H' p (.tup [.str "number", v]))
def TMet (CN : Addr) : (XK → Hp → VK → Prop) → Hp → VK → Prop := fun tl H Q => tl (EM CN Q) H fun v H' => 2 ≤ sizeLine ∧ ∀ p, H' p = none → Q (.ref p) (upd H' p (.tup [.str "told", v]))
section
variable {X : Cx} {CN gN : Addr}
abbrev s_met := top 31
theorem sc_met : FnScope ["ask", "e"] ["ask"] (defScope s_met) := ⟨rfl, rfl, rfl, by decide +kernel, rfl, by decide +kernel, by decide +kernel⟩
/-- return (word, e.thing) -/
def tSaid (C : Addr) (w : Str) : Suite := fun a cls d => tRet (tTup (tCons (tC (.str w)) (tCons (tXf a cls d C "thing" (tVar 1)) tNil)))
theorem said {C : Addr} {w : Str} {a dd : Addr} {v : V} {σ : L2.St} {H : Hp} {D : Ends} (hl : 1 < σ.length) (hx : H dd = some (.xd [(("thing" : Str), v)])) (q : ∀ p, H p = none → D.rt (.ref p) (upd H p (.tup [.str w, v]))) :
    tSaid C w a (.ref C) (some dd) (lets 1 D) (σ.set 1 (some (.ref a))) H :=
  ⟨.ref a, List.getElem?_set_self hl, rfl, rfl, dd, _, v, rfl, hx, by simp [List.lookup], by show 2 ≤ sizeLine; decide, q⟩
theorem met_gives (M : Errs X.K X.mg CN gN) {g : Addr} {cdg : Value} {q : Str} :
    LamX.GivesTo X ["ask", "e"] "_law_met" (defScope s_met) g cdg (defBody s_met) "ask" q (TMet CN) := by
  intro f c' s H Q tl act hc h
  refine ⟨_, pss_one (ps_clauses (X := (cxOf C8.CX0 X.prog X.w X.K X.mg X.base ["ask", "e"] "_law_met" (defScope s_met) g cdg X.A X.stack s H C8.E0).nox) (i := 1) (n := "e")
      (l := [(.ref CN, true, tSaid CN "number")])
      (tb := fun W D σ H => ∃ Ech : XK, (∀ cls d σ' H', Ech cls d H' → W cls d σ' H') ∧ σ[0]? = some (some (.ref f)) ∧ H c' = some (LamX.CodeO c' q) ∧ tl Ech H fun v H1 => 2 ≤ sizeLine ∧ ∀ p, H1 p = none → D.rt (.ref p) (upd H1 p (.tup [.str "told", v])))
      rfl rfl sc_met.nd rfl rfl (fun W pn xe tk => ?_) ?_), ?_⟩
  · refine ⟨fun pins s' σ H' D I h' => ?_⟩
    obtain ⟨Ech, hW, h1, h2, h3⟩ := h'
    have hp := fun p1 p2 => act W pn xe Ech p1 p2 tk hW
    exact (pss_one (ps_ret (pe_tup (pa_cons pe_str (pa_cons (hp _ _) pa_nil))))).run pins s' σ H' D I ⟨h1, h2, h3⟩
  · have sd : ∀ {x : Str} {C gg : Addr}, XC X.K X.mg x "thing" C gg → Gl (cxOf C8.CX0 X.prog X.w X.K X.mg X.base ["ask", "e"] "_law_met" (defScope s_met) g cdg X.A X.stack s H C8.E0).nox x → (x == ("__debug__" : Str)) = false → Names (cxOf C8.CX0 X.prog X.w X.K X.mg X.base ["ask", "e"] "_law_met" (defScope s_met) g cdg X.A X.stack s H C8.E0).nox x (.ref C) :=
      fun T hg hd => ⟨hg, hd, .inl T.gC⟩
    refine .as_ (sd M.n rfl rfl) (fun a oe cls d pn hz hf => pss_one (ps_ret (pe_tup (pa_cons pe_str (pa_cons (pe_xf M.n.xf M.n.nF hz hf (pv 1)) pa_nil))))) ?_
    exact .nil
  · refine ⟨EM CN Q, ?_, rfl, hc, ?_⟩
    · rintro cls d σ' H' ⟨rfl, dd, v, rfl, hx, k⟩
      exact ⟨_, M.nn, fun _ a na hl => said hl hx k, fun z => (nomatch z)⟩
    · exact h
end
end Ts


set_option Elab.async false
set_option linter.all false
set_option maxRecDepth 100000
set_option maxHeartbeats 4000000
namespace Ts
open PySem PySem.Spec L2 LamX
open Evl (Ex)
section
variable {P : Program} {w : World} {K : PySem.W.Frag} {mg : Str → Option Value} {base : Heap}
/-- a def whose code object is known -/
theorem okC {x q : Str} {st : Stmt} {f c : Addr} {N ps : List Str} {k : Nat} {sp : Sp} {oc kV doc pm ct : Value} {od an : Option Addr} {osl : Array (Option Value)}
    (lk : K.lookup f = some ⟨oc, od, .func (PySem.W.fnOf x q (defArgs st) (defBody st) (defScope st) .none kV doc pm an (.ref c) ct), osl⟩) (hcd : PySem.W.codeIn K (.ref c) q = true) (S : FnScope N ps (defScope st)) (ln : ∀ vs H Q E, sp vs H Q E → vs.length = ps.length)
    (hb : ∀ (A : Around) (outer : List Env) (s : Shared) (H : Hp) (vs : List V) (Q : VK) (E : XK), Room k (A.deeper (PyProof.Rows.envOfC q (defScope st) s.heap.objs.size f (.ref c))) → sp vs H Q E →
      ∃ t, PSs (cxOf CX0 P w K mg base N q (defScope st) f (.ref c) A outer s H E).nox (defBody st) t ∧ t { nx := fun _ H' => Q .non H', rt := Q } (L2.start N vs) H) :
    FnOk P w K mg base CX0 (k + 1) f (PySem.W.fnOf x q (defArgs st) (defBody st) (defScope st) .none kV doc pm an (.ref c) ct) ps sp :=
  fn_of lk hcd S ln fun A outer s H vs Q E hr hsp => by
    obtain ⟨t, h, q⟩ := hb A outer s H vs Q E hr hsp
    exact ⟨t, h.nox, q⟩
end
section
variable {X : Cx} {CN gN : Addr}
theorem pe_met (M : Errs X.K X.mg CN gN) {g c T : Addr} {fd : FuncData} {k : Nat} {params : Arguments} {body : Expr} {scope : Scope} {t : XK → TE} {p lpos pos : Pos}
    (F : FD X.K X.mg "_law_met" "_law_met" s_met g fd) (hg : Gl X "_law_met") (TB : TabB X.base X.mg c T) (hcode : X.env.code = .ref c) (hr : Room (k + 2) X.A) (L : LamS X.env.scope scope) (hdef : defaultsOf params X.env = ([], []))
    (hbind : ∀ (q : Str) (cl : List (Str × Addr)) (pm cv ctv : Value), bindArgs (PySem.W.kla_fn "<lambda>" q params body scope cl pm cv ctv) ⟨[], []⟩ = pure [])
    (hbody : ∀ (A : Around) (outer : List Env) (s : Shared) (H : Hp) (E : XK) (f c' : Addr), Room k (A.deeper (lamEnv X scope s.heap.objs.size f c')) → PE (lamCx X A outer s H E scope f c') body (t E)) :
    PE X (.Call (.Name "_law_met" p) [.Lambda params body scope lpos] [] pos) (tLam [(T, X.env.qual ++ "<lambda>")] (TMet CN) t) := by
  obtain ⟨oc, od, kV, doc, pm, an, cdv, ct, osl, hfd, lk, hcd⟩ := F.F.ex
  subst hfd
  refine pe_lamcall (a := "ask") (Ng := ["ask", "e"]) hg F.g F.F.kp lk hcd (F.F.binds fun _ _ _ _ _ _ us hl => match us, hl with | [_], _ => rfl) sc_met rfl (Or.inl rfl) (met_gives M) TB hcode (.head _) (fun p hp _ => ?_) hr L hdef hbind hbody
  rw [List.mem_singleton] at hp
  rw [hp]
end
/-! ## what stands where tables grow -/
/-- a heap without its tables -/
def nt (H : Hp) : Hp := fun b => match H b with
  | some (.tbl _) => none
  | o => o
theorem nt_of {H : Hp} {b : Addr} {o : HO} (h : nt H b = some o) : H b = some o ∧ ∀ ps, o ≠ .tbl ps := by
  unfold nt at h
  cases e : H b with
  | none =>
    rw [e] at h
    cases h
  | some u =>
    rw [e] at h
    cases u <;> first
      | (cases h; done)
      | (cases h; exact ⟨rfl, fun ps z => by cases z⟩)
theorem nt_at {H : Hp} {b : Addr} {o : HO} (h : H b = some o) (hn : ∀ ps, o ≠ .tbl ps) : nt H b = some o := by
  unfold nt
  rw [h]
  cases o <;> first
    | rfl
    | exact (hn _ rfl).elim
mutual
theorem D.nt {H : Hp} : ∀ {v : V} {d : PyData}, D H v d → D (Ts.nt H) v d
  | _, _, .non => .non
  | _, _, .bl b => .bl b
  | _, _, .int i => .int i
  | _, _, .str x => .str x
  | _, _, .lst h r => .lst (nt_at h fun _ z => by cases z) (DAll.nt r)
  | _, _, .tup h r => .tup (nt_at h fun _ z => by cases z) (DAll.nt r)
  | _, _, .dic h r => .dic (nt_at h fun _ z => by cases z) (DKv.nt r)
theorem DAll.nt {H : Hp} : ∀ {v : List V} {d : List PyData}, DAll H v d → DAll (Ts.nt H) v d
  | _, _, .nil => .nil
  | _, _, .cons h r => .cons (D.nt h) (DAll.nt r)
theorem DKv.nt {H : Hp} : ∀ {v : List (Key × V)} {d : List (PyData × PyData)}, DKv H v d → DKv (Ts.nt H) v d
  | _, _, .nil => .nil
  | _, _, .cons h r => .cons (D.nt h) (DKv.nt r)
end
/-- what a region holds is no table -/
def NoT (R : Hp) : Prop := ∀ b o, R b = some o → ∀ ps, o ≠ .tbl ps
theorem nt_no (H : Hp) : NoT (nt H) := fun _ _ h => (nt_of h).2
/-- a region held, the tables told -/
structure Tst (T : List (Addr × Str)) (R H : Hp) : Prop where
  n : NoT R
  r : Ex R H
  t : Tabs T H
theorem Tst.ex {T : List (Addr × Str)} {R H H' : Hp} (s : Tst T R H) (e : Ex H H') : Tst T R H' := ⟨s.n, s.r.trans e, s.t.ext e⟩
theorem Tst.extN {T : List (Addr × Str)} {R H H' : Hp} (s : Tst T R H) (e : ExtN H H') (t : Tabs T H') : Tst T R H' := ⟨s.n, fun b o h => e b o (s.r b o h) (s.n b o h), t⟩
/-- what is new is held from now on -/
theorem Tst.add {T : List (Addr × Str)} {R H : Hp} {z : Addr} {o : HO} (s : Tst T R H) (hz : H z = some o) (hn : ∀ ps, o ≠ .tbl ps) (hr : R z = none) : Tst T (upd R z o) H :=
  ⟨fun b u h => by
    by_cases hb : b = z
    · rw [hb, upd_same] at h
      cases h
      exact hn
    · rw [upd_ne hb] at h
      exact s.n b u h, fun b u h => by
    by_cases hb : b = z
    · rw [hb, upd_same] at h
      cases h
      rw [hb]
      exact hz
    · rw [upd_ne hb] at h
      exact s.r b u h, s.t⟩
theorem Tst.no {T : List (Addr × Str)} {R H : Hp} (s : Tst T R H) {z : Addr} (h : H z = none) : R z = none := Evl.fresh_back s.r h
/-- an object that is no table and of no region changes -/
theorem Tst.mut {T : List (Addr × Str)} {R H : Hp} {z : Addr} {xs ys : List V} (s : Tst T R H) (hz : H z = some (.lst xs)) (hr : R z = none) : Tst T R (upd H z (.lst ys)) :=
  ⟨s.n, s.r.mut hr, fun p hp => by
    obtain ⟨ps, h1, h2, h3⟩ := s.t p hp
    have n1 : p.1 ≠ z := fun q => by
      rw [q, hz] at h1
      cases h1
    refine ⟨ps, by rw [upd_ne n1]; exact h1, h2, fun po cv hc => ?_⟩
    obtain ⟨cc, e1, e2⟩ := h3 po cv hc
    refine ⟨cc, e1, ?_⟩
    have n2 : cc ≠ z := fun q => by
      rw [q, hz] at e2
      cases e2
    rw [upd_ne n2]
    exact e2⟩
end Ts


set_option Elab.async false
set_option linter.all false
set_option maxRecDepth 100000
set_option maxHeartbeats 8000000
namespace Ts
open PySem PySem.Spec L2 LamX
open Evl (Ex)
theorem Tst.weak {T : List (Addr × Str)} {R R' H : Hp} (s : Tst T R H) (e : Ex R' R) : Tst T R' H := ⟨fun b o h => s.n b o (e b o h), e.trans s.r, s.t⟩
theorem met_ref {CN : Addr} {x : V} {T : List (Addr × Str)} {R H : Hp} {Q : VK} {tt : XK → TE} {σ : L2.St} (t : Tst T R H)
    (hc : ∀ (H2 : Hp) (E : XK) (q : VK), Tst T R H2 → (∀ Hc, Ex H2 Hc → Raised Hc "thing" x CN E) → tt E σ H2 q)
    (k : ∀ H' p, Tst T (upd R p (.tup [.str "number", x])) H' → R p = none → Q (.ref p) H') : tLam T (TMet CN) tt σ H Q :=
  ⟨t.t, fun H2 eN t2 => hc H2 _ _ (t.extN eN t2) fun Hc ec d H3 e3 nd hd => ⟨rfl, d, x, rfl, hd, fun p np =>
    have t3 : Tst T R H3 := (t.extN eN t2).ex (ec.trans e3)
    k _ p ((t3.ex (Ex.new np)).add upd_same (fun _ z => by cases z) (t3.no np)) (t3.no np)⟩⟩
theorem d_pair {H : Hp} {p : Addr} {w : Str} {x : V} {d : PyData} (h : H p = some (.tup [.str w, x])) (hx : D H x d) : D H (.ref p) (.tuple [.str w, d]) := .tup h (.cons (.str w) (.cons hx .nil))
theorem ok_pair {w : Str} {d : PyData} (h : okD 3 d = true) : okD 4 (.tuple [.str w, d]) = true := by
  refine Bool.and_eq_true_iff.mpr ⟨decide_eq_true (by show 2 ≤ 90000; decide), ?_⟩
  show (true && (okD 3 d && true)) = true
  rw [h]
  rfl
theorem okD_up : ∀ {k : Nat} {d : PyData}, okD k d = true → okD (k + 1) d = true
  | _, .none, _ => rfl
  | _, .bool _, _ => rfl
  | _, .int _, _ => rfl
  | _, .str _, _ => rfl
  | 0, .list _, h => by cases h
  | 0, .tuple _, h => by cases h
  | 0, .dict _, h => by cases h
  | k + 1, .list l, h => by
    obtain ⟨h1, h2⟩ := Bool.and_eq_true_iff.mp h
    exact Bool.and_eq_true_iff.mpr ⟨h1, List.all_eq_true.mpr fun e he => okD_up (List.all_eq_true.mp h2 e he)⟩
  | k + 1, .tuple l, h => by
    obtain ⟨h1, h2⟩ := Bool.and_eq_true_iff.mp h
    exact Bool.and_eq_true_iff.mpr ⟨h1, List.all_eq_true.mpr fun e he => okD_up (List.all_eq_true.mp h2 e he)⟩
  | k + 1, .dict l, h => by
    obtain ⟨h1, h2⟩ := Bool.and_eq_true_iff.mp h
    exact Bool.and_eq_true_iff.mpr ⟨h1, okD_up h2⟩
theorem tabs_off {T : List (Addr × Str)} {H : Hp} {a c : Addr} {n : Int} (S : Strm H a c n) (t : Tabs T H) : Tabs T (off a c H) := fun p hp => by
  obtain ⟨ps, h1, h2, h3⟩ := t p hp
  obtain ⟨⟨cells, s1, s3, g1, g2, _⟩, _, _⟩ := S
  have k : ∀ (z : Addr) (o : HO), H z = some o → (∀ xs, o ≠ .lst xs) → off a c H z = some o := fun z o hz ho => by
    have n1 : z ≠ a := fun q => by
      rw [q, g1] at hz
      cases hz
      exact ho _ rfl
    have n2 : z ≠ c := fun q => by
      rw [q, g2] at hz
      cases hz
      exact ho _ rfl
    rw [off_ne n1 n2]
    exact hz
  refine ⟨ps, k _ _ h1 (fun _ z => by cases z), h2, fun pos cv hc => ?_⟩
  obtain ⟨cc, e1, e2⟩ := h3 pos cv hc
  exact ⟨cc, e1, k _ _ e2 (fun _ z => by unfold CodeO at z; cases z)⟩
theorem tabs_drawn {T : List (Addr × Str)} {H H' : Hp} {a c : Addr} {n : Int} (S : Strm H a c n) (t : Tabs T H) (e : Ex (off a c H) (off a c H')) : Tabs T H' := (tabs_off S t).ext fun b o h => off_of (e b o h)
def odds : List PyData := [.none, .int (-1), .bool true, .str "3", .list [.int 3], .dict [], .int 1024, .int 1025, .int 1000000000]
theorem odds_no : ∀ d ∈ odds, isBelow 1024 d = false ∧ okD 3 d = true := by
  have h : odds.all (fun d => !isBelow 1024 d && okD 3 d) = true := by decide +kernel
  intro d hd
  have := List.all_eq_true.mp h d hd
  simpa using this
end Ts


set_option Elab.async false
set_option linter.all false
set_option maxRecDepth 100000
set_option maxHeartbeats 4000000
namespace Ts
open PySem PySem.Spec L2 LamX CmbK
open Evl (Ex)
theorem BookAt.rest {CB a c hd b : Addr} {H0 H : Hp} {n : Int} {kvs : List (Key × V)} {rs : List Rl} (S : Strm H0 a c n) (e : Ex H0 H) (hd0 : H0 hd = some (.dK kvs)) (bk : BookAt CB H b rs)
    (new : ∀ dx L, H b = some (.ins CB dx [("_rules", .ref L)]) → H0 L = none) : BookAt CB (restOf a c hd H) b rs := by
  obtain ⟨dx, L, qs, hb, hL, hR, hm⟩ := bk
  obtain ⟨⟨cells, s1, s3, ha0, hc0, _⟩, _, _⟩ := S
  have ha := e _ _ ha0
  have hc := e _ _ hc0
  have hh := e _ _ hd0
  have no : ∀ {z : Addr} {o : HO}, H z = some o → (∀ xs, o ≠ .lst xs) → (∀ xs, o ≠ .dK xs) → restOf a c hd H z = some o := fun {z o} hz n1 n2 =>
    rest_at hz (fun q => by rw [q, ha] at hz; cases hz; exact n1 _ rfl) (fun q => by rw [q, hc] at hz; cases hz; exact n1 _ rfl) (fun q => by rw [q, hh] at hz; cases hz; exact n2 _ rfl)
  have nL := new dx L hb
  have ne : ∀ {z : Addr} {o : HO}, H0 z = some o → L ≠ z := fun {z o} hz q => by
    rw [q, hz] at nL
    cases nL
  refine ⟨dx, L, qs, no hb (fun _ z => by cases z) (fun _ z => by cases z), ?_, fun q hq => no (hR q hq) (fun _ z => by cases z) (fun _ z => by cases z), hm⟩
  exact rest_at hL (ne ha0) (ne hc0) (ne hd0)
/-- the law's own list of all lists of small rules -/
def EvAt (Z : Hp) (ev : Addr) : Prop := ∃ (qs : List (Addr × Rl)) (ts : List (Addr × List Nat)), RulesAt Z qs ∧ qs.map (·.2) = smallR ∧ Z ev = some (.lst (ts.map fun q => V.ref q.1)) ∧ ListsAt (qs.map fun q => V.ref q.1) Z ts ∧ ts.map (·.2) = allC
theorem EvAt.ex {Z Z' : Hp} {ev : Addr} (h : EvAt Z ev) (e : Ex Z Z') : EvAt Z' ev := by
  obtain ⟨qs, ts, h1, h2, h3, h4, h5⟩ := h
  exact ⟨qs, ts, h1.ex e, h2, e _ _ h3, h4.ex e, h5⟩
theorem rules_at {H : Hp} {L : Addr} {qs : List (Addr × Rl)} {rs : List Rl} (hL : H L = some (.lst (qs.map fun q => V.ref q.1))) (hR : RulesAt H qs) (hm : qs.map (·.2) = rs) : D H (.ref L) (.list (rs.map Rl.d)) := by
  have z : rs.map Rl.d = qs.map fun q => q.2.d := by
    rw [← hm, List.map_map]
    rfl
  rw [z]
  exact .lst hL (rules_D hR)
section
variable {X : Cx} {CX : CXT} {k : Nat} {f : Addr} {fd : FuncData} {ps ks : List Str} {sp : Sp} {E : XK} {x : Str} {p pos : Pos} {kws : List Keyword} {tk : TA} {g : List Value → List Value → List Value} {gV : List V → List V → List V}
/-- f(k = v, ..) -/
theorem pe_callN0 (F : FnOk X.prog X.w X.K X.mg X.base CX k f fd ps sp) (hr : Room k X.A) (hg : Gl X x) (hm : X.mg x = some (.ref f)) (hk : PySem.W.keepIn X.K (.ref f) = true) (hb : KBn X.K fd ps 0 ks g gV) (hx : Passes CX X E)
    (hkw : PK X kws tk) (hall : (backToKw pos (keywordEach kws X.env)).all (·.1.isSome) = true := by rfl) (hks : (backToKw pos (keywordEach kws X.env)).filterMap (·.1) = ks := by rfl)
    (hdb : (x == ("__debug__" : Str)) = false := by decide)
    (hpl : ((backTo pos (starEach [] X.env)).any (·.1) || (backToKw pos (keywordEach kws X.env)).any (·.1.isNone)) = false := by rfl) :
    PE X (.Call (.Name x p) [] kws pos) (tCallN 0 ks.length sp gV E tNil tk) := by
  refine ⟨fun pins s σ H Q I h => ?_⟩
  refine wpAny_Call_Name_kw (ld_glob I hg hm ?_ hdb)
  refine PySem.W.callWith_KW0 (h₀ := X.base) I.ok.mod.kin hk hall ?_ hpl
  refine thn (hkw.run pos pins s σ H _ I h) fun ws s2 ⟨zs, H2, I2, rz, l1, l2, q2⟩ => ⟨I2.kIn, ?_⟩
  rw [hks]
  exact run_fnN (us := []) (vs := []) F hr hb hx I2 .nil rz rfl l2 q2
end
section
variable {K : PySem.W.Frag} {mg : Str → Option Value} {CB CR CN fI fR : Addr}
/-- one turn: the book told, the one due, what is the same about them -/
theorem body1 {σ : L2.St} {H : Hp} {Dn : Ends} {a c hd ev : Addr} {n : Int} {kvs : List (Key × V)} {m : Nat} (B : BkC K mg CB fI fR) (hm : m < 1024) (hl : σ.length = 12) (h2 : σ[2]? = some (some (.ref ev))) (h3 : σ[3]? = some (some (.ref hd))) (h4 : σ[4]? = some (some (.int (m : Int))))
    (S : Strm H a c n) (d : H hd = some (.dK kvs)) (kz : kvs.length < sizeLine) (na : hd ≠ a) (nc : hd ≠ c) (hE : EvAt (restOf a c hd H) ev) (hH : Holds CB (restOf a c hd H) kvs)
    (k : ∀ v5 v6 H' kvs', H' hd = some (.dK kvs') → kvs'.length ≤ kvs.length + 1 → Ex (restOf a c hd H) (restOf a c hd H') → Strm H' a c n → Holds CB (restOf a c hd H') kvs' → Dn.nx ((σ.set 5 (some v5)).set 6 (some v6)) H') :
    (tSeq (tPar 5 6 (tCons (tCall (spSbook CB CN) [] E0 (tCons (tVar 4) tNil)) (tCons (tMake CB (spBook CB CR) [] E0 (tCons (tOp (rIx K) (tVar 2) (tVar 4)) tNil)) tNil)))
      (tSeq (tIfS (tOr (tNot (tB (tCB (rIsi K) (tCons (tVar 5) (tCons (tC (V.ref CB)) tNil))))) (tOr (tNot (tTest (tOp (rOwnEq CB (spBeq CB) E0) (tVar 5) (tVar 6)))) (tNot (tTest (tOp (rOwnEq CB (spBeq CB) E0) (tCallN 0 ["number"].length (spSbook CB CN) (fun x zs => zs) E0 tNil (tCons (tVar 4) tNil)) (tVar 6)))))) (tRet (tC (V.bl false))) tNext)
        (tSeq (tIfS (tNot (tB (tCall (spSame 6) [] E0 (tCons (tMeth CB "rules" (spBrules CB) [] E0 (tVar 5) tNil) (tCons (tMeth CB "rules" (spBrules CB) [] E0 (tVar 6) tNil) tNil))))) (tRet (tC (V.bl false))) tNext)
          (sDPut (tVar 3) (tVar 4) (tVar 5)))) : TS) Dn σ H := by
  obtain ⟨qs, ts, hRu, hmq, hL, hT, ht⟩ := hE
  have bl : isBelow 1024 (.int (m : Int)) = true := by
    show (decide ((0 : Int) ≤ m) && decide ((m : Int) < 1024)) = true
    rw [decide_eq_true (by omega), decide_eq_true (by omega)]
    rfl
  have yes : ∀ {p : Prop}, isBelow 1024 (.int (m : Int)) = false → p := fun {p} z => by
    rw [bl] at z
    cases z
  have em : ∀ {m' : Nat}, PyData.int (m : Int) = PyData.int (m' : Int) → m' = m := fun {m'} z => by
    have := PyData.int.inj z
    omega
  have hmt : m < ts.length := by
    have := congrArg List.length ht
    rw [List.length_map, allC_len] at this
    omega
  have hc : ts[m].2 = allC.getD m [] := by
    have z : (ts.map (·.2))[m]? = some ts[m].2 := by rw [List.getElem?_map, List.getElem?_eq_getElem hmt]; rfl
    rw [ht] at z
    rw [List.getD_eq_getElem?_getD, z]
    rfl
  have hmem := getD_mem hm
  refine seq1 ⟨_, h4, .int (m : Int), .int (m : Int), rfl, .int _, fun z => yes z, fun m' e' _ H2 b nb e2 bk newb => ?_⟩
  obtain rfl := em e'
  refine ⟨_, h2, _, h4, ix_row (.inl (e2 _ _ (rest_ex _ _ hL))) (atI_nat (j := m') (by rw [List.getElem?_map, List.getElem?_eq_getElem hmt]; rfl)) ?_⟩
  intro p dx np ndx hne
  have e3 := new_del (C := CB) np ndx
  have hTt := e2 _ _ (rest_ex _ _ (hT ts[m'] (List.getElem_mem hmt)))
  rw [hc] at hTt
  obtain ⟨f1, f2', f3, f4⟩ := row_fault hmem true
  have hdd : D H2 (.ref ts[m'].1) (mk true ((rowR (allC.getD m' [])).map Rl.d)) := .lst hTt (row_D ((hRu.ex rest_ex).ex e2) hmq (allC_good _ hmem).2.1)
  refine ⟨p, dx, .ref ts[m'].1, _, rfl, upd_same, hdd.ex e3, f3, f4, fun z => absurd f1 z, fun _ H4 e4 bk4 newL => ⟨rfl, ⟨_, _, rfl, ?_⟩⟩⟩
  rw [f2'] at bk4
  have e24 := e3.trans e4
  have bkb := bk.ex e24
  have newb' : ∀ dx L, H4 b = some (.ins CB dx [("_rules", .ref L)]) → H L = none := fun dx' L' hL' => by
    obtain ⟨dx2, L2', qs2, g1, _⟩ := bk
    have g2 := e24 _ _ g1
    rw [hL'] at g2
    cases g2
    exact newb _ _ g1
  have bkr := BookAt.rest S (e2.trans e24) d bkb newb'
  have h5 : ((σ.set 5 (some (V.ref b))).set 6 (some (V.ref p)))[5]? = some (some (.ref b)) := by
    rw [List.getElem?_set_ne (by decide), List.getElem?_set_self (by omega)]
  have h6 : ((σ.set 5 (some (V.ref b))).set 6 (some (V.ref p)))[6]? = some (some (.ref p)) := by
    rw [List.getElem?_set_self (by rw [List.length_set]; omega)]
  have h4' : ((σ.set 5 (some (V.ref b))).set 6 (some (V.ref p)))[4]? = some (some (.int (m' : Int))) := by
    rw [List.getElem?_set_ne (by decide), List.getElem?_set_ne (by decide)]
    exact h4
  have h3' : ((σ.set 5 (some (V.ref b))).set 6 (some (V.ref p)))[3]? = some (some (.ref hd)) := by
    rw [List.getElem?_set_ne (by decide), List.getElem?_set_ne (by decide)]
    exact h3
  refine seq1 ?_
  obtain ⟨dxb, Lb, qb, hb, hLb, hRb, hmb⟩ := id bkb
  obtain ⟨dxp, Lp, qp, hp, hLp, hRp, hmp⟩ := id bk4
  refine ⟨_, h5, _, _, _, _, _, rfl, .own CB, .base (TyOf.ins hb B.cl B.ha B.hn B.htk B.hm), B.me, _, rfl, iteF ?_⟩
  refine ⟨_, h5, _, h6, b, p, _, _, _, _, rfl, rfl, hb, hp, b, p, _, _, rfl, bkb, bk4, book_lay, book_lay, ⟨_, rfl⟩, _, rfl, ite_ff (by rw [decide_eq_true rfl]; rfl) ?_⟩
  refine ⟨_, h4', rfl, rfl, .int (m' : Int), .int (m' : Int), rfl, .int _, fun z => yes z, fun m2 em2 _ H5 b2 nb2 e5 bk5 _ => ?_⟩
  obtain rfl := em em2
  have bkb5 := bkb.ex e5
  have bkp5 := bk4.ex e5
  obtain ⟨dx2, L2', qs2, hb2, _⟩ := id bk5
  refine ⟨_, h6, b2, p, _, _, _, _, rfl, rfl, hb2, e5 _ _ hp, b2, p, _, _, rfl, bk5, bkp5, book_lay, book_lay, ⟨_, rfl⟩, _, rfl, ite_ff (by rw [decide_eq_true rfl]; rfl) ?_⟩
  refine next1 (seq1 ?_)
  refine ⟨_, h5, b, _, _, rfl, e5 _ _ hb, rfl, b, _, rfl, bkb5, fun M1 H6 q1 n1 e6 g1 g2 g3 => ⟨_, h6, p, _, _, rfl, e6 _ _ (e5 _ _ hp), rfl, p, _, rfl, bkp5.ex e6, fun M2 H7 q2 n2 e7 g4 g5 g6 => ?_⟩⟩
  refine ⟨_, _, _, rfl, rules_at (e7 _ _ g1) (g2.ex e7) g3, rules_at g4 g5 g6, okD_rules (book_len10 hm), fun H8 e8 => ⟨_, rfl, ite_ff rfl ?_⟩⟩
  refine next1 ?_
  have e48 := e5.trans (e6.trans (e7.trans e8))
  have eA := (e2.trans e24).trans e48
  refine ⟨_, h5, _, h3', _, h4', hd, _, rfl, DPut.k (k := (.inl (m2 : Int) : Key)) (eA _ _ d) kz, ?_⟩
  have eR : restOf a c hd (upd H8 hd (.dK (putK kvs (.inl (m2 : Int)) (.ref b)))) = restOf a c hd H8 := rest_upd na nc
  refine k _ _ _ _ upd_same (putK_len _ _ _) (by rw [eR]; exact Ex.rest eA) ((S.ex eA).upd na nc) ?_
  rw [eR]
  exact (hH.ex (Ex.rest eA)).put hm (bkr.ex (Ex.rest e48))
end
end Ts


set_option Elab.async false
set_option linter.all false
set_option maxRecDepth 100000
set_option maxHeartbeats 8000000
namespace Ts
open PySem PySem.Spec L2 LamX CmbK
open Evl (Ex)
theorem rest_upd_ne {a c d z : Addr} {H : Hp} {o : HO} (h1 : z ≠ a) (h2 : z ≠ c) (h3 : z ≠ d) : restOf a c d (upd H z o) = upd (restOf a c d H) z o := funext fun b => by
  by_cases hb : b = z
  · subst hb
    rw [upd_same]
    exact rest_at upd_same h1 h2 h3
  · rw [upd_ne hb]
    unfold restOf
    split
    · rfl
    · rw [off_upd_ne h1 h2, upd_ne hb]
section
variable {P : Program} {w : World} {K : PySem.W.Frag} {mg : Str → Option Value} {base : Heap}
abbrev s_law := top 32
abbrev NL : List Str := ["script", "stream", "every", "held", "at", "told", "due", "some", "one", "odd", "k", "other"]
theorem sc_law : FnScope NL ["script"] (defScope s_law) := ⟨rfl, rfl, rfl, by decide +kernel, rfl, by decide +kernel, by decide +kernel⟩
def lamQ : Str := (PyProof.Rows.envOfC "law" (defScope s_law) 0 0 .none).qual ++ "<lambda>"
def spLaw (K : PySem.W.Frag) (tab : Addr) : Sp := fun vs H Q _ => ∃ (s : Addr) (ns : List Int), vs = [.ref s] ∧ SqL K H s (ns.map V.int) ∧ Tabs [(tab, lamQ)] H ∧ ∀ H', Q (.bl true) H'
theorem kb_of {f : Addr} {fd : FuncData} (F : FD K mg "small_book" "small_book" s_sbook f fd) : KBn K fd ["number"] 0 ["number"] (fun _ ws => ws) (fun _ zs => zs) := by
  obtain ⟨oc, od, kV, doc, pm, an, cdv, ct, osl, rfl, lk, hcd⟩ := F.F.ex
  refine ⟨fun s us ws _ l1 l2 => ?_, fun _ r => r⟩
  match us, ws, l1, l2 with
  | [], [a], _, _ => exact .of_eq rfl
theorem ok_law {tab f c f0 f1 f2 f3 f4 f5 f6 fI fE fR CB CR CN gN : Addr} {fd0 fd1 fd2 fd3 fd4 fd5 fd6 fdI fdE fdR : FuncData} {oc kV doc pm ct : Value} {od an : Option Addr} {osl : Array (Option Value)}
    (lk : K.lookup f = some ⟨oc, od, .func (PySem.W.fnOf "law" "law" (defArgs s_law) (defBody s_law) (defScope s_law) .none kV doc pm an (.ref c) ct), osl⟩) (hcd : PySem.W.codeIn K (.ref c) "law" = true)
    (M : Errs K mg CN gN) (TB : TabB base mg c tab)
    (F_met : FD K mg "_law_met" "_law_met" s_met f0 fd0)
    (F_start : FD K mg "_law_start" "_law_start" s_start f1 fd1) (G_start : FnOk P w K mg base CX0 1 f1 fd1 ["script"] (spStart K))
    (F_draw : FD K mg "_law_draw" "_law_draw" s_draw f2 fd2)
    (F_gs : FD K mg "_law_g_small" "_law_g_small" s_gs f3 fd3)
    (F_mixed : FD K mg "_law_mixed" "_law_mixed" s_mixed f4 fd4)
    (F_same : FD K mg "_law_same" "_law_same" s_same f5 fd5)
    (F_sbook : FD K mg "small_book" "small_book" s_sbook f6 fd6) (G_sbook : FnOk P w K mg base (L2.CX P w) 7 f6 fd6 ["number"] (spSbook CB CN))
    (B : BkC K mg CB fI fR) (F_I : Fun K "__init__" "Book.__init__" s_binit fI fdI) (G_binit : FnOk P w K mg base (L2.CX P w) 5 fI fdI ["self", "rules"] (spBook CB CR))
    (F_R : Fun K "rules" "Book.rules" s_brules fR fdR) (F_E : Fun K "__eq__" "Book.__eq__" s_beq fE fdE) (hE : PySem.W.findIn K (.ref CB) "__eq__" = some (some (.ref fE))) (hEf : PySem.W.isFn K (.ref fE) = true)
    (T : Bl mg) (hsorted : mg "sorted" = none) (hany : mg "any" = none) :
    FnOk P w K mg base CX0 10 f (PySem.W.fnOf "law" "law" (defArgs s_law) (defBody s_law) (defScope s_law) .none kV doc pm an (.ref c) ct) ["script"] (spLaw K tab) := by
  have G_draw : FnOk P w K mg base CX0 1 f2 fd2 ["stream", "many"] spDraw := ok_draw F_draw T
  have G_gs : FnOk P w K mg base CX0 2 f3 fd3 [] spGs := ok_gs F_gs T hsorted
  have G_mixed : FnOk P w K mg base CX0 2 f4 fd4 ["stream", "some"] spMixed := ok_mixed F_mixed F_draw T
  have G_same : FnOk P w K mg base CX0 6 f5 fd5 ["found", "due"] (spSame 6) := ok_same F_same T 6
  have G_brules : FnOk P w K mg base CX0 1 fR fdR ["self"] (spBrules CB) := ok_brules F_R B T
  have G_beq : FnOk P w K mg base CX0 1 fE fdE ["self", "other"] (spBeq CB) := ok_beq F_E B T
  have b_start : Binds K fd1 ["script"] [] := F_start.F.binds fun _ _ _ _ _ _ us hl => match us, hl with | [_], _ => rfl
  have b_draw := b_draw F_draw
  have b_gs : Binds K fd3 [] [] := F_gs.F.binds fun _ _ _ _ _ _ us hl => match us, hl with | [], _ => rfl
  have b_mixed : Binds K fd4 ["stream", "some"] [] := F_mixed.F.binds fun _ _ _ _ _ _ us hl => match us, hl with | [_, _], _ => rfl
  have b_same : Binds K fd5 ["found", "due"] [] := F_same.F.binds fun _ _ _ _ _ _ us hl => match us, hl with | [_, _], _ => rfl
  have b_sbook : Binds K fd6 ["number"] [] := F_sbook.F.binds fun _ _ _ _ _ _ us hl => match us, hl with | [_], _ => rfl
  have kb_sbook := kb_of F_sbook
  have b_binit : Binds K fdI ["self", "rules"] [] := F_I.binds fun _ _ _ _ _ _ us hl => match us, hl with | [_, _], _ => rfl
  have b_rules : Binds K fdR ["self"] [] := F_R.binds fun _ _ _ _ _ _ us hl => match us, hl with | [_], _ => rfl
  have b_eq : Binds K fdE ["self", "other"] [] := F_E.binds fun _ _ _ _ _ _ us hl => match us, hl with | [_, _], _ => rfl
  refine okC lk hcd sc_law (fun vs H Q E h => ?_) (fun A outer s H vs Q E hr h => ?_)
  · obtain ⟨s, ns, rfl, _⟩ := h
    rfl
  · obtain ⟨sc, ns, rfl, hs, hT, kq⟩ := h
    have nd := sc_law.nd
    have hr9 : Room (7 + 2) _ := hr
    have hu := Nat.lt_of_le_of_lt (Nat.add_le_add_left (by decide : 1 ≤ 64) _) hr.units
    have hu64 := Nat.lt_of_le_of_lt (Nat.add_le_add_left (by decide : 64 ≤ 64) _) hr.units
    refine ⟨_, (pss_cons (ps_set (i := 1) nd rfl (Or.inr rfl) (pe_call G_start (hr.mono (by decide)) (by rfl) F_start.g F_start.F.kp b_start .nil pass0 (pa_cons (pv 0) pa_nil)))
      (pss_cons (ps_set (i := 2) nd rfl (Or.inl rfl) (pe_call0 G_gs (hr.mono (by decide)) (by rfl) F_gs.g F_gs.F.kp b_gs .nil pass0))
      (pss_cons (ps_set (i := 3) nd rfl (Or.inr rfl) pe_dnewK)
      (pss_cons (ps_for PassesOwn.never rfl (pi_list (pe_op op_cat (pe_lst (pa_cons pe_int (pa_cons pe_int (pa_cons pe_int (pa_cons pe_int (pa_cons pe_int (pa_cons pe_int (pa_cons pe_int (pa_cons pe_int (pa_cons pe_int (pa_cons pe_int pa_nil)))))))))))
          (pe_lc (own := [("k", 10)]) (g := gName 10) (tt := tYes) rfl nd (pi_range1 (by rfl) T.range (pa_cons pe_int pa_nil)) (blkOk_by (N := NL) (sc := defScope s_law) (by decide +kernel)) (fun _ _ _ _ _ => pg_name (i := 10) nd rfl (Or.inl rfl)) (fun _ _ _ _ _ => pts_nil)
            (fun _ _ _ _ _ => pe_call G_draw (hr.mono (by decide)) (by rfl) F_draw.g F_draw.F.kp b_draw .nil pass0 (pa_cons (pv 1) (pa_cons pe_int pa_nil)))))) (pg_name (i := 4) nd rfl (Or.inl rfl))
        (pss_cons (ps_par (i := 5) (j := 6) (by rfl) nd rfl rfl (by decide) rfl rfl (pa_cons (pe_call G_sbook (hr.mono (by decide)) (by rfl) F_sbook.g F_sbook.F.kp b_sbook .nil (passF rfl rfl) (pa_cons (pv 4) pa_nil)) (pa_cons (pe_make B.made G_binit (hr.mono (by decide)) (by rfl) B.gC b_binit .nil (passF rfl rfl) (pa_cons (pe_ix ix_seq (pv 2) (pv 4) (fun _ _ => rfl)) pa_nil)) pa_nil)) (by rfl))
        (pss_cons (ps_if (PW.pt (pw_or (pt_not (pt_val (pe_callB call_isi (by rfl) T.isinstance (by decide +kernel) (pa_cons (pv 5) (pa_cons (pe_glob (v := .ref CB) rfl B.gC rfl) pa_nil))))) (pw_or (pt_not (pt_cmpR (op_ownEq G_beq hE hEf b_eq pass0 (hr.mono (by decide))) (pv 5) (pv 6) (nomark _))) (pw_or1 (pt_not (pt_cmpR (op_ownEq G_beq hE hEf b_eq pass0 (hr.mono (by decide))) (pe_callN0 G_sbook (hr.mono (by decide)) (by rfl) F_sbook.g F_sbook.F.kp kb_sbook (passF rfl rfl) (pk_cons (pv 4) pk_nil)) (pv 6) (nomark _))))))) (pss_one (ps_ret pe_bl)) pss_nil)
        (pss_cons (ps_if (pt_not (pt_val (pe_call G_same (hr.mono (by decide)) (by rfl) F_same.g F_same.F.kp b_same .nil pass0 (pa_cons (pe_meth0 (pv 5) B.cl B.mR G_brules (hr.mono (by decide)) b_rules .nil pass0) (pa_cons (pe_meth0 (pv 6) B.cl B.mR G_brules (hr.mono (by decide)) b_rules .nil pass0) pa_nil))))) (pss_one (ps_ret pe_bl)) pss_nil)
        (pss_one (ps_dput hu (pv 3) (pv 4) (pv 5) rfl))))))
      (pss_cons (ps_set (i := 7) nd rfl (Or.inl rfl) (pe_slice (r := rSlL K) sl_list (pe_call G_mixed (hr.mono (by decide)) (by rfl) F_mixed.g F_mixed.F.kp b_mixed .nil pass0 (pa_cons (pv 1) (pa_cons (pe_callTy (call_list_dK (by rfl)) (by rfl) T.list PyProof.Rows.boot_list (pa_cons (pv 3) pa_nil)) pa_nil))) po_none (po_some pe_int)))
      (pss_cons (ps_for PassesOwn.never rfl (pi_list (pv 7)) (pg_name (i := 8) nd rfl (Or.inr rfl))
        (pss_one (ps_if (pt_val (pe_callB (r := rAny K) (cr_any (by rfl)) (by rfl) hany (by decide +kernel) (pa_cons (pe_lc (own := [("other", 11)]) (g := gName 11) (tt := tYes) rfl nd (pi_list (pv 7)) (blkOk_by (N := NL) (sc := defScope s_law) (by decide +kernel)) (fun _ _ _ _ _ => pg_name (i := 11) nd rfl (Or.inl rfl)) (fun _ _ _ _ _ => pts_nil)
            (fun _ _ _ _ _ => pe_cmpR op_ne (pe_cmpR (op_ownEq G_beq hE hEf b_eq pass0 (hr.mono (by decide))) (pe_dget hu (pv 3) (pv 8) (fun _ _ => rfl)) (pe_dget hu (pv 3) (pv 11) (fun _ _ => rfl)) (nomark _)) (pe_cmpR op_eq (pv 8) (pv 11) (nomark _)) (nomark _))) pa_nil))) (pss_one (ps_ret pe_bl)) pss_nil)))
      (pss_cons (ps_for PassesOwn.never rfl (pi_tup (pe_tup (pa_cons pe_non (pa_cons (pe_un un_neg pe_int) (pa_cons pe_bl (pa_cons pe_str (pa_cons (pe_lst (pa_cons pe_int pa_nil)) (pa_cons pe_dnewK (pa_cons pe_int (pa_cons pe_int (pa_cons (pe_op op_pow pe_int pe_int) pa_nil))))))))))) (pg_name (i := 9) nd rfl (Or.inr rfl)) (pss_one (ps_if (pt_not (pt_val (pe_call G_same (hr.mono (by decide)) (by rfl) F_same.g F_same.F.kp b_same .nil pass0 (pa_cons (pe_met M F_met (by rfl) TB rfl hr9 (lamS_by (by show lamSB (defScope s_law) _ = true; decide +kernel)) rfl (fun _ _ _ _ _ => rfl) (fun A outer s H E f c' hr2 => (pe_call G_sbook hr2 (by rfl) F_sbook.g F_sbook.F.kp b_sbook .nil (passes_call (takes_of rfl rfl rfl rfl) (fun _ _ _ _ h => h)) (pa_cons (pv 9) pa_nil)))) (pa_cons (pe_tup (pa_cons pe_str (pa_cons (pv 9) pa_nil))) pa_nil))))) (pss_one (ps_ret pe_bl)) pss_nil)))
      (pss_one (ps_ret (pe_and (pe_cmpR (op_eqD hu64) (pe_meth0 (pe_call G_sbook (hr.mono (by decide)) (by rfl) F_sbook.g F_sbook.F.kp b_sbook .nil (passF rfl rfl) (pa_cons pe_int pa_nil)) B.cl B.mR G_brules (hr.mono (by decide)) b_rules .nil pass0) (pe_lst pa_nil) (nomark _)) (pe_one (pe_cmpR op_eq (pe_callB (r := rLenB K) call_len_seq (by rfl) T.len PySem.boot_len (pa_cons (pe_meth0 (pe_call G_sbook (hr.mono (by decide)) (by rfl) F_sbook.g F_sbook.F.kp b_sbook .nil (passF rfl rfl) (pa_cons pe_int pa_nil)) B.cl B.mR G_brules (hr.mono (by decide)) b_rules .nil pass0) pa_nil)) pe_int (nomark _))))))))))))), ?_⟩
    refine ⟨_, rfl, sc, ns, rfl, hs, fun a c' H1 na nc S0 e1 => ?_⟩
    have t0 := hT.ext e1
    refine gn1 ?_
    dsimp only
    refine seq1 ⟨rfl, fun ev H2 qs ts nev e2 hRu hmq hL hLT ht hN => ?_⟩
    refine gn1 ?_
    dsimp only
    refine seq1 fun hd nhd => ?_
    refine gn1 ?_
    dsimp only
    have S2 := S0.ex e2
    have t2 := tabs_off S2 (t0.ext e2)
    obtain ⟨hda, hdc⟩ := S2.nea nhd
    have hEv : EvAt (off a c' H2) ev := by
      refine ⟨qs, ts, fun q hq => ?_, hmq, ?_, fun q hq => ?_, ht⟩
      · have hz := hRu q hq
        obtain ⟨⟨cells, s1, s3, ha, hc, _⟩, _, _⟩ := S2
        rw [off_ne (fun z => by rw [z, ha] at hz; cases hz) (fun z => by rw [z, hc] at hz; cases hz)]
        exact hz
      · obtain ⟨n1, n2⟩ := S0.nea nev
        rw [off_ne n1 n2]
        exact hL
      · obtain ⟨n1, n2⟩ := S0.nea (hN q hq)
        rw [off_ne n1 n2]
        exact hLT q hq
    clear hRu hmq hL hLT ht hN
    have eZ : restOf a c' hd (upd H2 hd (.dK [])) = off a c' H2 := (rest_upd hda hdc).trans (off_rest nhd)
    have S3 := S2.upd (o := .dK []) hda hdc
    have hd3 : upd H2 hd (.dK []) hd = some (.dK []) := upd_same
    rw [← eZ] at hEv t2
    generalize upd H2 hd (.dK []) = H3 at eZ S3 hd3 hEv t2 ⊢
    clear eZ
    refine seq1 ⟨by show 10 ≤ sizeLine; decide, fun l0 nl0 => ?_⟩
    obtain ⟨l0a, l0c⟩ := S3.nea nl0
    have l0h : l0 ≠ hd := fun z => by
      rw [z, hd3] at nl0
      cases nl0
    have e4 := Ex.new (o := .lst [V.int 0, .int 1, .int 10, .int 11, .int 55, .int 56, .int 1012, .int 1013, .int 1022, .int 1023]) nl0
    have S4 := S3.ex e4
    have hd4 := e4 _ _ hd3
    have hE4 := hEv.ex (Ex.rest (a := a) (c := c') (d := hd) e4)
    have t4 := t2.ext (Ex.rest (a := a) (c := c') (d := hd) e4)
    have hl0 : restOf a c' hd (upd H3 l0 (.lst [V.int 0, .int 1, .int 10, .int 11, .int 55, .int 56, .int 1012, .int 1013, .int 1022, .int 1023])) l0 = some (.lst (([0, 1, 10, 11, 55, 56, 1012, 1013, 1022, 1023] : List Nat).map fun (m : Nat) => V.int (m : Int))) := rest_at upd_same l0a l0c l0h
    generalize upd H3 l0 (.lst [V.int 0, .int 1, .int 10, .int 11, .int 55, .int 56, .int 1012, .int 1013, .int 1022, .int 1023]) = H4 at e4 S4 hd4 hE4 t4 hl0 ⊢
    clear hEv t2 nl0 l0h
    refine ⟨_, rfl, by decide, by decide, fun Dd nD => ?_⟩
    obtain ⟨Da, Dc⟩ := S4.nea nD
    have Dh : Dd ≠ hd := fun z => by
      rw [z, hd4] at nD
      cases nD
    refine it_gen (walk_range (lo := 0) (n := (40 : Int).toNat)) (fun i H' => ∃ acc : List Nat, H' Dd = some (.lst (acc.map fun (m : Nat) => V.int (m : Int))) ∧ (∀ m ∈ acc, m < 1024) ∧ acc.length = i ∧ Strm H' a c' (i : Nat) ∧ H' hd = some (.dK []) ∧ Ex (restOf a c' hd H4) (restOf a c' hd H'))
      ⟨[], upd_same, (fun m hm => by cases hm), rfl, S4.upd Da Dc, by rw [upd_ne Dh.symm]; exact hd4, Ex.rest (Ex.new nD)⟩ (fun _ _ _ _ => trivial) (fun i x H5 H6 hi q y => ?_) (fun H' q => ?_)
    · obtain ⟨acc, hD, hm, hlen, S5, hd5, e5⟩ := q
      obtain ⟨eH, rfl⟩ := y
      subst eH
      have hi : i < 40 := hi
      refine gn1 ⟨rfl, yes_of ⟨_, rfl, a, c', (i : Int), 1024, rfl, S5, by decide, by decide, ?_, fun H7 r e7 S7 r0 r1 => ?_⟩⟩
      · have : (40 : Int) < 2 ^ 40 := by decide
        omega
      obtain ⟨m, rfl⟩ := Int.eq_ofNat_of_zero_le r0
      have hD7 : H7 Dd = some (.lst (acc.map fun (m : Nat) => V.int (m : Int))) := off_of (e7 _ _ (by rw [off_ne Da Dc]; exact hD))
      have hd7 : H7 hd = some (.dK []) := off_of (e7 _ _ (by rw [off_ne hda hdc]; exact hd5))
      refine ⟨_, hD7, by rw [List.length_map, hlen]; exact Nat.lt_of_lt_of_le hi (by decide), acc ++ [m], by rw [upd_same, List.map_append]; rfl, fun j hj => ?_, by rw [List.length_append, hlen]; rfl, ?_, by rw [upd_ne Dh.symm]; exact hd7, ?_⟩
      · rcases List.mem_append.mp hj with hj | hj
        · exact hm j hj
        · rw [List.mem_singleton.mp hj]
          omega
      · have ec : ((i + 1 : Nat) : Int) = (i : Int) + 1 := by omega
        rw [ec]
        exact S7.upd Da Dc
      · rw [rest_upd_ne Da Dc Dh]
        exact (e5.trans (rest_drawn e7)).mut (rest_none nD)
    · obtain ⟨acc, hD, hm, hlen, S5, hd5, e5⟩ := q
      have hlen : acc.length = 40 := hlen
      have hl0' := e5 _ _ hl0
      refine ⟨l0, Dd, _, _, rfl, rfl, rest_ex _ _ hl0', hD, ?_, fun p np => ?_⟩
      · rw [List.length_map, List.length_map, hlen]
        decide
      have hms : ∃ ms : List Nat, ms.length = 50 ∧ (∀ m ∈ ms, m < 1024) ∧ (([0, 1, 10, 11, 55, 56, 1012, 1013, 1022, 1023] : List Nat).map fun (m : Nat) => V.int (m : Int)) ++ (acc.map fun (m : Nat) => V.int (m : Int)) = ms.map fun (m : Nat) => V.int (m : Int) := by
        refine ⟨[0, 1, 10, 11, 55, 56, 1012, 1013, 1022, 1023] ++ acc, by rw [List.length_append, hlen]; rfl, fun j hj => ?_, by rw [List.map_append]⟩
        rcases List.mem_append.mp hj with hj | hj
        · have z : ([0, 1, 10, 11, 55, 56, 1012, 1013, 1022, 1023] : List Nat).all (fun j => decide (j < 1024)) = true := by decide
          exact of_decide_eq_true (List.all_eq_true.mp z j hj)
        · exact hm j hj
      obtain ⟨ms, msl, ms1, mse⟩ := hms
      rw [mse]
      obtain ⟨pa', pc'⟩ := S5.nea np
      have ph : p ≠ hd := fun z => by
        rw [z, hd5] at np
        cases np
      have e6 := Ex.new (o := .lst (ms.map fun (m : Nat) => V.int (m : Int))) np
      have S6 := S5.ex e6
      have hd6 := e6 _ _ hd5
      have eZ := e5.trans (Ex.rest (a := a) (c := c') (d := hd) e6)
      have hE6 := hE4.ex eZ
      have t6 := t4.ext eZ
      have hp6 : restOf a c' hd (upd H' p (.lst (ms.map fun (m : Nat) => V.int (m : Int)))) p = some (.lst (ms.map fun (m : Nat) => V.int (m : Int))) := rest_at upd_same pa' pc' ph
      generalize upd H' p (.lst (ms.map fun (m : Nat) => V.int (m : Int))) = H6 at e6 S6 hd6 eZ hE6 t6 hp6 ⊢
      clear e5 e6 eZ hD hm hlen hl0' np mse S5 hd5 hE4 t4 hl0 nD e4 S4 hd4 S3 hd3
      obtain ⟨Z, hZ⟩ : ∃ Z, Z = restOf a c' hd H6 := ⟨_, rfl⟩
      rw [← hZ] at hE6 t6 hp6
      have lz : 50 < sizeLine := by decide
      refine ⟨p, rfl, ⟨_, SqL.of (rest_ex _ _ (by rw [← hZ]; exact hp6))⟩, for_list (K := K) (a := p) (xs := ms.map fun (m : Nat) => V.int (m : Int)) (fun i σ H' => ∃ kvs v4 v5 v6, σ = [some (.ref sc), some (.ref a), some (.ref ev), some (.ref hd), v4, v5, v6, none, none, none, none, none] ∧ H' hd = some (.dK kvs) ∧ kvs.length ≤ i ∧ Strm H' a c' 40 ∧ Ex Z (restOf a c' hd H') ∧ Holds CB (restOf a c' hd H') kvs)
        ⟨[], none, none, none, rfl, hd6, Nat.le_refl _, S6, by rw [hZ]; exact fun _ _ h => h, ⟨fun q hq => by cases hq⟩⟩ (fun i σ H' _ q => ?_) (fun i x σ H' hx q => ?_) (fun σ H' q => ?_)⟩
      · obtain ⟨kvs, v4, v5, v6, rfl, d, hk, S7, eZ, hH⟩ := q
        exact SqL.of (rest_ex _ _ (eZ _ _ hp6))
      · obtain ⟨kvs, v4, v5, v6, rfl, d, hk, S7, eZ, hH⟩ := q
        have hi : i < 50 := by
          have := (List.getElem?_eq_some_iff.mp hx).1
          rw [List.length_map, msl] at this
          exact this
        obtain ⟨m, mm, rfl⟩ := List.mem_map.mp (List.mem_of_getElem? hx)
        refine gn1 ?_
        exact body1 (a := a) (c := c') (hd := hd) (ev := ev) (kvs := kvs) (m := m) B (ms1 m mm) rfl rfl rfl rfl S7 d (by omega) hda hdc (hE6.ex eZ) hH fun v5' v6' H8 kvs' d' l' e8 S8 h8 => ⟨kvs', _, _, _, rfl, d', by omega, S8, eZ.trans e8, h8⟩
      · obtain ⟨kvs, v4, v5, v6, rfl, d, hk, S7, eZ, hH⟩ := q
        have hk : kvs.length ≤ 50 := by
          rw [List.length_map, msl] at hk
          exact hk
        have t7 := t6.ext eZ
        clear eZ hE6 t6 hp6 hZ S6 hd6 lz
        refine seq1 ?_
        refine ⟨_, rfl, _, rfl, hd, kvs, rfl, d, fun q nq => ?_⟩
        obtain ⟨qa, qc⟩ := S7.nea nq
        have qh : q ≠ hd := fun z => by
          rw [z, d] at nq
          cases nq
        have e8 := Ex.new (o := .lst (kvs.map fun kv => L2.kV kv.1)) nq
        have S8 := S7.ex e8
        have d8 := e8 _ _ d
        have t8 := t7.ext (Ex.rest (a := a) (c := c') (d := hd) e8)
        have hH8 := hH.ex (Ex.rest (a := a) (c := c') (d := hd) e8)
        have hq8 : upd H' q (.lst (kvs.map fun kv => L2.kV kv.1)) q = some (.lst (kvs.map fun kv => L2.kV kv.1)) := upd_same
        generalize upd H' q (.lst (kvs.map fun kv => L2.kV kv.1)) = H8 at e8 S8 d8 t8 hH8 hq8 ⊢
        refine ⟨a, c', q, 40, _, rfl, S8, by rw [off_ne qa qc]; exact hq8, by rw [List.length_map]; omega, by decide, fun H9 M ys nM e9 S9 hM perm => ?_⟩
        have d9 : H9 hd = some (.dK kvs) := off_of (e9 _ _ (by rw [off_ne hda hdc]; exact d8))
        have t9 := t8.ext (rest_drawn (d := hd) e9)
        have hH9 := hH8.ex (rest_drawn (d := hd) e9)
        refine ⟨14, rfl, M, ys, rfl, SqL.of (off_of hM), fun p2 np2 => ?_⟩
        refine gn1 ?_
        dsimp only
        have e10 := Ex.new (o := .lst (cutV ys none (some 14))) np2
        have hcut : cutV ys none (some 14) = ys.take 14 := by
          unfold cutV
          rw [HT.sIx_none, show (14 : Int) = ((14 : Nat) : Int) from rfl, HT.sIx_nat, List.drop_zero, Nat.sub_zero, List.take_eq_take_iff]
          omega
        have hp2 : upd H9 p2 (.lst (cutV ys none (some 14))) p2 = some (.lst (ys.take 14)) := by rw [upd_same, hcut]
        have d10 := e10 _ _ d9
        have t10 := t9.ext (rest_ex.trans e10)
        have hH10 := hH9.ex (rest_ex.trans e10)
        have hzs : ∀ z ∈ ys.take 14, z ∈ kvs.map fun kv => L2.kV kv.1 := fun z hz => perm.mem_iff.mp (List.mem_of_mem_take hz)
        generalize upd H9 p2 (.lst (cutV ys none (some 14))) = H10 at e10 hp2 d10 t10 hH10 ⊢
        have hzl : (ys.take 14).length ≤ 14 := by
          rw [List.length_take]
          omega
        generalize ys.take 14 = zs at hp2 hzs hzl
        clear t9 hH9 d9 e9 S9 hM perm nM t8 hH8 d8 hq8 S8 e8 nq t7 hH d S7 np2 e10 hcut
        refine seq1 ⟨_, rfl, p2, rfl, ⟨_, SqL.of hp2⟩, for_list (K := K) (a := p2) (xs := zs) (fun i σ H' => ∃ v8, σ = [some (.ref sc), some (.ref a), some (.ref ev), some (.ref hd), v4, v5, v6, some (.ref p2), v8, none, none, none] ∧ Ex H10 H') ⟨none, rfl, fun _ _ h => h⟩ (fun i σ H' _ q => ?_) (fun i x σ H' hx q => ?_) (fun σ H' q => ?_)⟩
        · obtain ⟨v8, rfl, e⟩ := q
          exact SqL.of (e _ _ hp2)
        · obtain ⟨v8, rfl, e⟩ := q
          obtain ⟨m1, b1, rfl, hm1, g1, bk1⟩ := hH10.get (hzs _ (List.mem_of_getElem? hx))
          refine gn1 ?_
          dsimp only
          refine tcb1 (r := rAny K) ?_
          refine lc_any (J := Itl K p2) (H1 := H') (out := fun _ => V.bl false) (walk_list (xs := zs)) (fun R r => ⟨_, rfl, p2, rfl, ⟨_, SqL.of (e _ _ hp2)⟩, r⟩) (Nat.le_trans hzl (by decide)) (fun H2 e2 => SqL.of (e2 _ _ (e _ _ hp2))) (fun j y H2 H3 hj e2 yy => ?_) (fun y H2 q q' h zz => ?_) (fun Dd Hf hD ef hl' => ?_)
          · obtain ⟨eq, hy⟩ := yy
            subst eq
            obtain ⟨m2, b2, rfl, hm2, g2, bk2⟩ := hH10.get (hzs _ (List.mem_of_getElem? hy))
            refine ⟨Ex.refl _, gn1 ⟨rfl, Ex.refl _, fun q hq => ?_⟩⟩
            have e3 := e.trans e2
            have d3 := e3 _ _ d10
            have k1 : DGet H3 hd (.int (m1 : Int)) (some (.ref b1)) := by
              rw [← g1]
              exact DGet.k (k := (.inl (m1 : Int) : Key)) d3
            have k2 : DGet H3 hd (.int (m2 : Int)) (some (.ref b2)) := by
              rw [← g2]
              exact DGet.k (k := (.inl (m2 : Int) : Key)) d3
            obtain ⟨dx1, L1, q1, h1, _⟩ := id (bk1.ex e3)
            obtain ⟨dx2, L2', q2, h2, _⟩ := id (bk2.ex e3)
            refine ⟨_, rfl, _, rfl, hd, _, rfl, k1, _, rfl, _, rfl, hd, _, rfl, k2, b1, b2, _, _, _, _, rfl, rfl, h1, h2, b1, b2, _, _, rfl, bk1.ex e3, bk2.ex e3, book_lay, book_lay, ⟨_, rfl⟩, _, rfl, _, rfl, rfl, rfl, ?_⟩
            have ee : (!decide (V.bl (decide (bookR m1 = bookR m2)) = V.bl (decide (V.int (m1 : Int) = V.int (m2 : Int))))) = false := by
              rw [book_inj hm1 hm2]
              have z : decide (V.int (m1 : Int) = V.int (m2 : Int)) = decide ((m1 : Int) = (m2 : Int)) := by
                rw [decide_eq_decide]
                exact ⟨fun w => V.int.inj w, fun w => by rw [w]⟩
              rw [z]
              exact bl_same _
            rw [ee]
            exact hq _ (Ex.refl _)
          · exact h _ _ zz
          · refine ⟨Dd, List.replicate zs.length false, rfl, SqL.of ?_, _, rfl, ite_ff ?_ ⟨_, rfl, e.trans ef⟩⟩
            · rw [hl', List.map_replicate, List.map_const', List.length_range]
            · exact List.any_eq_false.mpr fun z hz => by rw [List.eq_of_mem_replicate hz]; decide
        · obtain ⟨v8, rfl, e⟩ := q
          have tb8 := t10.ext e
          clear hH10 hzs hzl hp2 d10 t10 e
          dsimp only
          refine seq1 ?_
          refine ⟨1, rfl, by show 1 ≤ sizeLine; decide, fun o1 no1 => fun o2 no2 => ⟨10, 9, rfl, rfl, ⟨by decide, by decide, by decide⟩, by show 9 ≤ sizeLine; decide, fun o3 no3 => ?_⟩⟩
          have do1 := Ex.new (o := .lst [V.int 3]) no1
          have xo1 : upd H' o1 (.lst [V.int 3]) o1 = _ := upd_same
          generalize upd H' o1 (.lst [V.int 3]) = Z2 at do1 xo1 no2 no3 ⊢
          have do2 := Ex.new (o := .dK []) no2
          have xo2 : upd Z2 o2 (.dK []) o2 = _ := upd_same
          generalize upd Z2 o2 (.dK []) = Z3 at do2 xo2 no3 ⊢
          have do3 := Ex.new (o := .tup [V.non, .int (-1), .bl true, .str "3", .ref o1, .ref o2, .int 1024, .int 1025, .int (10 ^ (9 : Int).toNat)]) no3
          have xo3 : upd Z3 o3 (.tup [V.non, .int (-1), .bl true, .str "3", .ref o1, .ref o2, .int 1024, .int 1025, .int (10 ^ (9 : Int).toNat)]) o3 = _ := upd_same
          generalize upd Z3 o3 (.tup [V.non, .int (-1), .bl true, .str "3", .ref o1, .ref o2, .int 1024, .int 1025, .int (10 ^ (9 : Int).toNat)]) = Z4 at do3 xo3  ⊢
          have eZ := (do1.trans do2).trans do3
          have tb9 := tb8.ext eZ
          have dvs : DAll Z4 [V.non, .int (-1), .bl true, .str "3", .ref o1, .ref o2, .int 1024, .int 1025, .int (10 ^ (9 : Int).toNat)] odds := .cons .non (.cons (.int (-1)) (.cons (.bl true) (.cons (.str "3") (.cons (.lst (do3 _ _ (do2 _ _ xo1)) (.cons (.int 3) .nil)) (.cons (.dic (do3 _ _ xo2) .nil) (.cons (.int _) (.cons (.int _) (.cons (.int _) .nil))))))))
          have dvs := dvs.nt
          have LR := nt_at xo3 fun _ z => by cases z
          have t1 : Tst [(tab, lamQ)] (nt Z4) Z4 := ⟨nt_no Z4, fun b o h => (nt_of h).1, tb9⟩
          clear tb8 tb9 do1 do2 do3 xo1 xo2 no1 no2 no3 eZ
          generalize nt Z4 = R at t1 LR dvs
          refine ⟨o3, rfl, ⟨_, SqT.of xo3⟩, for_tup (K := K) (a := o3) (xs := [V.non, .int (-1), .bl true, .str "3", .ref o1, .ref o2, .int 1024, .int 1025, .int (10 ^ (9 : Int).toNat)]) (fun i σ H' => ∃ ov, σ = [some (.ref sc), some (.ref a), some (.ref ev), some (.ref hd), v4, v5, v6, some (.ref p2), v8, ov, none, none] ∧ Tst [(tab, lamQ)] R H') ⟨none, rfl, t1⟩ (fun i σ H' _ q => ?_) (fun i x σ H' hx q => ?_) (fun σ H' q => ?_)⟩
          · obtain ⟨ov, rfl, t⟩ := q
            exact SqT.of (t.r _ _ LR)
          · obtain ⟨ov, rfl, t⟩ := q
            obtain ⟨dx, hdx, Dx⟩ := dvs.get hx
            obtain ⟨nb, ok3⟩ := odds_no dx (List.mem_of_getElem? hdx)
            refine gn1 ?_
            refine met_ref (x := x) t (fun H2 E q t2 hr => ?_) (fun H3 pm t3 n1 => ?_)
            · refine ⟨_, rfl, x, dx, rfl, Dx.ex t2.r, fun _ Hc e' => hr Hc e', fun m e hm => ?_⟩
              rw [e] at nb
              have nb : (decide ((0 : Int) ≤ m) && decide ((m : Int) < 1024)) = false := nb
              rw [decide_eq_true (by omega), decide_eq_true (by omega)] at nb
              cases nb
            · refine ⟨_, rfl, by show 2 ≤ sizeLine; decide, fun w1 nw1 => ?_⟩
              have e4 := Ex.new (o := .tup [.str "number", x]) nw1
              have h4 : upd H3 w1 (.tup [.str "number", x]) w1 = some (.tup [.str "number", x]) := upd_same
              generalize upd H3 w1 (.tup [.str "number", x]) = H4 at e4 h4
              have eR : Ex R (upd R pm (.tup [.str "number", x])) := Ex.new n1
              have t4 := t3.ex e4
              have Dx4 := (Dx.ex eR).ex t4.r
              exact ⟨.ref pm, .ref w1, _, rfl, d_pair (t4.r _ _ upd_same) Dx4, d_pair h4 Dx4, okD_up (ok_pair ok3), fun H5 e5 => ⟨_, rfl, ite_ff rfl ⟨_, rfl, (t4.ex e5).weak eR⟩⟩⟩
          · obtain ⟨ov, rfl, t⟩ := q
            have yes : ∀ {i : Int} {p : Prop}, 0 ≤ i → i < 1024 → isBelow 1024 (.int i) = false → p := fun {i p} h0 h1 z => by
              have z : (decide (0 ≤ i) && decide (i < 1024)) = false := z
              rw [decide_eq_true h0, decide_eq_true h1] at z
              cases z
            refine ⟨.int 0, .int 0, rfl, .int _, fun z => yes (by decide) (by decide) z, fun m' e' _ H2 b nb e2 bk _ => ?_⟩
            obtain rfl : m' = 0 := by
              have := PyData.int.inj e'
              omega
            obtain ⟨dx, L, qq, hb, _⟩ := id bk
            refine ⟨b, _, _, rfl, hb, rfl, b, _, rfl, bk, fun L1 H3 q1 n1 e3 g1 g2 g3 => ⟨Nat.zero_le _, fun l nl => ?_⟩⟩
            have q0 : q1 = [] := List.map_eq_nil_iff.mp (g3.trans book_0)
            subst q0
            have el := Ex.new (o := .lst []) nl
            refine ⟨.list [], .list [], .lst (SqL.of (el _ _ g1)) .nil, .lst (SqL.of upd_same) .nil, by decide, by decide, _, rfl, iteT ?_⟩
            refine ⟨.int 1023, .int 1023, rfl, .int _, fun z => yes (by decide) (by decide) z, fun m' e' _ H5 b2 nb2 e5 bk2 _ => ?_⟩
            obtain rfl : m' = 1023 := by
              have := PyData.int.inj e'
              omega
            obtain ⟨dx2, L2', qq2, hb2, _⟩ := id bk2
            refine ⟨b2, _, _, rfl, hb2, rfl, b2, _, rfl, bk2, fun L3 H6 q3 n3 e6 g4 g5 g6 => ⟨L3, _, rfl, .inl (SqL.of g4), rfl, ?_⟩⟩
            have ql : q3.length = 10 := by
              have z := congrArg List.length g6
              rw [List.length_map] at z
              exact z.trans book_1023
            rw [List.length_map, ql]
            exact kq _
end
end Ts


set_option Elab.async false
set_option linter.all false
set_option maxRecDepth 100000
set_option maxHeartbeats 4000000
namespace Ts
open PySem PySem.Spec PyProof.Rows L2 LamX
open Evl (Ex)
/-! ## the law's call, its table told -/
/-- what is told when the law starts: its table, and perhaps its script -/
structure Beg (H : Hp) (tab a : Addr) : Prop where
  t : H tab = some (.tbl #[])
  only : ∀ b u, H b = some u → b = tab ∨ (b = a ∧ ∃ o xs, u = .frz o (.lst xs))
section
variable {P : Program} {w : World} {K : PySem.W.Frag} {mg mb : Str → Option Value} {k : Nat} {fa a c tab : Addr} {fd : FuncData} {x : Str} {sp : Sp} {st : Shared} {us : List Value} {zs : List Int}
/-- the ground that a law's call stands on -/
structure Grd (K : PySem.W.Frag) (mg mb : Str → Option Value) (c tab a : Addr) (us : List Value) (st : Shared) : Prop where
  k : K.In st.heap
  m : st.heap.Ns mainGlobals mg
  b : st.heap.Ns builtinsNs mb
  bb : ∀ y : Str, y ≠ "__name__" → mb y = bootBuiltins y
  lim : st.heap.NoLimit
  ng : st.gens = #[]
  t : st.heap.get? tab = some { cls := .none, data := .fields #[] }
  kt : K.lookup tab = none
  cd : PySem.W.CodeHd st.heap c tab
  bm : ∃ (q : Addr) (oq : Obj), mg "__builtins__" = some (.ref q) ∧ q ≠ builtinsNs ∧ st.heap.get? q = some oq ∧ oq.cls = .type "module" ∧ oq.dict = some builtinsNs ∧ oq.data = .plain
  a : st.heap.get? a = some { cls := .type "list", data := .seq us.toArray }
theorem Grd.free {H : Hp} (g : Grd K mg mb c tab a us st) (B : Beg H tab a) {b : Addr} {o : Obj} (h : st.heap.get? b = some o) (n1 : o.data ≠ .fields #[]) (n2 : ∀ vs n, o.data ≠ .seq vs n) : H b = none := by
  cases e : H b with
  | none => rfl
  | some u =>
    exfalso
    rcases B.only b u e with z | ⟨z, _⟩
    · rw [z, g.t] at h
      cases h
      exact n1 rfl
    · rw [z, g.a] at h
      cases h
      exact n2 _ _ rfl
theorem Grd.ns {H : Hp} (g : Grd K mg mb c tab a us st) (B : Beg H tab a) {b : Addr} {m : Str → Option Value} (h : st.heap.Ns b m) : (hidT st.heap H).Ns b m := by
  obtain ⟨o, es, ep, h1, h2, h3⟩ := h
  have f := g.free B h1 (fun z => by rw [h2] at z; cases z) (fun vs n z => by rw [h2] at z; cases z)
  exact ⟨o, es, ep, hidT_get h1 f, h2, h3⟩
theorem Grd.kin {H : Hp} (g : Grd K mg mb c tab a us st) (B : Beg H tab a) (fr : H a ≠ none → K.lookup a = none) : K.In (hidT st.heap H) := fun b o h => by
  refine hidT_get (g.k b o h) ?_
  cases e : H b with
  | none => rfl
  | some u =>
    exfalso
    rcases B.only b u e with z | ⟨z, _⟩
    · rw [z, g.kt] at h
      cases h
    · rw [z] at h e
      rw [fr (by rw [e]; simp)] at h
      cases h
theorem Grd.tabB {H : Hp} (g : Grd K mg mb c tab a us st) (B : Beg H tab a) : TabB (hidT st.heap H) mg c tab := by
  refine ⟨?_, ?_, fun z => ?_⟩
  · obtain ⟨o, ws, fl, tf, gs, tg, ib, tx, tt, h1, h2, h3, h4, h5, h6, h7, h8, h9, h10⟩ := g.cd
    have f : H c = none := g.free B h1
      (fun z => by
        rw [h3] at z
        cases z
        simp at h4)
      (fun vs n z => by
        rw [h3] at z
        cases z)
    exact ⟨o, ws, fl, tf, gs, tg, ib, tx, tt, hidT_get h1 f, h2, h3, h4, h5, h6, h7, h8, h9, h10⟩
  · obtain ⟨q, oq, h1, h2, h3, h4, h5, h6⟩ := g.bm
    have f : H q = none := g.free B h3 (fun z => by rw [h6] at z; cases z) (fun vs n z => by rw [h6] at z; cases z)
    refine ⟨q, oq, h1, h2, fun z => ?_, fun z => ?_, hidT_get h3 f, h4, h5, h6⟩
    · obtain ⟨o, es, ep, d1, d2, _⟩ := g.m
      rw [z, d1] at h3
      cases h3
      rw [d2] at h6
      cases h6
    · rw [z, g.t] at h3
      cases h3
      cases h6
  · obtain ⟨o, es, ep, d1, d2, _⟩ := g.m
    rw [z, g.t] at d1
    cases d1
    cases d2
/-- the call, from a heap that tells the table and perhaps the script -/
theorem Grd.call {H : Hp} (g : Grd K mg mb c tab a us st) (B : Beg H tab a) (fr : H a ≠ none → K.lookup a = none) (hk : HOk P w H st.heap) (rm : Room k callerA)
    (G : ∀ base : Heap, K.In base → base.Ns mainGlobals mg → TabB base mg c tab → GOk P w K mg base CX0 k fa fd [x] sp) (bi : ∀ (s : Shared) (u : Value), BindsTo s fd ⟨[u], []⟩ [(x, u)]) (hsp : sp [.ref a] H (fun v _ => v = .bl true) fun _ _ _ => False) :
    codeAny (model P w) callerA (.call (.ref fa) ⟨[.ref a], []⟩) (fun r s' => r = .ok (.ret (.bool true)) ∧ OldK st.heap s'.heap ∧ s'.os = st.os ∧ AllBare s'.gens) st := by
  have kb := g.kin B fr
  have M : L2.Mod K mg (hidT st.heap H) := by
    obtain ⟨mc, l1, l2⟩ := g.lim
    exact ⟨kb, g.ns B g.m, ⟨mb, g.ns B g.b, g.bb⟩, mc, g.ns B l1, l2⟩
  have e0 : Env0 P w K mg (hidT st.heap H) callerA [] st H := {
    frames := rfl
    mod := M
    bs := fun b o e => of_hidT e
    bsz := by rw [hidT_size]; exact Nat.le_refl _
    funs := trivial
    frf := fun b hb => by cases hb
    hok := hk
    bare := .of_eq g.ng }
  have run := (G _ kb (g.ns B g.m) (g.tabB B)).go callerA [] st H ⟨[.ref a], []⟩ [.ref a] [.ref a] _ _ rfl rm e0 (bi st (.ref a)) (.cons rfl .nil) hsp
  refine codeAny_mono run fun r s' h => ?_
  rcases r with e | (_ | _ | _ | u) <;> first
    | exact (show False from h).elim
    | skip
  obtain ⟨v, H', ho, hb, un, hk', rv, rfl⟩ := h
  obtain rfl : u = Value.bool true := rv
  have tk : ∃ more : Array Value, s'.heap.get? tab = some { cls := .none, data := .fields more } := by
    obtain ⟨more, z⟩ := un.tbls tab #[] B.t
    exact ⟨_, hk' tab _ z⟩
  have kp : ∀ b o, b ≠ tab → st.heap.get? b = some o → s'.heap.get? b = some o := fun b o nb e => by
    cases q : H b with
    | none => exact un.keep b o e q (fun z => by cases z) (fun z => by cases z)
    | some u =>
      rcases B.only b u q with z | ⟨_, ob, xs, rfl⟩
      · exact absurd z nb
      · have h1 := (hk b _ q).1
        rw [e] at h1
        cases h1
        exact (hk' b _ (un.frzs b _ _ q)).1
  refine ⟨rfl, ⟨fun b o e => ?_, fun b o e => ?_⟩, ho, hb⟩
  · by_cases z : b = tab
    · obtain ⟨more, hm⟩ := tk
      rw [z, g.t] at e
      cases e
      rw [z]
      exact .inr (.inl ⟨(g.cd.tab g.t).isCodeTable, rfl, #[], more, rfl, by rw [Array.empty_append]; exact hm⟩)
    · exact .inl (kp b o z e)
  · by_cases z : b = tab
    · rw [z]
      exact tk.elim fun m q => ⟨_, q⟩
    · exact ⟨o, kp b o z e⟩
/-- the call of a law whose table is told -/
theorem Grd.law (g : Grd K mg mb c tab a us st) (hi : IntsAre us zs) (hl : zs.length ≤ sizeLine) (rm : Room k callerA)
    (G : ∀ base : Heap, K.In base → base.Ns mainGlobals mg → TabB base mg c tab → GOk P w K mg base CX0 k fa fd [x] sp) (bi : ∀ (s : Shared) (u : Value), BindsTo s fd ⟨[u], []⟩ [(x, u)])
    (hsp : ∀ H : Hp, H tab = some (.tbl #[]) → SqL K H a (zs.map V.int) → sp [.ref a] H (fun v _ => v = .bl true) fun _ _ _ => False) :
    codeAny (model P w) callerA (.call (.ref fa) ⟨[.ref a], []⟩) (fun r s' => r = .ok (.ret (.bool true)) ∧ OldK st.heap s'.heap ∧ s'.os = st.os ∧ AllBare s'.gens) st := by
  have rv := vals_ints hi
  have hu := hi.length
  have na : a ≠ tab := fun z => by
    have q := g.a
    rw [z, g.t] at q
    cases q
  let H0 : Hp := upd (fun _ => none) tab (.tbl #[])
  have h0 : H0 tab = some (.tbl #[]) := upd_same
  have h0n : ∀ b, b ≠ tab → H0 b = none := fun b nb => upd_ne nb
  cases lk : K.lookup a with
  | some o =>
    have e := g.k a o lk
    rw [g.a] at e
    cases e
    have B : Beg H0 tab a := ⟨h0, fun b u h => by
      by_cases z : b = tab
      · exact .inl z
      · rw [h0n b z] at h
        cases h⟩
    refine g.call B (fun z => absurd (h0n a na) z) (fun b u h => ?_) rm G bi (hsp H0 h0 (.inr ⟨_, us.toArray, _, lk, rfl, rfl, rfl, by rw [List.size_toArray, hu]; exact hl, by simpa using rv⟩))
    by_cases z : b = tab
    · rw [z, h0] at h
      cases h
      rw [z]
      exact g.t
    · rw [h0n b z] at h
      cases h
  | none =>
    let ob : Obj := { cls := .type "list", data := .seq us.toArray }
    let H1 : Hp := upd H0 a (.frz ob (.lst (zs.map V.int)))
    have h1 : H1 a = some (.frz ob (.lst (zs.map V.int))) := upd_same
    have h1t : H1 tab = some (.tbl #[]) := (upd_ne (Ne.symm na)).trans h0
    have B : Beg H1 tab a := ⟨h1t, fun b u h => by
      by_cases z : b = a
      · rw [z, h1] at h
        cases h
        exact .inr ⟨z, _, _, rfl⟩
      · have h' : H0 b = some u := (upd_ne z).symm.trans h
        by_cases z2 : b = tab
        · exact .inl z2
        · rw [h0n b z2] at h'
          cases h'⟩
    refine g.call B (fun _ => lk) (fun b u h => ?_) rm G bi (hsp H1 h1t (.inl (.inr ⟨ob, h1⟩)))
    by_cases z : b = a
    · rw [z, h1] at h
      cases h
      rw [z]
      exact ⟨g.a, by rw [List.length_map]; exact hl, us, _, rv, g.a⟩
    · have h' : H0 b = some u := (upd_ne z).symm.trans h
      by_cases z2 : b = tab
      · rw [z2, h0] at h'
        cases h'
        rw [z2]
        exact g.t
      · rw [h0n b z2] at h'
        cases h'
end
end Ts


set_option Elab.async false
set_option linter.all false
set_option maxRecDepth 100000
set_option maxHeartbeats 4000000
namespace Ts
open PySem PySem.Spec PyProof.Rows L2 LamX
open Evl (Ex)
theorem fn_g {P : Program} {w : World} {K : PySem.W.Frag} {mg : Str → Option Value} {base : Heap} {k : Nat} {f : Addr} {fd : FuncData} {ps : List Str} {sp : Sp} (F : FnOk P w K mg base CX0 k f fd ps sp) : GOk P w K mg base CX0 k f fd ps sp :=
  ⟨F.len, fun A outer s H args us vs Q E _ hr e0 hb hv hsp => F.run A outer s H args us vs Q E hr e0 hb hv hsp⟩
section
variable {P : Program} {w : World} {K : PySem.W.Frag} {mg : Str → Option Value} {h : Heap}
theorem fd_mk (X : K.In h) (G : h.Ns mainGlobals mg) {x q : Str} {st : Stmt} {f : Addr} {oc : Value} {od an : Option Addr} {sl : Array (Option Value)} {kV doc pm cd ct : Value} (a : PySem.W.nsIn K mainGlobals x = some (some (.ref f)))
    (l : K.lookup f = some ⟨oc, od, .func (PySem.W.fnOf x q (defArgs st) (defBody st) (defScope st) .none kV doc pm an cd ct), sl⟩) (c : PySem.W.codeIn K cd q = true) (k : PySem.W.keepIn K (.ref f) = true) :
    ∃ f fd, FD K mg x q st f fd := ⟨_, _, fun_mk l c k, PySem.W.mg_of X G a⟩
theorem xc_mk (X : K.In h) (G : h.Ns mainGlobals mg) {x fl : Str} {C g : Addr} {nm q : Str} {N : Addr} {bs bm : List Value} {sn : List Str} {sub : List Value} {ab : Bool} {col : Option Bool} {dd : Option Addr} {m0 m1 m2 m3 m5 : Option Value}
    (a : PySem.W.nsIn K mainGlobals x = some (some (.ref C))) (l : K.lookup C = some (excClassObj nm q C N bs bm true sn sub ab col dd m0 m1 m2 m3 m5 "ValueError.__new__")) (rv : PySem.HandSPX.refsVE bm = true)
    (sa : PySem.W.findIn K (.ref C) "__setattr__" = some (some (.builtin "object.__setattr__"))) (eC : PySem.W.subIn K (.ref C) (.type "BaseException") = some true) (tC : PySem.W.typeIn K (.ref C) = some (.type "type")) (kC : PySem.W.keepIn K (.ref C) = true)
    (iC : PySem.W.findIn K (.ref C) "__init__" = some (some (.ref g))) (tI : PySem.W.typeIn K (.ref g) = some (.type "function")) (nF : PySem.W.findIn K (.ref C) fl = some none)
    (ga : PySem.W.findIn K (.ref C) "__getattribute__" = some (some (.builtin "BaseException.__getattribute__"))) (gg : PySem.W.findIn K (.ref C) "__getattr__" = some none) (hC : PySem.W.hasDictIn K C = true) : XC K mg x fl C g :=
  ⟨⟨⟨_, _, _, _, _, _, _, _, _, _, _, _, _, _, _, l, rv⟩, sa, eC, tC, kC⟩, PySem.W.mg_of X G a, iC, tI, nF, ⟨ga, gg, eC, hC⟩⟩
theorem bi_mk {q : Str} {i : Nat} {g : Addr} {oc : Value} {od an : Option Addr} {sl : Array (Option Value)} {kV doc pm cd ct : Value} (l : K.lookup g = some ⟨oc, od, .func (PySem.W.fnOf "__init__" q (defArgs (i_thing i)) (defBody (i_thing i)) (defScope (i_thing i)) .none kV doc pm an cd ct), sl⟩)
    (c : PySem.W.codeIn K cd q = true) (k : PySem.W.keepIn K (.ref g) = true) : ∃ fd, Fun K "__init__" q (i_thing i) g fd := ⟨_, fun_mk l c k⟩
theorem me_mk {C : Addr} {m q : Str} {st : Stmt} {g : Addr} {oc : Value} {od an : Option Addr} {sl : Array (Option Value)} {kV doc pm cd ct : Value} (a : PySem.W.findIn K (.ref C) m = some (some (.ref g))) (i : PySem.W.isFn K (.ref g) = true)
    (l : K.lookup g = some ⟨oc, od, .func (PySem.W.fnOf m q (defArgs st) (defBody st) (defScope st) .none kV doc pm an cd ct), sl⟩) (c : PySem.W.codeIn K cd q = true) (k : PySem.W.keepIn K (.ref g) = true) : Meth K C m g ∧ ∃ fd, Fun K m q st g fd := ⟨⟨a, i, k⟩, _, fun_mk l c k⟩
/-- one class met by another -/
theorem exm_mk {C : Value} {S : Addr} {b : Bool} (h1 : PySem.W.subIn K (.ref S) (.type "BaseException") = some true) (h2 : PySem.W.isClsIn K S = true) (h3 : PySem.W.typeIn K (.ref S) = some (.type "type")) (h4 : PySem.W.subIn K C (.ref S) = some b) : PySem.W.exmOne K C (.ref S) = some b := by
  unfold PySem.W.exmOne
  rw [h1]
  refine (if_pos (by rfl)).trans ?_
  have e : ((PySem.W.clsIn K S).isSome && PySem.W.typeIn K (.ref S) == some (.type "type")) = true := by
    have h2 : (PySem.W.clsIn K S).isSome = true := h2
    rw [h2, h3]
    rfl
  show (if ((PySem.W.clsIn K S).isSome && PySem.W.typeIn K (.ref S) == some (.type "type")) = true then PySem.W.subIn K C (.ref S) else none) = some b
  rw [if_pos e]
  exact h4
/-- what the law's call needs -/
def Ready (l : PySem.W.OpenLaw) (w : World) (K : PySem.W.Frag) (k : Nat) (x : Str) (mg : Str → Option Value) (fa : Addr) (h : Heap) : Prop :=
  ∃ (fd : FuncData) (c tab : Addr), h.get? tab = some { cls := .none, data := .fields #[] } ∧ K.lookup tab = none ∧ PySem.W.CodeHd h c tab ∧ (∀ (s : Shared) (u : Value), BindsTo s fd ⟨[u], []⟩ [(x, u)]) ∧
    ∀ base : Heap, K.In base → base.Ns mainGlobals mg → TabB base mg c tab → GOk l.prog w K mg base CX0 k fa fd [x] (spLaw K tab)
theorem walk_tab {l : PySem.W.OpenLaw} {n k : Nat} {p : Program} {loose : List Str} {XP : (Str → Option Value) → Heap → Prop} {YP : World → Heap → Prop} {d : DefRec} {F : Params → PySem.W.Frag} {x : Str}
    (hn : l.most = some n) (hz : n ≤ sizeLine) (hdf : d.params.defaults = []) (hr : Room k callerA) (hY : ∀ (w : World) (h : Heap), YP w h → (F w.params).In h)
    (hF : ∀ (w : World) (mg : Str → Option Value) (fa : Addr) (h : Heap), YP w h → (F w.params).In h → h.Ns mainGlobals mg → mg d.name = some (.ref fa) → Ready l w (F w.params) k x mg fa h) :
    PySem.W.WalkO p loose XP YP l.row.toRowW d [] (fun f vs => PySem.call f vs) := by
  refine Att.attach_callB hn hdf fun w sh st mg mb fa o pm cd doc a us zs g y _ _ _ hm hl hi hlen _ ng => ?_
  obtain ⟨fd, c, tab, ht, kt, hc, bi, G⟩ := hF w mg fa _ y (hY w _ y) g.T.g hm
  refine Grd.law (mb := mb) ⟨hY w _ y, g.T.g, g.T.b, g.T.builtins, g.T.nolimit, ng, ht, kt, hc, g.T.bmain, hl⟩ hi (Nat.le_trans hlen hz) hr G bi fun H h1 h2 => ⟨a, zs, rfl, h2, fun p hp => ?_, fun H' => rfl⟩
  rw [List.mem_singleton] at hp
  rw [hp]
  exact TabS.nil h1

theorem lef_mk (X : K.In h) (G : h.Ns mainGlobals mg) {tl : Addr} {dd : Option Addr} {t1 t2 t3 : Tok} {n : Nat} {sl : Array (Option Value)} (a : PySem.W.nsIn K mainGlobals "LEFTS" = some (some (.ref tl)))
    (l : K.lookup tl = some ⟨.type "tuple", dd, .seq #[.str "none" t1, .str "one" t2, .str "two" t3] n, sl⟩) : ∃ tl, mg "LEFTS" = some (.ref tl) ∧ ∀ H : Hp, SqT K H tl lefts :=
  ⟨tl, PySem.W.mg_of X G a, fun H => .inr ⟨_, _, _, l, rfl, rfl, by show 3 ≤ sizeLine; decide, .cons ⟨_, rfl⟩ (.cons ⟨_, rfl⟩ (.cons ⟨_, rfl⟩ .nil))⟩⟩

theorem ready {l : PySem.W.OpenLaw} {w : World} {fa c tab CN CR gN gR CK fBI fBR fBE : Addr} (X : K.In h) (G : h.Ns mainGlobals mg) (hfa : mg "law" = some (.ref fa)) (T : Bl mg) {tm : Tok} (hMS : mg "MOST_SMALL" = some (.int 3 tm)) (hcomb : mg "combinations" = some (.type "itertools.combinations")) (hL : ∃ tl, mg "LEFTS" = some (.ref tl) ∧ ∀ H : Hp, SqT K H tl lefts)
    (F_is_row : ∃ f fd, FD K mg "is_row" "is_row" s_is_row f fd)
    (F_is_integer : ∃ f fd, FD K mg "is_integer" "is_integer" s_is_integer f fd)
    (F_is_number : ∃ f fd, FD K mg "is_number" "is_number" s_is_number f fd)
    (F_is_rule : ∃ f fd, FD K mg "is_rule" "is_rule" s_is_rule f fd)
    (F_gr : ∃ f fd, FD K mg "is_growing" "is_growing" s_growing f fd)
    (F_sp : ∃ f fd, FD K mg "is_splitting" "is_splitting" s_splitting f fd)
    (F_line : ∃ f fd, FD K mg "rule_line" "rule_line" s_line f fd)
    (F_fault : ∃ f fd, FD K mg "rules_fault" "rules_fault" s_fault f fd)
    (F_nb : ∃ f fd, FD K mg "need_below" "need_below" s_need_below f fd)
    (F_srules : ∃ f fd, FD K mg "small_rules" "small_rules" s_srules f fd)
    (F_srows : ∃ f fd, FD K mg "small_rows" "small_rows" s_srows f fd)
    (F_sbook : ∃ f fd, FD K mg "small_book" "small_book" s_sbook f fd)
    (F_gs : ∃ f fd, FD K mg "_law_g_small" "_law_g_small" s_gs f fd)
    (F_start : ∃ f fd, FD K mg "_law_start" "_law_start" s_start f fd)
    (F_draw : ∃ f fd, FD K mg "_law_draw" "_law_draw" s_draw f fd)
    (F_mixed : ∃ f fd, FD K mg "_law_mixed" "_law_mixed" s_mixed f fd)
    (F_same : ∃ f fd, FD K mg "_law_same" "_law_same" s_same f fd)
    (F_met : ∃ f fd, FD K mg "_law_met" "_law_met" s_met f fd)
    (XN : XC K mg "BadNumber" "thing" CN gN) (IN : ∃ fd, Fun K "__init__" "BadNumber.__init__" (i_thing 3) gN fd)
    (XR : XC K mg "BadRules" "index" CR gR) (IR : ∃ fd, Fun K "__init__" "BadRules.__init__" (i_thing 4) gR fd)
    (gK : mg "Book" = some (.ref CK)) (pK : PySem.W.plainGet K CK Str.empty = true) (hK : PySem.W.hasDictIn K CK = true) (oK : PySem.W.plainOver K CK = true) (sK : PySem.W.findIn K (.ref CK) "__setattr__" = some (some (.builtin "object.__setattr__"))) (mK : PySem.W.makesIn K CK = true) (kK : PySem.W.keepIn K (.ref CK) = true)
    (bha : PySem.W.findIn K (.ref CK) "__class__" = some (some (.builtin "object.__class__"))) (bhn : PySem.W.specialIn K (.builtin "object.__class__") "__get__" = some (some (.builtin "getset_descriptor.__get__"))) (bht : PySem.W.takesIn K (.builtin "object.__class__") = some true)
    (bhm : PySem.W.mroIn K CK (.type "object") = some true) (bme : PySem.W.kitOne K (.ref CK) (.ref CK) = some true) (bno : ∀ d : PyData, PySem.W.kitOne K (.type (tyD d)) (.ref CK) = some false)
    (qK_rules : PySem.W.findIn K (.ref CK) "_rules" = some none)
    (mBI : Meth K CK "__init__" fBI ∧ ∃ fd, Fun K "__init__" "Book.__init__" s_binit fBI fd)
    (mBR : Meth K CK "rules" fBR ∧ ∃ fd, Fun K "rules" "Book.rules" s_brules fBR fd)
    (mBE : Meth K CK "__eq__" fBE ∧ ∃ fd, Fun K "__eq__" "Book.__eq__" s_beq fBE fd)
    (z_str : mg "str" = none)
    (z_enumerate : mg "enumerate" = none)
    (z_sorted : mg "sorted" = none)
    (z_any : mg "any" = none)
    (enn : PySem.W.exmOne K (.ref CN) (.ref CN) = some true)
    {fr : Addr} {oc kV doc pm ct : Value} {od an : Option Addr} {sl : Array (Option Value)} (ar : PySem.W.nsIn K mainGlobals "law" = some (some (.ref fr)))
    (lr : K.lookup fr = some ⟨oc, od, .func (PySem.W.fnOf "law" "law" (defArgs s_law) (defBody s_law) (defScope s_law) .none kV doc pm an (.ref c) ct), sl⟩) (cr : PySem.W.codeIn K (.ref c) "law" = true)
    (ht : h.get? tab = some { cls := .none, data := .fields #[] }) (kt : K.lookup tab = none) (hc : PySem.W.codeHdIn K c tab = true) : Ready l w K 10 "script" mg fa h := by
  obtain ⟨f_is_row, d_is_row, F_is_row⟩ := F_is_row
  obtain ⟨f_is_integer, d_is_integer, F_is_integer⟩ := F_is_integer
  obtain ⟨f_is_number, d_is_number, F_is_number⟩ := F_is_number
  obtain ⟨f_is_rule, d_is_rule, F_is_rule⟩ := F_is_rule
  obtain ⟨f_gr, d_gr, F_gr⟩ := F_gr
  obtain ⟨f_sp, d_sp, F_sp⟩ := F_sp
  obtain ⟨f_line, d_line, F_line⟩ := F_line
  obtain ⟨f_fault, d_fault, F_fault⟩ := F_fault
  obtain ⟨f_nb, d_nb, F_nb⟩ := F_nb
  obtain ⟨f_srules, d_srules, F_srules⟩ := F_srules
  obtain ⟨f_srows, d_srows, F_srows⟩ := F_srows
  obtain ⟨f_sbook, d_sbook, F_sbook⟩ := F_sbook
  obtain ⟨f_gs, d_gs, F_gs⟩ := F_gs
  obtain ⟨f_start, d_start, F_start⟩ := F_start
  obtain ⟨f_draw, d_draw, F_draw⟩ := F_draw
  obtain ⟨f_mixed, d_mixed, F_mixed⟩ := F_mixed
  obtain ⟨f_same, d_same, F_same⟩ := F_same
  obtain ⟨f_met, d_met, F_met⟩ := F_met
  obtain ⟨d_N, IN⟩ := IN
  have bN : Binds K d_N ["self", "thing"] [] := IN.binds fun _ _ _ _ _ _ us hl => match us, hl with | [_, _], _ => rfl
  obtain ⟨d_R, IR⟩ := IR
  have bR : Binds K d_R ["self", "index"] [] := IR.binds fun _ _ _ _ _ _ us hl => match us, hl with | [_, _], _ => rfl
  obtain ⟨mBI, dBI, F_BI⟩ := mBI
  obtain ⟨mBR, dBR, F_BR⟩ := mBR
  obtain ⟨mBE, dBE, F_BE⟩ := mBE
  obtain ⟨tl, hL, hT⟩ := hL
  have BK : BkC K mg CK fBI fBR := ⟨⟨pK, hK, oK, sK⟩, bha, bhn, bht, bhm, bme, qK_rules, gK, bno, ⟨mK, mBI.at_, mBI.fn, kK⟩, mBR⟩
  have M : Errs K mg CN gN := ⟨XN, enn⟩
  have e := hfa.symm.trans (PySem.W.mg_of X G ar)
  cases e
  have bi : ∀ (s : Shared) (u : Value), BindsTo s (PySem.W.fnOf "law" "law" (defArgs s_law) (defBody s_law) (defScope s_law) .none kV doc pm an (.ref c) ct) ⟨[u], []⟩ [("script", u)] := fun s u => .of_eq rfl
  refine ⟨_, c, tab, ht, kt, PySem.W.codeHd_of_K X hc, bi, fun base KB NB TB => ?_⟩
  have G_num := ok_is_number (P := l.prog) (w := w) (base := base) F_is_number F_is_integer T
  have J_N := ok_ini (P := l.prog) (w := w) (base := base) 3 "thing" (.inl ⟨rfl, rfl⟩) IN XN
  have J_R := ok_ini (P := l.prog) (w := w) (base := base) 4 "index" (.inr ⟨rfl, rfl⟩) IR XR
  have G_nb := ok_need_below F_nb F_is_number G_num XN J_N bN
  have G_rule := ok_is_rule (P := l.prog) (w := w) (base := base) F_is_rule F_is_row F_is_number F_is_integer T z_str hL hT
  have G_fault := ok_fault F_fault F_is_row F_is_rule G_rule F_gr F_sp T z_enumerate
  have G_binit := ok_binit F_BI ⟨pK, hK, oK, sK⟩ qK_rules F_fault G_fault F_line XR J_R bR T z_sorted
  have G_start := ok_start (P := l.prog) (w := w) (base := base) F_start T
  have BM : BkMade K mg CK fBI := ⟨gK, ⟨mK, mBI.at_, mBI.fn, kK⟩⟩
  have G_srules := ok_srules (P := l.prog) (w := w) (base := base) F_srules T hMS hL hT
  have G_srows := ok_srows F_srows F_srules G_srules T hcomb
  have G_sbook := ok_sbook F_sbook F_srows G_srows F_nb G_nb T BM F_BI G_binit
  exact fn_g (ok_law lr cr M TB F_met F_start G_start F_draw F_gs F_mixed F_same F_sbook G_sbook BK F_BI G_binit F_BR F_BE mBE.at_ mBE.fn T z_sorted z_any)
end
end Ts


set_option Elab.async false
open PySem PySem.W PyProof.Rows in
set_option maxRecDepth 100000 in
set_option maxHeartbeats 0 in
theorem PySem.Challenge.cw_takeandsplit_k49_whole_small_books_holds : PySem.Challenge.rw_takeandsplit_k49_whole_small_books.Holds := by
  w_on; o_law; k_head; (case hw => w_witness2)
  k_fill
  refine Ts.walk_tab (l := PySem.Challenge.rw_takeandsplit_k49_whole_small_books) (n := 63) (k := 10) (x := "script") rfl (by decide) rfl ⟨rfl, by decide, by decide⟩ (fun w h Y => PySem.W.km_in_of Y) ?F
  case F =>
    intro w mg fa h Y KX G hmg
    refine' Ts.ready (tab := 235) KX G hmg ?T ?hMS ?hcomb ?hL ?F_is_row ?F_is_integer ?F_is_number ?F_is_rule ?F_gr ?F_sp ?F_line ?F_fault ?F_nb ?F_srules ?F_srows ?F_sbook ?F_gs ?F_start ?F_draw ?F_mixed ?F_same ?F_met ?XN ?IN ?XR ?IR ?gK ?pK ?hK ?oK ?sK ?mK ?kK ?bha ?bhn ?bht ?bhm ?bme ?bno ?qK_rules ?mBI ?mBR ?mBE ?z_str ?z_enumerate ?z_sorted ?z_any ?enn ?y_ar ?y_lr ?y_cr ?y_ht ?y_kt ?y_hc
    case T =>
      refine' ⟨PySem.W.mg_none_of KX G ?b0, PySem.W.mg_none_of KX G ?b1, PySem.W.mg_none_of KX G ?b2, PySem.W.mg_none_of KX G ?b3, PySem.W.mg_none_of KX G ?b4, PySem.W.mg_none_of KX G ?b5, PySem.W.mg_none_of KX G ?b6, PySem.W.mg_none_of KX G ?b7, PySem.W.mg_none_of KX G ?b8, PySem.W.mg_none_of KX G ?b9, PySem.W.mg_none_of KX G ?b10, PySem.W.mg_none_of KX G ?b11⟩
      (case b0 => k_is); (case b1 => k_is); (case b2 => k_is); (case b3 => k_is); (case b4 => k_is); (case b5 => k_is); (case b6 => k_is); (case b7 => k_is); (case b8 => k_is); (case b9 => k_is); (case b10 => k_is); (case b11 => k_is)
    case hMS =>
      refine' PySem.W.mg_of KX G ?a
      (case a => k_is)
    case hcomb =>
      refine' PySem.W.mg_of KX G ?a
      (case a => k_is)
    case hL =>
      refine' Ts.lef_mk KX G ?a ?l
      (case a => k_is); (case l => k_is)
    case F_is_row =>
      refine' Ts.fd_mk KX G ?a ?l ?c ?k
      (case a => k_is); (case l => k_is); (case c => k_is); (case k => k_is)
    case F_is_integer =>
      refine' Ts.fd_mk KX G ?a ?l ?c ?k
      (case a => k_is); (case l => k_is); (case c => k_is); (case k => k_is)
    case F_is_number =>
      refine' Ts.fd_mk KX G ?a ?l ?c ?k
      (case a => k_is); (case l => k_is); (case c => k_is); (case k => k_is)
    case F_is_rule =>
      refine' Ts.fd_mk KX G ?a ?l ?c ?k
      (case a => k_is); (case l => k_is); (case c => k_is); (case k => k_is)
    case F_gr =>
      refine' Ts.fd_mk KX G ?a ?l ?c ?k
      (case a => k_is); (case l => k_is); (case c => k_is); (case k => k_is)
    case F_sp =>
      refine' Ts.fd_mk KX G ?a ?l ?c ?k
      (case a => k_is); (case l => k_is); (case c => k_is); (case k => k_is)
    case F_line =>
      refine' Ts.fd_mk KX G ?a ?l ?c ?k
      (case a => k_is); (case l => k_is); (case c => k_is); (case k => k_is)
    case F_fault =>
      refine' Ts.fd_mk KX G ?a ?l ?c ?k
      (case a => k_is); (case l => k_is); (case c => k_is); (case k => k_is)
    case F_nb =>
      refine' Ts.fd_mk KX G ?a ?l ?c ?k
      (case a => k_is); (case l => k_is); (case c => k_is); (case k => k_is)
    case F_srules =>
      refine' Ts.fd_mk KX G ?a ?l ?c ?k
      (case a => k_is); (case l => k_is); (case c => k_is); (case k => k_is)
    case F_srows =>
      refine' Ts.fd_mk KX G ?a ?l ?c ?k
      (case a => k_is); (case l => k_is); (case c => k_is); (case k => k_is)
    case F_sbook =>
      refine' Ts.fd_mk KX G ?a ?l ?c ?k
      (case a => k_is); (case l => k_is); (case c => k_is); (case k => k_is)
    case F_gs =>
      refine' Ts.fd_mk KX G ?a ?l ?c ?k
      (case a => k_is); (case l => k_is); (case c => k_is); (case k => k_is)
    case F_start =>
      refine' Ts.fd_mk KX G ?a ?l ?c ?k
      (case a => k_is); (case l => k_is); (case c => k_is); (case k => k_is)
    case F_draw =>
      refine' Ts.fd_mk KX G ?a ?l ?c ?k
      (case a => k_is); (case l => k_is); (case c => k_is); (case k => k_is)
    case F_mixed =>
      refine' Ts.fd_mk KX G ?a ?l ?c ?k
      (case a => k_is); (case l => k_is); (case c => k_is); (case k => k_is)
    case F_same =>
      refine' Ts.fd_mk KX G ?a ?l ?c ?k
      (case a => k_is); (case l => k_is); (case c => k_is); (case k => k_is)
    case F_met =>
      refine' Ts.fd_mk KX G ?a ?l ?c ?k
      (case a => k_is); (case l => k_is); (case c => k_is); (case k => k_is)
    case XN =>
      refine' Ts.xc_mk KX G ?a ?l ?rv ?sa ?eC ?tC ?kC ?iC ?tI ?nF ?ga ?gg ?hC
      (case a => k_is); (case l => k_is); (case rv => decide +kernel); (case sa => k_is); (case eC => k_is); (case tC => k_is); (case kC => k_is)
      (case iC => k_is); (case tI => k_is); (case nF => k_is); (case ga => k_is); (case gg => k_is); (case hC => k_is)
    case IN =>
      refine' Ts.bi_mk ?l ?c ?k
      (case l => k_is); (case c => k_is); (case k => k_is)
    case XR =>
      refine' Ts.xc_mk KX G ?a ?l ?rv ?sa ?eC ?tC ?kC ?iC ?tI ?nF ?ga ?gg ?hC
      (case a => k_is); (case l => k_is); (case rv => decide +kernel); (case sa => k_is); (case eC => k_is); (case tC => k_is); (case kC => k_is)
      (case iC => k_is); (case tI => k_is); (case nF => k_is); (case ga => k_is); (case gg => k_is); (case hC => k_is)
    case IR =>
      refine' Ts.bi_mk ?l ?c ?k
      (case l => k_is); (case c => k_is); (case k => k_is)
    case gK =>
      refine' PySem.W.mg_of KX G ?a
      (case a => k_is)
    case pK =>
      k_is
    case hK =>
      k_is
    case oK =>
      k_is
    case sK =>
      k_is
    case mK =>
      k_is
    case kK =>
      k_is
    case bha =>
      first | rfl | k_is
    case bhn =>
      first | rfl | k_is
    case bht =>
      first | rfl | k_is
    case bhm =>
      first | rfl | k_is
    case bme =>
      first | rfl | k_is | kernel_rfl
    case bno =>
      intro d
      cases d <;> first | rfl | k_is | kernel_rfl
    case qK_rules =>
      k_is
    case mBI =>
      refine' Ts.me_mk ?a ?i ?l ?c ?k
      (case a => k_is); (case i => k_is); (case l => k_is); (case c => k_is); (case k => k_is)
    case mBR =>
      refine' Ts.me_mk ?a ?i ?l ?c ?k
      (case a => k_is); (case i => k_is); (case l => k_is); (case c => k_is); (case k => k_is)
    case mBE =>
      refine' Ts.me_mk ?a ?i ?l ?c ?k
      (case a => k_is); (case i => k_is); (case l => k_is); (case c => k_is); (case k => k_is)
    case z_str =>
      refine' PySem.W.mg_none_of KX G ?a
      (case a => k_is)
    case z_enumerate =>
      refine' PySem.W.mg_none_of KX G ?a
      (case a => k_is)
    case z_sorted =>
      refine' PySem.W.mg_none_of KX G ?a
      (case a => k_is)
    case z_any =>
      refine' PySem.W.mg_none_of KX G ?a
      (case a => k_is)
    case enn =>
      refine' Ts.exm_mk ?h1 ?h2 ?h3 ?h4
      (case h1 => k_is); (case h2 => k_is); (case h3 => k_is); (case h4 => first | rfl | k_is)
    case y_ar =>
      k_is
    case y_lr =>
      k_is
    case y_cr =>
      k_is
    case y_ht =>
      exact PySem.W.km_tabs_of Y 235 (by k_mem)
    case y_kt =>
      kernel_rfl
    case y_hc =>
      kernel_rfl

