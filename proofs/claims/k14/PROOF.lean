import PyProof.Rows.All
import Wide.All
import OpenK.AllK
import Wide.FinOn
import HandS.ForMost
import HandS.EndTab
import HandS.IsInst
import HandS.Lambda
import HandS.TryMany
import HandS.ExcInit
import HandS.ExcField
import HandS.NoneIn
import HandS.WideBits
import HandS.Walk
import HandS.Flow
import HandS.Conv
import HandS.Evl
import HandS.ForExc
import PySem.Challenge.RW_takeandsplit_k14_whole_papers
import KE.GoesMore
import KE.GoesEnum
import HandS.Iter
import HandS.Wide
import HandS.Zip
import HandS.ListItems
set_option Elab.async false
set_option linter.all false
set_option maxRecDepth 100000
set_option maxHeartbeats 2000000
namespace Ts
open PySem PySem.Spec PyProof.Rows L2
section
variable {X : Cx}
/-- repr of data at an address -/
def rShow (K : PySem.W.Frag) : List V → Hp → VK → Prop := fun xs H Q =>
  ∃ (a : Addr) (d : PyData), xs = [.ref a] ∧ Dp K H (.ref a) d ∧ d.showable = true ∧ d.hasDict = false ∧ d.depth ≤ 60 ∧ d.shown.length ≤ sizeLine ∧ Q (.str d.shown) H
theorem call_show (hg : X.A.guards = some []) (hu : X.A.units + 64 < cLine) : CallR X (.builtin "repr") (rShow X.K) := by
  intro pins s σ H xs us Q I r h
  obtain ⟨a, d, rfl, hd, hs, hn, hdp, hz, q⟩ := h
  obtain ⟨u, rfl, e⟩ := vals1 r
  cases e
  obtain ⟨as, rd⟩ := Dp.reads I d _ _ hd rfl
  exact repr_of_reads' rd hs (fun z => by rw [hn] at z; cases z) hg (by omega) (fun b o e => e) (fun h' u tk hk => ⟨.str _, H, I.kept hk, ⟨_, rfl⟩, q⟩) hz

/-! a def's promise where no repr is under way -/
structure GOk (P : Program) (w : World) (K : PySem.W.Frag) (mg : Str → Option Value) (base : Heap) (CX : CXT) (k : Nat) (f : Addr) (fd : FuncData) (ps : List Str) (sp : Sp) : Prop where
  ln : ∀ vs H Q E, sp vs H Q E → vs.length = ps.length
  go : ∀ (A : Around) (outer : List Env) (s : Shared) (H : Hp) (args : Args) (us : List Value) (vs : List V) (Q : VK) (E : XK),
    A.guards = some [] → Room k A → Env0 P w K mg base A outer s H → BindsTo s fd args (ps.zip us) → Vals vs us → sp vs H Q E →
      codeAny (model P w) A (.call (.ref f) args) (CR CX outer P w H s Q E) s
end
end Ts


set_option Elab.async false
set_option linter.all false
set_option maxRecDepth 100000
set_option maxHeartbeats 2000000
namespace Ts
open PySem PySem.Spec PyProof.Rows L2
open Evl (Ex)

/-! ## data, with dicts -/
def keyD : Key → PyData
  | .inl n => .int n
  | .inr x => .str x
mutual
inductive D (H : Hp) : V → PyData → Prop
  | non : D H .non .none
  | bl (b : Bool) : D H (.bl b) (.bool b)
  | int (i : Int) : D H (.int i) (.int i)
  | str (x : Str) : D H (.str x) (.str x)
  | lst {a : Addr} {xs : List V} {ds : List PyData} : H a = some (.lst xs) → DAll H xs ds → D H (.ref a) (.list ds)
  | tup {a : Addr} {xs : List V} {ds : List PyData} : H a = some (.tup xs) → DAll H xs ds → D H (.ref a) (.tuple ds)
  | dic {a : Addr} {kvs : List (Key × V)} {ds : List (PyData × PyData)} : H a = some (.dK kvs) → DKv H kvs ds → D H (.ref a) (.dict ds)
inductive DAll (H : Hp) : List V → List PyData → Prop
  | nil : DAll H [] []
  | cons {v : V} {vs : List V} {d : PyData} {ds : List PyData} : D H v d → DAll H vs ds → DAll H (v :: vs) (d :: ds)
inductive DKv (H : Hp) : List (Key × V) → List (PyData × PyData) → Prop
  | nil : DKv H [] []
  | cons {k : Key} {v : V} {vs : List (Key × V)} {d : PyData} {ds : List (PyData × PyData)} : D H v d → DKv H vs ds → DKv H ((k, v) :: vs) ((keyD k, d) :: ds)
end
mutual
theorem D.ex {H H' : Hp} (e : Ex H H') : ∀ {v : V} {d : PyData}, D H v d → D H' v d
  | _, _, .non => .non
  | _, _, .bl b => .bl b
  | _, _, .int i => .int i
  | _, _, .str x => .str x
  | _, _, .lst h r => .lst (e _ _ h) (DAll.ex e r)
  | _, _, .tup h r => .tup (e _ _ h) (DAll.ex e r)
  | _, _, .dic h r => .dic (e _ _ h) (DKv.ex e r)
theorem DAll.ex {H H' : Hp} (e : Ex H H') : ∀ {v : List V} {d : List PyData}, DAll H v d → DAll H' v d
  | _, _, .nil => .nil
  | _, _, .cons h r => .cons (D.ex e h) (DAll.ex e r)
theorem DKv.ex {H H' : Hp} (e : Ex H H') : ∀ {v : List (Key × V)} {d : List (PyData × PyData)}, DKv H v d → DKv H' v d
  | _, _, .nil => .nil
  | _, _, .cons h r => .cons (D.ex e h) (DKv.ex e r)
end
theorem DAll.len {H : Hp} : ∀ {v : List V} {d : List PyData}, DAll H v d → v.length = d.length
  | _, _, .nil => rfl
  | _, _, .cons _ r => by rw [List.length_cons, List.length_cons, DAll.len r]
def tyD : PyData → String
  | .none => "NoneType" | .bool _ => "bool" | .int _ => "int" | .str _ => "str" | .list _ => "list" | .tuple _ => "tuple" | .dict _ => "dict"
theorem D.ty {K : PySem.W.Frag} {H : Hp} {v : V} {d : PyData} (h : D H v d) : TyX K H v (.type (tyD d)) := by
  cases h with
  | non => exact .base .non
  | bl b => exact .base (.bl b)
  | int i => exact .base (.int i)
  | str x => exact .base (.str x)
  | lst h _ => exact .base (.lst h)
  | tup h _ => exact .base (.tup h)
  | dic h _ => exact .base (.dK h)

/-! ## the text -/
def top (i : Nat) : Stmt := PySem.Challenge.pw_takeandsplit_k14_whole_papers.main.body.getD i (.Pass ⟨0, 0, 0, 0⟩)
/-- a def of the text that stands behind the top -/
structure FD (K : PySem.W.Frag) (mg : Str → Option Value) (x : Str) (q : Str) (st : Stmt) (f : Addr) (fd : FuncData) : Prop where
  F : Fun K x q st f fd
  g : mg x = some (.ref f)
structure Bl (mg : Str → Option Value) : Prop where
  list : mg "list" = none
  tuple : mg "tuple" = none
  int : mg "int" = none
  bool : mg "bool" = none
  dict : mg "dict" = none
  isinstance : mg "isinstance" = none
  len : mg "len" = none
  all : mg "all" = none
  range : mg "range" = none
  divmod : mg "divmod" = none
  zip : mg "zip" = none
  repr : mg "repr" = none

/-- a question about any data -/
def spAsk (p : PyData → Bool) : Sp := fun vs H Q _ => ∃ v d, vs = [v] ∧ D H v d ∧ ∀ H', Ex H H' → Q (.bl (p d)) H'
def isRow : PyData → Bool
  | .list _ => true | .tuple _ => true | _ => false
def isInt : PyData → Bool
  | .int _ => true | _ => false
def isNum : PyData → Bool
  | .int i => decide (0 ≤ i) | _ => false
def isHp : PyData → Bool
  | .int i => decide (1 ≤ i) && decide (i ≤ 1000000000000000000) | _ => false
def items : PyData → List PyData
  | .list l => l | .tuple l => l | _ => []
def isNums (d : PyData) : Bool := isRow d && (items d).all isNum

section
variable {P : Program} {w : World} {K : PySem.W.Frag} {mg : Str → Option Value} {base : Heap}
abbrev s_is_row := top 10
abbrev s_is_integer := top 11
abbrev s_is_number := top 12
abbrev s_is_heap := top 13
abbrev s_is_numbers := top 15

theorem kit_row (d : PyData) : PySem.W.kitAny K (.type (tyD d)) [.type "list", .type "tuple"] = some (isRow d) := by
  cases d <;> first | rfl | decide +kernel
theorem kit_int (d : PyData) : PySem.W.kitOne K (.type (tyD d)) (.type "int") = some (match d with | .int _ => true | .bool _ => true | _ => false) := by
  cases d <;> first | rfl | decide +kernel
theorem kit_bool (d : PyData) : PySem.W.kitOne K (.type (tyD d)) (.type "bool") = some (match d with | .bool _ => true | _ => false) := by
  cases d <;> first | rfl | decide +kernel

theorem sc_is_row : FnScope ["thing"] ["thing"] (defScope s_is_row) := ⟨rfl, rfl, rfl, by decide +kernel, rfl, by decide +kernel, by decide +kernel⟩
theorem ok_is_row {f : Addr} {fd : FuncData} (F : FD K mg "is_row" "is_row" s_is_row f fd) (T : Bl mg) : FnOk P w K mg base CX0 1 f fd ["thing"] (spAsk isRow) := by
  refine F.F.ok sc_is_row (fun vs H Q E h => ?_) (fun cdv A outer s H vs Q E hr h => ?_)
  · obtain ⟨v, d, rfl, _⟩ := h
    rfl
  · obtain ⟨v, d, rfl, hd, k⟩ := h
    refine ⟨_, pss_one (ps_ret (pe_callB call_isiT (by rfl) T.isinstance (by decide +kernel) (pa_cons (pv 0) (pa_cons (pe_tup (pa_cons (pe_bltn (v := .ty "list") (by rfl) T.list PyProof.Rows.boot_list rfl) (pa_cons (pe_bltn (v := .ty "tuple") (by rfl) T.tuple PyProof.Rows.boot_tuple rfl) pa_nil))) pa_nil)))), ?_⟩
    refine ⟨_, rfl, by decide, fun p np => ?_⟩
    exact ⟨_, p, _, _, _, _, rfl, upd_same, .cons (.ty "list") (.cons (.ty "tuple") .nil), (hd.ex (Ex.new np)).ty, kit_row d, k _ (Ex.new np)⟩

theorem sc_is_integer : FnScope ["thing"] ["thing"] (defScope s_is_integer) := ⟨rfl, rfl, rfl, by decide +kernel, rfl, by decide +kernel, by decide +kernel⟩
theorem ok_is_integer {f : Addr} {fd : FuncData} (F : FD K mg "is_integer" "is_integer" s_is_integer f fd) (T : Bl mg) : FnOk P w K mg base CX0 1 f fd ["thing"] (spAsk isInt) := by
  refine F.F.ok sc_is_integer (fun vs H Q E h => ?_) (fun cdv A outer s H vs Q E hr h => ?_)
  · obtain ⟨v, d, rfl, _⟩ := h
    rfl
  · obtain ⟨v, d, rfl, hd, k⟩ := h
    refine ⟨_, pss_one (ps_ret (pe_and (pe_callB call_isi (by rfl) T.isinstance (by decide +kernel) (pa_cons (pv 0) (pa_cons (pe_bltn (v := .ty "int") (by rfl) T.int PyProof.Rows.boot_int rfl) pa_nil))) (pe_one (pe_not (pe_callB call_isi (by rfl) T.isinstance (by decide +kernel) (pa_cons (pv 0) (pa_cons (pe_bltn (v := .ty "bool") (by rfl) T.bool (by decide +kernel) rfl) pa_nil))))))), ?_⟩
    refine ⟨_, rfl, _, _, _, _, _, rfl, .ty "int", hd.ty, kit_int d, _, rfl, ?_⟩
    have k0 := k H (Ex.refl H)
    cases d <;> first
      | exact k0
      | exact ⟨_, rfl, _, _, _, _, _, rfl, .ty "bool", hd.ty, kit_bool _, _, rfl, k0⟩
end
end Ts


set_option Elab.async false
set_option linter.all false
set_option maxRecDepth 100000
set_option maxHeartbeats 2000000
namespace Ts
open PySem PySem.Spec PyProof.Rows L2
open Evl (Ex)
/-! ## errors with one field -/
/-- self.f = e, where a name says what f is -/
def iniSt (f : Str) (q : List Pos) (sc : Scope) : Stmt :=
  let p := fun i => q.getD i ⟨0, 0, 0, 0⟩
  .FunctionDef "__init__" { posonlyargs := [], args := [{ arg := "self", annotation := none, pos := p 0 }, { arg := f, annotation := none, pos := p 1 }], vararg := none, kwonlyargs := [], kw_defaults := [], kwarg := none, defaults := [] }
    [.Assign [.Attribute (.Name "self" (p 2)) f (p 3)] (.Name f (p 4)) (p 5)] [] none [] sc none "__init__" (p 6)
/-- the class x at C with one field f that its __init__ at g stores -/
structure XC (K : PySem.W.Frag) (mg : Str → Option Value) (x f : Str) (C g : Addr) : Prop where
  o : OexC K C
  gC : mg x = some (.ref C)
  iC : PySem.W.findIn K (.ref C) "__init__" = some (some (.ref g))
  tI : PySem.W.typeIn K (.ref g) = some (.type "function")
  nF : PySem.W.findIn K (.ref C) f = some none
  xf : XfC K C
def spIni (C : Addr) (f : Str) : Sp := fun vs H Q _ => ∃ (a : Addr) (y : V), vs = [.ref a, y] ∧ H a = some (exo a C none) ∧
  ∀ dx, H dx = none → dx ≠ a → Q .non (upd (upd H dx (exd dx [(f, y)])) a (exo a C (some dx)))
/-- what a raised error of one field leaves -/
def Raised (H : Hp) (f : Str) (y : V) (C : Addr) (E : XK) : Prop := ∀ d H', Ex H H' → H d = none → H' d = some (.xd [(f, y)]) → E (.ref C) (some d) H'
section
variable {P : Program} {w : World} {K : PySem.W.Frag} {mg : Str → Option Value} {base : Heap}
abbrev i_thing (i : Nat) : Stmt := inClass (top i) 0
theorem sc_ini (i : Nat) (h : i = 2 ∨ i = 3 ∨ i = 4 ∨ i = 5 ∨ i = 6) : FnScope ["self", "thing"] ["self", "thing"] (defScope (i_thing i)) := by
  rcases h with rfl | rfl | rfl | rfl | rfl <;> exact ⟨rfl, rfl, rfl, by decide +kernel, rfl, by decide +kernel, by decide +kernel⟩
theorem ok_ini (i : Nat) (h : i = 2 ∨ i = 3 ∨ i = 4 ∨ i = 5 ∨ i = 6) {q : Str} {x : Str} {C g : Addr} {fd : FuncData} (F : Fun K "__init__" q (i_thing i) g fd) (T : XC K mg x "thing" C g) : FnOk P w K mg base CX0 1 g fd ["self", "thing"] (spIni C "thing") := by
  refine F.ok (sc_ini i h) (fun vs H Q E h => ?_) (fun cdv A outer s H vs Q E hr hh => ?_)
  · obtain ⟨a, y, rfl, _⟩ := h
    rfl
  · obtain ⟨a, y, rfl, ha, k⟩ := hh
    rcases h with rfl | rfl | rfl | rfl | rfl <;>
      exact ⟨_, pss_one (ps_ost (pv 0) (pv 1)), _, rfl, _, rfl, a, C, rfl, T.o, T.nF, .inl ⟨ha, fun dx n1 n2 => k dx n1 n2⟩⟩
/-- raise x(e): the reading behind e -/
theorem raise1 {f : Str} {y : V} {C : Addr} {H1 : Hp} {Q : XK} (h : Raised H1 f y C Q) : [y].length ≤ 1000 ∧ ∀ a, H1 a = none → spIni C f (.ref a :: ([y] ++ [])) (upd H1 a (exo a C none))
    (fun v H2 => v = .non ∧ ∃ (d : Addr) (fs : List (Str × V)), H2 a = some (exo a C (some d)) ∧ H2 d = some (exd d fs) ∧ H1 d = none ∧ Q (.ref C) (some d) (upd (del H2 a) d (.xd fs))) (fun _ _ _ => False) := by
  refine ⟨by show 1 ≤ 1000; decide, fun a na => ⟨a, y, rfl, upd_same, fun dx nd ne => ⟨rfl, dx, _, upd_same, (upd_ne ne).trans upd_same, ?_, ?_⟩⟩⟩
  · rw [upd_ne ne] at nd
    exact nd
  · rw [upd_ne ne] at nd
    refine h dx _ (fun b o e => ?_) nd upd_same
    have n1 : b ≠ dx := ne_of_none e nd
    have n2 : b ≠ a := ne_of_none e na
    rw [upd_ne n1, del_ne n2, upd_ne n2, upd_ne n1, upd_ne n2]
    exact e
theorem ps_raise1 {X : Cx} {W : WX} {x f : Str} {C g : Addr} {fd : FuncData} {k : Nat} {e : Expr} {te : TE} {p pos pos2 : Pos} (hc : X.calm = true) (tk : Takes X W) (T : XC X.K X.mg x f C g) (F1 : FnOk X.prog X.w X.K X.mg X.base CX0 k g fd ["self", f] (spIni C f))
    (hb : Binds X.K fd ["self", f] []) (hr : Room (k + 1) X.A) (hg : Gl X x) (he : PE X e te)
    (hdb : (x == ("__debug__" : Str)) = false := by decide) (hs : starEach [e] X.env = (false, eval e X.env) :: starEach [] X.env := by rfl) :
    PS X (.Raise (some (.Call (.Name x p) [e] [] pos)) none pos2) (fun _ σ H => tMkO C (spIni C f) [] (tCons te tNil) σ H fun cls d H' => W cls d σ H') :=
  ps_raise (pos := pos2) hc tk (pmk_oex (p := p) (pos := pos) T.o T.iC T.tI F1 hr hb .nil pass0 hg T.gC (pa_cons he pa_nil hs) hdb hs (by rfl))
end
end Ts


set_option Elab.async false
set_option linter.all false
set_option maxRecDepth 100000
set_option maxHeartbeats 2000000
namespace Ts
open PySem PySem.Spec L2
open Evl (Ex)
/-! ## rows: a list or a tuple -/
def Row (H : Hp) (a : Addr) (xs : List V) : Prop := H a = some (.lst xs) ∨ H a = some (.tup xs)
theorem Row.ex {H H' : Hp} (e : Ex H H') {a : Addr} {xs : List V} (h : Row H a xs) : Row H' a xs := h.imp (e _ _) (e _ _)
theorem Row.ty {K : PySem.W.Frag} {H : Hp} {a : Addr} {xs : List V} (h : Row H a xs) : ∃ s, TyX K H (.ref a) (.type s) ∧ (s = "list" ∨ s = "tuple") := by
  rcases h with h | h
  · exact ⟨_, .base (.lst h), .inl rfl⟩
  · exact ⟨_, .base (.tup h), .inr rfl⟩
theorem Row.sq {K : PySem.W.Frag} {H : Hp} {a : Addr} {xs : List V} (h : Row H a xs) : SqL K H a xs ∨ SqT K H a xs := h.imp SqL.of SqT.of
section
variable {X : Cx}
def gOr (t u : TG) : TG := fun v σ H Q => t v σ H Q ∨ u v σ H Q
theorem pg_or {tg : Expr} {t u : TG} (h1 : PG X tg t) (h2 : PG X tg u) : PG X tg (gOr t u) :=
  ⟨fun pins s σ H v w Q I r h => h.elim (fun h => h1.run pins s σ H v w Q I r h) fun h => h2.run pins s σ H v w Q I r h⟩
def iOr (t u : TI) : TI := fun σ H R => t σ H R ∨ u σ H R
theorem pi_or {tg it : Expr} {t u : TI} (h1 : PI X tg it t) (h2 : PI X tg it u) : PI X tg it (iOr t u) :=
  ⟨fun pins s σ H R I h => h.elim (fun h => h1.run pins s σ H R I h) fun h => h2.run pins s σ H R I h⟩
theorem passF {P : Program} {w : World} (hp : X.prog = P) (hw : X.w = w) : Passes (L2.CX P w) X (fun _ _ _ => False) := fun pins σ H s e s' I h => by
  obtain ⟨_, _, _, _, _, _, _, _, _, _, _, _, z⟩ := h
  exact z.elim
end
/-! ## a comprehension that only makes things -/
theorem lc_pure {J : It} {n : Nat} {G : Hp → Prop} {Y : Nat → Hp → V → Hp → Prop} (w : Walk J n G Y) {g : TG} {te : TE} {vs : List Nat} {σ : St} {H1 : Hp} {out : Nat → V} {Q : VK} (hz : n ≤ sizeLine)
    (hG : ∀ H, Ex H1 H → G H)
    (hs : ∀ i x H H', i < n → Ex H1 H → Y i H x H' → Ex H H' ∧ g x (wipe σ vs) H' fun σ2 H2 => wipe σ2 vs = wipe σ vs ∧ Ex H' H2 ∧ ∀ q : VK, (∀ H4, Ex H2 H4 → q (out i) H4) → te σ2 H2 q)
    (hgm : ∀ (x : V) (H : Hp) (q q' : St → Hp → Prop), (∀ σ2 H2, q σ2 H2 → q' σ2 H2) → g x (wipe σ vs) H q → g x (wipe σ vs) H q')
    (hq : ∀ D Hf, H1 D = none → Ex H1 Hf → Hf D = some (.lst ((List.range n).map out)) → Q (.ref D) Hf) :
    ∀ D, H1 D = none → ∃ W : Nat → Nat → Hp → Prop, (∃ m, W 0 m (upd H1 D (.lst []))) ∧ ∀ i m H, W i m H →
      (J.stop i H ∧ Q (.ref D) H) ∨ (J.go i H ∧ ∃ Nx : Hp → Prop, (∀ H', Nx H' → ∃ m', m' < m ∧ W (i + 1) m' H') ∧ ∀ x H', J.yld i H x H' → g x (wipe σ vs) H' fun σ2 H2 => wipe σ2 vs = wipe σ vs ∧ tYes σ2 H2 fun b H3 =>
        if b = true then te σ2 H3 fun y H4 => ∃ acc, H4 D = some (.lst acc) ∧ acc.length < sizeLine ∧ Nx (upd H4 D (.lst (acc ++ [y]))) else Nx H3) := by
  intro D hD
  refine lc_it w (Pv := fun i H => Ex H1 H ∧ H D = some (.lst ((List.range i).map out))) ⟨Ex.new hD, upd_same⟩ (fun i H _ p => hG H p.1) ?_ (fun H p => hq D H hD p.1 p.2)
  intro i x H H' hi ⟨e, hd⟩ y
  obtain ⟨e2, h⟩ := hs i x H H' hi e y
  refine hgm x H' _ _ (fun σ2 H2 ⟨h1, e3, h3⟩ => ⟨h1, ?_⟩) h
  unfold tYes
  dsimp only
  rw [if_pos rfl]
  refine h3 _ fun H4 e4 => ?_
  have hd4 : H4 D = some (.lst ((List.range i).map out)) := e4 _ _ (e3 _ _ (e2 _ _ hd))
  refine ⟨_, hd4, ?_, ?_, ?_⟩
  · rw [List.length_map, List.length_range]
    omega
  · exact ((e.trans e2).trans (e3.trans e4)).mut hD
  · rw [upd_same, List.range_succ, List.map_append]
    rfl
theorem g_name_mono {j : Nat} {x : V} {σ : St} {H : Hp} {q q' : St → Hp → Prop} (h : ∀ σ2 H2, q σ2 H2 → q' σ2 H2) (z : gName j x σ H q) : gName j x σ H q' := h _ _ z

section
variable {P : Program} {w : World} {K : PySem.W.Frag} {mg : Str → Option Value} {base : Heap}
abbrev F1 {f : Addr} {fd : FuncData} {x q : Str} {st : Stmt} {p : Str} (F : Fun K x q st f fd) (h : ∀ (kV doc pm : Value) (an : Option Addr) (cdv ct : Value) (us : List Value), us.length = [p].length → bindArgs (PySem.W.fnOf x q (defArgs st) (defBody st) (defScope st) .none kV doc pm an cdv ct) ⟨us, []⟩ = pure ([p].zip us)) : Binds K fd [p] [] := F.binds h
theorem b_is_row {f : Addr} {fd : FuncData} (F : FD K mg "is_row" "is_row" s_is_row f fd) : Binds K fd ["thing"] [] := F.F.binds fun _ _ _ _ _ _ us hl => match us, hl with | [_], _ => rfl
theorem b_is_integer {f : Addr} {fd : FuncData} (F : FD K mg "is_integer" "is_integer" s_is_integer f fd) : Binds K fd ["thing"] [] := F.F.binds fun _ _ _ _ _ _ us hl => match us, hl with | [_], _ => rfl
theorem b_is_number {f : Addr} {fd : FuncData} (F : FD K mg "is_number" "is_number" s_is_number f fd) : Binds K fd ["thing"] [] := F.F.binds fun _ _ _ _ _ _ us hl => match us, hl with | [_], _ => rfl

theorem sc_is_number : FnScope ["thing"] ["thing"] (defScope s_is_number) := ⟨rfl, rfl, rfl, by decide +kernel, rfl, by decide +kernel, by decide +kernel⟩
theorem ok_is_number {f f1 : Addr} {fd fd1 : FuncData} (F : FD K mg "is_number" "is_number" s_is_number f fd) (F1 : FD K mg "is_integer" "is_integer" s_is_integer f1 fd1) (T : Bl mg) : FnOk P w K mg base CX0 2 f fd ["thing"] (spAsk isNum) := by
  have G1 : FnOk P w K mg base CX0 1 f1 fd1 ["thing"] (spAsk isInt) := ok_is_integer F1 T
  refine F.F.ok sc_is_number (fun vs H Q E h => ?_) (fun cdv A outer s H vs Q E hr h => ?_)
  · obtain ⟨v, d, rfl, _⟩ := h
    rfl
  · obtain ⟨v, d, rfl, hd, k⟩ := h
    refine ⟨_, pss_one (ps_ret (pe_and (pe_call G1 hr (by rfl) F1.g F1.F.kp (b_is_integer F1) .nil pass0 (pa_cons (pv 0) pa_nil)) (pe_one (pe_cmpR op_ge (pv 0) pe_int (nomark _))))), ?_⟩
    refine ⟨_, rfl, v, d, rfl, hd, fun H' e => ⟨_, rfl, ?_⟩⟩
    have k0 := k H' e
    cases hd <;> first
      | exact k0
      | skip
    rename_i i
    refine iteT ⟨_, rfl, _, _, rfl, rfl, ?_⟩
    exact k0
theorem sc_is_heap : FnScope ["thing"] ["thing"] (defScope s_is_heap) := ⟨rfl, rfl, rfl, by decide +kernel, rfl, by decide +kernel, by decide +kernel⟩
theorem ok_is_heap {f f1 : Addr} {fd fd1 : FuncData} (F : FD K mg "is_heap" "is_heap" s_is_heap f fd) (F1 : FD K mg "is_integer" "is_integer" s_is_integer f1 fd1) (T : Bl mg) {t : Tok} (hm : mg "MOST_HEAP" = some (.int 1000000000000000000 t)) : FnOk P w K mg base CX0 2 f fd ["thing"] (spAsk isHp) := by
  have G1 : FnOk P w K mg base CX0 1 f1 fd1 ["thing"] (spAsk isInt) := ok_is_integer F1 T
  refine F.F.ok sc_is_heap (fun vs H Q E h => ?_) (fun cdv A outer s H vs Q E hr h => ?_)
  · obtain ⟨v, d, rfl, _⟩ := h
    rfl
  · obtain ⟨v, d, rfl, hd, k⟩ := h
    refine ⟨_, pss_one (ps_ret (pe_and (pe_call G1 hr (by rfl) F1.g F1.F.kp (b_is_integer F1) .nil pass0 (pa_cons (pv 0) pa_nil)) (pe_one (pe_chain op_le op_le pe_int (pv 0) (pe_glob (v := .int 1000000000000000000) rfl hm ⟨_, rfl⟩))))), ?_⟩
    refine ⟨_, rfl, v, d, rfl, hd, fun H' e => ⟨_, rfl, ?_⟩⟩
    have k0 := k H' e
    cases hd <;> first
      | exact k0
      | skip
    rename_i i
    refine iteT ⟨_, rfl, _, _, rfl, rfl, _, rfl, ?_⟩
    have k1 : Q (V.bl (decide (1 ≤ i) && decide (i ≤ 1000000000000000000))) H' := k0
    by_cases hi : 1 ≤ i
    · rw [decide_eq_true hi] at k1 ⊢
      exact iteT ⟨_, _, rfl, rfl, k1⟩
    · rw [decide_eq_false hi] at k1 ⊢
      exact iteF k1
theorem sc_is_numbers : FnScope ["thing"] ["thing"] (defScope s_is_numbers) := ⟨rfl, rfl, rfl, by decide +kernel, rfl, by decide +kernel, by decide +kernel⟩
end
end Ts


set_option Elab.async false
set_option linter.all false
set_option maxRecDepth 100000
set_option maxHeartbeats 2000000
namespace Ts
open PySem PySem.Spec L2
open Evl (Ex)
theorem DAll.get {H : Hp} : ∀ {vs : List V} {ds : List PyData} {i : Nat} {x : V}, DAll H vs ds → vs[i]? = some x → ∃ d, ds[i]? = some d ∧ D H x d
  | _, _, _, _, .nil, e => by simp at e
  | _, _, 0, _, .cons h _, e => by
    have e' : _ = _ := Option.some.inj e
    subst e'
    exact ⟨_, rfl, h⟩
  | _, _, i + 1, _, .cons _ r, e => DAll.get (i := i) r e
/-- a list, or a tuple -/
def mk (k : Bool) (l : List PyData) : PyData := if k = true then .list l else .tuple l
theorem mk_row (k : Bool) (l : List PyData) : isRow (mk k l) = true := by cases k <;> rfl
theorem mk_items (k : Bool) (l : List PyData) : items (mk k l) = l := by cases k <;> rfl
theorem D.row {H : Hp} {v : V} {d : PyData} (h : D H v d) (hr : isRow d = true) : ∃ a xs, v = .ref a ∧ Row H a xs ∧ DAll H xs (items d) := by
  cases h with
  | lst h r => exact ⟨_, _, rfl, .inl h, r⟩
  | tup h r => exact ⟨_, _, rfl, .inr h, r⟩
  | non => cases hr
  | bl b => cases hr
  | int i => cases hr
  | str x => cases hr
  | dic h r => cases hr
theorem g_row {K : PySem.W.Frag} {H : Hp} {a : Addr} {xs : List V} {n : Nat} {t : TGs} {σ : L2.St} {Q : L2.St → Hp → Prop} (h : Row H a xs) (hn : xs.length = n) (q : t xs σ H Q) : gOr (gTup K n t) (gUnl K n t) (.ref a) σ H Q := by
  rcases h with h | h
  · exact .inr ⟨a, xs, rfl, SqL.of h, hn, q⟩
  · exact .inl ⟨a, xs, rfl, SqT.of h, hn, q⟩
theorem ix_row {K : PySem.W.Frag} {H : Hp} {a : Addr} {xs : List V} {i : Int} {v : V} {Q : VK} (h : Row H a xs) (hi : atI xs i = some v) (q : Q v H) : rIx K (.ref a) (.int i) H Q := by
  rcases h with h | h
  · exact .inl ⟨a, xs, i, v, rfl, rfl, SqL.of h, hi, q⟩
  · exact .inr (.inl ⟨a, xs, i, v, rfl, rfl, SqT.of h, hi, q⟩)
/-- a comprehension over the row in slot i, pure -/
theorem lc_row {K : PySem.W.Frag} {i : Nat} {g : TG} {te : TE} {vs : List Nat} {σ : L2.St} {H : Hp} {a : Addr} {xs : List V} {out : Nat → V} {Q : VK} (hσ : σ[i]? = some (some (.ref a))) (hr : Row H a xs) (hz : xs.length ≤ sizeLine)
    (hs : ∀ j x H1, xs[j]? = some x → Ex H H1 → g x (wipe σ vs) H1 fun σ2 H2 => wipe σ2 vs = wipe σ vs ∧ Ex H1 H2 ∧ ∀ q : VK, (∀ H4, Ex H2 H4 → q (out j) H4) → te σ2 H2 q)
    (hgm : ∀ (x : V) (H : Hp) (q q' : L2.St → Hp → Prop), (∀ σ2 H2, q σ2 H2 → q' σ2 H2) → g x (wipe σ vs) H q → g x (wipe σ vs) H q')
    (hq : ∀ D Hf, H D = none → Ex H Hf → Hf D = some (.lst ((List.range xs.length).map out)) → Q (.ref D) Hf) :
    tLc (iOr (iList K (tVar i)) (iTup K (tVar i))) g tYes te vs σ H Q := by
  rcases hr with h | h
  · refine .inl ⟨_, hσ, a, rfl, ⟨xs, SqL.of h⟩, lc_pure (walk_list (xs := xs)) hz (fun H' e => SqL.of (e _ _ h)) (fun j x H1 H2 hj e y => ?_) hgm hq⟩
    obtain ⟨rfl, hx⟩ := y
    exact ⟨Ex.refl _, hs j x H2 hx e⟩
  · refine .inr ⟨_, hσ, a, rfl, ⟨xs, SqT.of h⟩, lc_pure (walk_tup (xs := xs)) hz (fun H' e => SqT.of (e _ _ h)) (fun j x H1 H2 hj e y => ?_) hgm hq⟩
    obtain ⟨rfl, hx⟩ := y
    exact ⟨Ex.refl _, hs j x H2 hx e⟩
theorem map_getD {α β : Type} (f : α → β) (d : α) : ∀ l : List α, (List.range l.length).map (fun i => f (l.getD i d)) = l.map f := by
  intro l
  apply List.ext_getElem?
  intro i
  rw [List.getElem?_map, List.getElem?_map]
  by_cases h : i < l.length
  · rw [List.getElem?_range h]
    simp [List.getD, h]
  · rw [List.getElem?_eq_none (by simpa using h), List.getElem?_eq_none (by omega)]
    rfl
theorem getD_of {α : Type} {l : List α} {i : Nat} {x d : α} (h : l[i]? = some x) : l.getD i d = x := by
  rw [List.getD, h]
  rfl
theorem all_id {α : Type} (f : α → Bool) (l : List α) : (l.map f).all id = l.all f := by
  rw [List.all_map]
  rfl

section
variable {P : Program} {w : World} {K : PySem.W.Frag} {mg : Str → Option Value} {base : Heap}
/-- what is asked of a thing: it is so, or it is refused -/
def spNeed (p : PyData → Bool) (C : Addr) : Sp := fun vs H Q E => ∃ v d, vs = [v] ∧ D H v d ∧ (p d = true → ∀ H', Ex H H' → Q .non H') ∧ (p d = false → ∀ H', Ex H H' → Raised H' "thing" v C E)
abbrev s_need_heap := top 17
abbrev s_need_number := top 18
theorem sc_need_heap : FnScope ["thing"] ["thing"] (defScope s_need_heap) := ⟨rfl, rfl, rfl, by decide +kernel, rfl, by decide +kernel, by decide +kernel⟩
theorem sc_need_number : FnScope ["thing"] ["thing"] (defScope s_need_number) := ⟨rfl, rfl, rfl, by decide +kernel, rfl, by decide +kernel, by decide +kernel⟩
theorem ok_need_heap {f f1 C g : Addr} {fd fd1 fi : FuncData} (F : FD K mg "need_heap" "need_heap" s_need_heap f fd) (F1 : FD K mg "is_heap" "is_heap" s_is_heap f1 fd1) (G1 : FnOk P w K mg base CX0 2 f1 fd1 ["thing"] (spAsk isHp))
    (X : XC K mg "BadHeap" "thing" C g) (GI : FnOk P w K mg base CX0 1 g fi ["self", "thing"] (spIni C "thing")) (bI : Binds K fi ["self", "thing"] []) : FnOk P w K mg base (L2.CX P w) 3 f fd ["thing"] (spNeed isHp C) := by
  refine F.F.okX sc_need_heap (fun vs H Q E h => ?_) (fun cdv A outer s H vs Q E hr h => ?_)
  · obtain ⟨v, d, rfl, _⟩ := h
    rfl
  · obtain ⟨v, d, rfl, hd, k1, k2⟩ := h
    have b1 : Binds K fd1 ["thing"] [] := F1.F.binds fun _ _ _ _ _ _ us hl => match us, hl with | [_], _ => rfl
    refine ⟨_, pss_one (ps_if (pt_not (pt_val (pe_call G1 hr (by rfl) F1.g F1.F.kp b1 .nil pass0 (pa_cons (pv 0) pa_nil)))) (pss_one (ps_raise1 rfl (takes_of rfl rfl rfl rfl) X GI bI hr (by rfl) (pv 0))) pss_nil), ?_⟩
    refine ⟨_, rfl, v, d, rfl, hd, fun H1 e1 => ⟨_, rfl, ?_⟩⟩
    by_cases hp : isHp d = true
    · rw [hp]
      exact iteF (k1 hp H1 e1)
    · have hf : isHp d = false := by simpa using hp
      rw [hf]
      exact iteT ⟨_, rfl, raise1 (k2 hf H1 e1)⟩
theorem ok_need_number {f f1 C g : Addr} {fd fd1 fi : FuncData} (F : FD K mg "need_number" "need_number" s_need_number f fd) (F1 : FD K mg "is_number" "is_number" s_is_number f1 fd1) (G1 : FnOk P w K mg base CX0 2 f1 fd1 ["thing"] (spAsk isNum))
    (X : XC K mg "BadNumber" "thing" C g) (GI : FnOk P w K mg base CX0 1 g fi ["self", "thing"] (spIni C "thing")) (bI : Binds K fi ["self", "thing"] []) : FnOk P w K mg base (L2.CX P w) 3 f fd ["thing"] (spNeed isNum C) := by
  refine F.F.okX sc_need_number (fun vs H Q E h => ?_) (fun cdv A outer s H vs Q E hr h => ?_)
  · obtain ⟨v, d, rfl, _⟩ := h
    rfl
  · obtain ⟨v, d, rfl, hd, k1, k2⟩ := h
    refine ⟨_, pss_one (ps_if (pt_not (pt_val (pe_call G1 hr (by rfl) F1.g F1.F.kp (b_is_number F1) .nil pass0 (pa_cons (pv 0) pa_nil)))) (pss_one (ps_raise1 rfl (takes_of rfl rfl rfl rfl) X GI bI hr (by rfl) (pv 0))) pss_nil), ?_⟩
    refine ⟨_, rfl, v, d, rfl, hd, fun H1 e1 => ⟨_, rfl, ?_⟩⟩
    by_cases hp : isNum d = true
    · rw [hp]
      exact iteF (k1 hp H1 e1)
    · have hf : isNum d = false := by simpa using hp
      rw [hf]
      exact iteT ⟨_, rfl, raise1 (k2 hf H1 e1)⟩
end
end Ts


set_option Elab.async false
set_option linter.all false
set_option maxRecDepth 100000
set_option maxHeartbeats 4000000
/-! ## enumerate of a tuple -/
namespace PySem
open Sem (wp)
open AutoSeq1 (wpAny_loadPart')
theorem made_enum_tuple (q : Addr) (its : Array Value) (m : Nat) (dct : Option Addr) (sl : Array (Option Value)) :
    Meets (Builtin.«enumerate.__new__» ⟨[.type "enumerate", .ref q], []⟩) (fun _ R s => s.heap.get? q = some { cls := .type "tuple", dict := dct, data := .seq its m, slots := sl } ∧
      R (.ok (.ret (.ref (s.heap.push { cls := .type "tuple_iterator", data := .fields #[.ref q, .int 0 0] }).objs.size)))
        { s with heap := (s.heap.push { cls := .type "tuple_iterator", data := .fields #[.ref q, .int 0 0] }).push { cls := .type "enumerate", data := .fields #[.none, .bool false, .ref s.heap.objs.size, rawInt 0, .none, .none] } }) :=
  .of_wp fun prog w A R s z => by
    obtain ⟨hp, g, d, tk, os⟩ := s
    obtain ⟨hq, z⟩ := z
    have subE := sub_enumerate
    have isT : Heap.IsTuple (Shared.heap ⟨hp, g, d, tk, os⟩) q its := ⟨_, hq, rfl, m, rfl⟩
    wp_walk using wpAny_loadPart' hq
    refine wpAny_stack_any fun st => wpAny_pure ?_
    split
    · rename_i c _ _ _ _ _
      cases (c == Value.type "enumerate")
      · wp_walk using wpAny_loadPart' hq, wpAny_pyIter_tuple isT
        exact ⟨_, rfl, z⟩
      · wp_walk using wpAny_loadPart' hq, wpAny_pyIter_tuple isT
        exact ⟨_, rfl, z⟩
    · wp_walk using wpAny_loadPart' hq, wpAny_pyIter_tuple isT
      exact ⟨_, rfl, z⟩
section
variable {prog : Program} {w : World} {A : Around} {E : Value → Shared → Prop} {s : Shared}
theorem call_enum_tuple {q : Addr} {its : Array Value} {Q : Value → Shared → Prop} (hT : s.heap.IsTuple q its)
    (k : ∀ h', IsEnum h' (s.heap.objs.size + 1) s.heap.objs.size 0 .none → h'.IsTupleIter s.heap.objs.size q 0 → (∀ b o, s.heap.get? b = some o → h'.get? b = some o) → Q (.ref (s.heap.objs.size + 1)) { s with heap := h' }) :
    wpAny (model prog w) A (call (.type "enumerate") [.ref q]) Q E s := by
  obtain ⟨⟨c, dct, dt, sl⟩, hq, hc, m, hd⟩ := hT
  have hc : c = .type "tuple" := hc
  have hd : dt = .seq its m := hd
  subst hc hd
  refine callType_new F.called_enumerate (by decide) (F.typeCall_enumerate_1 _) (F.newCall_enumerate_1 _) (fun ob => F.args_object_init_2 ob _) F.entry_enumerate_new (made_enum_tuple q its m dct sl) ⟨hq, ?_⟩
  have sz : (s.heap.push { cls := .type "tuple_iterator", data := .fields #[.ref q, .int 0 0] }).objs.size = s.heap.objs.size + 1 := Heap.size_push ..
  show _ ∧ _
  rw [sz]
  have ie : IsEnum ((s.heap.push { cls := .type "tuple_iterator", data := .fields #[.ref q, .int 0 0] }).push
      { cls := .type "enumerate", data := .fields #[.none, .bool false, .ref s.heap.objs.size, rawInt 0, .none, .none] }) (s.heap.objs.size + 1) s.heap.objs.size 0 .none := by
    have z := Heap.get?_push_size (s.heap.push { cls := .type "tuple_iterator", data := .fields #[.ref q, .int 0 0] })
      (o := { cls := .type "enumerate", data := .fields #[.none, .bool false, .ref s.heap.objs.size, rawInt 0, .none, .none] }) rfl
    rw [sz] at z
    exact z
  exact ⟨⟨_, ie, rfl⟩, k _ ie ⟨_, Heap.get?_push_of_some _ (Heap.get?_push_size _ rfl), rfl, rfl⟩ fun b o x => Heap.get?_push_of_some _ (Heap.get?_push_of_some _ x)⟩
end
end PySem
namespace Ts
open PySem PySem.Spec PyProof.Rows L2
open Evl (Ex)
/-- the tuple at a: pairs of index and item, in new tuples -/
def ItE (K : PySem.W.Frag) (a : Addr) : It :=
  ⟨fun i H => ∃ (xs : List V) (x : V), SqT K H a xs ∧ xs[i]? = some x, fun i H v H' => ∃ T x, v = .ref T ∧ H T = none ∧ H' = upd H T (.tup [.int (i : Nat), x]) ∧ ∀ xs, SqT K H a xs → xs[i]? = some x,
    fun i H => ∃ xs : List V, SqT K H a xs ∧ xs.length = i⟩
theorem turn_enumE {P : Program} {w : World} {K : PySem.W.Frag} {elts : List Expr} {kk : Nat} {tpos : Pos} (a e it : Addr) :
    Turn P w K (.Tuple elts kk tpos) (ItE K a) [e, it] e (fun i h => (∃ old, IsEnum h e it ((i : Nat) : Int) old) ∧ h.IsTupleIter it a i ∧ e ≠ it) where
  mem := by simp
  obj := fun i h st b hb => by
    obtain ⟨⟨old, ie⟩, ⟨o, ho, hc, hd⟩, _⟩ := st
    have eb : b = e ∨ b = it := by simpa using hb
    rcases eb with rfl | rfl
    · exact ⟨_, ie, fun v q => nomatch q⟩
    · exact ⟨o, ho, fun v q => by rw [hd] at q; cases q⟩
  keep := fun i h h' ⟨⟨old, ie⟩, hi, ne⟩ k => ⟨⟨old, k e (by simp) _ ie⟩, hi.at fun o q => k it (by simp) o q, ne⟩
  item := by
    intro X hP hw hK hc i pins s σ H E I hf st hg
    subst hP hw hK
    obtain ⟨⟨old, ie⟩, hit, ne⟩ := st
    obtain ⟨xs, x, hq, hx⟩ := hg
    obtain ⟨its, rv, pt, hz⟩ := I.tuple hq
    obtain ⟨u, hu, ru⟩ := rv.get hx
    have tup : s.heap.IsTuple a its.toArray := pt
    have lte : e < s.heap.objs.size := Heap.lt_size ie
    have lti : it < s.heap.objs.size := by
      obtain ⟨_, q, _⟩ := hit
      exact Heap.lt_size q
    have nea : e ≠ a := fun z => by
      obtain ⟨o, q1, q2, _⟩ := tup
      rw [← z, ie] at q1
      cases q1
      exact absurd (Value.type.inj q2) (by decide)
    have nia : a ≠ it := fun z => by
      obtain ⟨o, q1, q2, _⟩ := tup
      obtain ⟨o', p1, p2, _⟩ := hit
      rw [z, p1] at q1
      cases q1
      rw [p2] at q2
      exact absurd (Value.type.inj q2) (by decide)
    have hi : i < its.toArray.size := by
      have := (List.getElem?_eq_some_iff.mp hu).1
      simpa using this
    refine wpAny_pyNext_enum_itemD (Draws.tuple (A := X.A.in1) (I.ok.hd hc) it a nia its.toArray) ie ⟨hit, tup⟩ hi ne (by simp [ne, nea]) fun v h' tk hv ho hst hT hsz hk => ?_
    obtain rfl : v = u := by
      have z : its.toArray[i]? = some v := hv
      rw [List.getElem?_toArray, hu] at z
      exact (Option.some.inj z).symm
    refine ⟨_, rfl, wpAny_letOwnedTupleGo_enum (s := { s with heap := h', toks := tk + 1 }) ho fun g he' sb => ?_⟩
    have hT2 : g.get? s.heap.objs.size = some { cls := .type "tuple", data := .seq #[.int i tk, v] } := (sb.2 _ (Nat.ne_of_gt lte)).trans hT
    have new : ObjOk X.prog X.w (upd H s.heap.objs.size (.tup [.int (i : Nat), x])) g s.heap.objs.size (.tup [.int (i : Nat), x]) := ⟨by show 2 ≤ sizeLine; decide, [.int i tk, v], .cons ⟨_, rfl⟩ (.cons ru .nil), ⟨_, hT2, rfl, _, rfl⟩⟩
    have J : Inv X pins σ (upd H s.heap.objs.size (.tup [.int (i : Nat), x])) { s with heap := g, toks := tk + 1 } :=
      I.turnedNew (ch := [e, it]) (fun b ob hb q => by
        have n1 : b ≠ e := fun z => hb (by simp [z])
        have n2 : b ≠ it := fun z => hb (by simp [z])
        exact (sb.2 b n1).trans (hk b ob n1 n2 q)) hf (Nat.le_refl _) new
    refine ⟨.ref s.heap.objs.size, _, J, rfl, ⟨_, x, rfl, I.hok.fresh (Nat.le_refl _), rfl, fun ys hy => by rw [I.tuple_inj hy hq]; exact hx⟩, ⟨⟨v, ?_⟩, hst.1.at fun o q => (sb.2 it (Ne.symm ne)).trans q, ne⟩, fun b hb => ?_⟩
    · have e1 : ((i + 1 : Nat) : Int) = (i : Int) + 1 := by omega
      rw [e1]
      exact he'
    · have hb' : b < s.heap.objs.size := by
        have eb : b = e ∨ b = it := by simpa using hb
        rcases eb with rfl | rfl
        · exact lte
        · exact lti
      rw [upd_ne (Nat.ne_of_lt hb')]
      exact (hf b hb).1
  done := by
    intro X hP hw hK hc i pins s σ H E I hf st hg
    subst hP hw hK
    obtain ⟨⟨old, ie⟩, hit, ne⟩ := st
    obtain ⟨xs, hq, hx⟩ := hg
    obtain ⟨its, rv, pt, hz⟩ := I.tuple hq
    have tup : s.heap.IsTuple a its.toArray := pt
    have nia : a ≠ it := fun z => by
      obtain ⟨o, q1, q2, _⟩ := tup
      obtain ⟨o', p1, p2, _⟩ := hit
      rw [z, p1] at q1
      cases q1
      rw [p2] at q2
      exact absurd (Value.type.inj q2) (by decide)
    obtain ⟨f0, f1, f2, f3, f4, f5⟩ := hf it (by simp)
    have hl := rv.length
    have en : i = its.toArray.size := by
      rw [List.size_toArray]
      omega
    subst en
    exact wpAny_pyNext_enum_endD (Draws.tuple (A := X.A.in1) (I.ok.hd hc) it a nia its.toArray) ie ⟨hit, tup⟩ fun h' eb => ⟨rfl, I.turned (t' := s.toks) (fun b o hb q => eb b o hb q) f0 f1 f3 f4 f5⟩
  self := fun A i s Q E ⟨⟨_, ie⟩, _⟩ k => wpAny_pyIter_enum ie k
def iEnT (K : PySem.W.Frag) (ta : TA) : TI := fun σ H R => ta σ H fun vs H1 => ∃ a xs, vs = [.ref a] ∧ SqT K H1 a xs ∧ R (ItE K a) H1
theorem pi_enumT {X : Cx} {e : Expr} {ta : TA} {p pos tpos : Pos} {elts : List Expr} {kk : Nat} (hg : Gl X "enumerate") (hm : X.mg "enumerate" = none) (ha : PA X [e] ta) (hs : starEach [e] X.env = [(false, eval e X.env)] := by rfl) :
    PI X (.Tuple elts kk tpos) (.Call (.Name "enumerate" p) [e] [] pos) (iEnT X.K ta) := by
  refine ⟨fun pins s σ H R I h => ?_⟩
  refine Call_ (ld_blt I hg hm boot_enumerate (PyProof.Rows.callWith_type1 (thn (ha.run pos pins s σ H _ I h) fun us s1 z => ?_) hs rfl))
  obtain ⟨vs, H1, I1, r1, a, xs, rfl, hq, q⟩ := z
  obtain rfl := Vals.ref1 r1
  obtain ⟨its, rv, pt, hz⟩ := I1.tuple hq
  refine call_enum_tuple (show s1.heap.IsTuple a its.toArray from pt) fun h' ie hit hk => wpAny_pyIter_enum ie ?_
  have I2 : Inv X pins σ H1 { s1 with heap := h' } := I1.kept (t' := s1.toks) hk
  refine ⟨s1.heap.objs.size + 1, [s1.heap.objs.size + 1, s1.heap.objs.size], _, _, H1, rfl, I2, turn_enumE a (s1.heap.objs.size + 1) s1.heap.objs.size, ⟨⟨.none, ie⟩, hit, Nat.succ_ne_self _⟩, fun b hb => ?_, q⟩
  have hle : s1.heap.objs.size ≤ b := by
    have eb : b = s1.heap.objs.size + 1 ∨ b = s1.heap.objs.size := by simpa using hb
    rcases eb with z | z
    · rw [z]
      exact Nat.le_succ _
    · rw [z]
      exact Nat.le_refl _
  exact I1.fpOk hle (I1.hok.fresh hle)
end Ts
namespace Ts
open PySem PySem.Spec L2
open Evl (Ex)
theorem walk_enumT {K : PySem.W.Frag} {a : Addr} {xs : List V} : Walk (ItE K a) xs.length (fun H => SqT K H a xs) (YPair (fun i => some (.int (i : Nat))) (fun i => xs[i]?)) := by
  refine ⟨fun i _ hi q => ⟨xs, xs[i], q, by simp [hi]⟩, fun _ q => ⟨xs, q, rfl⟩, fun i H v H' _ q y => ?_⟩
  obtain ⟨T, x, h1, h2, h3, h4⟩ := y
  exact ⟨T, .int (i : Nat), x, h1, h2, h3, rfl, h4 xs q⟩
/-- for (.., ..) in enumerate(row) -/
theorem for_enum_row {K : PySem.W.Frag} {i : Nat} {g : TG} {tb : TS} {D : Ends} {σ : L2.St} {H : Hp} {a : Addr} {xs : List V} (hσ : σ[i]? = some (some (.ref a))) (hr : Row H a xs) (Pv : Nat → L2.St → Hp → Prop) (h0 : Pv 0 σ H) (hG : ∀ j σ' H', Pv j σ' H' → ∀ o, H a = some o → H' a = some o)
    (hs : ∀ j x σ' H' T, xs[j]? = some x → Pv j σ' H' → H' T = none → g (.ref T) σ' (upd H' T (.tup [.int (j : Nat), x])) fun σ2 H2 => tb { D with nx := Pv (j + 1), ct := Pv (j + 1), bk := D.nx } σ2 H2) (hd : ∀ σ' H', Pv xs.length σ' H' → D.nx σ' H') :
    tFor (iOr (iEnum K (tCons (tVar i) tNil)) (iEnT K (tCons (tVar i) tNil))) g tb D σ H := by
  have step : ∀ j x σ' H' H'', j < xs.length → Pv j σ' H' → YPair (fun i => some (.int (i : Nat))) (fun i => xs[i]?) j H' x H'' → g x σ' H'' fun σ2 H2 => tb { D with nx := Pv (j + 1), ct := Pv (j + 1), bk := D.nx } σ2 H2 := fun j x σ' H' H'' hj p y => by
    obtain ⟨T, u, v, rfl, hT, rfl, h1, h2⟩ := y
    cases h1
    exact hs j v σ' H' T h2 p hT
  rcases hr with h | h
  · exact .inl ⟨_, hσ, a, xs, rfl, SqL.of h, for_it (walk_enum (xs := xs)) Pv h0 (fun j σ' H' _ p => SqL.of (hG j σ' H' p _ h)) step hd⟩
  · exact .inr ⟨_, hσ, a, xs, rfl, SqT.of h, for_it (walk_enumT (xs := xs)) Pv h0 (fun j σ' H' _ p => SqT.of (hG j σ' H' p _ h)) step hd⟩
abbrev s_numf := top 14
def numAt : List PyData → Nat → Option Nat
  | [], _ => none
  | d :: ds, i => if isNum d = true then numAt ds (i + 1) else some i
theorem numAt_none : ∀ (l : List PyData) (i : Nat), (numAt l i).isNone = l.all isNum
  | [], _ => rfl
  | d :: ds, i => by
    unfold numAt
    rw [List.all_cons]
    cases h : isNum d with
    | true => rw [if_pos rfl, Bool.true_and]; exact numAt_none ds (i + 1)
    | false => rw [if_neg (by decide), Bool.false_and]; rfl
def numF (d : PyData) : V := if isRow d = true then (match numAt (items d) 0 with
  | some i => .int (i : Nat)
  | none => .non) else .int 0
theorem numF_non (d : PyData) : decide (numF d = .non) = isNums d := by
  unfold numF isNums
  cases h : isRow d with
  | false => rfl
  | true =>
    rw [if_pos rfl, Bool.true_and, ← numAt_none _ 0]
    cases numAt (items d) 0 <;> rfl
section
variable {P : Program} {w : World} {K : PySem.W.Frag} {mg : Str → Option Value} {base : Heap}
theorem sc_numf : FnScope ["thing", "index", "part"] ["thing"] (defScope s_numf) := ⟨rfl, rfl, rfl, by decide +kernel, rfl, by decide +kernel, by decide +kernel⟩
def spNumF : Sp := fun vs H Q _ => ∃ v d, vs = [v] ∧ D H v d ∧ ∀ H', Ex H H' → Q (numF d) H'
theorem ok_numf {f f1 f2 f3 : Addr} {fd fd1 fd2 fd3 : FuncData} (F : FD K mg "numbers_fault" "numbers_fault" s_numf f fd) (F1 : FD K mg "is_row" "is_row" s_is_row f1 fd1) (F2 : FD K mg "is_number" "is_number" s_is_number f2 fd2)
    (F3 : FD K mg "is_integer" "is_integer" s_is_integer f3 fd3) (T : Bl mg) (henum : mg "enumerate" = none) : FnOk P w K mg base CX0 3 f fd ["thing"] spNumF := by
  have G1 : FnOk P w K mg base CX0 1 f1 fd1 ["thing"] (spAsk isRow) := ok_is_row F1 T
  have G2 : FnOk P w K mg base CX0 2 f2 fd2 ["thing"] (spAsk isNum) := ok_is_number F2 F3 T
  refine F.F.ok sc_numf (fun vs H Q E h => ?_) (fun cdv A outer s H vs Q E hr h => ?_)
  · obtain ⟨v, d, rfl, _⟩ := h
    rfl
  · obtain ⟨v, d, rfl, hd, k⟩ := h
    have nd := sc_numf.nd
    refine ⟨_, pss_cons (ps_if (pt_not (pt_val (pe_call G1 (hr.mono (by decide)) (by rfl) F1.g F1.F.kp (b_is_row F1) .nil pass0 (pa_cons (pv 0) pa_nil)))) (pss_one (ps_ret pe_int)) pss_nil)
      (pss_cons (ps_for PassesOwn.never rfl (pi_or (pi_enum (by rfl) henum (pa_cons (pv 0) pa_nil)) (pi_enumT (by rfl) henum (pa_cons (pv 0) pa_nil))) (pg_tup rfl (pgs_cons (pg_name (i := 1) nd rfl (Or.inl rfl)) (pgs_cons (pg_name (i := 2) nd rfl (Or.inl rfl)) pgs_nil)))
        (pss_one (ps_if (pt_not (pt_val (pe_call G2 (hr.mono (by decide)) (by rfl) F2.g F2.F.kp (b_is_number F2) .nil pass0 (pa_cons (pv 2) pa_nil)))) (pss_one (ps_ret (pv 1))) pss_nil)))
      (pss_one (ps_ret pe_non))), ?_⟩
    refine ⟨_, rfl, v, d, rfl, hd, fun H1 e1 => ⟨_, rfl, ?_⟩⟩
    by_cases hrw : isRow d = true
    · obtain ⟨a, xs, rfl, hrow, hall⟩ := hd.row hrw
      rw [hrw]
      refine iteF ?_
      have hlen := hall.len
      have hv : ∀ H', Ex H H' → Q (match numAt (items d) 0 with
          | some i => .int (i : Nat)
          | none => .non) H' := fun H' e => by
        have z := k H' e
        unfold numF at z
        rw [if_pos hrw] at z
        exact z
      have ha2 : ∀ H1 H', Ex H H1 → Ex H H' → ∀ o, H1 a = some o → H' a = some o := fun H1 H' e1 e o ho => by
        rcases hrow with h | h
        · rw [e1 _ _ h] at ho
          rw [← ho]
          exact e _ _ h
        · rw [e1 _ _ h] at ho
          rw [← ho]
          exact e _ _ h
      refine for_enum_row (K := K) (i := 0) (a := a) (xs := xs) rfl (hrow.ex e1) (fun j σ H' => ∃ (v4 v5 : Option V), σ = [some (.ref a), v4, v5] ∧ Ex H H' ∧ numAt (items d) 0 = numAt ((items d).drop j) j)
        ⟨none, none, rfl, e1, rfl⟩ (fun j σ' H' q' o ho => ?_) (fun j x σ' H' Tq hx q' nT => ?_) (fun σ' H' q' => ?_)
      · obtain ⟨v4, v5, _, e, _⟩ := q'
        exact ha2 _ H' e1 e o ho
      · obtain ⟨v4, v5, rfl, e, hf⟩ := q'
        obtain ⟨dx, hdx, Dx⟩ := hall.get hx
        have eT := Ex.new (o := .tup [.int (j : Nat), x]) nT
        have hT : upd H' Tq (.tup [.int (j : Nat), x]) Tq = some (.tup [.int (j : Nat), x]) := upd_same
        generalize upd H' Tq (.tup [.int (j : Nat), x]) = H3 at eT hT
        have hj : (items d).drop j = dx :: (items d).drop (j + 1) := by
          have q := (List.getElem?_eq_some_iff.mp hdx)
          obtain ⟨q1, q2⟩ := q
          rw [List.drop_eq_getElem_cons q1, q2]
        rw [hj] at hf
        have e3 := e.trans eT
        refine ⟨Tq, _, rfl, SqT.of hT, rfl, _, _, rfl, _, _, rfl, rfl, ?_⟩
        refine ⟨_, rfl, x, dx, rfl, Dx.ex e3, fun H4 e4 => ⟨_, rfl, ?_⟩⟩
        have e34 := e3.trans e4
        cases cr : isNum dx with
        | false =>
          refine iteT ?_
          have hf2 : numAt (items d) 0 = some j := by
            rw [hf]
            show (if isNum dx = true then numAt ((items d).drop (j + 1)) (j + 1) else some j) = _
            rw [cr, if_neg Bool.false_ne_true]
          have q := hv H4 e34
          rw [hf2] at q
          exact ⟨_, rfl, q⟩
        | true =>
          refine iteF ?_
          have hf2 : numAt (items d) 0 = numAt ((items d).drop (j + 1)) (j + 1) := by
            rw [hf]
            show (if isNum dx = true then numAt ((items d).drop (j + 1)) (j + 1) else some j) = _
            rw [if_pos cr]
          exact ⟨_, _, rfl, e34, hf2⟩
      · obtain ⟨v4, v5, rfl, e, hf⟩ := q'
        have q := hv H' e
        rw [hf, List.drop_of_length_le (by omega)] at q
        exact q
    · have hf : isRow d = false := by simpa using hrw
      rw [hf]
      have z := k H1 e1
      unfold numF at z
      rw [if_neg hrw] at z
      exact iteT z
theorem ok_is_numbers {f f1 f2 f3 f4 : Addr} {fd fd1 fd2 fd3 fd4 : FuncData} (F : FD K mg "is_numbers" "is_numbers" s_is_numbers f fd) (F1 : FD K mg "is_row" "is_row" s_is_row f1 fd1) (F2 : FD K mg "is_number" "is_number" s_is_number f2 fd2)
    (F3 : FD K mg "is_integer" "is_integer" s_is_integer f3 fd3) (F4 : FD K mg "numbers_fault" "numbers_fault" s_numf f4 fd4) (T : Bl mg) (henum : mg "enumerate" = none) : FnOk P w K mg base CX0 4 f fd ["thing"] (fun vs H Q E => ∃ v d, vs = [v] ∧ D H v d ∧ (items d).length ≤ 100000 ∧ ∀ H', Ex H H' → Q (.bl (isNums d)) H') := by
  have G4 : FnOk P w K mg base CX0 3 f4 fd4 ["thing"] spNumF := ok_numf F4 F1 F2 F3 T henum
  have b4 : Binds K fd4 ["thing"] [] := F4.F.binds fun _ _ _ _ _ _ us hl => match us, hl with | [_], _ => rfl
  refine F.F.ok sc_is_numbers (fun vs H Q E h => ?_) (fun cdv A outer s H vs Q E hr h => ?_)
  · obtain ⟨v, d, rfl, _⟩ := h
    rfl
  · obtain ⟨v, d, rfl, hd, hz, k⟩ := h
    refine ⟨_, pss_one (ps_ret (pe_cmpR op_isN (pe_call G4 hr (by rfl) F4.g F4.F.kp b4 .nil pass0 (pa_cons (pv 0) pa_nil)) pe_non (nomark _))), ?_⟩
    refine ⟨_, rfl, v, d, rfl, hd, fun H1 e1 => ⟨rfl, ?_⟩⟩
    have z := k H1 e1
    rw [← numF_non] at z
    exact z
end
end Ts


set_option Elab.async false
set_option linter.all false
set_option maxRecDepth 100000
set_option maxHeartbeats 2000000
namespace Ts
open PySem PySem.Spec L2
open Evl (Ex)
def intOf : PyData → Int
  | .int i => i | _ => 0
theorem isNum_int {d : PyData} (h : isNum d = true) : ∃ i, d = .int i ∧ 0 ≤ i := by
  cases d <;> first
    | (exact ⟨_, rfl, of_decide_eq_true h⟩)
    | cases h
def headIs0 : List PyData → Bool
  | x :: _ => decide (intOf x = 0) | [] => false
def paper4 (b p g t : PyData) : Bool :=
  isNum b && (isNum p && (isNum g && (!decide (intOf b = 0) && (!decide (intOf p = 0) && (isNums t && (decide (((items t).length : Int) = intOf b + intOf p) && headIs0 (items t)))))))
def isPaper (d : PyData) : Bool := isRow d && (match items d with
  | [b, p, g, t] => paper4 b p g t
  | _ => false)
theorem isPaper_len {d : PyData} (h : (items d).length ≠ 4) : isPaper d = false := by
  unfold isPaper
  split
  · rename_i e
    rw [e] at h
    exact absurd rfl h
  · rw [Bool.and_false]
theorem isPaper_row {d : PyData} (h : isRow d = false) : isPaper d = false := by
  unfold isPaper
  rw [h, Bool.false_and]
theorem isPaper_4 {d b p g t : PyData} (h : isRow d = true) (e : items d = [b, p, g, t]) : isPaper d = paper4 b p g t := by
  unfold isPaper
  rw [h, e, Bool.true_and]
theorem DAll.four {H : Hp} {xs : List V} {b p g t : PyData} (h : DAll H xs [b, p, g, t]) : ∃ vb vp vg vt, xs = [vb, vp, vg, vt] ∧ D H vb b ∧ D H vp p ∧ D H vg g ∧ D H vt t := by
  cases h with
  | cons h1 r =>
    cases r with
    | cons h2 r =>
      cases r with
      | cons h3 r =>
        cases r with
        | cons h4 r =>
          cases r
          exact ⟨_, _, _, _, rfl, h1, h2, h3, h4⟩
theorem D.int_of {H : Hp} {v : V} {i : Int} (h : D H v (.int i)) : v = .int i := by
  cases h
  rfl
section
variable {P : Program} {w : World} {K : PySem.W.Frag} {mg : Str → Option Value} {base : Heap}
abbrev s_is_paper := top 20
theorem sc_is_paper : FnScope ["thing", "begin", "period", "gain", "told"] ["thing"] (defScope s_is_paper) := ⟨rfl, rfl, rfl, by decide +kernel, rfl, by decide +kernel, by decide +kernel⟩
def spPaper : Sp := fun vs H Q _ => ∃ v d, vs = [v] ∧ D H v d ∧ (∀ t ∈ items d, (items t).length ≤ 100000) ∧ ∀ H', Ex H H' → Q (.bl (isPaper d)) H'
theorem ok_is_paper {f f1 f2 f3 : Addr} {fd fd1 fd2 fd3 : FuncData} (F : FD K mg "is_paper" "is_paper" s_is_paper f fd) (F1 : FD K mg "is_row" "is_row" s_is_row f1 fd1) (F2 : FD K mg "is_number" "is_number" s_is_number f2 fd2)
    (F3 : FD K mg "is_numbers" "is_numbers" s_is_numbers f3 fd3) (G1 : FnOk P w K mg base CX0 1 f1 fd1 ["thing"] (spAsk isRow)) (G2 : FnOk P w K mg base CX0 2 f2 fd2 ["thing"] (spAsk isNum))
    (G3 : FnOk P w K mg base CX0 4 f3 fd3 ["thing"] (fun vs H Q E => ∃ v d, vs = [v] ∧ D H v d ∧ (items d).length ≤ 100000 ∧ ∀ H', Ex H H' → Q (.bl (isNums d)) H')) (T : Bl mg) : FnOk P w K mg base CX0 5 f fd ["thing"] spPaper := by
  have b3 : Binds K fd3 ["thing"] [] := F3.F.binds fun _ _ _ _ _ _ us hl => match us, hl with | [_], _ => rfl
  refine F.F.ok sc_is_paper (fun vs H Q E h => ?_) (fun cdv A outer s H vs Q E hr h => ?_)
  · obtain ⟨v, d, rfl, _⟩ := h
    rfl
  · obtain ⟨v, d, rfl, hd, hz, k⟩ := h
    have nd := sc_is_paper.nd
    have hr1 : Room 1 _ := hr.mono (by decide)
    have hr2 : Room 2 _ := hr.mono (by decide)
    refine ⟨_, pss_cons (ps_if (PW.pt (pw_or (pt_not (pt_val (pe_call G1 hr1 (by rfl) F1.g F1.F.kp (b_is_row F1) .nil pass0 (pa_cons (pv 0) pa_nil)))) (pw_or1 (pt_cmpR op_ne (pe_callB call_len_seq (by rfl) T.len PySem.boot_len (pa_cons (pv 0) pa_nil)) pe_int (nomark _))))) (pss_one (ps_ret pe_bl)) pss_nil)
      (pss_cons (ps_asg (pv 0) (pg_or (pg_tup rfl (pgs_cons (pg_name (i := 1) nd rfl (Or.inl rfl)) (pgs_cons (pg_name (i := 2) nd rfl (Or.inl rfl)) (pgs_cons (pg_name (i := 3) nd rfl (Or.inl rfl)) (pgs_cons (pg_name (i := 4) nd rfl (Or.inl rfl)) pgs_nil)))))
          (pg_unl rfl (pgs_cons (pg_name (i := 1) nd rfl (Or.inl rfl)) (pgs_cons (pg_name (i := 2) nd rfl (Or.inl rfl)) (pgs_cons (pg_name (i := 3) nd rfl (Or.inl rfl)) (pgs_cons (pg_name (i := 4) nd rfl (Or.inl rfl)) pgs_nil)))))))
      (pss_cons (ps_if (PW.pt (pw_or (pt_not (pt_val (pe_call G2 hr2 (by rfl) F2.g F2.F.kp (b_is_number F2) .nil pass0 (pa_cons (pv 1) pa_nil)))) (pw_or (pt_not (pt_val (pe_call G2 hr2 (by rfl) F2.g F2.F.kp (b_is_number F2) .nil pass0 (pa_cons (pv 2) pa_nil))))
          (pw_or (pt_not (pt_val (pe_call G2 hr2 (by rfl) F2.g F2.F.kp (b_is_number F2) .nil pass0 (pa_cons (pv 3) pa_nil)))) (pw_or (pt_cmpR op_eq (pv 1) pe_int (nomark _)) (pw_or1 (pt_cmpR op_eq (pv 2) pe_int (nomark _)))))))) (pss_one (ps_ret pe_bl)) pss_nil)
      (pss_one (ps_ret (pe_and (pe_call G3 hr (by rfl) F3.g F3.F.kp b3 .nil pass0 (pa_cons (pv 4) pa_nil)) (pe_and (pe_cmpR op_eq (pe_callB call_len_seq (by rfl) T.len PySem.boot_len (pa_cons (pv 4) pa_nil)) (pe_op op_add (pv 1) (pv 2)) (nomark _))
        (pe_one (pe_cmpR op_eq (pe_ix ix_seq (pv 4) pe_int (fun _ _ => rfl)) pe_int (nomark _))))))))), ?_⟩
    refine ⟨_, rfl, v, d, rfl, hd, fun H1 e1 => ⟨_, rfl, ?_⟩⟩
    by_cases hrw : isRow d = true
    · obtain ⟨a, xs, rfl, hrow, hall⟩ := hd.row hrw
      rw [hrw]
      refine iteF ?_
      refine ⟨_, rfl, a, xs, rfl, (hrow.ex e1).sq, rfl, _, rfl, ?_⟩
      by_cases h4 : (items d).length = 4
      · have e4 : (!decide (V.int ((xs.length : Nat) : Int) = V.int 4)) = false := by rw [hall.len, h4]; rfl
        rw [e4]
        refine iteF ?_
        obtain ⟨b, p, g, t, e⟩ : ∃ b p g t, items d = [b, p, g, t] := by
          match h : items d, h4 with
          | [b, p, g, t], _ => exact ⟨b, p, g, t, rfl⟩
        rw [e] at hall
        obtain ⟨vb, vp, vg, vt, rfl, hb, hp, hg, ht⟩ := hall.four
        have k' := fun H' (z : Ex H H') => k H' z
        rw [isPaper_4 hrw e] at k'
        unfold paper4 at k'
        refine ⟨_, rfl, g_row (hrow.ex e1) rfl ⟨_, _, rfl, _, _, rfl, _, _, rfl, _, _, rfl, rfl, ?_⟩⟩
        refine ⟨_, rfl, vb, b, rfl, hb.ex e1, fun H2 e2 => ⟨_, rfl, ?_⟩⟩
        have e12 := e1.trans e2
        cases nb : isNum b with
        | false =>
          rw [nb] at k'
          exact iteT (iteT (k' H2 e12))
        | true =>
          rw [nb] at k'
          obtain ⟨ib, rfl, _⟩ := isNum_int nb
          obtain rfl := hb.int_of
          refine iteF ?_
          refine ⟨_, rfl, vp, p, rfl, hp.ex e12, fun H3 e3 => ⟨_, rfl, ?_⟩⟩
          have e13 := e12.trans e3
          cases np : isNum p with
          | false =>
            rw [np] at k'
            exact iteT (iteT (k' H3 e13))
          | true =>
            rw [np] at k'
            obtain ⟨ip, rfl, _⟩ := isNum_int np
            obtain rfl := hp.int_of
            refine iteF ?_
            refine ⟨_, rfl, vg, g, rfl, hg.ex e13, fun H4 e4 => ⟨_, rfl, ?_⟩⟩
            have e14 := e13.trans e4
            cases ng : isNum g with
            | false =>
              rw [ng] at k'
              exact iteT (iteT (k' H4 e14))
            | true =>
              rw [ng] at k'
              refine iteF ⟨_, rfl, rfl, _, rfl, ?_⟩
              by_cases zb : ib = 0
              · subst zb
                exact iteT (iteT (k' H4 e14))
              · have eb : decide (V.int ib = V.int 0) = false := decide_eq_false fun z => zb (V.int.inj z)
                have eb' : decide (intOf (.int ib) = 0) = false := decide_eq_false zb
                rw [eb]
                rw [eb'] at k'
                refine iteF ⟨_, rfl, rfl, _, rfl, ?_⟩
                by_cases zp : ip = 0
                · subst zp
                  exact iteT (k' H4 e14)
                · have ep : decide (V.int ip = V.int 0) = false := decide_eq_false fun z => zp (V.int.inj z)
                  have ep' : decide (intOf (.int ip) = 0) = false := decide_eq_false zp
                  rw [ep]
                  rw [ep'] at k'
                  refine iteF ?_
                  refine ⟨_, rfl, vt, t, rfl, ht.ex e14, hz t (by rw [e]; simp), fun H5 e5 => ⟨_, rfl, ?_⟩⟩
                  have e15 := e14.trans e5
                  cases nt : isNums t with
                  | false =>
                    rw [nt] at k'
                    exact iteF (k' H5 e15)
                  | true =>
                    rw [nt] at k'
                    have rt : isRow t = true := by
                      unfold isNums at nt
                      exact (Bool.and_eq_true_iff.mp nt).1
                    have at' : (items t).all isNum = true := by
                      unfold isNums at nt
                      exact (Bool.and_eq_true_iff.mp nt).2
                    obtain ⟨at_, ts, rfl, trow, tall⟩ := ht.row rt
                    refine iteT ?_
                    refine ⟨_, rfl, at_, ts, rfl, (trow.ex e15).sq, _, rfl, _, rfl, _, _, rfl, rfl, rfl, _, rfl, ?_⟩
                    by_cases hl : ((items t).length : Int) = ib + ip
                    · have el : decide (V.int ((ts.length : Nat) : Int) = V.int (ib + ip)) = true := decide_eq_true (by rw [tall.len, hl])
                      have el' : decide (((items t).length : Int) = intOf (.int ib) + intOf (.int ip)) = true := decide_eq_true hl
                      rw [el]
                      rw [el'] at k'
                      refine iteT ?_
                      cases hi : items t with
                      | nil =>
                        rw [hi] at hl
                        have i1 : 0 ≤ ib := by assumption
                        have i2 : 0 ≤ ip := by assumption
                        simp at hl
                        omega
                      | cons x rest =>
                        rw [hi] at tall k' at'
                        cases tall with
                        | cons hx hrest =>
                          have nx : isNum x = true := by
                            rw [List.all_cons] at at'
                            exact (Bool.and_eq_true_iff.mp at').1
                          obtain ⟨ix, rfl, _⟩ := isNum_int nx
                          obtain rfl := hx.int_of
                          refine ⟨_, rfl, ix_row (trow.ex e15) (atI_nat (j := 0) rfl) ⟨rfl, ?_⟩⟩
                          have z := k' H5 e15
                          have ez : decide (V.int ix = V.int 0) = decide (ix = 0) := by
                            by_cases c : ix = 0
                            · rw [c]; rfl
                            · rw [decide_eq_false c, decide_eq_false fun q => c (V.int.inj q)]
                          rw [ez]
                          exact z
                    · have el : decide (V.int ((ts.length : Nat) : Int) = V.int (ib + ip)) = false := decide_eq_false fun z => hl (by rw [← tall.len]; exact V.int.inj z)
                      have el' : decide (((items t).length : Int) = intOf (.int ib) + intOf (.int ip)) = false := decide_eq_false hl
                      rw [el]
                      rw [el'] at k'
                      exact iteF (k' H5 e15)
      · have e4 : (!decide (V.int ((xs.length : Nat) : Int) = V.int 4)) = true := by
          rw [hall.len, decide_eq_false fun z => h4 (by have := V.int.inj z; omega)]
          rfl
        rw [e4]
        have z := k H1 e1
        rw [isPaper_len h4] at z
        exact iteT z
    · have hf : isRow d = false := by simpa using hrw
      rw [hf]
      have z := k H1 e1
      rw [isPaper_row hf] at z
      exact iteT (iteT z)
end
end Ts


set_option Elab.async false
set_option linter.all false
set_option maxRecDepth 100000
set_option maxHeartbeats 2000000
namespace Ts
open PySem PySem.Spec L2
open Evl (Ex)
theorem atI_int {α : Type} {xs : List α} {i : Int} {v : α} (h0 : 0 ≤ i) (h : xs[i.toNat]? = some v) : atI xs i = some v := by
  have q := atI_nat h
  rw [Int.toNat_of_nonneg h0] at q
  exact q
/-- a paper as it stands in memory -/
def PapAt (H : Hp) (v : V) (b p g : Int) (ns : List Int) : Prop := ∃ a t, v = .ref a ∧ Row H a [.int b, .int p, .int g, .ref t] ∧ Row H t (ns.map V.int)
theorem PapAt.ex {H H' : Hp} (e : Ex H H') {v : V} {b p g : Int} {ns : List Int} (h : PapAt H v b p g ns) : PapAt H' v b p g ns := by
  obtain ⟨a, t, rfl, h1, h2⟩ := h
  exact ⟨a, t, rfl, h1.ex e, h2.ex e⟩
structure PapOk (b p g : Int) (ns : List Int) : Prop where
  b1 : 1 ≤ b
  p1 : 1 ≤ p
  g0 : 0 ≤ g
  bb : b ≤ 10000
  pb : p ≤ 10000
  gb : g ≤ 10000
  len : (ns.length : Int) = b + p
/-- what a paper tells -/
def tell (b p g : Int) (ns : List Int) (n : Int) : Int := if n < b then ns.getD n.toNat 0 else ns.getD (b + (n - b) % p).toNat 0 + (n - b) / p * g
theorem get_map {ns : List Int} {i : Nat} (h : i < ns.length) : (ns.map V.int)[i]? = some (.int (ns.getD i 0)) := by
  rw [List.getElem?_map, List.getElem?_eq_getElem h, List.getD, List.getElem?_eq_getElem h]
  rfl
theorem divp_of {b p g n : Int} {ns : List Int} (ok : PapOk b p g ns) (n0 : 0 ≤ n) (n1 : n < 2 ^ 62) (hn : ¬ n < b) : CDivP (n - b) p := by
  have hb1 := ok.b1
  have hp1 := ok.p1
  have q := PyProof.Rows.intBits_le (a := n - b) (k := 64) (by omega)
  exact divp_ok (by omega) (by omega)
section
variable {P : Program} {w : World} {K : PySem.W.Frag} {mg : Str → Option Value} {base : Heap}
abbrev s_told_of := top 22
abbrev s_told_below := top 23
theorem sc_told_of : FnScope ["paper", "number", "begin", "period", "gain", "told", "times", "rest"] ["paper", "number"] (defScope s_told_of) := ⟨rfl, rfl, rfl, by decide +kernel, rfl, by decide +kernel, by decide +kernel⟩
def spTold : Sp := fun vs H Q _ => ∃ v n b p g ns, vs = [v, .int n] ∧ PapAt H v b p g ns ∧ PapOk b p g ns ∧ 0 ≤ n ∧ n < 2 ^ 62 ∧ ∀ H', Ex H H' → Q (.int (tell b p g ns n)) H'
theorem ok_told_of {f : Addr} {fd : FuncData} (F : FD K mg "told_of" "told_of" s_told_of f fd) (T : Bl mg) : FnOk P w K mg base CX0 1 f fd ["paper", "number"] spTold := by
  refine F.F.ok sc_told_of (fun vs H Q E h => ?_) (fun cdv A outer s H vs Q E hr h => ?_)
  · obtain ⟨v, n, b, p, g, ns, rfl, _⟩ := h
    rfl
  · obtain ⟨v, n, b, p, g, ns, rfl, ⟨a, t, rfl, hrow, trow⟩, ok, n0, n1, k⟩ := h
    have nd := sc_told_of.nd
    refine ⟨_, pss_cons (ps_asg (pv 0) (pg_or (pg_tup rfl (pgs_cons (pg_name (i := 2) nd rfl (Or.inl rfl)) (pgs_cons (pg_name (i := 3) nd rfl (Or.inl rfl)) (pgs_cons (pg_name (i := 4) nd rfl (Or.inl rfl)) (pgs_cons (pg_name (i := 5) nd rfl (Or.inl rfl)) pgs_nil)))))
          (pg_unl rfl (pgs_cons (pg_name (i := 2) nd rfl (Or.inl rfl)) (pgs_cons (pg_name (i := 3) nd rfl (Or.inl rfl)) (pgs_cons (pg_name (i := 4) nd rfl (Or.inl rfl)) (pgs_cons (pg_name (i := 5) nd rfl (Or.inl rfl)) pgs_nil)))))))
      (pss_cons (ps_if (pt_cmpR op_lt (pv 1) (pv 2) (nomark _)) (pss_one (ps_ret (pe_ix ix_seq (pv 5) (pv 1) (fun _ _ => rfl)))) pss_nil)
      (pss_cons (ps_asg (pe_callB call_divmodW (by rfl) T.divmod (by decide +kernel) (pa_cons (pe_op op_sub (pv 1) (pv 2)) (pa_cons (pv 3) pa_nil))) (pg_tup rfl (pgs_cons (pg_name (i := 6) nd rfl (Or.inl rfl)) (pgs_cons (pg_name (i := 7) nd rfl (Or.inl rfl)) pgs_nil))))
      (pss_one (ps_ret (pe_op op_add (pe_ix ix_seq (pv 5) (pe_op op_add (pv 2) (pv 7)) (fun _ _ => rfl)) (pe_op op_mul (pv 6) (pv 4))))))), ?_⟩
    refine ⟨_, rfl, g_row hrow rfl ⟨_, _, rfl, _, _, rfl, _, _, rfl, _, _, rfl, rfl, ?_⟩⟩
    refine ⟨_, rfl, _, rfl, _, _, rfl, rfl, _, rfl, ?_⟩
    have hb1 := ok.b1
    have hp1 := ok.p1
    have hl := ok.len
    by_cases hn : n < b
    · rw [decide_eq_true hn]
      refine iteT ⟨_, rfl, _, rfl, ix_row trow (atI_int n0 (get_map (by omega))) ?_⟩
      have z := k H (Ex.refl H)
      unfold tell at z
      rw [if_pos hn] at z
      exact z
    · rw [decide_eq_false hn]
      refine iteF ⟨_, rfl, _, rfl, _, _, rfl, rfl, _, rfl, _, _, rfl, divp_of ok n0 n1 hn, fun q nq => ?_⟩
      have eq := Ex.new (o := .tup [.int ((n - b) / p), .int ((n - b) % p)]) nq
      have m0 : 0 ≤ (n - b) % p := Int.emod_nonneg _ (by omega)
      have m1 : (n - b) % p < p := Int.emod_lt_of_pos _ (by omega)
      have d0 : 0 ≤ (n - b) / p := Int.ediv_nonneg (by omega) (by omega)
      have d1 : (n - b) / p ≤ n - b := Int.ediv_le_self _ (by omega)
      refine ⟨q, _, rfl, SqT.of upd_same, rfl, _, _, rfl, _, _, rfl, rfl, ?_⟩
      refine ⟨_, rfl, _, rfl, _, rfl, _, _, rfl, rfl, ix_row (trow.ex eq) (atI_int (by omega) (get_map (by omega))) ?_⟩
      refine ⟨_, rfl, _, rfl, _, _, rfl, rfl, .inl ⟨by omega, by omega⟩, _, _, rfl, rfl, ?_⟩
      have z := k _ eq
      unfold tell at z
      rw [if_neg hn] at z
      exact z
end
end Ts


set_option Elab.async false
set_option linter.all false
set_option maxRecDepth 100000
set_option maxHeartbeats 2000000
namespace Ts
open PySem PySem.Spec L2
open Evl (Ex)
def pB (d : PyData) : Int := intOf ((items d).getD 0 .none)
def pP (d : PyData) : Int := intOf ((items d).getD 1 .none)
def pG (d : PyData) : Int := intOf ((items d).getD 2 .none)
def pN (d : PyData) : List Int := (items ((items d).getD 3 .none)).map intOf
theorem DAll.ints {H : Hp} : ∀ {xs : List V} {ds : List PyData}, DAll H xs ds → ds.all isNum = true → xs = (ds.map intOf).map V.int
  | _, _, .nil, _ => rfl
  | _, _, .cons h r, e => by
    rw [List.all_cons] at e
    obtain ⟨e1, e2⟩ := Bool.and_eq_true_iff.mp e
    obtain ⟨i, rfl, _⟩ := isNum_int e1
    obtain rfl := h.int_of
    have q := DAll.ints r e2
    rw [q]
    rfl
theorem isNums_row {t : PyData} (h : isNums t = true) : isRow t = true ∧ (items t).all isNum = true := by
  unfold isNums at h
  exact Bool.and_eq_true_iff.mp h
structure IsPap (d : PyData) : Prop where
  row : isRow d = true
  its : ∃ t, items d = [.int (pB d), .int (pP d), .int (pG d), t] ∧ isNums t = true ∧ pN d = (items t).map intOf
  b1 : 1 ≤ pB d
  p1 : 1 ≤ pP d
  g0 : 0 ≤ pG d
  len : ((pN d).length : Int) = pB d + pP d
theorem isPap_of {d : PyData} (h : isPaper d = true) : IsPap d := by
  unfold isPaper at h
  obtain ⟨h1, h2⟩ := Bool.and_eq_true_iff.mp h
  split at h2
  · rename_i b p g t e
    unfold paper4 at h2
    obtain ⟨nb, h2⟩ := Bool.and_eq_true_iff.mp h2
    obtain ⟨np, h2⟩ := Bool.and_eq_true_iff.mp h2
    obtain ⟨ng, h2⟩ := Bool.and_eq_true_iff.mp h2
    obtain ⟨zb, h2⟩ := Bool.and_eq_true_iff.mp h2
    obtain ⟨zp, h2⟩ := Bool.and_eq_true_iff.mp h2
    obtain ⟨nt, h2⟩ := Bool.and_eq_true_iff.mp h2
    obtain ⟨hl, h2⟩ := Bool.and_eq_true_iff.mp h2
    obtain ⟨ib, rfl, hb⟩ := isNum_int nb
    obtain ⟨ip, rfl, hp⟩ := isNum_int np
    obtain ⟨ig, rfl, hg⟩ := isNum_int ng
    have eb : pB d = ib := by unfold pB; rw [e]; rfl
    have ep : pP d = ip := by unfold pP; rw [e]; rfl
    have eg : pG d = ig := by unfold pG; rw [e]; rfl
    have en : pN d = (items t).map intOf := by unfold pN; rw [e]; rfl
    have zb' : ¬ ib = 0 := fun z => by
      rw [decide_eq_true (show intOf (.int ib) = 0 from z)] at zb
      cases zb
    have zp' : ¬ ip = 0 := fun z => by
      rw [decide_eq_true (show intOf (.int ip) = 0 from z)] at zp
      cases zp
    have hl' : ((items t).length : Int) = ib + ip := of_decide_eq_true hl
    exact ⟨h1, ⟨t, by rw [eb, ep, eg]; exact e, nt, en⟩, by omega, by omega, by omega, by rw [en, List.length_map, eb, ep]; exact hl'⟩
  · cases h2
theorem IsPap.at {H : Hp} {v : V} {d : PyData} (h : IsPap d) (hd : D H v d) : PapAt H v (pB d) (pP d) (pG d) (pN d) := by
  obtain ⟨t, e, nt, en⟩ := h.its
  obtain ⟨a, xs, rfl, hr, hall⟩ := hd.row h.row
  rw [e] at hall
  obtain ⟨vb, vp, vg, vt, rfl, hb, hp, hg, ht⟩ := hall.four
  obtain rfl := hb.int_of
  obtain rfl := hp.int_of
  obtain rfl := hg.int_of
  obtain ⟨rt, at_⟩ := isNums_row nt
  obtain ⟨ta, ts, rfl, tr, tall⟩ := ht.row rt
  refine ⟨a, ta, rfl, hr, ?_⟩
  rw [en, ← tall.ints at_]
  exact tr
structure Sml (d : PyData) : Prop where
  b : pB d ≤ 10000
  p : pP d ≤ 10000
  g : pG d ≤ 10000
  z : ∀ t ∈ items d, (items t).length ≤ 100000
theorem IsPap.ok {d : PyData} (h : IsPap d) (s : Sml d) : PapOk (pB d) (pP d) (pG d) (pN d) := ⟨h.b1, h.p1, h.g0, s.b, s.p, s.g, h.len⟩

section
variable {P : Program} {w : World} {K : PySem.W.Frag} {mg : Str → Option Value} {base : Heap}
def below (b p g : Int) (ns : List Int) (m : Int) : List V := (List.range m.toNat).map fun i => .int (tell b p g ns (i : Nat))
theorem sc_told_below : FnScope ["paper", "end", "number"] ["paper", "end"] (defScope s_told_below) := ⟨rfl, rfl, rfl, by decide +kernel, rfl, by decide +kernel, by decide +kernel⟩
def spBelow : Sp := fun vs H Q _ => ∃ v m b p g ns, vs = [v, .int m] ∧ PapAt H v b p g ns ∧ PapOk b p g ns ∧ 0 ≤ m ∧ m ≤ 100000 ∧ ∀ x H', H x = none → Ex H H' → H' x = some (.lst (below b p g ns m)) → Q (.ref x) H'
theorem b_told_of {f : Addr} {fd : FuncData} (F : FD K mg "told_of" "told_of" s_told_of f fd) : Binds K fd ["paper", "number"] [] := F.F.binds fun _ _ _ _ _ _ us hl => match us, hl with | [_, _], _ => rfl
theorem b_told_below {f : Addr} {fd : FuncData} (F : FD K mg "told_below" "told_below" s_told_below f fd) : Binds K fd ["paper", "end"] [] := F.F.binds fun _ _ _ _ _ _ us hl => match us, hl with | [_, _], _ => rfl
theorem ok_told_below {f f1 : Addr} {fd fd1 : FuncData} (F : FD K mg "told_below" "told_below" s_told_below f fd) (F1 : FD K mg "told_of" "told_of" s_told_of f1 fd1) (T : Bl mg) : FnOk P w K mg base CX0 2 f fd ["paper", "end"] spBelow := by
  have G1 : FnOk P w K mg base CX0 1 f1 fd1 ["paper", "number"] spTold := ok_told_of F1 T
  refine F.F.ok sc_told_below (fun vs H Q E h => ?_) (fun cdv A outer s H vs Q E hr h => ?_)
  · obtain ⟨v, m, b, p, g, ns, rfl, _⟩ := h
    rfl
  · obtain ⟨v, m, b, p, g, ns, rfl, hp, ok, m0, m1, k⟩ := h
    have nd := sc_told_below.nd
    refine ⟨_, pss_one (ps_ret (pe_lc (own := [("number", 2)]) (g := gName 2) (tt := tYes) rfl nd (pi_range1 (by rfl) T.range (pa_cons (pv 1) pa_nil)) (blkOk_by (N := ["paper", "end", "number"]) (sc := defScope s_told_below) (by decide +kernel))
        (fun _ _ _ _ _ => pg_name (i := 2) nd rfl (Or.inl rfl)) (fun _ _ _ _ _ => pts_nil)
        (fun _ _ _ _ _ => pe_call G1 hr (by rfl) F1.g F1.F.kp (b_told_of F1) .nil pass0 (pa_cons (pv 0) (pa_cons (pv 2) pa_nil))))), ?_⟩
    refine ⟨_, rfl, m, rfl, by omega, by omega, lc_pure (out := fun i => .int (tell b p g ns (i : Nat))) walk_range (Evl.sz_of (by omega)) (fun _ _ => trivial) (fun i x H1 H2 hi e y => ?_) (fun x H q q' z => g_name_mono z) (fun x Hf hx e hl => k x Hf hx e hl)⟩
    obtain ⟨rfl, rfl⟩ := y
    refine ⟨Ex.refl _, rfl, Ex.refl _, fun q hq => ?_⟩
    refine ⟨_, rfl, _, rfl, v, _, b, p, g, ns, rfl, hp.ex e, ok, by omega, by omega, fun H4 e4 => ?_⟩
    have z := hq H4 e4
    rw [Int.zero_add]
    exact z
abbrev s_need_paper := top 21
theorem sc_need_paper : FnScope ["thing"] ["thing"] (defScope s_need_paper) := ⟨rfl, rfl, rfl, by decide +kernel, rfl, by decide +kernel, by decide +kernel⟩
def spNeedP (C : Addr) : Sp := fun vs H Q E => ∃ v d, vs = [v] ∧ D H v d ∧ (∀ t ∈ items d, (items t).length ≤ 100000) ∧ (isPaper d = true → ∀ H', Ex H H' → Q .non H') ∧ (isPaper d = false → ∀ H', Ex H H' → Raised H' "thing" v C E)
theorem ok_need_paper {f f1 C g : Addr} {fd fd1 fi : FuncData} (F : FD K mg "need_paper" "need_paper" s_need_paper f fd) (F1 : FD K mg "is_paper" "is_paper" s_is_paper f1 fd1) (G1 : FnOk P w K mg base CX0 5 f1 fd1 ["thing"] spPaper)
    (X : XC K mg "BadPaper" "thing" C g) (GI : FnOk P w K mg base CX0 1 g fi ["self", "thing"] (spIni C "thing")) (bI : Binds K fi ["self", "thing"] []) : FnOk P w K mg base (L2.CX P w) 6 f fd ["thing"] (spNeedP C) := by
  refine F.F.okX sc_need_paper (fun vs H Q E h => ?_) (fun cdv A outer s H vs Q E hr h => ?_)
  · obtain ⟨v, d, rfl, _⟩ := h
    rfl
  · obtain ⟨v, d, rfl, hd, hz, k1, k2⟩ := h
    have b1 : Binds K fd1 ["thing"] [] := F1.F.binds fun _ _ _ _ _ _ us hl => match us, hl with | [_], _ => rfl
    refine ⟨_, pss_one (ps_if (pt_not (pt_val (pe_call G1 hr (by rfl) F1.g F1.F.kp b1 .nil pass0 (pa_cons (pv 0) pa_nil)))) (pss_one (ps_raise1 rfl (takes_of rfl rfl rfl rfl) X GI bI (hr.mono (by decide)) (by rfl) (pv 0))) pss_nil), ?_⟩
    refine ⟨_, rfl, v, d, rfl, hd, hz, fun H1 e1 => ⟨_, rfl, ?_⟩⟩
    by_cases hp : isPaper d = true
    · rw [hp]
      exact iteF (k1 hp H1 e1)
    · have hf : isPaper d = false := by simpa using hp
      rw [hf]
      exact iteT ⟨_, rfl, raise1 (k2 hf H1 e1)⟩
abbrev s_value_at := top 24
abbrev s_values_by := top 25
theorem sc_value_at : FnScope ["paper", "heap"] ["paper", "heap"] (defScope s_value_at) := ⟨rfl, rfl, rfl, by decide +kernel, rfl, by decide +kernel, by decide +kernel⟩
theorem sc_values_by : FnScope ["paper", "most"] ["paper", "most"] (defScope s_values_by) := ⟨rfl, rfl, rfl, by decide +kernel, rfl, by decide +kernel, by decide +kernel⟩
/-- value_at: refused, or told -/
def spVal (CP CH : Addr) : Sp := fun vs H Q E => ∃ x y dx dy, vs = [x, y] ∧ D H x dx ∧ D H y dy ∧ (∀ t ∈ items dx, (items t).length ≤ 100000) ∧ (isPaper dx = false → ∀ H', Ex H H' → Raised H' "thing" x CP E) ∧
  (isPaper dx = true → isHp dy = false → ∀ H', Ex H H' → Raised H' "thing" y CH E) ∧ (isPaper dx = true → isHp dy = true → Sml dx ∧ ∀ H', Ex H H' → Q (.int (tell (pB dx) (pP dx) (pG dx) (pN dx) (intOf dy))) H')
theorem isHp_int {d : PyData} (h : isHp d = true) : ∃ i, d = .int i ∧ 1 ≤ i ∧ i ≤ 1000000000000000000 := by
  cases d <;> first
    | (obtain ⟨h1, h2⟩ := Bool.and_eq_true_iff.mp h; exact ⟨_, rfl, of_decide_eq_true h1, of_decide_eq_true h2⟩)
    | cases h
theorem b1_of {f : Addr} {fd : FuncData} {x p : Str} {st : Stmt} (F : FD K mg x x st f fd) (h : ∀ (kV doc pm : Value) (an : Option Addr) (cdv ct u : Value), bindArgs (PySem.W.fnOf x x (defArgs st) (defBody st) (defScope st) .none kV doc pm an cdv ct) ⟨[u], []⟩ = pure [(p, u)]) : Binds K fd [p] [] :=
  F.F.binds fun kV doc pm an cdv ct us hl => match us, hl with | [u], _ => h kV doc pm an cdv ct u
theorem ok_value_at {f f1 f2 f3 CP CH : Addr} {fd fd1 fd2 fd3 : FuncData} (F : FD K mg "value_at" "value_at" s_value_at f fd) (F1 : FD K mg "need_paper" "need_paper" s_need_paper f1 fd1) (F2 : FD K mg "need_heap" "need_heap" s_need_heap f2 fd2) (F3 : FD K mg "told_of" "told_of" s_told_of f3 fd3)
    (G1 : FnOk P w K mg base (L2.CX P w) 6 f1 fd1 ["thing"] (spNeedP CP)) (G2 : FnOk P w K mg base (L2.CX P w) 3 f2 fd2 ["thing"] (spNeed isHp CH)) (T : Bl mg) : FnOk P w K mg base (L2.CX P w) 7 f fd ["paper", "heap"] (spVal CP CH) := by
  have G3 : FnOk P w K mg base CX0 1 f3 fd3 ["paper", "number"] spTold := ok_told_of F3 T
  have b1 : Binds K fd1 ["thing"] [] := F1.F.binds fun _ _ _ _ _ _ us hl => match us, hl with | [_], _ => rfl
  have b2 : Binds K fd2 ["thing"] [] := F2.F.binds fun _ _ _ _ _ _ us hl => match us, hl with | [_], _ => rfl
  refine F.F.okX sc_value_at (fun vs H Q E h => ?_) (fun cdv A outer s H vs Q E hr h => ?_)
  · obtain ⟨x, y, dx, dy, rfl, _⟩ := h
    rfl
  · obtain ⟨x, y, dx, dy, rfl, hx, hy, hz, k1, k2, k3⟩ := h
    refine ⟨_, pss_cons (ps_expr (pe_call G1 hr (by rfl) F1.g F1.F.kp b1 .nil (passes_call (takes_of rfl rfl rfl rfl) (fun _ _ _ _ h => h)) (pa_cons (pv 0) pa_nil)))
      (pss_cons (ps_expr (pe_call G2 (hr.mono (by decide)) (by rfl) F2.g F2.F.kp b2 .nil (passes_call (takes_of rfl rfl rfl rfl) (fun _ _ _ _ h => h)) (pa_cons (pv 1) pa_nil)))
      (pss_one (ps_ret (pe_call G3 (hr.mono (by decide)) (by rfl) F3.g F3.F.kp (b_told_of F3) .nil pass0 (pa_cons (pv 0) (pa_cons (pv 1) pa_nil)))))), ?_⟩
    refine ⟨_, rfl, x, dx, rfl, hx, hz, fun hp H1 e1 => ?_, k1⟩
    refine ⟨_, rfl, y, dy, rfl, hy.ex e1, fun hh H2 e2 => ?_, fun hh H2 e2 => k2 hp hh H2 (e1.trans e2)⟩
    obtain ⟨sm, k3⟩ := k3 hp hh
    have ip := isPap_of hp
    obtain ⟨i, rfl, i1, i2⟩ := isHp_int hh
    obtain rfl := hy.int_of
    exact ⟨_, rfl, _, rfl, x, i, _, _, _, _, rfl, ip.at (hx.ex (e1.trans e2)), ip.ok sm, by omega, by omega, fun H3 e3 => k3 H3 ((e1.trans e2).trans e3)⟩
/-- values_by -/
def spVals (CP CN : Addr) : Sp := fun vs H Q E => ∃ x y dx dy, vs = [x, y] ∧ D H x dx ∧ D H y dy ∧ (∀ t ∈ items dx, (items t).length ≤ 100000) ∧ (isPaper dx = false → ∀ H', Ex H H' → Raised H' "thing" x CP E) ∧
  (isPaper dx = true → isNum dy = false → ∀ H', Ex H H' → Raised H' "thing" y CN E) ∧ (isPaper dx = true → isNum dy = true → Sml dx ∧ intOf dy ≤ 90000 ∧ ∀ z H', H z = none → Ex H H' → H' z = some (.lst (below (pB dx) (pP dx) (pG dx) (pN dx) (intOf dy + 1))) → Q (.ref z) H')
theorem ok_values_by {f f1 f2 f3 CP CN : Addr} {fd fd1 fd2 fd3 : FuncData} (F : FD K mg "values_by" "values_by" s_values_by f fd) (F1 : FD K mg "need_paper" "need_paper" s_need_paper f1 fd1) (F2 : FD K mg "need_number" "need_number" s_need_number f2 fd2) (F3 : FD K mg "told_below" "told_below" s_told_below f3 fd3)
    (G1 : FnOk P w K mg base (L2.CX P w) 6 f1 fd1 ["thing"] (spNeedP CP)) (G2 : FnOk P w K mg base (L2.CX P w) 3 f2 fd2 ["thing"] (spNeed isNum CN)) (G3 : FnOk P w K mg base CX0 2 f3 fd3 ["paper", "end"] spBelow) : FnOk P w K mg base (L2.CX P w) 7 f fd ["paper", "most"] (spVals CP CN) := by
  have b1 : Binds K fd1 ["thing"] [] := F1.F.binds fun _ _ _ _ _ _ us hl => match us, hl with | [_], _ => rfl
  have b2 : Binds K fd2 ["thing"] [] := F2.F.binds fun _ _ _ _ _ _ us hl => match us, hl with | [_], _ => rfl
  refine F.F.okX sc_values_by (fun vs H Q E h => ?_) (fun cdv A outer s H vs Q E hr h => ?_)
  · obtain ⟨x, y, dx, dy, rfl, _⟩ := h
    rfl
  · obtain ⟨x, y, dx, dy, rfl, hx, hy, hz, k1, k2, k3⟩ := h
    refine ⟨_, pss_cons (ps_expr (pe_call G1 hr (by rfl) F1.g F1.F.kp b1 .nil (passes_call (takes_of rfl rfl rfl rfl) (fun _ _ _ _ h => h)) (pa_cons (pv 0) pa_nil)))
      (pss_cons (ps_expr (pe_call G2 (hr.mono (by decide)) (by rfl) F2.g F2.F.kp b2 .nil (passes_call (takes_of rfl rfl rfl rfl) (fun _ _ _ _ h => h)) (pa_cons (pv 1) pa_nil)))
      (pss_one (ps_ret (pe_call G3 (hr.mono (by decide)) (by rfl) F3.g F3.F.kp (b_told_below F3) .nil pass0 (pa_cons (pv 0) (pa_cons (pe_op op_add (pv 1) pe_int) pa_nil)))))), ?_⟩
    refine ⟨_, rfl, x, dx, rfl, hx, hz, fun hp H1 e1 => ?_, k1⟩
    refine ⟨_, rfl, y, dy, rfl, hy.ex e1, fun hh H2 e2 => ?_, fun hh H2 e2 => k2 hp hh H2 (e1.trans e2)⟩
    obtain ⟨sm, hi, k3⟩ := k3 hp hh
    have ip := isPap_of hp
    obtain ⟨i, rfl, i1⟩ := isNum_int hh
    obtain rfl := hy.int_of
    have e12 := e1.trans e2
    have hi' : i ≤ 90000 := hi
    exact ⟨_, rfl, _, rfl, _, _, rfl, rfl, x, i + 1, _, _, _, _, rfl, ip.at (hx.ex e12), ip.ok sm, by omega, by omega, fun z H3 hz3 e3 hl => k3 z H3 (Evl.fresh_back e12 hz3) (e12.trans e3) hl⟩
end
end Ts


set_option Elab.async false
set_option linter.all false
set_option maxRecDepth 100000
set_option maxHeartbeats 2000000
namespace Ts
open PySem PySem.Spec L2
open Evl (Ex)
theorem PapAt.open4 {H : Hp} {v : V} {b p g : Int} {ns : List Int} (h : PapAt H v b p g ns) : ∃ a t, v = .ref a ∧ Row H a [.int b, .int p, .int g, .ref t] ∧ Row H t (ns.map V.int) := h
section
variable {P : Program} {w : World} {K : PySem.W.Frag} {mg : Str → Option Value} {base : Heap}
abbrev s_led_on := top 26
abbrev s_led_paper := top 27
theorem sc_led_on : FnScope ["paper", "begin", "period"] ["paper", "begin", "period"] (defScope s_led_on) := ⟨rfl, rfl, rfl, by decide +kernel, rfl, by decide +kernel, by decide +kernel⟩
theorem sc_led_paper : FnScope ["paper", "begin", "period"] ["paper", "begin", "period"] (defScope s_led_paper) := ⟨rfl, rfl, rfl, by decide +kernel, rfl, by decide +kernel, by decide +kernel⟩
/-- a led paper as it is told: a new tuple with a new list -/
def Led (H H' : Hp) (z : Addr) (b p g : Int) (ns : List Int) (bb pp : Int) : Prop :=
  Ex H H' ∧ H z = none ∧ ∃ y, H y = none ∧ H' z = some (.tup [.int bb, .int pp, .int (g * pp / p), .ref y]) ∧ H' y = some (.lst (below b p g ns (bb + pp)))
def spLedOn : Sp := fun vs H Q _ => ∃ v b p g ns bb pp, vs = [v, .int bb, .int pp] ∧ PapAt H v b p g ns ∧ PapOk b p g ns ∧ 0 ≤ bb ∧ 0 ≤ pp ∧ bb + pp ≤ 100000 ∧ ∀ z H', Led H H' z b p g ns bb pp → Q (.ref z) H'
theorem ok_led_on {f f1 : Addr} {fd fd1 : FuncData} (F : FD K mg "led_on" "led_on" s_led_on f fd) (F1 : FD K mg "told_below" "told_below" s_told_below f1 fd1) (G1 : FnOk P w K mg base CX0 2 f1 fd1 ["paper", "end"] spBelow) : FnOk P w K mg base CX0 3 f fd ["paper", "begin", "period"] spLedOn := by
  refine F.F.ok sc_led_on (fun vs H Q E h => ?_) (fun cdv A outer s H vs Q E hr h => ?_)
  · obtain ⟨v, b, p, g, ns, bb, pp, rfl, _⟩ := h
    rfl
  · obtain ⟨v, b, p, g, ns, bb, pp, rfl, hp, ok, b0, p0, bp, k⟩ := h
    obtain ⟨a, t, rfl, hrow, trow⟩ := hp.open4
    have hp1 := ok.p1
    have hpb := ok.pb
    have hg0 := ok.g0
    have hgb := ok.gb
    refine ⟨_, pss_one (ps_ret (pe_tup (pa_cons (pv 1) (pa_cons (pv 2) (pa_cons (pe_op op_fdivW (pe_op op_mul (pe_ix ix_seq (pv 0) pe_int (fun _ _ => rfl)) (pv 2)) (pe_ix ix_seq (pv 0) pe_int (fun _ _ => rfl)))
      (pa_cons (pe_call G1 hr (by rfl) F1.g F1.F.kp (b_told_below F1) .nil pass0 (pa_cons (pv 0) (pa_cons (pe_op op_add (pv 1) (pv 2)) pa_nil))) pa_nil)))))), ?_⟩
    refine ⟨_, rfl, _, rfl, _, rfl, ix_row hrow (atI_nat (j := 2) rfl) ⟨_, rfl, _, _, rfl, rfl, .inl ⟨by omega, by omega⟩, _, rfl, ix_row hrow (atI_nat (j := 1) rfl) ⟨_, _, rfl, rfl, wide_div (b := 64) (by omega) (by omega) (by decide) (by decide), ?_⟩⟩⟩
    refine ⟨_, rfl, _, rfl, _, rfl, _, _, rfl, rfl, .ref a, bb + pp, b, p, g, ns, rfl, hp, ok, by omega, bp, fun y H1 ny e1 hl => ⟨by show 4 ≤ sizeLine; decide, fun z nz => ?_⟩⟩
    have e2 := Ex.new (o := .tup [.int bb, .int pp, .int (g * pp / p), .ref y]) nz
    exact k z _ ⟨e1.trans e2, Evl.fresh_back e1 nz, y, ny, upd_same, e2 _ _ hl⟩
/-- led_paper: refused, or led -/
def spLed (CP CN CR : Addr) : Sp := fun vs H Q E => ∃ x y u dx dy du, vs = [x, y, u] ∧ D H x dx ∧ D H y dy ∧ D H u du ∧ (∀ t ∈ items dx, (items t).length ≤ 100000) ∧ (isPaper dx = false → ∀ H', Ex H H' → Raised H' "thing" x CP E) ∧
  (isPaper dx = true → (isNum dy = false ∨ intOf dy < pB dx) → ∀ H', Ex H H' → Raised H' "thing" y CN E) ∧
  (isPaper dx = true → isNum dy = true → pB dx ≤ intOf dy → (isNum du = false ∨ intOf du = 0 ∨ intOf du % pP dx ≠ 0) → ∀ H', Ex H H' → Raised H' "thing" u CR E) ∧
  (isPaper dx = true → isNum dy = true → pB dx ≤ intOf dy → isNum du = true → intOf du ≠ 0 → intOf du % pP dx = 0 → Sml dx ∧ intOf dy + intOf du ≤ 100000 ∧ ∀ z H', Led H H' z (pB dx) (pP dx) (pG dx) (pN dx) (intOf dy) (intOf du) → Q (.ref z) H')
theorem Led.back {H H1 H' : Hp} {z : Addr} {b p g : Int} {ns : List Int} {bb pp : Int} (e : Ex H H1) (h : Led H1 H' z b p g ns bb pp) : Led H H' z b p g ns bb pp := by
  obtain ⟨e1, h1, y, h2, h3, h4⟩ := h
  exact ⟨e.trans e1, Evl.fresh_back e h1, y, Evl.fresh_back e h2, h3, h4⟩
theorem ite_ff {c : Bool} {A B : Prop} (h : c = false) (b : B) : if c = true then A else B := by
  rw [h]
  exact iteF b
theorem ite_tt {c : Bool} {A B : Prop} (h : c = true) (a : A) : if c = true then A else B := by
  rw [h]
  exact iteT a
theorem dec_z {i j : Int} : decide (V.int i = V.int j) = decide (i = j) := by
  by_cases c : i = j
  · rw [c]
    rw [decide_eq_true rfl, decide_eq_true rfl]
  · rw [decide_eq_false c, decide_eq_false fun q => c (V.int.inj q)]
theorem ok_led_paper {f f1 f2 f3 CP CN CR gN gR : Addr} {fd fd1 fd2 fd3 fN fR : FuncData} (F : FD K mg "led_paper" "led_paper" s_led_paper f fd) (F1 : FD K mg "need_paper" "need_paper" s_need_paper f1 fd1) (F2 : FD K mg "is_number" "is_number" s_is_number f2 fd2) (F3 : FD K mg "led_on" "led_on" s_led_on f3 fd3)
    (G1 : FnOk P w K mg base (L2.CX P w) 6 f1 fd1 ["thing"] (spNeedP CP)) (G2 : FnOk P w K mg base CX0 2 f2 fd2 ["thing"] (spAsk isNum)) (G3 : FnOk P w K mg base CX0 3 f3 fd3 ["paper", "begin", "period"] spLedOn)
    (XN : XC K mg "BadNumber" "thing" CN gN) (GN : FnOk P w K mg base CX0 1 gN fN ["self", "thing"] (spIni CN "thing")) (bN : Binds K fN ["self", "thing"] [])
    (XR : XC K mg "BadPeriod" "thing" CR gR) (GR : FnOk P w K mg base CX0 1 gR fR ["self", "thing"] (spIni CR "thing")) (bR : Binds K fR ["self", "thing"] []) :
    FnOk P w K mg base (L2.CX P w) 7 f fd ["paper", "begin", "period"] (spLed CP CN CR) := by
  have b1 : Binds K fd1 ["thing"] [] := F1.F.binds fun _ _ _ _ _ _ us hl => match us, hl with | [_], _ => rfl
  have b3 : Binds K fd3 ["paper", "begin", "period"] [] := F3.F.binds fun _ _ _ _ _ _ us hl => match us, hl with | [_, _, _], _ => rfl
  refine F.F.okX sc_led_paper (fun vs H Q E h => ?_) (fun cdv A outer s H vs Q E hr h => ?_)
  · obtain ⟨x, y, u, dx, dy, du, rfl, _⟩ := h
    rfl
  · obtain ⟨x, y, u, dx, dy, du, rfl, hx, hy, hu, hz, k1, k2, k3, k4⟩ := h
    have hr2 : Room 2 _ := hr.mono (by decide)
    refine ⟨_, pss_cons (ps_expr (pe_call G1 hr (by rfl) F1.g F1.F.kp b1 .nil (passes_call (takes_of rfl rfl rfl rfl) (fun _ _ _ _ h => h)) (pa_cons (pv 0) pa_nil)))
      (pss_cons (ps_if (PW.pt (pw_or (pt_not (pt_val (pe_call G2 hr2 (by rfl) F2.g F2.F.kp (b_is_number F2) .nil pass0 (pa_cons (pv 1) pa_nil)))) (pw_or1 (pt_cmpR op_lt (pv 1) (pe_ix ix_seq (pv 0) pe_int (fun _ _ => rfl)) (nomark _))))) (pss_one (ps_raise1 rfl (takes_of rfl rfl rfl rfl) XN GN bN hr2 (by rfl) (pv 1))) pss_nil)
      (pss_cons (ps_if (PW.pt (pw_or (pt_not (pt_val (pe_call G2 hr2 (by rfl) F2.g F2.F.kp (b_is_number F2) .nil pass0 (pa_cons (pv 2) pa_nil)))) (pw_or (pt_cmpR op_eq (pv 2) pe_int (nomark _)) (pw_or1 (pt_cmpR op_ne (pe_op op_modN (pv 2) (pe_ix ix_seq (pv 0) pe_int (fun _ _ => rfl))) pe_int (nomark _)))))) (pss_one (ps_raise1 rfl (takes_of rfl rfl rfl rfl) XR GR bR hr2 (by rfl) (pv 2))) pss_nil)
      (pss_one (ps_ret (pe_call G3 (hr.mono (by decide)) (by rfl) F3.g F3.F.kp b3 .nil pass0 (pa_cons (pv 0) (pa_cons (pv 1) (pa_cons (pv 2) pa_nil)))))))), ?_⟩
    refine ⟨_, rfl, x, dx, rfl, hx, hz, fun hp H1 e1 => ?_, k1⟩
    have ip := isPap_of hp
    obtain ⟨a, t, rfl, hrow, trow⟩ := (ip.at hx).open4
    refine ⟨_, rfl, y, dy, rfl, hy.ex e1, fun H2 e2 => ⟨_, rfl, ?_⟩⟩
    have e12 := e1.trans e2
    cases ny : isNum dy with
    | false => exact iteT (iteT ⟨_, rfl, raise1 (k2 hp (.inl ny) H2 e12)⟩)
    | true =>
      obtain ⟨iy, rfl, y0⟩ := isNum_int ny
      obtain rfl := hy.int_of
      refine iteF ⟨_, rfl, _, rfl, ix_row (hrow.ex e12) (atI_nat (j := 0) rfl) ⟨_, _, rfl, rfl, _, rfl, ?_⟩⟩
      by_cases lt : iy < pB dx
      · rw [decide_eq_true lt]
        exact iteT ⟨_, rfl, raise1 (k2 hp (.inr lt) H2 e12)⟩
      · rw [decide_eq_false lt]
        have le : pB dx ≤ intOf (.int iy) := Int.not_lt.mp lt
        refine iteF ?_
        refine ⟨_, rfl, u, du, rfl, hu.ex e12, fun H3 e3 => ⟨_, rfl, ?_⟩⟩
        have e13 := e12.trans e3
        cases nu : isNum du with
        | false => exact iteT (iteT ⟨_, rfl, raise1 (k3 hp ny le (.inl nu) H3 e13)⟩)
        | true =>
          obtain ⟨iu, rfl, u0⟩ := isNum_int nu
          obtain rfl := hu.int_of
          refine iteF ⟨_, rfl, rfl, _, rfl, ?_⟩
          rw [dec_z]
          by_cases zu : iu = 0
          · rw [decide_eq_true zu]
            exact iteT (iteT ⟨_, rfl, raise1 (k3 hp ny le (.inr (.inl zu)) H3 e13)⟩)
          · rw [decide_eq_false zu]
            have p1 := ip.p1
            refine iteF ⟨_, rfl, _, rfl, ix_row (hrow.ex e13) (atI_nat (j := 1) rfl) ⟨_, _, rfl, rfl, (by show pP dx ≠ 0; omega), rfl, _, rfl, ?_⟩⟩
            have ef : iu.fmod (pP dx) = iu % pP dx := Int.fmod_eq_emod_of_nonneg iu (by omega)
            by_cases zm : iu % pP dx = 0
            · refine ite_ff (by show (!decide (V.int (iu.fmod (pP dx)) = V.int 0)) = false; rw [ef, dec_z, decide_eq_true zm]; rfl) ?_
              obtain ⟨sm, bd, k4⟩ := k4 hp ny le nu zu zm
              have bd' : iy + iu ≤ 100000 := bd
              exact ⟨_, rfl, _, rfl, _, rfl, .ref a, _, _, _, _, iy, iu, rfl, (ip.at hx).ex e13, ip.ok sm, y0, u0, bd', fun z H4 l => k4 z H4 (l.back e13)⟩
            · exact ite_tt (by show (!decide (V.int (iu.fmod (pP dx)) = V.int 0)) = true; rw [ef, dec_z, decide_eq_false zm]; rfl) ⟨_, rfl, raise1 (k3 hp ny le (.inr (.inr zm)) H3 e13)⟩
end
end Ts


set_option Elab.async false
set_option linter.all false
set_option maxRecDepth 100000
set_option maxHeartbeats 4000000
namespace Ts
open PySem PySem.Spec L2
open Evl (Ex)
/-! ## the spring of draws -/
/-- a heap without two objects that change -/
def off (a c : Addr) (H : Hp) : Hp := fun b => if b = a ∨ b = c then none else H b
theorem off_of {a c b : Addr} {H : Hp} {o : HO} (h : off a c H b = some o) : H b = some o := by
  unfold off at h
  split at h
  · cases h
  · exact h
theorem off_ne {a c b : Addr} {H : Hp} (h1 : b ≠ a) (h2 : b ≠ c) : off a c H b = H b := if_neg (fun z => z.elim h1 h2)
theorem off_ex {a c : Addr} {H : Hp} : Ex (off a c H) H := fun _ _ h => off_of h
theorem Ex.offs {a c : Addr} {H H' : Hp} (e : Ex H H') : Ex (off a c H) (off a c H') := fun b o h => by
  unfold off at h ⊢
  split at h
  · cases h
  · rename_i n
    rw [if_neg n]
    exact e _ _ h
/-- a change of one of the two -/
theorem off_upd {a c p : Addr} {H : Hp} {o : HO} (h : p = a ∨ p = c) : off a c (upd H p o) = off a c H := by
  funext b
  unfold off
  split
  · rfl
  · rename_i n
    exact upd_ne fun z => n (z ▸ h)
structure Strm (H : Hp) (a c : Addr) (n : Int) : Prop where
  h : ∃ (cells : List Int) (s1 s3 : Int), H a = some (.lst [.ref c, .int s1, .int n, .int s3]) ∧ H c = some (.lst (cells.map V.int)) ∧ 0 ≤ s1 ∧ 0 ≤ s3 ∧ s3 < 2147483647
  ne : a ≠ c
  n0 : 0 ≤ n
theorem Strm.ex {H H' : Hp} {a c : Addr} {n : Int} (e : Ex H H') (h : Strm H a c n) : Strm H' a c n := by
  obtain ⟨⟨cells, s1, s3, h1, h2, r⟩, ne, n0⟩ := h
  exact ⟨⟨cells, s1, s3, e _ _ h1, e _ _ h2, r⟩, ne, n0⟩
theorem while_then {c : TT} {tb : TS} {D : Ends} {σ : L2.St} {H : Hp} (Pv Pn : L2.St → Hp → Prop) (μ : L2.St → Hp → Nat) (h0 : Pv σ H)
    (mono : ∀ σ H Q Q', (∀ b H1, Q b H1 → Q' b H1) → c σ H Q → c σ H Q')
    (hs : ∀ σ H, Pv σ H → c σ H fun b H1 => if b = true then tb { D with nx := fun σ' H' => Pv σ' H' ∧ μ σ' H' < μ σ H, ct := fun σ' H' => Pv σ' H' ∧ μ σ' H' < μ σ H, bk := D.nx } σ H1 else Pn σ H1)
    (fin : ∀ σ H, Pn σ H → D.nx σ H) : tWhile c tb D σ H :=
  while_by Pv μ h0 (fun σ H p => mono σ H _ _ (fun b H1 q => by
    cases b with
    | true => exact q
    | false => exact iteF (fin _ _ (by simpa using q))) (hs σ H p)) mono
theorem dp_ints {K : PySem.W.Frag} {H : Hp} : ∀ ns : List Int, DpAll K H (ns.map V.int) (ns.map PyData.int)
  | [] => .nil
  | n :: r => .cons (.int n) (dp_ints r)
theorem lay_ints : ∀ ns : List Int, PyData.canLayAll0 (ns.map PyData.int) = true
  | [] => by simp only [List.map_nil, PyData.canLayAll0]
  | n :: r => by
    rw [List.map_cons]
    simp only [PyData.canLayAll0, PyData.canLay0, lay_ints r, Bool.and_true]
theorem depth_ints : ∀ ns : List Int, PyData.depthAll (ns.map PyData.int) ≤ 1
  | [] => by simp [PyData.depthAll]
  | n :: r => by
    have := depth_ints r
    rw [List.map_cons]
    simp only [PyData.depthAll, PyData.depth]
    omega
theorem shaped_ints (ns : List Int) : SeqAt.shaped (.list (ns.map PyData.int)) = true := by
  have h := depth_ints ns
  refine Bool.and_eq_true_iff.mpr ⟨?_, decide_eq_true ?_⟩
  · simp only [PyData.canLay0, lay_ints]
  · simp only [PyData.depth]
    omega
theorem eqv_nil (ns : List Int) : PyData.eqv (.list (ns.map PyData.int)) (.list []) = ns.isEmpty := by
  cases ns <;> simp [PyData.eqv, PyData.eqvAll]
section
variable {P : Program} {w : World} {K : PySem.W.Frag} {mg : Str → Option Value} {base : Heap}
abbrev s_draw := top 34
theorem sc_draw : FnScope ["stream", "many", "cell", "digit", "mixed"] ["stream", "many"] (defScope s_draw) := ⟨rfl, rfl, rfl, by decide +kernel, rfl, by decide +kernel, by decide +kernel⟩
def spDraw : Sp := fun vs H Q _ => ∃ a c n m, vs = [.ref a, .int m] ∧ Strm H a c n ∧ 1 ≤ m ∧ m < 2 ^ 60 ∧ n < 2 ^ 40 ∧ ∀ H' r, Ex (off a c H) (off a c H') → Strm H' a c (n + 1) → 0 ≤ r → r < m → Q (.int r) H'
theorem ok_draw {f : Addr} {fd : FuncData} (F : FD K mg "_law_draw" "_law_draw" s_draw f fd) (T : Bl mg) : FnOk P w K mg base CX0 1 f fd ["stream", "many"] spDraw := by
  refine F.F.ok sc_draw (fun vs H Q E h => ?_) (fun cdv A outer s H vs Q E hr h => ?_)
  · obtain ⟨a, c, n, m, rfl, _⟩ := h
    rfl
  · obtain ⟨a, c, n, m, rfl, ⟨⟨cells, s1, s3, ha, hc, s10, s30, s31⟩, ne, n0⟩, m1, m2, n1, k⟩ := h
    have nd := sc_draw.nd
    refine ⟨_, pss_cons (ps_asg (pe_op op_add (pe_ix ix_list (pv 0) pe_int (fun _ _ => rfl)) pe_int) (pg_sub (pv 0) pe_int set_list))
      (pss_cons (ps_while PassesOwn.never (PW.pt (pw_and (pt_cmpR op_eq (pe_ix ix_list (pv 0) pe_int (fun _ _ => rfl)) pe_int (nomark _)) (pw_and1 (pt_cmpR (op_neD hr.units) (pe_ix ix_list (pv 0) pe_int (fun _ _ => rfl)) (pe_lst pa_nil) (nomark _)))))
          (pss_cons (ps_set (i := 2) nd rfl (Or.inl rfl) (pe_bm PySem.F.plainAttrs_list PySem.F.slot_list_pop PySem.F.type_list_pop mt_popAt (pe_ix ix_list (pv 0) pe_int (fun _ _ => rfl)) (pa_cons pe_int pa_nil)))
          (pss_cons (ps_asg (pe_op op_mod (pe_callTy call_int1 (by rfl) T.int (by decide +kernel) (pa_cons (pe_op op_add (pe_op op_add (pe_op op_mul (pe_ix ix_list (pv 0) pe_int (fun _ _ => rfl)) pe_int) (pv 2)) pe_int) pa_nil)) pe_int) (pg_sub (pv 0) pe_int set_list))
          (pss_one (ps_asg (pe_ifExp (pt_cmpR op_ge (pv 2) (pe_op op_pow pe_int pe_int) (nomark _)) (pv 2) pe_int) (pg_sub (pv 0) pe_int set_list))))))
      (pss_cons (ps_if (pt_cmpR op_gt (pe_ix ix_list (pv 0) pe_int (fun _ _ => rfl)) pe_int (nomark _))
          (pss_cons (ps_set (i := 3) nd rfl (Or.inl rfl) (pe_op op_mod (pe_callTy call_int1 (by rfl) T.int (by decide +kernel) (pa_cons (pe_ix ix_list (pv 0) pe_int (fun _ _ => rfl)) pa_nil)) (pv 1)))
          (pss_cons (ps_asg (pe_op op_fdivW (pe_ix ix_list (pv 0) pe_int (fun _ _ => rfl)) (pv 1)) (pg_sub (pv 0) pe_int set_list))
          (pss_one (ps_ret (pv 3))))) pss_nil)
      (pss_cons (ps_set (i := 4) nd rfl (Or.inl rfl) (pe_op op_mod (pe_callTy call_int1 (by rfl) T.int (by decide +kernel) (pa_cons (pe_op op_pow (pe_op op_add (pe_op op_add (pe_ix ix_list (pv 0) pe_int (fun _ _ => rfl)) (pe_op op_mul pe_int (pe_ix ix_list (pv 0) pe_int (fun _ _ => rfl)))) pe_int) pe_int) pa_nil)) pe_int))
      (pss_one (ps_ret (pe_op op_mod (pe_op op_mod (pe_callTy call_int1 (by rfl) T.int (by decide +kernel) (pa_cons (pe_op op_pow (pe_op op_add (pe_op op_add (pe_op op_mul (pv 4) pe_int) (pe_op op_mul pe_int (pe_ix ix_list (pv 0) pe_int (fun _ _ => rfl)))) pe_int) pe_int) pa_nil)) pe_int) (pv 1))))))), ?_⟩
    refine ⟨_, rfl, a, _, 2, _, rfl, rfl, SqL.of ha, atI_nat (j := 2) rfl, _, _, rfl, rfl, _, rfl, a, _, 2, 2, rfl, rfl, ha, rfl, ?_⟩
    let Pv : L2.St → Hp → Prop := fun σ H' => ∃ (cells : List Int) (s1 s3 : Int) (v2 : Option V), σ = [some (.ref a), some (.int m), v2, none, none] ∧ H' a = some (.lst [.ref c, .int s1, .int (n + 1), .int s3]) ∧ H' c = some (.lst (cells.map V.int)) ∧ 0 ≤ s1 ∧ 0 ≤ s3 ∧ s3 < 2147483647 ∧ Ex (off a c H) (off a c H')
    refine while_then Pv Pv (fun _ H' => match H' c with | some (.lst xs) => xs.length | _ => 0)
      ⟨cells, s1, s3, none, rfl, upd_same, by rw [upd_ne (Ne.symm ne)]; exact hc, s10, s30, s31, by rw [off_upd (.inl rfl)]; exact Ex.refl _⟩ ?_ ?_ ?_
    · rintro σ H2 q q' hq ⟨v, h1, p, xs, i, v2, h2, h3, h4, h5, h6, b1, h7, h8⟩
      refine ⟨v, h1, p, xs, i, v2, h2, h3, h4, h5, h6, b1, h7, ?_⟩
      cases b1 with
      | false => exact iteF (hq _ _ (by simpa using h8))
      | true =>
        rw [if_pos rfl] at h8
        obtain ⟨v, g1, p, xs, i, v2, g2, g3, g4, g5, g6, g7⟩ := h8
        refine iteT ⟨v, g1, p, xs, i, v2, g2, g3, g4, g5, g6, fun q nq => ?_⟩
        obtain ⟨d, e, x1, x2, x3, x4, b, x5, x6⟩ := g7 q nq
        exact ⟨d, e, x1, x2, x3, x4, b, x5, hq _ _ x6⟩
    · rintro σ H2 ⟨cells, s1, s3, v2, rfl, ha, hc, s10, s30, s31, e2⟩
      refine ⟨_, rfl, a, _, 1, _, rfl, rfl, SqL.of ha, atI_nat (j := 1) rfl, rfl, _, rfl, ?_⟩
      rw [dec_z]
      by_cases hz : s1 = 0
      · rw [decide_eq_true hz]
        refine iteT ⟨_, rfl, a, _, 0, _, rfl, rfl, SqL.of ha, atI_nat (j := 0) rfl, Nat.zero_le _, fun q nq => ?_⟩
        have eq := Ex.new (o := .lst []) nq
        refine ⟨_, _, .lst (SqL.of (eq _ _ hc)) (dp_ints cells), .lst (SqL.of upd_same) .nil, shaped_ints cells, shaped_ints [], _, rfl, ?_⟩
        rw [eqv_nil]
        have na : a ≠ q := ne_of_none ha nq
        have nc : c ≠ q := ne_of_none hc nq
        have eo : Ex (off a c H) (off a c (upd H2 q (.lst []))) := e2.trans (Ex.offs eq)
        cases cells with
        | nil => exact iteF ⟨[], s1, s3, v2, rfl, eq _ _ ha, eq _ _ hc, s10, s30, s31, eo⟩
        | cons z rest =>
          refine iteT ?_
          refine ⟨_, rfl, a, _, 0, _, rfl, rfl, SqL.of (eq _ _ ha), atI_nat (j := 0) rfl, .inl ⟨rfl, _, SqL.of (eq _ _ hc)⟩, c, _, 0, 0, .int z, rfl, rfl, eq _ _ hc, by decide, by decide, by simp [seqIndex?], rfl, ?_⟩
          have ha3 : upd (upd H2 q (.lst [])) c (.lst ((V.int z :: rest.map V.int).eraseIdx 0)) a = some (.lst [.ref c, .int s1, .int (n + 1), .int s3]) := by
            rw [upd_ne ne]
            exact eq _ _ ha
          refine ⟨_, rfl, a, _, 3, _, rfl, rfl, SqL.of ha3, atI_nat (j := 3) rfl, _, _, rfl, rfl, .inl ⟨by omega, by omega⟩, _, rfl, _, _, rfl, rfl, _, _, rfl, rfl, .inl ⟨_, rfl, ?_⟩⟩
          refine ⟨_, _, rfl, rfl, (by show (0 : Int) < 2147483647; decide), _, rfl, a, _, 3, 3, rfl, rfl, ha3, rfl, ?_⟩
          have last : ∀ (t : Int) (H3 : Hp), 0 ≤ t → H3 a = some (.lst [.ref c, .int t, .int (n + 1), .int ((s3 * 8191 + z + 3) % 2147483647)]) → H3 c = some (.lst (rest.map V.int)) → Ex (off a c H) (off a c H3) →
              Pv [some (.ref a), some (.int m), some (.int z), none, none] H3 ∧ (match H3 c with | some (.lst xs) => xs.length | _ => 0) < (match H2 c with | some (.lst xs) => xs.length | _ => 0) := fun t H3 t0 h1 h2 h3 => by
            refine ⟨⟨rest, t, _, _, rfl, h1, h2, t0, Int.emod_nonneg _ (by decide), Int.emod_lt_of_pos _ (by decide), h3⟩, ?_⟩
            rw [h2, hc]
            simp
          refine ⟨_, rfl, _, _, rfl, rfl, ⟨by decide, by decide, by decide⟩, _, _, rfl, rfl, _, rfl, ?_⟩
          have oe : ∀ (x y u : HO), Ex (off a c H) (off a c (upd (upd (upd (upd H2 q (.lst [])) c x) a y) a u)) := fun x y u => by
            rw [off_upd (.inl rfl), off_upd (.inl rfl), off_upd (.inr rfl)]
            exact eo
          have ce : ∀ (y u : HO), upd (upd (upd (upd H2 q (.lst [])) c (.lst ((V.int z :: rest.map V.int).eraseIdx 0))) a y) a u c = some (.lst (rest.map V.int)) := fun y u => by
            rw [upd_ne (Ne.symm ne), upd_ne (Ne.symm ne), upd_same]
            rfl
          cases hd : decide ((10 : Int) ^ (18 : Int).toNat ≤ z) with
          | true =>
            have hz18 := of_decide_eq_true hd
            refine iteT ⟨_, rfl, _, rfl, a, _, 1, 1, rfl, rfl, upd_same, rfl, ?_⟩
            exact last z _ (Int.le_trans (by decide) hz18) upd_same (ce _ _) (oe _ _ _)
          | false =>
            refine iteF ⟨_, rfl, a, _, 1, 1, rfl, rfl, upd_same, rfl, ?_⟩
            exact last 0 _ (Int.le_refl _) upd_same (ce _ _) (oe _ _ _)
      · rw [decide_eq_false hz]
        exact iteF ⟨cells, s1, s3, v2, rfl, ha, hc, s10, s30, s31, e2⟩
    · rintro σ H2 ⟨cells, s1, s3, v2, rfl, ha, hc, s10, s30, s31, e2⟩
      refine ⟨_, rfl, a, _, 1, _, rfl, rfl, SqL.of ha, atI_nat (j := 1) rfl, _, _, rfl, rfl, _, rfl, ?_⟩
      by_cases hp : 0 < s1
      · rw [decide_eq_true hp]
        refine iteT ⟨_, rfl, a, _, 1, _, rfl, rfl, SqL.of ha, atI_nat (j := 1) rfl, .inl ⟨_, rfl, ?_⟩⟩
        have r0 : 0 ≤ s1 % m := Int.emod_nonneg _ (by omega)
        have r1 : s1 % m < m := Int.emod_lt_of_pos _ (by omega)
        refine ⟨_, rfl, _, _, rfl, rfl, (by show (0 : Int) < m; omega), ?_⟩
        refine ⟨_, rfl, a, _, 1, _, rfl, rfl, SqL.of ha, atI_nat (j := 1) rfl, _, rfl, _, _, rfl, rfl, wide_div (b := 64) (by omega) (by omega) (by decide) (by decide), _, rfl, a, _, 1, 1, rfl, rfl, ha, rfl, ?_⟩
        refine ⟨_, rfl, k _ _ ?_ ⟨⟨cells, s1 / m, s3, upd_same, by rw [upd_ne (Ne.symm ne)]; exact hc, Int.ediv_nonneg (by omega) (by omega), s30, s31⟩, ne, by omega⟩ r0 r1⟩
        rw [off_upd (.inl rfl)]
        exact e2
      · rw [decide_eq_false hp]
        refine iteF ?_
        refine ⟨_, rfl, a, _, 3, _, rfl, rfl, SqL.of ha, atI_nat (j := 3) rfl, _, rfl, a, _, 2, _, rfl, rfl, SqL.of ha, atI_nat (j := 2) rfl, _, _, rfl, rfl, .inl ⟨by omega, by omega⟩, _, _, rfl, rfl, _, _, rfl, rfl, _, _, rfl, rfl, ⟨by decide, by decide, by omega⟩, .inl ⟨_, rfl, ?_⟩⟩
        refine ⟨_, _, rfl, rfl, (by show (0 : Int) < 2147483629; decide), ?_⟩
        have d0 : 0 ≤ (s3 + 7919 * (n + 1) + 104729) ^ (5 : Int).toNat % 2147483629 := Int.emod_nonneg _ (by decide)
        have d1 : (s3 + 7919 * (n + 1) + 104729) ^ (5 : Int).toNat % 2147483629 < 2147483629 := Int.emod_lt_of_pos _ (by decide)
        generalize (s3 + 7919 * (n + 1) + 104729) ^ (5 : Int).toNat % 2147483629 = mx at d0 d1
        refine ⟨_, rfl, _, _, rfl, rfl, .inl ⟨by omega, by omega⟩, _, rfl, a, _, 2, _, rfl, rfl, SqL.of ha, atI_nat (j := 2) rfl, _, _, rfl, rfl, .inl ⟨by omega, by omega⟩, _, _, rfl, rfl, _, _, rfl, rfl, _, _, rfl, rfl, ⟨by decide, by decide, by omega⟩, .inl ⟨_, rfl, ?_⟩⟩
        refine ⟨_, _, rfl, rfl, (by show (0 : Int) < 1000000007; decide), _, rfl, _, _, rfl, rfl, (by show (0 : Int) < m; omega), ?_⟩
        exact k _ _ e2 ⟨⟨cells, s1, s3, ha, hc, s10, s30, s31⟩, ne, by omega⟩ (Int.emod_nonneg _ (by omega)) (Int.emod_lt_of_pos _ (by omega))
end
end Ts


set_option Elab.async false
set_option linter.all false
set_option maxRecDepth 100000
set_option maxHeartbeats 4000000
namespace Ts
open PySem PySem.Spec L2
open Evl (Ex)
section
variable {P : Program} {w : World} {K : PySem.W.Frag} {mg : Str → Option Value} {base : Heap}
abbrev s_start := top 33
theorem sc_start : FnScope ["script"] ["script"] (defScope s_start) := ⟨rfl, rfl, rfl, by decide +kernel, rfl, by decide +kernel, by decide +kernel⟩
def spStart (K : PySem.W.Frag) : Sp := fun vs H Q _ => ∃ (s : Addr) (ns : List Int), vs = [.ref s] ∧ SqL K H s (ns.map V.int) ∧ ∀ a c H', H a = none → H c = none → Strm H' a c 0 → Ex H H' → Q (.ref a) H'
theorem ok_start {f : Addr} {fd : FuncData} (F : FD K mg "_law_start" "_law_start" s_start f fd) (T : Bl mg) : FnOk P w K mg base CX0 1 f fd ["script"] (spStart K) := by
  refine F.F.ok sc_start (fun vs H Q E h => ?_) (fun cdv A outer s H vs Q E hr h => ?_)
  · obtain ⟨s, ns, rfl, _⟩ := h
    rfl
  · obtain ⟨s, ns, rfl, hs, k⟩ := h
    refine ⟨_, pss_one (ps_ret (pe_lst (pa_cons (pe_callTy call_list_of (by rfl) T.list PyProof.Rows.boot_list (pa_cons (pv 0) pa_nil)) (pa_cons pe_int (pa_cons pe_int (pa_cons pe_int pa_nil)))))), ?_⟩
    refine ⟨_, rfl, s, _, rfl, .inl hs, fun c nc => ⟨by show 4 ≤ sizeLine; decide, fun a na => ?_⟩⟩
    have e1 := Ex.new (o := .lst (ns.map V.int)) nc
    have e2 := Ex.new (o := .lst [.ref c, .int 0, .int 0, .int 11]) na
    have ne : a ≠ c := fun z => by
      rw [z, upd_same] at na
      cases na
    exact k a c _ (Evl.fresh_back e1 na) nc ⟨⟨ns, 0, 11, upd_same, e2 _ _ upd_same, by decide, by decide, by decide⟩, ne, by decide⟩ (e1.trans e2)
abbrev s_a_told := top 29
theorem sc_a_told : FnScope ["paper", "number", "begin", "period", "gain", "values"] ["paper", "number"] (defScope s_a_told) := ⟨rfl, rfl, rfl, by decide +kernel, rfl, by decide +kernel, by decide +kernel⟩
theorem tell_at {b p g n : Int} {ns : List Int} (hp : 1 ≤ p) (h1 : b ≤ n) (h2 : n < b + p) : tell b p g ns n = ns.getD n.toNat 0 := by
  unfold tell
  rw [if_neg (by omega), Int.emod_eq_of_lt (by omega) (by omega), Int.ediv_eq_zero_of_lt (by omega) (by omega)]
  have e : b + (n - b) = n := by omega
  rw [e, Int.zero_mul, Int.add_zero]
theorem ok_a_told {f : Addr} {fd : FuncData} (F : FD K mg "_law_a_told" "_law_a_told" s_a_told f fd) (T : Bl mg) : FnOk P w K mg base CX0 1 f fd ["paper", "number"] spTold := by
  refine F.F.ok sc_a_told (fun vs H Q E h => ?_) (fun cdv A outer s H vs Q E hr h => ?_)
  · obtain ⟨v, n, b, p, g, ns, rfl, _⟩ := h
    rfl
  · obtain ⟨v, n, b, p, g, ns, rfl, ⟨a, t, rfl, hrow, trow⟩, ok, n0, n1, k⟩ := h
    have nd := sc_a_told.nd
    have hb1 := ok.b1
    have hp1 := ok.p1
    have hg0 := ok.g0
    have hgb := ok.gb
    have hpb := ok.pb
    have hl := ok.len
    refine ⟨_, pss_cons (ps_asg (pv 0) (pg_or (pg_tup rfl (pgs_cons (pg_name (i := 2) nd rfl (Or.inl rfl)) (pgs_cons (pg_name (i := 3) nd rfl (Or.inl rfl)) (pgs_cons (pg_name (i := 4) nd rfl (Or.inl rfl)) (pgs_cons (pg_name (i := 5) nd rfl (Or.inl rfl)) pgs_nil)))))
          (pg_unl rfl (pgs_cons (pg_name (i := 2) nd rfl (Or.inl rfl)) (pgs_cons (pg_name (i := 3) nd rfl (Or.inl rfl)) (pgs_cons (pg_name (i := 4) nd rfl (Or.inl rfl)) (pgs_cons (pg_name (i := 5) nd rfl (Or.inl rfl)) pgs_nil)))))))
      (pss_cons (ps_if (pt_cmpR op_lt (pv 1) (pe_op op_add (pv 2) (pv 3)) (nomark _)) (pss_one (ps_ret (pe_ix ix_seq (pv 5) (pv 1) (fun _ _ => rfl)))) pss_nil)
      (pss_one (ps_ret (pe_op op_add (pe_ix ix_seq (pv 5) (pe_op op_add (pv 2) (pe_op op_mod (pe_callTy call_int1 (by rfl) T.int (by decide +kernel) (pa_cons (pe_op op_sub (pv 1) (pv 2)) pa_nil)) (pv 3))) (fun _ _ => rfl))
        (pe_op op_mul (pv 4) (pe_op op_fdivW (pe_op op_sub (pv 1) (pv 2)) (pv 3))))))), ?_⟩
    refine ⟨_, rfl, g_row hrow rfl ⟨_, _, rfl, _, _, rfl, _, _, rfl, _, _, rfl, rfl, ?_⟩⟩
    refine ⟨_, rfl, _, rfl, _, rfl, _, _, rfl, rfl, _, _, rfl, rfl, _, rfl, ?_⟩
    have z := k H (Ex.refl H)
    by_cases hn : n < b + p
    · rw [decide_eq_true hn]
      refine iteT ⟨_, rfl, _, rfl, ix_row trow (atI_int n0 (get_map (by omega))) ?_⟩
      by_cases hb : n < b
      · unfold tell at z
        rw [if_pos hb] at z
        exact z
      · rw [tell_at hp1 (by omega) hn] at z
        exact z
    · rw [decide_eq_false hn]
      have m0 : 0 ≤ (n - b) % p := Int.emod_nonneg _ (by omega)
      have m1 : (n - b) % p < p := Int.emod_lt_of_pos _ (by omega)
      refine iteF ⟨_, rfl, _, rfl, _, rfl, _, rfl, _, _, rfl, rfl, .inl ⟨_, rfl, ?_⟩⟩
      refine ⟨_, rfl, _, _, rfl, rfl, (by show (0 : Int) < p; omega), _, _, rfl, rfl, ix_row trow (atI_int (by omega) (get_map (by omega))) ?_⟩
      refine ⟨_, rfl, _, rfl, _, rfl, _, _, rfl, rfl, _, rfl, _, _, rfl, rfl, wide_div (b := 64) (by omega) (by omega) (by decide) (by decide), _, _, rfl, rfl, .inl ⟨by omega, by omega⟩, _, _, rfl, rfl, ?_⟩
      unfold tell at z
      rw [if_neg (by omega), Int.mul_comm] at z
      exact z
end
end Ts


set_option Elab.async false
set_option linter.all false
set_option maxRecDepth 100000
set_option maxHeartbeats 4000000
namespace Ts
open PySem PySem.Spec L2
open Evl (Ex)
theorem off_upd_ne {a c p : Addr} {H : Hp} {o : HO} (h1 : p ≠ a) (h2 : p ≠ c) : off a c (upd H p o) = upd (off a c H) p o := by
  funext b
  by_cases hb : b = p
  · subst hb
    rw [upd_same, off_ne h1 h2, upd_same]
  · rw [upd_ne hb]
    unfold off
    split
    · rfl
    · exact upd_ne hb
theorem off_none {a c p : Addr} {H : Hp} (h : H p = none) : off a c H p = none := by
  unfold off
  split
  · rfl
  · exact h
theorem Strm.nea {H : Hp} {a c : Addr} {n : Int} (h : Strm H a c n) {p : Addr} (hp : H p = none) : p ≠ a ∧ p ≠ c := by
  obtain ⟨⟨cells, s1, s3, h1, h2, _⟩, _, _⟩ := h
  exact ⟨fun z => (by rw [z, h1] at hp; cases hp), fun z => (by rw [z, h2] at hp; cases hp)⟩
theorem Strm.upd {H : Hp} {a c p : Addr} {n : Int} {o : HO} (h : Strm H a c n) (h1 : p ≠ a) (h2 : p ≠ c) : Strm (L2.upd H p o) a c n := by
  obtain ⟨⟨cells, s1, s3, g1, g2, r⟩, ne, n0⟩ := h
  exact ⟨⟨cells, s1, s3, by rw [upd_ne (Ne.symm h1)]; exact g1, by rw [upd_ne (Ne.symm h2)]; exact g2, r⟩, ne, n0⟩
/-- a paper of the law's: a tuple -/
def papD (b p g : Int) (ns : List Int) : PyData := .tuple [.int b, .int p, .int g, .list (ns.map .int)]
structure PGood (far gains b p g : Int) (ns : List Int) : Prop where
  b1 : 1 ≤ b
  b2 : b ≤ far
  p1 : 1 ≤ p
  p2 : p ≤ far
  g1 : 0 ≤ g
  g2 : g < gains
  len : (ns.length : Int) = b + p
  nn : ∀ z ∈ ns, 0 ≤ z ∧ z ≤ 10
  hd : ns.head? = some 0
theorem dall_ints {H : Hp} : ∀ ns : List Int, DAll H (ns.map V.int) (ns.map PyData.int)
  | [] => .nil
  | n :: r => .cons (.int n) (dall_ints r)
section
variable {P : Program} {w : World} {K : PySem.W.Frag} {mg : Str → Option Value} {base : Heap}
abbrev s_c_paper := top 30
theorem sc_c_paper : FnScope ["stream", "far", "gains", "begin", "period", "some", "values", "number"] ["stream", "far", "gains"] (defScope s_c_paper) := ⟨rfl, rfl, rfl, by decide +kernel, rfl, by decide +kernel, by decide +kernel⟩
theorem b_draw {f : Addr} {fd : FuncData} (F : FD K mg "_law_draw" "_law_draw" s_draw f fd) : Binds K fd ["stream", "many"] [] := F.F.binds fun _ _ _ _ _ _ us hl => match us, hl with | [_, _], _ => rfl
def spCPaper : Sp := fun vs H Q _ => ∃ a c n far gains, vs = [.ref a, .int far, .int gains] ∧ Strm H a c n ∧ n < 2 ^ 39 ∧ 1 ≤ far ∧ far ≤ 100 ∧ 1 ≤ gains ∧ gains ≤ 100 ∧
  ∀ H' z b p g ns n', Ex (off a c H) (off a c H') → Strm H' a c n' → n ≤ n' → n' ≤ n + 300 → D (off a c H') (.ref z) (papD b p g ns) → PGood far gains b p g ns → Q (.ref z) H'
theorem ok_c_paper {f f1 : Addr} {fd fd1 : FuncData} (F : FD K mg "_law_c_paper" "_law_c_paper" s_c_paper f fd) (F1 : FD K mg "_law_draw" "_law_draw" s_draw f1 fd1) (T : Bl mg) : FnOk P w K mg base CX0 2 f fd ["stream", "far", "gains"] spCPaper := by
  have G1 : FnOk P w K mg base CX0 1 f1 fd1 ["stream", "many"] spDraw := ok_draw F1 T
  refine F.F.ok sc_c_paper (fun vs H Q E h => ?_) (fun cdv A outer s H vs Q E hr h => ?_)
  · obtain ⟨a, c, n, far, gains, rfl, _⟩ := h
    rfl
  · obtain ⟨a, c, n, far, gains, rfl, S, n1, f1_, f2_, g1_, g2_, k⟩ := h
    have nd := sc_c_paper.nd
    refine ⟨_, pss_cons (ps_par (i := 3) (j := 4) (by rfl) nd rfl rfl (by decide) rfl rfl (pa_cons (pe_op op_add pe_int (pe_call G1 hr (by rfl) F1.g F1.F.kp (b_draw F1) .nil pass0 (pa_cons (pv 0) (pa_cons (pv 1) pa_nil)))) (pa_cons (pe_op op_add pe_int (pe_call G1 hr (by rfl) F1.g F1.F.kp (b_draw F1) .nil pass0 (pa_cons (pv 0) (pa_cons (pv 1) pa_nil)))) pa_nil)) (by rfl))
      (pss_cons (ps_set (i := 5) nd rfl (Or.inr rfl) (pe_op op_add pe_int (pe_call G1 hr (by rfl) F1.g F1.F.kp (b_draw F1) .nil pass0 (pa_cons (pv 0) (pa_cons pe_int pa_nil)))))
      (pss_cons (ps_set (i := 6) nd rfl (Or.inl rfl) (pe_op op_cat (pe_lst (pa_cons pe_int pa_nil)) (pe_lc (own := [("number", 7)]) (g := gName 7) (tt := tYes) rfl nd (pi_range1 (by rfl) T.range (pa_cons (pe_op op_sub (pe_op op_add (pv 3) (pv 4)) pe_int) pa_nil))
          (blkOk_by (N := ["stream", "far", "gains", "begin", "period", "some", "values", "number"]) (sc := defScope s_c_paper) (by decide +kernel)) (fun _ _ _ _ _ => pg_name (i := 7) nd rfl (Or.inl rfl)) (fun _ _ _ _ _ => pts_nil)
          (fun _ _ _ _ _ => pe_call G1 hr (by rfl) F1.g F1.F.kp (b_draw F1) .nil pass0 (pa_cons (pv 0) (pa_cons (pv 5) pa_nil))))))
      (pss_one (ps_ret (pe_tup (pa_cons (pv 3) (pa_cons (pv 4) (pa_cons (pe_call G1 hr (by rfl) F1.g F1.F.kp (b_draw F1) .nil pass0 (pa_cons (pv 0) (pa_cons (pv 2) pa_nil))) (pa_cons (pv 6) pa_nil))))))))), ?_⟩
    refine ⟨_, rfl, _, rfl, a, c, n, far, rfl, S, f1_, by omega, by omega, fun H1 r1 e1 S1 r10 r11 => ⟨_, _, rfl, rfl, ?_⟩⟩
    refine ⟨_, rfl, _, rfl, a, c, n + 1, far, rfl, S1, f1_, by omega, by omega, fun H2 r2 e2 S2 r20 r21 => ⟨_, _, rfl, rfl, _, _, rfl, ?_⟩⟩
    refine ⟨_, rfl, a, c, n + 1 + 1, 4, rfl, S2, by decide, by decide, by omega, fun H3 r3 e3 S3 r30 r31 => ⟨_, _, rfl, rfl, ?_⟩⟩
    have e13 := (e1.trans e2).trans e3
    refine ⟨by show 1 ≤ sizeLine; decide, fun q nq => ?_⟩
    have eq := Ex.new (o := .lst [.int 0]) nq
    have S4 := S3.ex eq
    have e14 := e13.trans (Ex.offs (a := a) (c := c) eq)
    generalize hH4 : upd H3 q (.lst [.int 0]) = H4 at eq S4 e14
    have q4 : H4 q = some (.lst [.int 0]) := by rw [← hH4]; exact upd_same
    refine ⟨_, rfl, _, rfl, _, _, rfl, rfl, _, _, rfl, rfl, _, rfl, by omega, by omega, fun Dd hD => ?_⟩
    obtain ⟨da, dc⟩ := S4.nea hD
    refine lc_it (walk_range (n := (1 + r1 + (1 + r2) - 1).toNat)) (Pv := fun i H' => ∃ l : List Int, l.length = i ∧ H' Dd = some (.lst (l.map V.int)) ∧ Strm H' a c (n + 1 + 1 + 1 + (i : Nat)) ∧ Ex (off a c H4) (off a c H') ∧ ∀ z ∈ l, 0 ≤ z ∧ z ≤ 10)
      ⟨[], rfl, upd_same, by simpa using S4.ex (Ex.new hD), Ex.offs (Ex.new hD), fun z hz => by cases hz⟩ (fun _ _ _ _ => trivial) ?_ ?_
    · rintro i x H' H'' hi ⟨l, hl, hDl, S', e', hn⟩ ⟨rfl, rfl⟩
      refine ⟨rfl, ?_⟩
      unfold tYes
      dsimp only
      rw [if_pos rfl]
      refine ⟨_, rfl, _, rfl, a, c, _, 1 + r3, rfl, S', by omega, by omega, by omega, fun H5 r e5 S5 r0 r1' => ?_⟩
      have hD5 : H5 Dd = some (.lst (l.map V.int)) := off_of (e5 Dd _ ((off_ne da dc).trans hDl))
      refine ⟨_, hD5, by rw [List.length_map, hl]; exact Evl.sz_lt (by omega), l ++ [r], by rw [List.length_append, hl]; rfl, by rw [upd_same, List.map_append]; rfl, ?_, ?_, fun z hz => ?_⟩
      · have := S5.upd (o := .lst (l.map V.int ++ [V.int r])) da dc
        have ec : n + 1 + 1 + 1 + ((i + 1 : Nat) : Int) = n + 1 + 1 + 1 + (i : Nat) + 1 := by omega
        rw [ec]
        exact this
      · rw [off_upd_ne da dc]
        exact (e'.trans e5).mut (off_none hD)
      · rcases List.mem_append.mp hz with hz | hz
        · exact hn z hz
        · rw [List.mem_singleton] at hz
          omega
    · rintro H' ⟨l, hl, hDl, S', e', hn⟩
      have qa := S3.nea nq
      have q5 : H' q = some (.lst [.int 0]) := off_of (e' q _ ((off_ne qa.1 qa.2).trans q4))
      refine ⟨q, Dd, [.int 0], _, rfl, rfl, q5, hDl, by rw [List.length_map, hl]; exact Evl.sz_of (by show 1 + _ ≤ 100000; omega), fun pv npv => ?_⟩
      have ep := Ex.new (o := .lst ([.int 0] ++ l.map V.int)) npv
      have S6 := S'.ex ep
      refine ⟨_, rfl, _, rfl, _, rfl, _, rfl, a, c, _, gains, rfl, S6, g1_, by omega, by omega, fun H7 r7 e7 S7 r70 r71 => ?_⟩
      refine ⟨_, rfl, by show 4 ≤ sizeLine; decide, fun zz nzz => ?_⟩
      have ez := Ex.new (o := .tup [.int (1 + r1), .int (1 + r2), .int r7, .ref pv]) nzz
      obtain ⟨za, zc⟩ := S7.nea nzz
      obtain ⟨pa', pc'⟩ := S'.nea npv
      have pv7 : off a c H7 pv = some (.lst ([.int 0] ++ l.map V.int)) := e7 _ _ ((off_ne pa' pc').trans upd_same)
      refine k _ zz (1 + r1) (1 + r2) r7 (0 :: l) _ (((e14.trans e').trans (Ex.offs ep)).trans (e7.trans (Ex.offs ez))) (S7.ex ez) (by omega) (by omega) ?_ ⟨by omega, by omega, by omega, by omega, r70, r71, by rw [List.length_cons, hl]; omega, fun z hz => ?_, rfl⟩
      · refine .tup (xs := [.int (1 + r1), .int (1 + r2), .int r7, .ref pv]) ((off_ne za zc).trans upd_same) (.cons (.int _) (.cons (.int _) (.cons (.int _) (.cons (.lst (Ex.offs (a := a) (c := c) ez _ _ pv7) ?_) .nil))))
        exact .cons (.int 0) (dall_ints l)
      · rcases List.mem_cons.mp hz with hz | hz
        · omega
        · exact hn z hz
end
end Ts


set_option Elab.async false
set_option linter.all false
set_option maxRecDepth 100000
set_option maxHeartbeats 4000000
namespace Ts
open PySem PySem.Spec L2
open Evl (Ex)
theorem DAll.app {H : Hp} : ∀ {xs ys : List V} {ds es : List PyData}, DAll H xs ds → DAll H ys es → DAll H (xs ++ ys) (ds ++ es)
  | _, _, _, _, .nil, h => h
  | _, _, _, _, .cons h r, h2 => .cons h (DAll.app r h2)
/-! ## things that are made from nothing -/
/-- what is new -/
def nw (H H' : Hp) : Hp := fun b => match H b with
  | none => H' b
  | some _ => none
theorem nw_none {H H' : Hp} {b : Addr} (h : H b = none) : nw H H' b = H' b := by
  unfold nw
  rw [h]
theorem nw_some {H H' : Hp} {b : Addr} {o : HO} (h : nw H H' b = some o) : H b = none ∧ H' b = some o := by
  unfold nw at h
  cases e : H b with
  | none =>
    rw [e] at h
    exact ⟨rfl, h⟩
  | some u =>
    rw [e] at h
    cases h
theorem nw_ex {H H' : Hp} : Ex (nw H H') H' := fun _ _ h => (nw_some h).2
theorem nw_mono {H H1 H2 H3 : Hp} (e : Ex H H1) (e2 : Ex H2 H3) : Ex (nw H1 H2) (nw H H3) := fun b o h => by
  obtain ⟨h1, h2⟩ := nw_some h
  rw [nw_none (Evl.fresh_back e h1)]
  exact e2 _ _ h2
def EvD (te : TE) (d : PyData) : Prop := ∀ σ H Q, (∀ v H', Ex H H' → D (nw H H') v d → Q v H') → te σ H Q
def EvDs (ta : TA) (ds : List PyData) : Prop := ∀ σ H Q, (∀ vs H', Ex H H' → DAll (nw H H') vs ds → Q vs H') → ta σ H Q
theorem evd_c {v : V} {d : PyData} (h : ∀ H, D H v d) : EvD (tC v) d := fun σ H Q k => k v H (Ex.refl H) (h _)
theorem evds_nil : EvDs tNil [] := fun σ H Q k => k [] H (Ex.refl H) .nil
theorem evds_cons {te : TE} {ta : TA} {d : PyData} {ds : List PyData} (h : EvD te d) (hs : EvDs ta ds) : EvDs (tCons te ta) (d :: ds) := fun σ H Q k =>
  h σ H _ fun v H1 e1 d1 => hs σ H1 _ fun vs H2 e2 d2 => k (v :: vs) H2 (e1.trans e2) (.cons (d1.ex (nw_mono (Ex.refl H) e2)) (d2.ex (nw_mono e1 (Ex.refl H2))))
theorem evd_tup {ta : TA} {ds : List PyData} (h : EvDs ta ds) (hz : ds.length ≤ 1000) : EvD (tTup ta) (.tuple ds) := fun σ H Q k =>
  h σ H _ fun vs H1 e1 d1 => ⟨by rw [d1.len]; exact Evl.sz_of (by omega), fun p np => k _ _ (e1.trans (Ex.new np)) (.tup (by rw [nw_none (Evl.fresh_back e1 np)]; exact upd_same) (d1.ex (nw_mono (Ex.refl H) (Ex.new np))))⟩
theorem evd_lst {ta : TA} {ds : List PyData} (h : EvDs ta ds) (hz : ds.length ≤ 1000) : EvD (tLst ta) (.list ds) := fun σ H Q k =>
  h σ H _ fun vs H1 e1 d1 => ⟨by rw [d1.len]; exact Evl.sz_of (by omega), fun p np => k _ _ (e1.trans (Ex.new np)) (.lst (by rw [nw_none (Evl.fresh_back e1 np)]; exact upd_same) (d1.ex (nw_mono (Ex.refl H) (Ex.new np))))⟩
theorem evd_neg (i : Int) : EvD (tUn (rU fun i => .int (-i)) (tC (.int i))) (.int (-i)) := fun σ H Q k => ⟨i, rfl, k _ H (Ex.refl H) (.int _)⟩
theorem evd_d0 : EvD tDNewK (.dict []) := fun σ H Q k p np => k _ _ (Ex.new np) (.dic (by rw [nw_none np]; exact upd_same) .nil)
theorem evd_d1 (x : Str) (i : Int) : EvD (tDisp [(tC (.str x), tC (.int i))]) (.dict [(.str x, .int i)]) := fun σ H Q k p np => by
  refine ⟨upd_same, [(.inr x, .int i)], rfl, (by show 1 ≤ 15; decide), k _ _ (fun b o h => ?_) ?_⟩
  · rw [upd_ne (ne_of_none h np), upd_ne (ne_of_none h np)]
    exact h
  · refine .dic (kvs := [(.inr x, .int i)]) ?_ (.cons (k := .inr x) (.int i) .nil)
    rw [nw_none np]
    exact upd_same
/-- what is new but one -/
def rg (H : Hp) (p : Addr) (H' : Hp) : Hp := L2.del (nw H H') p
theorem rg_ex {H H' : Hp} {p : Addr} : Ex (rg H p H') H' := fun b o h => by
  unfold rg L2.del at h
  split at h
  · cases h
  · exact nw_ex _ _ h
theorem rg_of {H H1 H' : Hp} {p : Addr} (e1 : Ex H H1) (np : H1 p = none) {x : HO} (e2 : Ex (upd H1 p x) H') : Ex (nw H H1) (rg H p H') := fun b o h => by
  obtain ⟨g1, g2⟩ := nw_some h
  have hb : b ≠ p := ne_of_none g2 np
  unfold rg
  rw [L2.del_ne hb, nw_none g1]
  exact e2 _ _ (by rw [upd_ne hb]; exact g2)
theorem rg_old {H H1 H2 H' : Hp} {p : Addr} (e1 : Ex H H1) (hp : H1 p ≠ none) (e2 : ∀ b o, b ≠ p → H2 b = some o → H' b = some o) : Ex (nw H1 H2) (rg H p H') := fun b o h => by
  obtain ⟨g1, g2⟩ := nw_some h
  have hb : b ≠ p := fun z => hp (by rw [← z]; exact g1)
  unfold rg
  rw [L2.del_ne hb, nw_none (Evl.fresh_back e1 g1)]
  exact e2 _ _ hb g2
theorem rg_mono {H H1 H2 : Hp} {p : Addr} (e : ∀ b o, b ≠ p → H1 b = some o → H2 b = some o) : Ex (rg H p H1) (rg H p H2) := fun b o h => by
  by_cases hb : b = p
  · unfold rg at h
    rw [hb, L2.del_same] at h
    cases h
  · unfold rg at h ⊢
    rw [L2.del_ne hb] at h ⊢
    obtain ⟨g1, g2⟩ := nw_some h
    rw [nw_none g1]
    exact e _ _ hb g2
/-- a list at p that grows -/
structure Grown (H H' : Hp) (p : Addr) (ds : List PyData) : Prop where
  ex : Ex H H'
  new : H p = none
  at_ : ∃ xs, H' p = some (.lst xs) ∧ DAll (rg H p H') xs ds
theorem Grown.start {H H1 : Hp} {p : Addr} {xs : List V} {ds : List PyData} (e1 : Ex H H1) (d1 : DAll (nw H H1) xs ds) (np : H1 p = none) : Grown H (upd H1 p (.lst xs)) p ds :=
  ⟨e1.trans (Ex.new np), Evl.fresh_back e1 np, xs, upd_same, d1.ex (rg_of e1 np (Ex.refl _))⟩
theorem Grown.more {H H1 H2 : Hp} {p l : Addr} {ys : List V} {ds es : List PyData} (g : Grown H H1 p ds) (e : Ex H1 H2) (d : DAll (nw H1 H2) ys es) (nl : H2 l = none) {xs : List V} (hx : H1 p = some (.lst xs)) :
    Grown H (upd (upd H2 l (.lst ys)) p (.lst (xs ++ ys))) p (ds ++ es) := by
  obtain ⟨e0, np, xs', hx', dx⟩ := g
  rw [hx] at hx'
  cases hx'
  have k : ∀ b o, b ≠ p → H2 b = some o → upd (upd H2 l (.lst ys)) p (.lst (xs ++ ys)) b = some o := fun b o hb h => by
    rw [upd_ne hb, upd_ne (ne_of_none h nl)]
    exact h
  refine ⟨fun b o h => k b o (ne_of_none h np) (e _ _ (e0 _ _ h)), np, _, upd_same, ?_⟩
  have a1 : DAll (rg H p (upd (upd H2 l (.lst ys)) p (.lst (xs ++ ys)))) xs ds := dx.ex (rg_mono fun b o hb h => k b o hb (e _ _ h))
  have a2 : DAll (rg H p (upd (upd H2 l (.lst ys)) p (.lst (xs ++ ys)))) ys es := d.ex (rg_old e0 (by rw [hx]; simp) k)
  exact a1.app a2
theorem lst_of {ta : TA} {ds : List PyData} {σ : L2.St} {H : Hp} {Q : VK} (h : EvDs ta ds) (hz : ds.length ≤ 1000) (k : ∀ vs H1 p, Ex H H1 → DAll (nw H H1) vs ds → H1 p = none → vs.length = ds.length → vs.length ≤ 1000 → Q (.ref p) (upd H1 p (.lst vs))) : tLst ta σ H Q :=
  h σ H _ fun vs H1 e1 d1 => ⟨by rw [d1.len]; exact Evl.sz_of (by omega), fun p np => k vs H1 p e1 d1 np d1.len (by rw [d1.len]; exact hz)⟩
def odd1 : List PyData := [.none, .int 5, .str "paper", .tuple [], .dict [], .bool true, .tuple [.int 1, .int 1, .int 0], .tuple [.int 1, .int 1, .int 0, .list [.int 0]], .tuple [.int 0, .int 1, .int 0, .list [.int 0]], .tuple [.int 1, .int 0, .int 0, .list [.int 0]]]
def odd2 : List PyData := [.tuple [.int 1, .int 1, .int (-1), .list [.int 0, .int 0]], .tuple [.int 1, .int 1, .int 0, .list [.int 0, .int (-1)]], .tuple [.int 1, .int 1, .int 0, .list [.int 0, .bool true]], .tuple [.int 1, .bool true, .int 0, .list [.int 0, .int 0]], .tuple [.int 1, .int 1, .int 0, .str "00"]]
def odd3 : List PyData := [.tuple [.int 1, .int 1, .int 0, .list [.int 1, .int 0]], .tuple [.int 1, .int 1, .int 0, .list [.int 0, .int 0, .int 0]], .tuple [.int 1, .int 1, .int 0, .none], .tuple [.int 1, .int 1, .none, .list [.int 0, .int 0]], .dict [(.str "begin", .int 1)]]
def odd4 : List PyData := [.tuple [.int 1, .int 1, .int 0, .list [.int 0, .int 0], .int 0]]
def oddD : List PyData := ((odd1 ++ odd2) ++ odd3) ++ odd4
section
variable {P : Program} {w : World} {K : PySem.W.Frag} {mg : Str → Option Value} {base : Heap}
abbrev s_c_odd := top 31
theorem sc_c_odd : FnScope ["found"] [] (defScope s_c_odd) := ⟨rfl, rfl, rfl, by decide +kernel, rfl, by decide +kernel, by decide +kernel⟩
def spOdd : Sp := fun vs H Q _ => vs = [] ∧ ∀ p H', H p = none → Ex H H' → D H' (.ref p) (.list oddD) → Q (.ref p) H'
theorem ok_c_odd {f : Addr} {fd : FuncData} (F : FD K mg "_law_c_odd" "_law_c_odd" s_c_odd f fd) : FnOk P w K mg base CX0 1 f fd [] spOdd := by
  refine F.F.ok sc_c_odd (fun vs H Q E h => ?_) (fun cdv A outer s H vs Q E hr h => ?_)
  · obtain ⟨rfl, _⟩ := h
    rfl
  · obtain ⟨rfl, k⟩ := h
    have nd := sc_c_odd.nd
    refine ⟨_, pss_cons (ps_set (i := 0) nd rfl (Or.inl rfl) (pe_lst (pa_cons pe_non (pa_cons pe_int (pa_cons pe_str (pa_cons (pe_tup pa_nil) (pa_cons pe_dnewK (pa_cons pe_bl (pa_cons (pe_tup (pa_cons pe_int (pa_cons pe_int (pa_cons pe_int pa_nil)))) (pa_cons (pe_tup (pa_cons pe_int (pa_cons pe_int (pa_cons pe_int (pa_cons (pe_lst (pa_cons pe_int pa_nil)) pa_nil))))) (pa_cons (pe_tup (pa_cons pe_int (pa_cons pe_int (pa_cons pe_int (pa_cons (pe_lst (pa_cons pe_int pa_nil)) pa_nil))))) (pa_cons (pe_tup (pa_cons pe_int (pa_cons pe_int (pa_cons pe_int (pa_cons (pe_lst (pa_cons pe_int pa_nil)) pa_nil))))) pa_nil))))))))))))
      (pss_cons (ps_expr (pe_bm PySem.F.plainAttrs_list PySem.F.slot_list_extend PySem.F.type_list_extend mt_extend (pv 0) (pa_cons (pe_lst (pa_cons (pe_tup (pa_cons pe_int (pa_cons pe_int (pa_cons (pe_un un_neg pe_int) (pa_cons (pe_lst (pa_cons pe_int (pa_cons pe_int pa_nil))) pa_nil))))) (pa_cons (pe_tup (pa_cons pe_int (pa_cons pe_int (pa_cons pe_int (pa_cons (pe_lst (pa_cons pe_int (pa_cons (pe_un un_neg pe_int) pa_nil))) pa_nil))))) (pa_cons (pe_tup (pa_cons pe_int (pa_cons pe_int (pa_cons pe_int (pa_cons (pe_lst (pa_cons pe_int (pa_cons pe_bl pa_nil))) pa_nil))))) (pa_cons (pe_tup (pa_cons pe_int (pa_cons pe_bl (pa_cons pe_int (pa_cons (pe_lst (pa_cons pe_int (pa_cons pe_int pa_nil))) pa_nil))))) (pa_cons (pe_tup (pa_cons pe_int (pa_cons pe_int (pa_cons pe_int (pa_cons pe_str pa_nil))))) pa_nil)))))) pa_nil)))
      (pss_cons (ps_expr (pe_bm PySem.F.plainAttrs_list PySem.F.slot_list_extend PySem.F.type_list_extend mt_extend (pv 0) (pa_cons (pe_lst (pa_cons (pe_tup (pa_cons pe_int (pa_cons pe_int (pa_cons pe_int (pa_cons (pe_lst (pa_cons pe_int (pa_cons pe_int pa_nil))) pa_nil))))) (pa_cons (pe_tup (pa_cons pe_int (pa_cons pe_int (pa_cons pe_int (pa_cons (pe_lst (pa_cons pe_int (pa_cons pe_int (pa_cons pe_int pa_nil)))) pa_nil))))) (pa_cons (pe_tup (pa_cons pe_int (pa_cons pe_int (pa_cons pe_int (pa_cons pe_non pa_nil))))) (pa_cons (pe_tup (pa_cons pe_int (pa_cons pe_int (pa_cons pe_non (pa_cons (pe_lst (pa_cons pe_int (pa_cons pe_int pa_nil))) pa_nil))))) (pa_cons (pe_disp (pps_cons pe_str pe_int pps_nil) (by rfl) (by rfl) (fun z => by cases z) (by decide)) pa_nil)))))) pa_nil)))
      (pss_one (ps_ret (pe_op op_cat (pv 0) (pe_lst (pa_cons (pe_tup (pa_cons pe_int (pa_cons pe_int (pa_cons pe_int (pa_cons (pe_lst (pa_cons pe_int (pa_cons pe_int pa_nil))) (pa_cons pe_int pa_nil)))))) pa_nil))))))), ?_⟩
    have h1 : EvDs _ odd1 := (evds_cons (evd_c (fun _ => .non)) (evds_cons (evd_c (fun _ => .int 5)) (evds_cons (evd_c (fun _ => .str "paper")) (evds_cons (evd_tup evds_nil (by decide)) (evds_cons evd_d0 (evds_cons (evd_c (fun _ => .bl true)) (evds_cons (evd_tup (evds_cons (evd_c (fun _ => .int 1)) (evds_cons (evd_c (fun _ => .int 1)) (evds_cons (evd_c (fun _ => .int 0)) evds_nil))) (by decide)) (evds_cons (evd_tup (evds_cons (evd_c (fun _ => .int 1)) (evds_cons (evd_c (fun _ => .int 1)) (evds_cons (evd_c (fun _ => .int 0)) (evds_cons (evd_lst (evds_cons (evd_c (fun _ => .int 0)) evds_nil) (by decide)) evds_nil)))) (by decide)) (evds_cons (evd_tup (evds_cons (evd_c (fun _ => .int 0)) (evds_cons (evd_c (fun _ => .int 1)) (evds_cons (evd_c (fun _ => .int 0)) (evds_cons (evd_lst (evds_cons (evd_c (fun _ => .int 0)) evds_nil) (by decide)) evds_nil)))) (by decide)) (evds_cons (evd_tup (evds_cons (evd_c (fun _ => .int 1)) (evds_cons (evd_c (fun _ => .int 0)) (evds_cons (evd_c (fun _ => .int 0)) (evds_cons (evd_lst (evds_cons (evd_c (fun _ => .int 0)) evds_nil) (by decide)) evds_nil)))) (by decide)) evds_nil))))))))))
    have h2 : EvDs _ odd2 := (evds_cons (evd_tup (evds_cons (evd_c (fun _ => .int 1)) (evds_cons (evd_c (fun _ => .int 1)) (evds_cons (evd_neg 1) (evds_cons (evd_lst (evds_cons (evd_c (fun _ => .int 0)) (evds_cons (evd_c (fun _ => .int 0)) evds_nil)) (by decide)) evds_nil)))) (by decide)) (evds_cons (evd_tup (evds_cons (evd_c (fun _ => .int 1)) (evds_cons (evd_c (fun _ => .int 1)) (evds_cons (evd_c (fun _ => .int 0)) (evds_cons (evd_lst (evds_cons (evd_c (fun _ => .int 0)) (evds_cons (evd_neg 1) evds_nil)) (by decide)) evds_nil)))) (by decide)) (evds_cons (evd_tup (evds_cons (evd_c (fun _ => .int 1)) (evds_cons (evd_c (fun _ => .int 1)) (evds_cons (evd_c (fun _ => .int 0)) (evds_cons (evd_lst (evds_cons (evd_c (fun _ => .int 0)) (evds_cons (evd_c (fun _ => .bl true)) evds_nil)) (by decide)) evds_nil)))) (by decide)) (evds_cons (evd_tup (evds_cons (evd_c (fun _ => .int 1)) (evds_cons (evd_c (fun _ => .bl true)) (evds_cons (evd_c (fun _ => .int 0)) (evds_cons (evd_lst (evds_cons (evd_c (fun _ => .int 0)) (evds_cons (evd_c (fun _ => .int 0)) evds_nil)) (by decide)) evds_nil)))) (by decide)) (evds_cons (evd_tup (evds_cons (evd_c (fun _ => .int 1)) (evds_cons (evd_c (fun _ => .int 1)) (evds_cons (evd_c (fun _ => .int 0)) (evds_cons (evd_c (fun _ => .str "00")) evds_nil)))) (by decide)) evds_nil)))))
    have h3 : EvDs _ odd3 := (evds_cons (evd_tup (evds_cons (evd_c (fun _ => .int 1)) (evds_cons (evd_c (fun _ => .int 1)) (evds_cons (evd_c (fun _ => .int 0)) (evds_cons (evd_lst (evds_cons (evd_c (fun _ => .int 1)) (evds_cons (evd_c (fun _ => .int 0)) evds_nil)) (by decide)) evds_nil)))) (by decide)) (evds_cons (evd_tup (evds_cons (evd_c (fun _ => .int 1)) (evds_cons (evd_c (fun _ => .int 1)) (evds_cons (evd_c (fun _ => .int 0)) (evds_cons (evd_lst (evds_cons (evd_c (fun _ => .int 0)) (evds_cons (evd_c (fun _ => .int 0)) (evds_cons (evd_c (fun _ => .int 0)) evds_nil))) (by decide)) evds_nil)))) (by decide)) (evds_cons (evd_tup (evds_cons (evd_c (fun _ => .int 1)) (evds_cons (evd_c (fun _ => .int 1)) (evds_cons (evd_c (fun _ => .int 0)) (evds_cons (evd_c (fun _ => .non)) evds_nil)))) (by decide)) (evds_cons (evd_tup (evds_cons (evd_c (fun _ => .int 1)) (evds_cons (evd_c (fun _ => .int 1)) (evds_cons (evd_c (fun _ => .non)) (evds_cons (evd_lst (evds_cons (evd_c (fun _ => .int 0)) (evds_cons (evd_c (fun _ => .int 0)) evds_nil)) (by decide)) evds_nil)))) (by decide)) (evds_cons (evd_d1 "begin" 1) evds_nil)))))
    have h4 : EvDs _ odd4 := (evds_cons (evd_tup (evds_cons (evd_c (fun _ => .int 1)) (evds_cons (evd_c (fun _ => .int 1)) (evds_cons (evd_c (fun _ => .int 0)) (evds_cons (evd_lst (evds_cons (evd_c (fun _ => .int 0)) (evds_cons (evd_c (fun _ => .int 0)) evds_nil)) (by decide)) (evds_cons (evd_c (fun _ => .int 0)) evds_nil))))) (by decide)) evds_nil)
    have c1 : odd1.length = 10 := rfl
    have c2 : odd2.length = 5 := rfl
    have c3 : odd3.length = 5 := rfl
    have c4 : odd4.length = 1 := rfl
    unfold tSeq tAsg
    refine lst_of h1 (by rw [c1]; decide) fun vs1 H1 p e1 d1 np l1 z1 => ?_
    have g1 := Grown.start e1 d1 np
    generalize hA : upd H1 p (.lst vs1) = HA at g1
    have pA : HA p = some (.lst vs1) := by rw [← hA]; exact upd_same
    refine ⟨_, rfl, .inl ⟨rfl, _, SqL.of pA⟩, lst_of h2 (by rw [c2]; decide) fun vs2 H2 l e2 d2 nl l2 z2' => ?_⟩
    have z2 : vs1.length + vs2.length ≤ sizeLine := by rw [l1, l2, c1, c2]; exact Evl.sz_of (by decide)
    refine ⟨p, l, vs1, vs2, rfl, rfl, (by rw [upd_ne (ne_of_none (e2 _ _ pA) nl)]; exact e2 _ _ pA), upd_same, z2, ?_⟩
    have g2 := g1.more e2 d2 nl pA
    generalize hB : upd (upd H2 l (.lst vs2)) p (.lst (vs1 ++ vs2)) = HB at g2
    have pB : HB p = some (.lst (vs1 ++ vs2)) := by rw [← hB]; exact upd_same
    refine ⟨_, rfl, .inl ⟨rfl, _, SqL.of pB⟩, lst_of h3 (by rw [c3]; decide) fun vs3 H3 l' e3 d3 nl' l3 z3' => ?_⟩
    have z3 : (vs1 ++ vs2).length + vs3.length ≤ sizeLine := by rw [List.length_append, l1, l2, l3, c1, c2, c3]; exact Evl.sz_of (by decide)
    refine ⟨p, l', _, vs3, rfl, rfl, (by rw [upd_ne (ne_of_none (e3 _ _ pB) nl')]; exact e3 _ _ pB), upd_same, z3, ?_⟩
    have g3 := g2.more e3 d3 nl' pB
    generalize hC : upd (upd H3 l' (.lst vs3)) p (.lst ((vs1 ++ vs2) ++ vs3)) = HC at g3
    have pC : HC p = some (.lst ((vs1 ++ vs2) ++ vs3)) := by rw [← hC]; exact upd_same
    refine ⟨_, rfl, lst_of h4 (by rw [c4]; decide) fun vs4 H4 l4 e4 d4 nl4 l4' z4' => ?_⟩
    have z4 : ((vs1 ++ vs2) ++ vs3).length + vs4.length ≤ sizeLine := by rw [List.length_append, List.length_append, l1, l2, l3, l4', c1, c2, c3, c4]; exact Evl.sz_of (by decide)
    have e5 := Ex.new (o := .lst vs4) nl4
    refine ⟨p, l4, _, vs4, rfl, rfl, e5 _ _ (e4 _ _ pC), upd_same, z4, fun q nq => ?_⟩
    have e6 := Ex.new (o := .lst (((vs1 ++ vs2) ++ vs3) ++ vs4)) nq
    have eA : Ex HC _ := (e4.trans e5).trans e6
    obtain ⟨eH, _, xs, hx, dx⟩ := g3
    rw [pC] at hx
    cases hx
    exact k q _ (Evl.fresh_back eH (Evl.fresh_back (e4.trans e5) nq)) (eH.trans eA) (.lst upd_same ((dx.ex (rg_ex.trans eA)).app (d4.ex (nw_ex.trans (e5.trans e6)))))
end
end Ts


set_option Elab.async false
set_option linter.all false
set_option maxRecDepth 100000
set_option maxHeartbeats 4000000
namespace Ts
open PySem PySem.Spec L2
open Evl (Ex)
/-- containers not too deep, not too long -/
def okD : Nat → PyData → Bool
  | _, .none => true
  | _, .bool _ => true
  | _, .int _ => true
  | _, .str _ => true
  | 0, _ => false
  | k + 1, .list l => decide (l.length ≤ 90000) && l.all (okD k)
  | k + 1, .tuple l => decide (l.length ≤ 90000) && l.all (okD k)
  | k + 1, .dict l => decide (l.length ≤ 10) && okD k (.list (l.map fun p => .tuple [p.1, p.2]))
def isTy (n : String) (d : PyData) : Bool := decide (tyD d = n)
theorem kit_list {K : PySem.W.Frag} (d : PyData) : PySem.W.kitOne K (.type (tyD d)) (.type "list") = some (isTy "list" d) := by cases d <;> first | rfl | decide +kernel
theorem kit_tuple {K : PySem.W.Frag} (d : PyData) : PySem.W.kitOne K (.type (tyD d)) (.type "tuple") = some (isTy "tuple" d) := by cases d <;> first | rfl | decide +kernel
theorem kit_dict {K : PySem.W.Frag} (d : PyData) : PySem.W.kitOne K (.type (tyD d)) (.type "dict") = some (isTy "dict" d) := by cases d <;> first | rfl | decide +kernel
def isIB : PyData → Bool
  | .int _ => true | .bool _ => true | _ => false
def isB : PyData → Bool
  | .bool _ => true | _ => false
theorem kit_ib {K : PySem.W.Frag} (d : PyData) : PySem.W.kitOne K (.type (tyD d)) (.type "int") = some (isIB d) := by cases d <;> first | rfl | decide +kernel
theorem kit_b {K : PySem.W.Frag} (d : PyData) : PySem.W.kitOne K (.type (tyD d)) (.type "bool") = some (isB d) := by cases d <;> first | rfl | decide +kernel
def is4 : PyData → Bool
  | .none => false | .str _ => false | _ => true
theorem kit_4 {K : PySem.W.Frag} (d : PyData) : PySem.W.kitAny K (.type (tyD d)) [.type "int", .type "list", .type "tuple", .type "dict"] = some (is4 d) := by cases d <;> first | rfl | decide +kernel
theorem walk_zipT {K : PySem.W.Frag} {a b : Addr} {xs ys : List V} {n : Nat} (hn : n = min xs.length ys.length) : Walk (RZ.ItzT K a b) n (fun H => SqT K H a xs ∧ SqT K H b ys) (YPair (fun i => xs[i]?) (fun i => ys[i]?)) := by
  subst hn
  refine ⟨fun i H hi g => ⟨xs, ys, xs[i]'(by omega), ys[i]'(by omega), g.1, g.2, List.getElem?_eq_getElem _, List.getElem?_eq_getElem _⟩, fun H g => ⟨xs, ys, g.1, g.2, by omega⟩, fun i H v H' hi g z => ?_⟩
  obtain ⟨T, u, v', e1, e2, e3, e4, e5⟩ := z
  exact ⟨T, u, v', e1, e2, e3, e4 _ g.1, e5 _ g.2⟩
theorem tcb1 {r : List V → Hp → VK → Prop} {t : TE} {σ : L2.St} {H : Hp} {Q : VK} (h : t σ H (fun x H1 => r [x] H1 Q)) : tCB r (tCons t tNil) σ H Q := h
/-- a pure comprehension, whatever it walks: J is what its iterable gives -/
theorem lc_any {wi : TI} {J : It} {n : Nat} {G : Hp → Prop} {Y : Nat → Hp → V → Hp → Prop} (w : Walk J n G Y) {g : TG} {te : TE} {vs : List Nat} {σ : L2.St} {H H1 : Hp} {out : Nat → V} {Q : VK} (hw : ∀ R : It → Hp → Prop, R J H1 → wi σ H R) (hz : n ≤ sizeLine)
    (hG : ∀ H, Ex H1 H → G H)
    (hs : ∀ i x H H', i < n → Ex H1 H → Y i H x H' → Ex H H' ∧ g x (wipe σ vs) H' fun σ2 H2 => wipe σ2 vs = wipe σ vs ∧ Ex H' H2 ∧ ∀ q : VK, (∀ H4, Ex H2 H4 → q (out i) H4) → te σ2 H2 q)
    (hgm : ∀ (x : V) (H : Hp) (q q' : L2.St → Hp → Prop), (∀ σ2 H2, q σ2 H2 → q' σ2 H2) → g x (wipe σ vs) H q → g x (wipe σ vs) H q')
    (hq : ∀ D Hf, H1 D = none → Ex H1 Hf → Hf D = some (.lst ((List.range n).map out)) → Q (.ref D) Hf) : tLc wi g tYes te vs σ H Q :=
  hw _ (lc_pure w hz hG hs hgm hq)
theorem dkv_tuples {H : Hp} : ∀ {ts : List Addr} {kvs : List (Key × V)} {ds : List (PyData × PyData)}, Paired (fun (t : Addr) (q : Key × V) => H t = some (.tup [kV q.1, q.2])) ts kvs → DKv H kvs ds → DAll H (ts.map V.ref) (ds.map fun p => .tuple [p.1, p.2])
  | [], [], ds, .nil, h2 => by
    cases h2
    exact .nil
  | _ :: _, (k, v) :: _, ds, .cons h r, h2 => by
    cases h2 with
    | cons hv t =>
      refine .cons (.tup h (.cons ?_ (.cons hv .nil))) (dkv_tuples r t)
      cases k with
      | inl n => exact .int n
      | inr x => exact .str x
theorem bl_same (q : Bool) : (!decide (V.bl q = V.bl q)) = false := by simp
section
variable {P : Program} {w : World} {K : PySem.W.Frag} {mg : Str → Option Value} {base : Heap}
abbrev s_same := top 35
theorem sc_same : FnScope ["found", "due", "x", "y"] ["found", "due"] (defScope s_same) := ⟨rfl, rfl, rfl, by decide +kernel, rfl, by decide +kernel, by decide +kernel⟩
/-- like things are told to be like -/
def spSame : Nat → Sp
  | 0 => fun _ _ _ _ => False
  | k + 1 => fun vs H Q _ => ∃ x y d, vs = [x, y] ∧ D H x d ∧ D H y d ∧ okD k d = true ∧ ∀ H', Ex H H' → Q (.bl true) H'
theorem ok_same {f : Addr} {fd : FuncData} (F : FD K mg "_law_same" "_law_same" s_same f fd) (T : Bl mg) : ∀ k, FnOk P w K mg base CX0 k f fd ["found", "due"] (spSame k)
  | 0 => ⟨fun _ _ _ _ h => h.elim, fun _ _ _ _ _ _ _ _ _ _ _ _ _ h => h.elim⟩
  | k + 1 => by
    have G0 := ok_same F T k
    have b0 : Binds K fd ["found", "due"] [] := F.F.binds fun _ _ _ _ _ _ us hl => match us, hl with | [_, _], _ => rfl
    refine F.F.ok sc_same (fun vs H Q E h => ?_) (fun cdv A outer s H vs Q E hr h => ?_)
    · obtain ⟨x, y, d, rfl, _⟩ := h
      rfl
    · obtain ⟨x, y, d, rfl, hx, hy, hok, kq⟩ := h
      have nd := sc_same.nd
      refine ⟨_, pss_cons (ps_if (pt_val (pe_callB call_isiT (by rfl) T.isinstance (by decide +kernel) (pa_cons (pv 1) (pa_cons (pe_tup (pa_cons (pe_bltn (v := .ty "list") (by rfl) T.list (by decide +kernel) rfl) (pa_cons (pe_bltn (v := .ty "tuple") (by rfl) T.tuple (by decide +kernel) rfl) pa_nil))) pa_nil))))
        (pss_cons (ps_if (PW.pt (pw_or (pt_cmpR op_ne (pe_callB call_isi (by rfl) T.isinstance (by decide +kernel) (pa_cons (pv 0) (pa_cons (pe_bltn (v := .ty "list") (by rfl) T.list (by decide +kernel) rfl) pa_nil))) (pe_callB call_isi (by rfl) T.isinstance (by decide +kernel) (pa_cons (pv 1) (pa_cons (pe_bltn (v := .ty "list") (by rfl) T.list (by decide +kernel) rfl) pa_nil))) (nomark _)) (pw_or1 (pt_cmpR op_ne (pe_callB call_isi (by rfl) T.isinstance (by decide +kernel) (pa_cons (pv 0) (pa_cons (pe_bltn (v := .ty "tuple") (by rfl) T.tuple (by decide +kernel) rfl) pa_nil))) (pe_callB call_isi (by rfl) T.isinstance (by decide +kernel) (pa_cons (pv 1) (pa_cons (pe_bltn (v := .ty "tuple") (by rfl) T.tuple (by decide +kernel) rfl) pa_nil))) (nomark _))))) (pss_one (ps_ret pe_bl)) pss_nil)
        (pss_one (ps_ret (pe_and (pe_cmpR op_eq (pe_callB call_len_seq (by rfl) T.len PySem.boot_len (pa_cons (pv 0) pa_nil)) (pe_callB call_len_seq (by rfl) T.len PySem.boot_len (pa_cons (pv 1) pa_nil)) (nomark _)) (pe_one (pe_callB (cr_all rfl) (by rfl) T.all (by decide +kernel) (pa_cons (pe_lc (own := [("x", 2), ("y", 3)]) (g := gTup K 2 (gCons (gName 2) (gCons (gName 3) gNil))) (tt := tYes) rfl nd (RZ.pi_zipA (by rfl) T.zip (pa_cons (pv 0) (pa_cons (pv 1) pa_nil))) (blkOk_by (N := ["found", "due", "x", "y"]) (sc := defScope s_same) (by decide +kernel))
          (fun _ _ _ _ _ => pg_tup rfl (pgs_cons (pg_name (i := 2) nd rfl (Or.inl rfl)) (pgs_cons (pg_name (i := 3) nd rfl (Or.inl rfl)) pgs_nil))) (fun _ _ _ _ _ => pts_nil) (fun _ _ _ _ _ => (pe_call G0 hr (by rfl) F.g F.F.kp b0 .nil pass0 (pa_cons (pv 2) (pa_cons (pv 3) pa_nil))))) pa_nil))))))) pss_nil)
      (pss_cons (ps_if (pt_val (pe_callB call_isi (by rfl) T.isinstance (by decide +kernel) (pa_cons (pv 1) (pa_cons (pe_bltn (v := .ty "dict") (by rfl) T.dict (by decide +kernel) rfl) pa_nil)))) (pss_one (ps_ret (pe_and (pe_callB call_isi (by rfl) T.isinstance (by decide +kernel) (pa_cons (pv 0) (pa_cons (pe_bltn (v := .ty "dict") (by rfl) T.dict (by decide +kernel) rfl) pa_nil))) (pe_one (pe_call G0 hr (by rfl) F.g F.F.kp b0 .nil pass0 (pa_cons (LiI.pe_listItems rfl (pv 0) (by rfl) T.list PyProof.Rows.boot_list) (pa_cons (LiI.pe_listItems rfl (pv 1) (by rfl) T.list PyProof.Rows.boot_list) pa_nil))))))) pss_nil)
      (pss_cons (ps_if (pt_val (pe_callB call_isi (by rfl) T.isinstance (by decide +kernel) (pa_cons (pv 1) (pa_cons (pe_bltn (v := .ty "int") (by rfl) T.int (by decide +kernel) rfl) pa_nil)))) (pss_one (ps_ret (pe_and (pe_callB call_isi (by rfl) T.isinstance (by decide +kernel) (pa_cons (pv 0) (pa_cons (pe_bltn (v := .ty "int") (by rfl) T.int (by decide +kernel) rfl) pa_nil))) (pe_and (pe_cmpR op_eq (pe_callB call_isi (by rfl) T.isinstance (by decide +kernel) (pa_cons (pv 0) (pa_cons (pe_bltn (v := .ty "bool") (by rfl) T.bool (by decide +kernel) rfl) pa_nil))) (pe_callB call_isi (by rfl) T.isinstance (by decide +kernel) (pa_cons (pv 1) (pa_cons (pe_bltn (v := .ty "bool") (by rfl) T.bool (by decide +kernel) rfl) pa_nil))) (nomark _)) (pe_one (pe_cmpR op_eq (pv 0) (pv 1) (nomark _))))))) pss_nil)
      (pss_one (ps_ret (pe_and (pe_not (pe_callB call_isiT (by rfl) T.isinstance (by decide +kernel) (pa_cons (pv 0) (pa_cons (pe_tup (pa_cons (pe_bltn (v := .ty "int") (by rfl) T.int (by decide +kernel) rfl) (pa_cons (pe_bltn (v := .ty "list") (by rfl) T.list (by decide +kernel) rfl) (pa_cons (pe_bltn (v := .ty "tuple") (by rfl) T.tuple (by decide +kernel) rfl) (pa_cons (pe_bltn (v := .ty "dict") (by rfl) T.dict (by decide +kernel) rfl) pa_nil))))) pa_nil)))) (pe_one (pe_cmpR op_eq (pv 0) (pv 1) (nomark _)))))))), ?_⟩
      refine ⟨_, rfl, by show 2 ≤ sizeLine; decide, fun p np => ⟨_, p, _, _, _, _, rfl, upd_same, .cons (.ty "list") (.cons (.ty "tuple") .nil), (hy.ex (Ex.new np)).ty, kit_row d, _, rfl, ?_⟩⟩
      have ep := Ex.new (o := .tup [.ty "list", .ty "tuple"]) np
      generalize hP : upd H p (.tup [.ty "list", .ty "tuple"]) = Hp at ep
      cases hy with
      | @lst b ys ds hb hys =>
        cases hx with
        | @lst a xs _ ha hxs =>
          cases k with
          | zero => cases hok
          | succ k =>
            obtain ⟨hl, hal⟩ := Bool.and_eq_true_iff.mp (show (decide (ds.length ≤ 90000) && ds.all (okD k)) = true from hok)
            have hl := of_decide_eq_true hl
            refine iteT ?_
            have hxp := (D.lst ha hxs).ex ep
            have hyp := (D.lst hb hys).ex ep
            refine ⟨_, rfl, _, _, _, _, _, rfl, .ty "list", hxp.ty, kit_list _, _, rfl, _, _, _, _, _, rfl, .ty "list", hyp.ty, kit_list _, rfl, _, rfl, ?_⟩
            refine ite_ff (bl_same _) ?_
            refine ⟨_, rfl, _, _, _, _, _, rfl, .ty "tuple", hxp.ty, kit_tuple _, _, rfl, _, _, _, _, _, rfl, .ty "tuple", hyp.ty, kit_tuple _, rfl, _, rfl, ?_⟩
            refine ite_ff (bl_same _) ?_
            refine ⟨_, rfl, a, xs, rfl, .inl (SqL.of (ep _ _ ha)), _, rfl, b, ys, rfl, .inl (SqL.of (ep _ _ hb)), rfl, _, rfl, ?_⟩
            refine ite_tt (by rw [hxs.len, hys.len]; exact decide_eq_true rfl) ?_
            refine tcb1 ?_
            refine lc_any (J := Itz K a b) (H1 := Hp) (out := fun _ => V.bl true) (walk_zip (xs := xs) (ys := ys) (n := ds.length) (by rw [hxs.len, hys.len, Nat.min_self])) (fun R r => ⟨_, rfl, _, rfl, a, b, xs, ys, rfl, Or.inl ⟨SqL.of (ep _ _ ha), SqL.of (ep _ _ hb), r⟩⟩) (Evl.sz_of (by omega)) (fun H' e => ⟨SqL.of (e _ _ (ep _ _ ha)), SqL.of (e _ _ (ep _ _ hb))⟩) (fun i z H1 H2 hi e yy => ?_) (fun z H1 q q' h zz => ?_) (fun Dd Hf hD e hl' => ?_)
            · obtain ⟨Tp, u, v, rfl, nT, rfl, hu, hv⟩ := yy
              have eT := Ex.new (o := .tup [u, v]) nT
              refine ⟨eT, Tp, _, rfl, SqT.of upd_same, rfl, _, _, rfl, _, _, rfl, rfl, rfl, Ex.refl _, fun q hq => ?_⟩
              obtain ⟨du, hdu, Du⟩ := hxs.get hu
              obtain ⟨dv, hdv, Dv⟩ := hys.get hv
              rw [hdu] at hdv
              cases hdv
              have e3 := (ep.trans e).trans eT
              exact ⟨_, rfl, _, rfl, u, v, du, rfl, Du.ex e3, Dv.ex e3, List.all_eq_true.mp hal du (List.mem_of_getElem? hdu), hq⟩
            · obtain ⟨a1, xs1, r1, r2, r3, v1, r4, r5, v2, r7, r8, r9, r10⟩ := zz
              exact ⟨a1, xs1, r1, r2, r3, v1, r4, r5, v2, r7, r8, r9, h _ _ r10⟩
            · refine ⟨Dd, List.replicate ds.length true, rfl, SqL.of ?_, ?_⟩
              · rw [hl', List.map_replicate, List.map_const', List.length_range]
              · have et : (List.replicate ds.length true).all id = true := List.all_eq_true.mpr fun z hz => List.eq_of_mem_replicate hz
                rw [et]
                exact kq _ (ep.trans e)
      | @tup b ys ds hb hys =>
        cases hx with
        | @tup a xs _ ha hxs =>
          cases k with
          | zero => cases hok
          | succ k =>
            obtain ⟨hl, hal⟩ := Bool.and_eq_true_iff.mp (show (decide (ds.length ≤ 90000) && ds.all (okD k)) = true from hok)
            have hl := of_decide_eq_true hl
            refine iteT ?_
            have hxp := (D.tup ha hxs).ex ep
            have hyp := (D.tup hb hys).ex ep
            refine ⟨_, rfl, _, _, _, _, _, rfl, .ty "list", hxp.ty, kit_list _, _, rfl, _, _, _, _, _, rfl, .ty "list", hyp.ty, kit_list _, rfl, _, rfl, ?_⟩
            refine ite_ff (bl_same _) ?_
            refine ⟨_, rfl, _, _, _, _, _, rfl, .ty "tuple", hxp.ty, kit_tuple _, _, rfl, _, _, _, _, _, rfl, .ty "tuple", hyp.ty, kit_tuple _, rfl, _, rfl, ?_⟩
            refine ite_ff (bl_same _) ?_
            refine ⟨_, rfl, a, xs, rfl, .inr (SqT.of (ep _ _ ha)), _, rfl, b, ys, rfl, .inr (SqT.of (ep _ _ hb)), rfl, _, rfl, ?_⟩
            refine ite_tt (by rw [hxs.len, hys.len]; exact decide_eq_true rfl) ?_
            refine tcb1 ?_
            refine lc_any (J := RZ.ItzT K a b) (H1 := Hp) (out := fun _ => V.bl true) (walk_zipT (xs := xs) (ys := ys) (n := ds.length) (by rw [hxs.len, hys.len, Nat.min_self])) (fun R r => ⟨_, rfl, _, rfl, a, b, xs, ys, rfl, Or.inr ⟨SqT.of (ep _ _ ha), SqT.of (ep _ _ hb), r⟩⟩) (Evl.sz_of (by omega)) (fun H' e => ⟨SqT.of (e _ _ (ep _ _ ha)), SqT.of (e _ _ (ep _ _ hb))⟩) (fun i z H1 H2 hi e yy => ?_) (fun z H1 q q' h zz => ?_) (fun Dd Hf hD e hl' => ?_)
            · obtain ⟨Tp, u, v, rfl, nT, rfl, hu, hv⟩ := yy
              have eT := Ex.new (o := .tup [u, v]) nT
              refine ⟨eT, Tp, _, rfl, SqT.of upd_same, rfl, _, _, rfl, _, _, rfl, rfl, rfl, Ex.refl _, fun q hq => ?_⟩
              obtain ⟨du, hdu, Du⟩ := hxs.get hu
              obtain ⟨dv, hdv, Dv⟩ := hys.get hv
              rw [hdu] at hdv
              cases hdv
              have e3 := (ep.trans e).trans eT
              exact ⟨_, rfl, _, rfl, u, v, du, rfl, Du.ex e3, Dv.ex e3, List.all_eq_true.mp hal du (List.mem_of_getElem? hdu), hq⟩
            · obtain ⟨a1, xs1, r1, r2, r3, v1, r4, r5, v2, r7, r8, r9, r10⟩ := zz
              exact ⟨a1, xs1, r1, r2, r3, v1, r4, r5, v2, r7, r8, r9, h _ _ r10⟩
            · refine ⟨Dd, List.replicate ds.length true, rfl, SqL.of ?_, ?_⟩
              · rw [hl', List.map_replicate, List.map_const', List.length_range]
              · have et : (List.replicate ds.length true).all id = true := List.all_eq_true.mpr fun z hz => List.eq_of_mem_replicate hz
                rw [et]
                exact kq _ (ep.trans e)
      | non =>
        cases hx
        refine iteF ?_
        refine ⟨_, rfl, _, _, _, _, _, rfl, .ty "dict", (D.non).ty, kit_dict _, _, rfl, ?_⟩
        refine ite_ff (by show decide ("NoneType" = "dict") = false; decide) ?_
        refine ⟨_, rfl, _, _, _, _, _, rfl, .ty "int", (D.non).ty, kit_ib _, _, rfl, ?_⟩
        refine ite_ff rfl ?_
        refine ⟨_, rfl, by show 4 ≤ sizeLine; decide, fun p2 np2 => ⟨_, p2, _, _, _, _, rfl, upd_same, .cons (.ty "int") (.cons (.ty "list") (.cons (.ty "tuple") (.cons (.ty "dict") .nil))), (D.non).ty, kit_4 _, ?_⟩⟩
        refine ⟨_, rfl, _, rfl, iteT ⟨_, rfl, _, rfl, rfl, ?_⟩⟩
        rw [decide_eq_true rfl]
        exact kq _ (ep.trans (Ex.new np2))
      | bl b =>
        cases hx
        refine iteF ?_
        refine ⟨_, rfl, _, _, _, _, _, rfl, .ty "dict", (D.bl b).ty, kit_dict _, _, rfl, ?_⟩
        refine ite_ff (by show decide ("NoneType" = "dict") = false; decide) ?_
        refine ⟨_, rfl, _, _, _, _, _, rfl, .ty "int", (D.bl b).ty, kit_ib _, _, rfl, ?_⟩
        refine ite_tt rfl ?_
        refine ⟨_, rfl, _, _, _, _, _, rfl, .ty "int", (D.bl b).ty, kit_ib _, _, rfl, iteT ?_⟩
        refine ⟨_, rfl, _, _, _, _, _, rfl, .ty "bool", (D.bl b).ty, kit_b _, _, rfl, _, _, _, _, _, rfl, .ty "bool", (D.bl b).ty, kit_b _, rfl, _, rfl, ?_⟩
        refine ite_tt (decide_eq_true rfl) ⟨_, rfl, _, rfl, rfl, ?_⟩
        rw [decide_eq_true rfl]
        exact kq _ ep
      | int i =>
        cases hx
        refine iteF ?_
        refine ⟨_, rfl, _, _, _, _, _, rfl, .ty "dict", (D.int i).ty, kit_dict _, _, rfl, ?_⟩
        refine ite_ff (by show decide ("NoneType" = "dict") = false; decide) ?_
        refine ⟨_, rfl, _, _, _, _, _, rfl, .ty "int", (D.int i).ty, kit_ib _, _, rfl, ?_⟩
        refine ite_tt rfl ?_
        refine ⟨_, rfl, _, _, _, _, _, rfl, .ty "int", (D.int i).ty, kit_ib _, _, rfl, iteT ?_⟩
        refine ⟨_, rfl, _, _, _, _, _, rfl, .ty "bool", (D.int i).ty, kit_b _, _, rfl, _, _, _, _, _, rfl, .ty "bool", (D.int i).ty, kit_b _, rfl, _, rfl, ?_⟩
        refine ite_tt (decide_eq_true rfl) ⟨_, rfl, _, rfl, rfl, ?_⟩
        rw [decide_eq_true rfl]
        exact kq _ ep
      | str z =>
        cases hx
        refine iteF ?_
        refine ⟨_, rfl, _, _, _, _, _, rfl, .ty "dict", (D.str z).ty, kit_dict _, _, rfl, ?_⟩
        refine ite_ff (by show decide ("NoneType" = "dict") = false; decide) ?_
        refine ⟨_, rfl, _, _, _, _, _, rfl, .ty "int", (D.str z).ty, kit_ib _, _, rfl, ?_⟩
        refine ite_ff rfl ?_
        refine ⟨_, rfl, by show 4 ≤ sizeLine; decide, fun p2 np2 => ⟨_, p2, _, _, _, _, rfl, upd_same, .cons (.ty "int") (.cons (.ty "list") (.cons (.ty "tuple") (.cons (.ty "dict") .nil))), (D.str z).ty, kit_4 _, ?_⟩⟩
        refine ⟨_, rfl, _, rfl, iteT ⟨_, rfl, _, rfl, rfl, ?_⟩⟩
        rw [decide_eq_true rfl]
        exact kq _ (ep.trans (Ex.new np2))
      | @dic b kvs ds hb hkv =>
        cases hx with
        | @dic a kvs2 _ ha hkv2 =>
          cases k with
          | zero => cases hok
          | succ k =>
            obtain ⟨_, hal⟩ := Bool.and_eq_true_iff.mp (show (decide (ds.length ≤ 10) && okD k (.list (ds.map fun p => .tuple [p.1, p.2]))) = true from hok)
            have hxp := (D.dic ha hkv2).ex ep
            have hyp := (D.dic hb hkv).ex ep
            refine iteF ?_
            refine ⟨_, rfl, _, _, _, _, _, rfl, .ty "dict", hyp.ty, kit_dict _, _, rfl, ?_⟩
            refine ite_tt (decide_eq_true rfl) ?_
            refine ⟨_, rfl, _, _, _, _, _, rfl, .ty "dict", hxp.ty, kit_dict _, _, rfl, ?_⟩
            refine ite_tt (decide_eq_true rfl) ?_
            refine ⟨_, rfl, a, kvs2, rfl, ep _ _ ha, fun H1 p1 ts1 e1 np1 _ _ hl1 pr1 => ?_⟩
            refine ⟨_, rfl, b, kvs, rfl, e1 _ _ (ep _ _ hb), fun H2 p2 ts2 e2 np2 _ _ hl2 pr2 => ?_⟩
            have e01 : Ex H H1 := ep.trans e1
            have e02 : Ex H H2 := e01.trans e2
            refine ⟨.ref p1, .ref p2, .list (ds.map fun p => .tuple [p.1, p.2]), rfl, .ex e2 (.lst hl1 (dkv_tuples pr1 (hkv2.ex e01))), .lst hl2 (dkv_tuples pr2 (hkv.ex e02)), hal, fun H3 e3 => kq _ (e02.trans e3)⟩
end
end Ts


set_option Elab.async false
set_option linter.all false
set_option maxRecDepth 100000
set_option maxHeartbeats 4000000
namespace Ts
open PySem PySem.Spec L2
open Evl (Ex)
/-- data that is led loosely: no dicts, short -/
def okL : Nat → PyData → Bool
  | _, .none => true
  | _, .bool _ => true
  | _, .int _ => true
  | _, .str _ => true
  | 0, _ => false
  | _, .dict _ => false
  | k + 1, .list l => decide (l.length ≤ 90) && l.all (okL k)
  | k + 1, .tuple l => decide (l.length ≤ 90) && l.all (okL k)
/-- how many draws at most -/
def dr : Nat → Int
  | 0 => 0
  | k + 1 => 1 + 90 * dr k
theorem dr_pos : ∀ k, 0 ≤ dr k
  | 0 => Int.le_refl 0
  | k + 1 => by
    have := dr_pos k
    show 0 ≤ 1 + 90 * dr k
    omega
mutual
inductive Loo : PyData → PyData → Prop
  | same {d : PyData} : isRow d = false → Loo d d
  | row {d : PyData} (k : Bool) {es : List PyData} : isRow d = true → LooAll (items d) es → Loo d (mk k es)
inductive LooAll : List PyData → List PyData → Prop
  | nil : LooAll [] []
  | cons {d e : PyData} {ds es : List PyData} : Loo d e → LooAll ds es → LooAll (d :: ds) (e :: es)
end
theorem LooAll.snoc : ∀ {ds es : List PyData} {d e : PyData}, LooAll ds es → Loo d e → LooAll (ds ++ [d]) (es ++ [e])
  | _, _, _, _, .nil, h => .cons h .nil
  | _, _, _, _, .cons h r, h2 => .cons h (LooAll.snoc r h2)
theorem okL_row {k : Nat} {d : PyData} (hr : isRow d = true) (h : okL k d = true) : ∃ j, k = j + 1 ∧ (items d).length ≤ 90 ∧ ∀ e ∈ items d, okL j e = true := by
  cases k with
  | zero => cases d <;> first | (cases hr; done) | (cases h; done)
  | succ j =>
    refine ⟨j, rfl, ?_⟩
    cases d <;> first
      | (cases hr; done)
      | (obtain ⟨h1, h2⟩ := Bool.and_eq_true_iff.mp h; exact ⟨of_decide_eq_true h1, fun e he => List.all_eq_true.mp h2 e he⟩)
theorem DAll.snoc {H : Hp} {xs : List V} {ds : List PyData} {x : V} {d : PyData} (h : DAll H xs ds) (hd : D H x d) : DAll H (xs ++ [x]) (ds ++ [d]) := h.app (.cons hd .nil)
/-- a comprehension over the row in slot i, whose elements change what Pv tells -/
theorem lcs_row {K : PySem.W.Frag} {i j : Nat} {te : TE} {vs : List Nat} {σ : L2.St} {H : Hp} {a : Addr} {xs : List V} {Q : VK} (Pv : Addr → Nat → Hp → Prop) (hσ : σ[i]? = some (some (.ref a))) (hr : Row H a xs)
    (hw : ∀ x : V, wipe ((wipe σ vs).set j (some x)) vs = wipe σ vs)
    (h0 : ∀ D, H D = none → Pv D 0 (upd H D (.lst [])))
    (hkeep : ∀ D i H', Pv D i H' → ∀ o, H a = some o → H' a = some o)
    (hs : ∀ D i x H', xs[i]? = some x → Pv D i H' → te ((wipe σ vs).set j (some x)) H' fun y H4 => ∃ acc, H4 D = some (.lst acc) ∧ acc.length < sizeLine ∧ Pv D (i + 1) (upd H4 D (.lst (acc ++ [y]))))
    (hq : ∀ D H', Pv D xs.length H' → Q (.ref D) H') : tLc (iOr (iList K (tVar i)) (iTup K (tVar i))) (gName j) tYes te vs σ H Q := by
  have body : ∀ D i x H', xs[i]? = some x → Pv D i H' → gName j x (wipe σ vs) H' fun σ2 H2 => wipe σ2 vs = wipe σ vs ∧ tYes σ2 H2 fun b H3 =>
      if b = true then te σ2 H3 fun y H4 => ∃ acc, H4 D = some (.lst acc) ∧ acc.length < sizeLine ∧ Pv D (i + 1) (upd H4 D (.lst (acc ++ [y]))) else Pv D (i + 1) H3 := fun D i x H' hx p => by
    refine ⟨hw x, ?_⟩
    unfold tYes
    dsimp only
    rw [if_pos rfl]
    exact hs D i x H' hx p
  rcases hr with h | h
  · refine .inl ⟨_, hσ, a, rfl, ⟨xs, SqL.of h⟩, fun D hD => ?_⟩
    exact lc_it (walk_list (xs := xs)) (Pv D) (h0 D hD) (fun i H' _ p => SqL.of (hkeep D i H' p _ h)) (fun i x H' H'' hi p y => by
      obtain ⟨rfl, hx⟩ := y
      exact body D i x H'' hx p) (fun H' p => hq D H' p)
  · refine .inr ⟨_, hσ, a, rfl, ⟨xs, SqT.of h⟩, fun D hD => ?_⟩
    exact lc_it (walk_tup (xs := xs)) (Pv D) (h0 D hD) (fun i H' _ p => SqT.of (hkeep D i H' p _ h)) (fun i x H' H'' hi p y => by
      obtain ⟨rfl, hx⟩ := y
      exact body D i x H'' hx p) (fun H' p => hq D H' p)
theorem seq1 {t u : TS} {D : Ends} {σ : L2.St} {H : Hp} (h : t { D with nx := u D } σ H) : tSeq t u D σ H := h
theorem asg1 {t : TE} {g : TG} {D : Ends} {σ : L2.St} {H : Hp} (h : t σ H (fun x H1 => g x σ H1 D.nx)) : tAsg t g D σ H := h
theorem next1 {D : Ends} {σ : L2.St} {H : Hp} (h : D.nx σ H) : tNext D σ H := h
theorem off_back {a c l : Addr} {n : Int} {H H' : Hp} (e : Ex (off a c H) (off a c H')) (S : Strm H' a c n) (h : H' l = none) : H l = none := by
  cases q : H l with
  | none => rfl
  | some o =>
    exfalso
    obtain ⟨⟨_, _, _, g1, g2, _⟩, _, _⟩ := S
    by_cases la : l = a
    · rw [la, g1] at h
      cases h
    · by_cases lc : l = c
      · rw [lc, g2] at h
        cases h
      · have z := off_of (e l o ((off_ne la lc).trans q))
        rw [h] at z
        cases z
/-- a region of the heap has grown by what is new -/
structure Reg (a c : Addr) (G G' H H' : Hp) : Prop where
  e : Ex G G'
  i : Ex G' (off a c H')
  f : ∀ b, G' b ≠ none → G b ≠ none ∨ H b = none
section
variable {P : Program} {w : World} {K : PySem.W.Frag} {mg : Str → Option Value} {base : Heap}
abbrev s_loose := top 36
theorem sc_loose : FnScope ["stream", "thing", "found", "part"] ["stream", "thing"] (defScope s_loose) := ⟨rfl, rfl, rfl, by decide +kernel, rfl, by decide +kernel, by decide +kernel⟩
def spLoose : Nat → Sp
  | 0 => fun _ _ _ _ => False
  | k + 1 => fun vs H Q _ => ∃ a c n v d G, vs = [.ref a, v] ∧ Strm H a c n ∧ Ex G (off a c H) ∧ D G v d ∧ okL k d = true ∧ n + dr k ≤ 2 ^ 39 ∧
      ∀ H' v' d' G' n', Ex (off a c H) (off a c H') → Strm H' a c n' → n ≤ n' → n' ≤ n + dr k → Reg a c G G' H H' → D G' v' d' → Loo d d' → Q v' H'
theorem ok_loose {f f1 : Addr} {fd fd1 : FuncData} (F : FD K mg "_law_loose" "_law_loose" s_loose f fd) (F1 : FD K mg "_law_draw" "_law_draw" s_draw f1 fd1) (T : Bl mg) : ∀ k, FnOk P w K mg base CX0 (k + 1) f fd ["stream", "thing"] (spLoose k)
  | 0 => ⟨fun _ _ _ _ h => h.elim, fun _ _ _ _ _ _ _ _ _ _ _ _ _ h => h.elim⟩
  | k + 1 => by
    have G0 := ok_loose F F1 T k
    have G1 : FnOk P w K mg base CX0 1 f1 fd1 ["stream", "many"] spDraw := ok_draw F1 T
    have b0 : Binds K fd ["stream", "thing"] [] := F.F.binds fun _ _ _ _ _ _ us hl => match us, hl with | [_, _], _ => rfl
    refine F.F.ok sc_loose (fun vs H Q E h => ?_) (fun cdv A outer s H vs Q E hr h => ?_)
    · obtain ⟨a, c, n, v, d, G, rfl, _⟩ := h
      rfl
    · obtain ⟨a, c, n, v, d, G, rfl, S, eG, hd, hok, hn, kq⟩ := h
      have nd := sc_loose.nd
      refine ⟨_, pss_cons (ps_if (pt_not (pt_val (pe_callB call_isiT (by rfl) T.isinstance (by decide +kernel) (pa_cons (pv 1) (pa_cons (pe_tup (pa_cons (pe_bltn (v := .ty "list") (by rfl) T.list (by decide +kernel) rfl) (pa_cons (pe_bltn (v := .ty "tuple") (by rfl) T.tuple (by decide +kernel) rfl) pa_nil))) pa_nil))))) (pss_one (ps_ret (pv 1))) pss_nil)
        (pss_cons (ps_setLc (i := 2) (own := [("part", 3)]) (g := gName 3) (tt := tYes) rfl nd rfl rfl (sw_true rfl rfl rfl (by decide +kernel)) (pi_or (pi_list (pv 1)) (pi_tup (pv 1))) (blkOk_by (N := ["stream", "thing", "found", "part"]) (sc := defScope s_loose) (by decide +kernel))
            (fun _ _ _ _ _ => pg_name (i := 3) nd rfl (Or.inl rfl)) (fun _ _ _ _ _ => pts_nil) (fun _ _ _ _ _ => pe_call G0 hr (by rfl) F.g F.F.kp b0 .nil pass0 (pa_cons (pv 0) (pa_cons (pv 3) pa_nil))))
        (pss_one (ps_ret (pe_ifExp (pt_cmpR op_eq (pe_call G1 (hr.mono (by omega)) (by rfl) F1.g F1.F.kp (b_draw F1) .nil pass0 (pa_cons (pv 0) (pa_cons pe_int pa_nil))) pe_int (nomark _)) (pv 2)
            (pe_callTy call_tuple_of (by rfl) T.tuple PyProof.Rows.boot_tuple (pa_cons (pv 2) pa_nil)))))), ?_⟩
      have hdH := hd.ex (eG.trans off_ex)
      refine ⟨_, rfl, by show 2 ≤ sizeLine; decide, fun p np => ⟨_, p, _, _, _, _, rfl, upd_same, .cons (.ty "list") (.cons (.ty "tuple") .nil), (hdH.ex (Ex.new np)).ty, kit_row d, _, rfl, ?_⟩⟩
      have ep := Ex.new (o := .tup [.ty "list", .ty "tuple"]) np
      generalize hP : upd H p (.tup [.ty "list", .ty "tuple"]) = H0 at ep
      have S0 := S.ex ep
      have e0 := Ex.offs (a := a) (c := c) ep
      have dp := dr_pos k
      by_cases hr1 : isRow d = true
      · obtain ⟨j, rfl, hlen, hall⟩ := okL_row hr1 hok
        obtain ⟨a', xs, rfl, hrow, hxs⟩ := hd.row hr1
        have dj := dr_pos j
        have hdr : dr (j + 1) = 1 + 90 * dr j := rfl
        refine ite_ff (by rw [hr1]; rfl) ?_
        have row0 : Row H0 a' xs := ((hrow.ex eG).ex e0).ex off_ex
        refine next1 ?_
        dsimp only
        refine seq1 (asg1 ?_)
        refine lcs_row (fun Dd i H' => ∃ (acc : List V) (G' : Hp) (es : List PyData) (n' : Int), acc.length = i ∧ H' Dd = some (.lst acc) ∧ H0 Dd = none ∧ Strm H' a c n' ∧ n ≤ n' ∧ n' ≤ n + (i : Nat) * dr j ∧ Ex (off a c H0) (off a c H') ∧ Ex G G' ∧ Ex G' (off a c H') ∧ (∀ b, G' b ≠ none → G b ≠ none ∨ (H0 b = none ∧ b ≠ Dd)) ∧ DAll G' acc es ∧ LooAll ((items d).take i) es)
          (by rfl) row0 (fun x => rfl) (fun Dd hD => ?_) (fun Dd i H' p o ho => ?_) (fun Dd i x H' hx p => ?_) (fun Dd H' p => ?_)
        · refine ⟨[], G, [], n, rfl, upd_same, hD, S0.ex (Ex.new hD), Int.le_refl _, by simp, Ex.offs (Ex.new hD), Ex.refl _, (eG.trans e0).trans (Ex.offs (Ex.new hD)), fun b hb => .inl hb, .nil, .nil⟩
        · obtain ⟨acc, G', es, n', h1, h2, h3, h4, h5, h6, h7, h8, h9, h10, h11, h12⟩ := p
          rcases hrow with z | z
          · have q := eG _ _ z
            have q0 := e0 _ _ q
            rw [off_of q0] at ho
            cases ho
            exact off_of (h7 _ _ q0)
          · have q := eG _ _ z
            have q0 := e0 _ _ q
            rw [off_of q0] at ho
            cases ho
            exact off_of (h7 _ _ q0)
        · obtain ⟨acc, G', es, n', h1, h2, h3, h4, h5, h6, h7, h8, h9, h10, h11, h12⟩ := p
          obtain ⟨dx, hdx, Dx⟩ := hxs.get hx
          have hi : i < (items d).length := (List.getElem?_eq_some_iff.mp hdx).1
          have hmul : (i : Int) * dr j + dr j ≤ 90 * dr j := by
            have : ((i : Int) + 1) * dr j ≤ 90 * dr j := Int.mul_le_mul_of_nonneg_right (by omega) dj
            rw [Int.add_mul, Int.one_mul] at this
            exact this
          refine ⟨_, rfl, _, rfl, a, c, n', x, dx, G', rfl, h4, h9, Dx.ex h8, hall dx (List.mem_of_getElem? hdx), by omega, fun H4 y dy G2 n2 k1 k2 k3 k4 k5 k6 k7 => ?_⟩
          have nea := S0.nea h3
          have hD4 : H4 Dd = some (.lst acc) := off_of (k1 _ _ ((off_ne nea.1 nea.2).trans h2))
          have gD : G2 Dd = none := by
            cases e : G2 Dd with
            | none => rfl
            | some o =>
              rcases k5.f Dd (by rw [e]; simp) with z | z
              · rcases h10 Dd z with z | z
                · exfalso
                  cases e' : G Dd with
                  | none => exact z e'
                  | some o' =>
                    have q := off_of (e0 _ _ (eG _ _ e'))
                    rw [h3] at q
                    cases q
                · exact (z.2 rfl).elim
              · rw [h2] at z
                cases z
          refine ⟨acc, hD4, by rw [h1]; exact Evl.sz_lt (by omega), acc ++ [y], G2, es ++ [dy], n2, by rw [List.length_append, h1]; rfl, upd_same, h3, k2.upd nea.1 nea.2, by omega, ?_, ?_, h8.trans k5.e, fun b o hb => ?_, fun b hb => ?_, (h11.ex k5.e).snoc k6, ?_⟩
          · have ec : ((i + 1 : Nat) : Int) * dr j = (i : Int) * dr j + dr j := by
              rw [Int.natCast_add, Int.add_mul]
              simp
            rw [ec]
            omega
          · rw [off_upd_ne nea.1 nea.2]
            exact (h7.trans k1).mut (off_none h3)
          · have nb : b ≠ Dd := fun z => by
              rw [z, gD] at hb
              cases hb
            rw [off_upd_ne nea.1 nea.2, upd_ne nb]
            exact k5.i b o hb
          · rcases k5.f b hb with z | z
            · exact h10 b z
            · refine .inr ⟨?_, fun q => ?_⟩
              · cases e : H0 b with
                | none => rfl
                | some o =>
                  exfalso
                  by_cases ba : b = a
                  · obtain ⟨⟨_, _, _, g1, _⟩, _, _⟩ := h4
                    rw [ba, g1] at z
                    cases z
                  · by_cases bc : b = c
                    · obtain ⟨⟨_, _, _, _, g2, _⟩, _, _⟩ := h4
                      rw [bc, g2] at z
                      cases z
                    · have q := off_of (h7 b o ((off_ne ba bc).trans e))
                      rw [q] at z
                      cases z
              · rw [q, h2] at z
                cases z
          · rw [List.take_add_one, hdx]
            exact h12.snoc k7
        · obtain ⟨acc, G', es, n', h1, h2, h3, h4, h5, h6, h7, h8, h9, h10, h11, h12⟩ := p
          have nea := S0.nea h3
          have hlx := hxs.len
          have h12' : LooAll (items d) es := by
            rw [List.take_of_length_le (by omega)] at h12
            exact h12
          have hmul : (xs.length : Int) * dr j ≤ 90 * dr j := Int.mul_le_mul_of_nonneg_right (by omega) dj
          have gD : G' Dd = none := by
            cases e : G' Dd with
            | none => rfl
            | some o =>
              rcases h10 Dd (by rw [e]; simp) with z | z
              · exfalso
                cases e' : G Dd with
                | none => exact z e'
                | some o' =>
                  have q := off_of (e0 _ _ (eG _ _ e'))
                  rw [h3] at q
                  cases q
              · exact (z.2 rfl).elim
          refine ⟨_, rfl, a, c, n', 3, rfl, h4, by decide, by decide, by omega, fun H5 r e5 S5 r0 r1 => ⟨rfl, _, rfl, ?_⟩⟩
          have hD5 : off a c H5 Dd = some (.lst acc) := e5 _ _ ((off_ne nea.1 nea.2).trans h2)
          have eH := (e0.trans h7).trans e5
          have fr : ∀ b, G' b ≠ none → G b ≠ none ∨ H b = none := fun b hb => (h10 b hb).imp id fun z => Evl.fresh_back ep z.1
          rw [dec_z]
          by_cases hr0 : r = 0
          · rw [decide_eq_true hr0]
            refine iteT ⟨_, rfl, kq H5 (.ref Dd) (.list es) (upd G' Dd (.lst acc)) (n' + 1) eH S5 (by omega) (by omega) ⟨h8.trans (Ex.new gD), fun b o hb => ?_, fun b hb => ?_⟩ (.lst upd_same (h11.ex (Ex.new gD))) (.row true hr1 h12')⟩
            · by_cases z : b = Dd
              · rw [z, upd_same] at hb
                cases hb
                rw [z]
                exact hD5
              · rw [upd_ne z] at hb
                exact e5 _ _ (h9 _ _ hb)
            · by_cases z : b = Dd
              · rw [z]
                exact .inr (Evl.fresh_back ep h3)
              · rw [upd_ne z] at hb
                exact fr b hb
          · rw [decide_eq_false hr0]
            refine iteF ⟨_, rfl, Dd, acc, rfl, .inl ⟨SqL.of (off_of hD5), fun l nl => ?_⟩⟩
            have gl : G' l = none := by
              cases e : G' l with
              | none => rfl
              | some o =>
                have q := off_of (e5 _ _ (h9 _ _ e))
                rw [nl] at q
                cases q
            have nel := S5.nea nl
            have el := Ex.new (o := .tup acc) nl
            refine kq _ (.ref l) (.tuple es) (upd G' l (.tup acc)) (n' + 1) (eH.trans (Ex.offs el)) (S5.ex el) (by omega) (by omega) ⟨h8.trans (Ex.new gl), fun b o hb => ?_, fun b hb => ?_⟩ (.tup upd_same (h11.ex (Ex.new gl))) (.row false hr1 h12')
            · rw [off_upd_ne nel.1 nel.2]
              by_cases z : b = l
              · rw [z, upd_same] at hb ⊢
                exact hb
              · rw [upd_ne z] at hb ⊢
                exact e5 _ _ (h9 _ _ hb)
            · by_cases z : b = l
              · rw [z]
                exact .inr (off_back eH S5 nl)
              · rw [upd_ne z] at hb
                exact fr b hb
      · have hf : isRow d = false := by simpa using hr1
        refine ite_tt (by rw [hf]; rfl) ?_
        exact ⟨_, rfl, kq H0 v d G n e0 S0 (Int.le_refl _) (by omega) ⟨Ex.refl _, eG.trans e0, fun b hb => .inl hb⟩ hd (.same hf)⟩
end
end Ts


set_option Elab.async false
set_option linter.all false
set_option maxRecDepth 100000
set_option maxHeartbeats 4000000
namespace Ts
open PySem PySem.Spec L2
open Evl (Ex)
/-! ## papers as data -/
def papK (k1 k2 : Bool) (b p g : Int) (ns : List Int) : PyData := mk k1 [.int b, .int p, .int g, mk k2 (ns.map .int)]
theorem papD_eq (b p g : Int) (ns : List Int) : papD b p g ns = papK false true b p g ns := rfl
/-- a paper of small numbers -/
structure PS (b p g : Int) (ns : List Int) : Prop where
  b1 : 1 ≤ b
  b2 : b ≤ 100
  p1 : 1 ≤ p
  p2 : p ≤ 100
  g1 : 0 ≤ g
  g2 : g ≤ 100
  len : (ns.length : Int) = b + p
  nn : ∀ z ∈ ns, 0 ≤ z ∧ z ≤ 100
  hd : ns.head? = some 0
theorem PGood.ps {far gains b p g : Int} {ns : List Int} (h : PGood far gains b p g ns) (hf : far ≤ 100) (hg : gains ≤ 100) : PS b p g ns := by
  obtain ⟨b1, b2, p1, p2, g1, g2, len, nn, hd⟩ := h
  exact ⟨b1, by omega, p1, by omega, g1, by omega, len, fun z hz => ⟨(nn z hz).1, by have := (nn z hz).2; omega⟩, hd⟩
theorem all_num {ns : List Int} (h : ∀ z ∈ ns, 0 ≤ z) : (ns.map PyData.int).all isNum = true := by
  rw [List.all_map, List.all_eq_true]
  intro z hz
  exact decide_eq_true (h z hz)
theorem papK_paper {k1 k2 : Bool} {b p g : Int} {ns : List Int} (b1 : 1 ≤ b) (p1 : 1 ≤ p) (g1 : 0 ≤ g) (len : (ns.length : Int) = b + p) (nn : ∀ z ∈ ns, 0 ≤ z) (hd : ns.head? = some 0) : isPaper (papK k1 k2 b p g ns) = true := by
  unfold papK
  rw [isPaper_4 (mk_row _ _) (mk_items _ _)]
  unfold paper4
  have e1 : isNum (.int b) = true := decide_eq_true (by omega)
  have e2 : isNum (.int p) = true := decide_eq_true (by omega)
  have e3 : isNum (.int g) = true := decide_eq_true g1
  have e4 : decide (intOf (.int b) = 0) = false := decide_eq_false (by show ¬ b = 0; omega)
  have e5 : decide (intOf (.int p) = 0) = false := decide_eq_false (by show ¬ p = 0; omega)
  have e6 : isNums (mk k2 (ns.map .int)) = true := by
    unfold isNums
    rw [mk_row, mk_items, all_num nn]
    rfl
  have e7 : decide (((items (mk k2 (ns.map .int))).length : Int) = intOf (.int b) + intOf (.int p)) = true := decide_eq_true (by rw [mk_items, List.length_map]; exact len)
  have e8 : headIs0 (items (mk k2 (ns.map .int))) = true := by
    rw [mk_items]
    cases ns with
    | nil => cases hd
    | cons x r =>
      obtain rfl : x = 0 := Option.some.inj hd
      show decide (intOf (.int 0) = 0) = true
      decide
  rw [e1, e2, e3, e4, e5, e6, e7, e8]
  rfl
theorem PS.paper {k1 k2 : Bool} {b p g : Int} {ns : List Int} (h : PS b p g ns) : isPaper (papK k1 k2 b p g ns) = true := papK_paper h.b1 h.p1 h.g1 h.len (fun z hz => (h.nn z hz).1) h.hd
theorem papK_b (k1 k2 : Bool) (b p g : Int) (ns : List Int) : pB (papK k1 k2 b p g ns) = b := by
  unfold pB papK
  rw [mk_items]
  rfl
theorem papK_p (k1 k2 : Bool) (b p g : Int) (ns : List Int) : pP (papK k1 k2 b p g ns) = p := by
  unfold pP papK
  rw [mk_items]
  rfl
theorem papK_g (k1 k2 : Bool) (b p g : Int) (ns : List Int) : pG (papK k1 k2 b p g ns) = g := by
  unfold pG papK
  rw [mk_items]
  rfl
theorem map_intOf (ns : List Int) : (ns.map PyData.int).map intOf = ns := by
  rw [List.map_map]
  exact List.map_id' ns
theorem papK_n (k1 k2 : Bool) (b p g : Int) (ns : List Int) : pN (papK k1 k2 b p g ns) = ns := by
  unfold pN papK
  rw [mk_items]
  show (items (mk k2 (ns.map .int))).map intOf = ns
  rw [mk_items, map_intOf]
theorem papK_z {k1 k2 : Bool} {b p g : Int} {ns : List Int} (h : ns.length ≤ 100000) : ∀ t ∈ items (papK k1 k2 b p g ns), (items t).length ≤ 100000 := by
  unfold papK
  rw [mk_items]
  intro t ht
  rcases List.mem_cons.mp ht with rfl | ht
  · exact Nat.zero_le _
  · rcases List.mem_cons.mp ht with rfl | ht
    · exact Nat.zero_le _
    · rcases List.mem_cons.mp ht with rfl | ht
      · exact Nat.zero_le _
      · rw [List.mem_singleton] at ht
        rw [ht, mk_items, List.length_map]
        exact h
theorem PS.small {b p g : Int} {ns : List Int} (h : PS b p g ns) : ns.length ≤ 200 := by
  have := h.len
  have := h.b2
  have := h.p2
  omega
theorem PS.sml {k1 k2 : Bool} {b p g : Int} {ns : List Int} (h : PS b p g ns) : Sml (papK k1 k2 b p g ns) :=
  ⟨by rw [papK_b]; have := h.b2; omega, by rw [papK_p]; have := h.p2; omega, by rw [papK_g]; have := h.g2; omega, papK_z (by have := h.small; omega)⟩
theorem PS.ok {b p g : Int} {ns : List Int} (h : PS b p g ns) : PapOk b p g ns :=
  ⟨h.b1, h.p1, h.g1, by have := h.b2; omega, by have := h.p2; omega, by have := h.g2; omega, h.len⟩
theorem D.mk_at {H : Hp} {v : V} {k : Bool} {l : List PyData} (h : D H v (mk k l)) : ∃ a xs, v = .ref a ∧ Row H a xs ∧ DAll H xs l := by
  obtain ⟨a, xs, h1, h2, h3⟩ := h.row (mk_row k l)
  rw [mk_items] at h3
  exact ⟨a, xs, h1, h2, h3⟩
theorem DAll.of_ints {H : Hp} : ∀ {xs : List V} {ns : List Int}, DAll H xs (ns.map PyData.int) → xs = ns.map V.int
  | _, [], h => by
    cases h
    rfl
  | _, n :: r, h => by
    cases h with
    | cons h1 h2 =>
      rw [h1.int_of, h2.of_ints]
      rfl
theorem papK_at {H : Hp} {v : V} {k1 k2 : Bool} {b p g : Int} {ns : List Int} (h : D H v (papK k1 k2 b p g ns)) : PapAt H v b p g ns := by
  obtain ⟨a, xs, rfl, hr, hall⟩ := h.mk_at
  obtain ⟨vb, vp, vg, vt, rfl, hb, hp, hg, ht⟩ := hall.four
  obtain ⟨ta, ts, rfl, tr, tall⟩ := ht.mk_at
  rw [tall.of_ints] at tr
  rw [hb.int_of, hp.int_of, hg.int_of] at hr
  exact ⟨a, ta, rfl, hr, tr⟩
/-! ### what is led loosely -/
theorem Loo.int {i : Int} {d : PyData} (h : Loo (.int i) d) : d = .int i := by
  cases h with
  | same _ => rfl
  | row k hr _ => cases hr
theorem LooAll.ints : ∀ {ns : List Int} {es : List PyData}, LooAll (ns.map PyData.int) es → es = ns.map PyData.int
  | [], _, h => by
    cases h
    rfl
  | n :: r, _, h => by
    cases h with
    | cons h1 h2 =>
      rw [h1.int, h2.ints]
      rfl
theorem Loo.pap {b p g : Int} {ns : List Int} {d : PyData} (h : Loo (papD b p g ns) d) : ∃ k1 k2, d = papK k1 k2 b p g ns := by
  cases h with
  | same h => cases h
  | row k hr hall =>
    cases (show LooAll [.int b, .int p, .int g, .list (ns.map .int)] _ from hall) with
    | cons h1 r =>
      cases r with
      | cons h2 r =>
        cases r with
        | cons h3 r =>
          cases r with
          | cons h4 r =>
            cases r
            rw [h1.int, h2.int, h3.int]
            cases h4 with
            | same h => cases h
            | row k2 _ h5 =>
              have e := (show LooAll (ns.map PyData.int) _ from h5).ints
              rw [e]
              exact ⟨k, k2, rfl⟩
/-! ### repr -/
mutual
theorem D.toDp {K : PySem.W.Frag} {H : Hp} : ∀ {v : V} {d : PyData}, D H v d → d.hasDict = false → Dp K H v d
  | _, _, .non, _ => .non
  | _, _, .bl b, _ => .bl b
  | _, _, .int i, _ => .int i
  | _, _, .str x, _ => .str x
  | _, _, .lst h r, e => .lst (SqL.of h) (DAll.toDp r (by simpa only [PyData.hasDict] using e))
  | _, _, .tup h r, e => .tup (SqT.of h) (DAll.toDp r (by simpa only [PyData.hasDict] using e))
  | _, _, .dic _ _, e => by simp [PyData.hasDict] at e
theorem DAll.toDp {K : PySem.W.Frag} {H : Hp} : ∀ {vs : List V} {ds : List PyData}, DAll H vs ds → PyData.hasDictAll ds = false → DpAll K H vs ds
  | _, _, .nil, _ => .nil
  | _, _, .cons h r, e => by
    simp only [PyData.hasDictAll, Bool.or_eq_false_iff] at e
    exact .cons (D.toDp h e.1) (DAll.toDp r e.2)
end
theorem hasDict_mk (k : Bool) (l : List PyData) : (mk k l).hasDict = PyData.hasDictAll l := by cases k <;> simp only [mk, PyData.hasDict] <;> rfl
theorem showable_mk (k : Bool) (l : List PyData) : (mk k l).showable = PyData.showableAll l := by cases k <;> simp only [mk, PyData.showable] <;> rfl
theorem depth_mk (k : Bool) (l : List PyData) : (mk k l).depth = PyData.depthAll l + 1 := by cases k <;> simp only [mk, PyData.depth] <;> first | rfl | omega
theorem short_mk (B : Nat) (k : Bool) (l : List PyData) : (mk k l).leavesShort B = PyData.leavesShortAll B l := by cases k <;> simp only [mk, PyData.leavesShort] <;> rfl
theorem bulk_mk (k : Bool) (l : List PyData) : (mk k l).bulk = PyData.bulkAll l := by cases k <;> simp only [mk, PyData.bulk] <;> rfl
theorem hasDict_ints : ∀ ns : List Int, PyData.hasDictAll (ns.map .int) = false
  | [] => rfl
  | n :: r => by
    rw [List.map_cons]
    simp only [PyData.hasDictAll, PyData.hasDict, hasDict_ints r]
    rfl
theorem small_show {i : Int} (h0 : 0 ≤ i) (h : i ≤ 1000) : i.natAbs.log2 < 1920 := by
  have e : i.natAbs < 2 ^ 10 := by omega
  have := PySem.Flt.log2_lt_of (by decide) e
  omega
theorem small_short {i : Int} (h0 : 0 ≤ i) (h : i ≤ 1000) : PyData.leavesShort 13 (.int i) = true := by
  simp only [PyData.leavesShort]
  refine decide_eq_true ?_
  have := PySem.int_text_length_le10 (a := i) (k := 5) (by decide) (by omega)
  show (Str.ofString (toString i)).length ≤ 13
  rw [PySem.ofString_length]
  omega
theorem showable_ints : ∀ {ns : List Int}, (∀ z ∈ ns, 0 ≤ z ∧ z ≤ 100) → PyData.showableAll (ns.map .int) = true
  | [], _ => rfl
  | n :: r, h => by
    have h1 := h n List.mem_cons_self
    rw [List.map_cons]
    simp only [PyData.showableAll, PyData.showable, showable_ints (fun z hz => h z (List.mem_cons_of_mem _ hz)), Bool.and_true]
    exact decide_eq_true (small_show h1.1 (by omega))
theorem short_ints : ∀ {ns : List Int}, (∀ z ∈ ns, 0 ≤ z ∧ z ≤ 100) → PyData.leavesShortAll 13 (ns.map .int) = true
  | [], _ => rfl
  | n :: r, h => by
    have h1 := h n List.mem_cons_self
    rw [List.map_cons]
    simp only [PyData.leavesShortAll, short_ints (fun z hz => h z (List.mem_cons_of_mem _ hz)), Bool.and_true]
    exact small_short h1.1 (by omega)
theorem bulk_ints : ∀ ns : List Int, PyData.bulkAll (ns.map .int) = ns.length
  | [] => rfl
  | n :: r => by
    rw [List.map_cons]
    simp only [PyData.bulkAll, PyData.bulk, bulk_ints r, List.length_cons]
    omega
/-- what repr asks of a paper -/
structure Shw (d : PyData) : Prop where
  s : d.showable = true
  n : d.hasDict = false
  dp : d.depth ≤ 60
  z : d.shown.length ≤ sizeLine
theorem PS.shw {k1 k2 : Bool} {b p g : Int} {ns : List Int} (h : PS b p g ns) : Shw (papK k1 k2 b p g ns) := by
  have hb := h.b1
  have hb2 := h.b2
  have hp := h.p1
  have hp2 := h.p2
  have hg := h.g1
  have hg2 := h.g2
  have hs := h.small
  refine ⟨?_, ?_, ?_, PyData.shown_fits_bulk (B := 13) (by decide) (by decide) ?_ ?_⟩
  · unfold papK
    rw [showable_mk]
    simp only [PyData.showableAll, PyData.showable, showable_mk, showable_ints h.nn, Bool.and_true, Bool.and_eq_true]
    exact ⟨decide_eq_true (small_show (by omega) (by omega)), decide_eq_true (small_show (by omega) (by omega)), decide_eq_true (small_show (by omega) (by omega))⟩
  · unfold papK
    rw [hasDict_mk]
    simp only [PyData.hasDictAll, PyData.hasDict, hasDict_mk, hasDict_ints]
    rfl
  · unfold papK
    rw [depth_mk]
    have := depth_ints ns
    simp only [PyData.depthAll, PyData.depth, depth_mk]
    omega
  · unfold papK
    rw [short_mk]
    simp only [PyData.leavesShortAll, short_mk, short_ints h.nn, Bool.and_true, Bool.and_eq_true]
    exact ⟨small_short (by omega) (by omega), small_short (by omega) (by omega), small_short (by omega) (by omega)⟩
  · unfold papK
    rw [bulk_mk]
    simp only [PyData.bulkAll, PyData.bulk, bulk_mk, bulk_ints]
    have : (2 : Nat) ^ 20 = 1048576 := by decide
    omega
end Ts


set_option Elab.async false
set_option linter.all false
set_option maxRecDepth 100000
set_option maxHeartbeats 4000000
namespace Ts
open PySem PySem.Spec L2
open Evl (Ex)
section
variable {P : Program} {w : World} {K : PySem.W.Frag} {mg : Str → Option Value} {base : Heap}
/-- a def's body where no repr is under way -/
theorem okG {x q : Str} {st : Stmt} {f : Addr} {fd : FuncData} {N ps : List Str} {k : Nat} {sp : Sp} (F : Fun K x q st f fd) (S : FnScope N ps (defScope st)) (ln : ∀ vs H Q E, sp vs H Q E → vs.length = ps.length)
    (hb : ∀ (cdv : Value) (A : Around) (outer : List Env) (s : Shared) (H : Hp) (vs : List V) (Q : VK) (E : XK), A.guards = some [] → Room k (A.deeper (PyProof.Rows.envOfC q (defScope st) s.heap.objs.size f cdv)) → sp vs H Q E →
      ∃ t, PSs (cxOf CX0 P w K mg base N q (defScope st) f cdv A outer s H E).nox (defBody st) t ∧ t { nx := fun _ H' => Q .non H', rt := Q } (L2.start N vs) H) :
    GOk P w K mg base CX0 (k + 1) f fd ps sp := by
  obtain ⟨oc, od, kV, doc, pm, an, cdv, ct, osl, hfd, lk, hcd⟩ := F.ex
  subst hfd
  refine ⟨ln, fun A outer s H args us vs Q E hg hr e0 hbi hv hsp => LamX.run_ofS lk hcd S hr e0 hbi hv (ln _ _ _ _ hsp) fun hr' => ?_⟩
  obtain ⟨t, ht, q⟩ := hb cdv A outer s H vs Q E hg hr' hsp
  exact ⟨t, ht.nox, q⟩
end
section
variable {X : Cx} {k : Nat} {f : Addr} {fd : FuncData} {ps : List Str} {sp : Sp} {E : XK} {x : Str} {p pos : Pos} {e : Expr} {es : List Expr} {t : TA}
theorem pe_callG (F : GOk X.prog X.w X.K X.mg X.base CX0 k f fd ps sp) (hA : X.A.guards = some []) (hr : Room k X.A) (hg : Gl X x) (hm : X.mg x = some (.ref f)) (hk : PySem.W.keepIn X.K (.ref f) = true) (hb : Binds X.K fd ps [])
    (ha : PA X (e :: es) t) (hdb : (x == ("__debug__" : Str)) = false := by decide) (he : starEach (e :: es) X.env = (false, eval e X.env) :: starEach es X.env := by rfl) (hpl : (backTo pos (starEach es X.env)).any (·.1) = false := by rfl) :
    PE X (.Call (.Name x p) (e :: es) [] pos) (tCall sp [] E t) := by
  refine ⟨fun pins s σ H Q I h => wpAny_Call_Name_kw (ld_glob I hg hm ?_ hdb)⟩
  refine PySem.W.callWith_K (h₀ := X.base) I.ok.mod.kin hk (thn (ha.run pos pins s σ H _ I h) fun us s1 z => ?_) he hpl
  obtain ⟨vs, H1, I1, r, q⟩ := z
  have q : sp vs H1 Q E := by
    rw [List.append_nil] at q
    exact q
  have hl : (us ++ []).length = ps.length := by rw [List.append_nil, ← r.length]; exact F.ln _ _ _ _ q
  have hbi := hb s1 us I1.kIn hl
  rw [List.append_nil] at hbi
  refine ⟨I1.kIn, wpAny_call (codeAny_mono (F.go X.A X.stack s1 H1 ⟨us, []⟩ us vs Q E hA hr I1.env0 hbi r q) fun res s' hq => ?_)⟩
  rcases res with e | (u | u | u | u) <;> first
    | exact (show False from hq).elim
    | exact I1.after hq
end
/-! ## what stands while a law's def runs -/
structure Stt (a c : Addr) (n : Int) (R H : Hp) : Prop where
  s : Strm H a c n
  r : Ex R (off a c H)
theorem Stt.ex {a c : Addr} {n : Int} {R H H' : Hp} (t : Stt a c n R H) (e : Ex H H') : Stt a c n R H' := ⟨t.s.ex e, t.r.trans (Ex.offs e)⟩
theorem Stt.drawn {a c : Addr} {n n' : Int} {R H H' : Hp} (t : Stt a c n R H) (e : Ex (off a c H) (off a c H')) (s : Strm H' a c n') : Stt a c n' R H' := ⟨s, t.r.trans e⟩
theorem Stt.toH {a c : Addr} {n : Int} {R H : Hp} (t : Stt a c n R H) : Ex R H := t.r.trans off_ex
theorem Stt.no {a c : Addr} {n : Int} {R H : Hp} (t : Stt a c n R H) {z : Addr} (h : H z = none) : R z = none := Evl.fresh_back t.toH h
/-- what no one holds changes -/
theorem Stt.mut {a c z : Addr} {n : Int} {R H : Hp} {o : HO} (t : Stt a c n R H) (hz : R z = none) (h1 : z ≠ a) (h2 : z ≠ c) : Stt a c n R (upd H z o) :=
  ⟨t.s.upd h1 h2, by rw [off_upd_ne h1 h2]; exact t.r.mut hz⟩
/-- one more thing is held -/
theorem Stt.hold {a c z : Addr} {n : Int} {R H : Hp} {o : HO} (t : Stt a c n R H) (hz : H z = some o) (h1 : z ≠ a) (h2 : z ≠ c) : Stt a c n (upd R z o) H :=
  ⟨t.s, fun b u h => by
    by_cases hb : b = z
    · rw [hb, upd_same] at h
      rw [hb, off_ne h1 h2, hz]
      exact h
    · rw [upd_ne hb] at h
      exact t.r b u h⟩
theorem Ex.held {R : Hp} {z : Addr} {o : HO} (h : R z = none) : Ex R (upd R z o) := Ex.new h
/-- what a paper tells of the first numbers -/
def tells (b p g : Int) (ns : List Int) (m : Int) : List Int := (List.range m.toNat).map fun i => tell b p g ns (i : Nat)
theorem below_eq (b p g : Int) (ns : List Int) (m : Int) : below b p g ns m = (tells b p g ns m).map V.int := by
  unfold below tells
  rw [List.map_map]
  rfl
theorem tells_len (b p g : Int) (ns : List Int) (m : Int) : (tells b p g ns m).length = m.toNat := by
  unfold tells
  rw [List.length_map, List.length_range]
theorem d_ints {H : Hp} {a : Addr} {ns : List Int} (h : H a = some (.lst (ns.map V.int))) : D H (.ref a) (.list (ns.map .int)) := .lst h (dall_ints ns)
theorem okD_ints (k : Nat) {ns : List Int} (h : ns.length ≤ 90000) : okD (k + 1) (.list (ns.map .int)) = true := by
  refine Bool.and_eq_true_iff.mpr ⟨decide_eq_true (by rw [List.length_map]; exact h), ?_⟩
  rw [List.all_map, List.all_eq_true]
  intro z hz
  cases k <;> rfl
end Ts


set_option Elab.async false
set_option linter.all false
set_option maxRecDepth 100000
set_option maxHeartbeats 8000000
namespace Ts
open PySem PySem.Spec L2
open Evl (Ex)
section
variable {P : Program} {w : World} {K : PySem.W.Frag} {mg : Str → Option Value} {base : Heap}
abbrev s_right := top 37
theorem sc_right : FnScope ["stream", "paper", "passed", "was", "due", "told", "heap", "turn", "begin", "many", "found", "values", "held", "thing", "number"] ["stream", "paper"] (defScope s_right) := ⟨rfl, rfl, rfl, by decide +kernel, rfl, by decide +kernel, by decide +kernel⟩
def spRight : Sp := fun vs H Q _ => ∃ a c n v b p g ns, vs = [.ref a, v] ∧ Strm H a c n ∧ D (off a c H) v (papD b p g ns) ∧ PS b p g ns ∧ ns.length ≤ 90 ∧ n < 2 ^ 38 ∧ ∀ H' n', Ex (off a c H) (off a c H') → Strm H' a c n' → n ≤ n' → n' ≤ n + 500 → Q (.bl true) H'
theorem papK_long {k1 k2 : Bool} {b p g : Int} {ns : List Int} (h : (ns.length : Int) ≠ b + p) : isPaper (papK k1 k2 b p g ns) = false := by
  cases e : isPaper (papK k1 k2 b p g ns) with
  | false => rfl
  | true =>
    have q := (isPap_of e).len
    rw [papK_n, papK_b, papK_p] at q
    exact (h q).elim
theorem mem_set {α : Type} {x y : α} : ∀ {l : List α} {i : Nat}, x ∈ l.set i y → x ∈ l ∨ x = y
  | [], _, h => .inl h
  | z :: r, 0, h => by
    rcases List.mem_cons.mp h with h | h
    · exact .inr h
    · exact .inl (List.mem_cons_of_mem _ h)
  | z :: r, i + 1, h => by
    rcases List.mem_cons.mp h with h | h
    · exact .inl (by rw [h]; exact List.mem_cons_self)
    · rcases mem_set h with q | q
      · exact .inl (List.mem_cons_of_mem _ q)
      · exact .inr q
theorem PS.set {b p g : Int} {ns : List Int} (h : PS b p g ns) : PS b p g (ns.set b.toNat 77) := by
  obtain ⟨b1, b2, p1, p2, g1, g2, len, nn, hd⟩ := h
  refine ⟨b1, b2, p1, p2, g1, g2, by rw [List.length_set]; exact len, fun z hz => ?_, ?_⟩
  · rcases mem_set hz with q | q
    · exact nn z q
    · omega
  · obtain ⟨m, hm⟩ : ∃ m, b.toNat = m + 1 := ⟨b.toNat - 1, by omega⟩
    rw [hm]
    cases ns with
    | nil => exact hd
    | cons x r => exact hd
theorem ok_right {f f1 f2 f3 f4 f5 f6 f7 f8 CP CH CN CR : Addr} {fd fd1 fd2 fd3 fd4 fd5 fd6 fd7 fd8 : FuncData} (F : FD K mg "_law_right" "_law_right" s_right f fd)
    (F_loose : FD K mg "_law_loose" "_law_loose" s_loose f1 fd1) (G_loose : FnOk P w K mg base CX0 4 f1 fd1 ["stream", "thing"] (spLoose 3))
    (F_told : FD K mg "_law_a_told" "_law_a_told" s_a_told f2 fd2) (G_told : FnOk P w K mg base CX0 1 f2 fd2 ["paper", "number"] spTold)
    (F_vb : FD K mg "values_by" "values_by" s_values_by f3 fd3) (G_vb : FnOk P w K mg base (L2.CX P w) 7 f3 fd3 ["paper", "most"] (spVals CP CN))
    (F_ip : FD K mg "is_paper" "is_paper" s_is_paper f4 fd4) (G_ip : FnOk P w K mg base CX0 5 f4 fd4 ["thing"] spPaper)
    (F_same : FD K mg "_law_same" "_law_same" s_same f5 fd5) (G_same : FnOk P w K mg base CX0 6 f5 fd5 ["found", "due"] (spSame 6))
    (F_va : FD K mg "value_at" "value_at" s_value_at f6 fd6) (G_va : FnOk P w K mg base (L2.CX P w) 7 f6 fd6 ["paper", "heap"] (spVal CP CH))
    (F_lp : FD K mg "led_paper" "led_paper" s_led_paper f7 fd7) (G_lp : FnOk P w K mg base (L2.CX P w) 7 f7 fd7 ["paper", "begin", "period"] (spLed CP CN CR))
    (F_draw : FD K mg "_law_draw" "_law_draw" s_draw f8 fd8) (G_draw : FnOk P w K mg base CX0 1 f8 fd8 ["stream", "many"] spDraw) (T : Bl mg) :
    GOk P w K mg base CX0 8 f fd ["stream", "paper"] spRight := by
  have b_loose : Binds K fd1 ["stream", "thing"] [] := F_loose.F.binds fun _ _ _ _ _ _ us hl => match us, hl with | [_, _], _ => rfl
  have b_told : Binds K fd2 ["paper", "number"] [] := F_told.F.binds fun _ _ _ _ _ _ us hl => match us, hl with | [_, _], _ => rfl
  have b_vb : Binds K fd3 ["paper", "most"] [] := F_vb.F.binds fun _ _ _ _ _ _ us hl => match us, hl with | [_, _], _ => rfl
  have b_ip : Binds K fd4 ["thing"] [] := F_ip.F.binds fun _ _ _ _ _ _ us hl => match us, hl with | [_], _ => rfl
  have b_same : Binds K fd5 ["found", "due"] [] := F_same.F.binds fun _ _ _ _ _ _ us hl => match us, hl with | [_, _], _ => rfl
  have b_va : Binds K fd6 ["paper", "heap"] [] := F_va.F.binds fun _ _ _ _ _ _ us hl => match us, hl with | [_, _], _ => rfl
  have b_lp : Binds K fd7 ["paper", "begin", "period"] [] := F_lp.F.binds fun _ _ _ _ _ _ us hl => match us, hl with | [_, _, _], _ => rfl
  have b_draw : Binds K fd8 ["stream", "many"] [] := b_draw F_draw
  refine okG F.F sc_right (fun vs H Q E h => ?_) (fun cdv A outer s H vs Q E hA hr h => ?_)
  · obtain ⟨a, c, n, v, b, p, g, ns, rfl, _⟩ := h
    rfl
  · obtain ⟨a, c, n, v, b, p, g, ns, rfl, S, hd, ps, hns, hn, kq⟩ := h
    have nd := sc_right.nd
    have hu := hr.units
    refine ⟨_, (pss_cons (ps_set (i := 2) nd rfl (Or.inl rfl) (pe_call G_loose (hr.mono (by decide)) (by rfl) F_loose.g F_loose.F.kp b_loose .nil pass0 (pa_cons (pv 0) (pa_cons (pv 1) pa_nil))))
      (pss_cons (ps_par (i := 3) (j := 4) (by rfl) nd rfl rfl (by decide) rfl rfl (pa_cons (pe_callB (call_show hA hu) (by rfl) T.repr (by decide +kernel) (pa_cons (pv 2) pa_nil)) (pa_cons (pe_lc (own := [("number", 14)]) (g := gName 14) (tt := tYes) rfl nd (pi_range1 (by rfl) T.range (pa_cons pe_int pa_nil)) (blkOk_by (N := ["stream", "paper", "passed", "was", "due", "told", "heap", "turn", "begin", "many", "found", "values", "held", "thing", "number"]) (sc := defScope s_right) (by decide +kernel))
          (fun _ _ _ _ _ => pg_name (i := 14) nd rfl (Or.inl rfl)) (fun _ _ _ _ _ => pts_nil) (fun _ _ _ _ _ => (pe_call G_told (hr.mono (by decide)) (by rfl) F_told.g F_told.F.kp b_told .nil pass0 (pa_cons (pv 1) (pa_cons (pv 14) pa_nil))))) pa_nil)) (by rfl))
      (pss_cons (ps_set (i := 5) nd rfl (Or.inl rfl) (pe_call G_vb (hr.mono (by decide)) (by rfl) F_vb.g F_vb.F.kp b_vb .nil (passF rfl rfl) (pa_cons (pv 2) (pa_cons pe_int pa_nil))))
      (pss_cons (ps_if (PW.pt (pw_or (pt_not (pt_val (pe_call G_ip (hr.mono (by decide)) (by rfl) F_ip.g F_ip.F.kp b_ip .nil pass0 (pa_cons (pv 2) pa_nil)))) (pw_or (pt_not (pt_val (pe_call G_same (hr.mono (by decide)) (by rfl) F_same.g F_same.F.kp b_same .nil pass0 (pa_cons (pv 5) (pa_cons (pv 4) pa_nil))))) (pw_or1 (pt_cmpR op_ne (pe_callB (call_show hA hu) (by rfl) T.repr (by decide +kernel) (pa_cons (pv 2) pa_nil)) (pv 3) (nomark _)))))) (pss_one (ps_ret pe_bl)) pss_nil)
      (pss_cons (ps_expr (pe_bm PySem.F.plainAttrs_list PySem.F.slot_list_append PySem.F.type_list_append mt_append (pv 5) (pa_cons pe_str pa_nil)))
      (pss_cons (ps_if (pt_not (pt_val (pe_call G_same (hr.mono (by decide)) (by rfl) F_same.g F_same.F.kp b_same .nil pass0 (pa_cons (pe_lst (pa_cons (pe_call G_vb (hr.mono (by decide)) (by rfl) F_vb.g F_vb.F.kp b_vb .nil (passF rfl rfl) (pa_cons (pv 1) (pa_cons pe_int pa_nil))) (pa_cons (pe_call G_vb (hr.mono (by decide)) (by rfl) F_vb.g F_vb.F.kp b_vb .nil (passF rfl rfl) (pa_cons (pv 2) (pa_cons pe_int pa_nil))) pa_nil))) (pa_cons (pe_lst (pa_cons (pe_lst (pa_cons pe_int pa_nil)) (pa_cons (pv 4) pa_nil))) pa_nil))))) (pss_one (ps_ret pe_bl)) pss_nil)
      (pss_cons (ps_for PassesOwn.never rfl (pi_list (pe_lst (pa_cons pe_int (pa_cons (pe_ix ix_seq (pv 1) pe_int (fun _ _ => rfl)) (pa_cons pe_int (pa_cons (pe_op op_pow pe_int pe_int) (pa_cons (pe_op op_sub (pe_op op_pow pe_int pe_int) (pe_call G_draw (hr.mono (by decide)) (by rfl) F_draw.g F_draw.F.kp b_draw .nil pass0 (pa_cons (pv 0) (pa_cons pe_int pa_nil)))) (pa_cons (pe_op op_add pe_int (pe_call G_draw (hr.mono (by decide)) (by rfl) F_draw.g F_draw.F.kp b_draw .nil pass0 (pa_cons (pv 0) (pa_cons (pe_op op_pow pe_int pe_int) pa_nil)))) pa_nil)))))))) (pg_name (i := 6) nd rfl (Or.inl rfl)) (pss_one (ps_if (pt_not (pt_val (pe_call G_same (hr.mono (by decide)) (by rfl) F_same.g F_same.F.kp b_same .nil pass0 (pa_cons (pe_call G_va (hr.mono (by decide)) (by rfl) F_va.g F_va.F.kp b_va .nil (passF rfl rfl) (pa_cons (pv 2) (pa_cons (pv 6) pa_nil))) (pa_cons (pe_call G_told (hr.mono (by decide)) (by rfl) F_told.g F_told.F.kp b_told .nil pass0 (pa_cons (pv 1) (pa_cons (pv 6) pa_nil))) pa_nil))))) (pss_one (ps_ret pe_bl)) pss_nil)))
      (pss_cons (ps_for PassesOwn.never rfl (pi_range1 (by rfl) T.range (pa_cons pe_int pa_nil)) (pg_name (i := 7) nd rfl (Or.inl rfl)) (pss_cons (ps_par (i := 8) (j := 9) (by rfl) nd rfl rfl (by decide) rfl rfl (pa_cons (pe_op op_add (pe_ix ix_seq (pv 1) pe_int (fun _ _ => rfl)) (pe_call G_draw (hr.mono (by decide)) (by rfl) F_draw.g F_draw.F.kp b_draw .nil pass0 (pa_cons (pv 0) (pa_cons pe_int pa_nil)))) (pa_cons (pe_op op_add pe_int (pe_call G_draw (hr.mono (by decide)) (by rfl) F_draw.g F_draw.F.kp b_draw .nil pass0 (pa_cons (pv 0) (pa_cons pe_int pa_nil)))) pa_nil)) (by rfl))
      (pss_cons (ps_set (i := 10) nd rfl (Or.inl rfl) (pe_call G_lp (hr.mono (by decide)) (by rfl) F_lp.g F_lp.F.kp b_lp .nil (passF rfl rfl) (pa_cons (pv 2) (pa_cons (pv 8) (pa_cons (pe_op op_mul (pv 9) (pe_ix ix_seq (pv 1) pe_int (fun _ _ => rfl))) pa_nil)))))
      (pss_cons (ps_setLc (i := 11) (own := [("number", 14)]) (g := gName 14) (tt := tYes) rfl nd rfl rfl (sw_true rfl rfl rfl (by decide +kernel)) (pi_range1 (by rfl) T.range (pa_cons (pe_op op_add (pv 8) (pe_op op_mul (pv 9) (pe_ix ix_seq (pv 1) pe_int (fun _ _ => rfl)))) pa_nil)) (blkOk_by (N := ["stream", "paper", "passed", "was", "due", "told", "heap", "turn", "begin", "many", "found", "values", "held", "thing", "number"]) (sc := defScope s_right) (by decide +kernel))
          (fun _ _ _ _ _ => pg_name (i := 14) nd rfl (Or.inl rfl)) (fun _ _ _ _ _ => pts_nil) (fun _ _ _ _ _ => (pe_call G_told (hr.mono (by decide)) (by rfl) F_told.g F_told.F.kp b_told .nil pass0 (pa_cons (pv 1) (pa_cons (pv 14) pa_nil)))))
      (pss_cons (ps_if (pt_not (pt_val (pe_call G_same (hr.mono (by decide)) (by rfl) F_same.g F_same.F.kp b_same .nil pass0 (pa_cons (pv 10) (pa_cons (pe_tup (pa_cons (pv 8) (pa_cons (pe_op op_mul (pv 9) (pe_ix ix_seq (pv 1) pe_int (fun _ _ => rfl))) (pa_cons (pe_op op_mul (pv 9) (pe_ix ix_seq (pv 1) pe_int (fun _ _ => rfl))) (pa_cons (pv 11) pa_nil))))) pa_nil))))) (pss_one (ps_ret pe_bl)) pss_nil)
      (pss_one (ps_expr (pe_bm PySem.F.plainAttrs_list PySem.F.slot_list_append PySem.F.type_list_append mt_append (pe_ix ix_seq (pv 10) pe_int (fun _ _ => rfl)) (pa_cons pe_str pa_nil)))))))))
      (pss_cons (ps_set (i := 12) nd rfl (Or.inl rfl) (pe_callTy call_list_of (by rfl) T.list PyProof.Rows.boot_list (pa_cons (pe_ix ix_seq (pv 1) pe_int (fun _ _ => rfl)) pa_nil)))
      (pss_cons (ps_set (i := 13) nd rfl (Or.inl rfl) (pe_lst (pa_cons (pe_ix ix_seq (pv 1) pe_int (fun _ _ => rfl)) (pa_cons (pe_ix ix_seq (pv 1) pe_int (fun _ _ => rfl)) (pa_cons (pe_ix ix_seq (pv 1) pe_int (fun _ _ => rfl)) (pa_cons (pv 12) pa_nil))))))
      (pss_cons (ps_set (i := 10) nd rfl (Or.inl rfl) (pe_lst (pa_cons (pe_call G_va (hr.mono (by decide)) (by rfl) F_va.g F_va.F.kp b_va .nil (passF rfl rfl) (pa_cons (pv 13) (pa_cons (pe_ix ix_seq (pv 1) pe_int (fun _ _ => rfl)) pa_nil))) pa_nil)))
      (pss_cons (ps_asg pe_int (pg_sub (pv 12) (pe_ix ix_seq (pv 1) pe_int (fun _ _ => rfl)) set_list))
      (pss_cons (ps_expr (pe_bm PySem.F.plainAttrs_list PySem.F.slot_list_append PySem.F.type_list_append mt_append (pv 10) (pa_cons (pe_call G_va (hr.mono (by decide)) (by rfl) F_va.g F_va.F.kp b_va .nil (passF rfl rfl) (pa_cons (pv 13) (pa_cons (pe_ix ix_seq (pv 1) pe_int (fun _ _ => rfl)) pa_nil))) pa_nil)))
      (pss_cons (ps_expr (pe_bm PySem.F.plainAttrs_list PySem.F.slot_list_append PySem.F.type_list_append mt_append (pv 12) (pa_cons pe_int pa_nil)))
      (pss_one (ps_ret (pe_and (pe_call G_same (hr.mono (by decide)) (by rfl) F_same.g F_same.F.kp b_same .nil pass0 (pa_cons (pv 10) (pa_cons (pe_lst (pa_cons (pe_ix ix_seq (pe_ix ix_seq (pv 1) pe_int (fun _ _ => rfl)) (pe_ix ix_seq (pv 1) pe_int (fun _ _ => rfl)) (fun _ _ => rfl)) (pa_cons pe_int pa_nil))) pa_nil))) (pe_one (pe_not (pe_call G_ip (hr.mono (by decide)) (by rfl) F_ip.g F_ip.F.kp b_ip .nil pass0 (pa_cons (pv 13) pa_nil))))))))))))))))))))), ?_⟩
    have okl : okL 2 (papD b p g ns) = true := by
      refine Bool.and_eq_true_iff.mpr ⟨decide_eq_true (by show 4 ≤ 90; decide), ?_⟩
      show (okL 1 (.int b) && (okL 1 (.int p) && (okL 1 (.int g) && (okL 1 (.list (ns.map .int)) && true)))) = true
      have e : okL 1 (.list (ns.map .int)) = true := by
        refine Bool.and_eq_true_iff.mpr ⟨decide_eq_true ?_, ?_⟩
        · rw [List.length_map]
          exact hns
        · rw [List.all_map, List.all_eq_true]
          intro z hz
          rfl
      rw [e]
      rfl
    refine ⟨_, rfl, _, rfl, a, c, n, v, papD b p g ns, off a c H, rfl, S, Ex.refl _, hd, okl, by show n + (1 + 90 * (1 + 90 * 0)) ≤ 2 ^ 39; omega, fun H1 v' d' G1 n1 e1 S1 n11 n12 reg hd1 loo => ?_⟩
    have n12 : n1 ≤ n + 91 := n12
    obtain ⟨k1, k2, rfl⟩ := loo.pap
    have st1 : Stt a c n1 G1 H1 := ⟨S1, reg.i⟩
    have hdp : D G1 v (papK false true b p g ns) := hd.ex reg.e
    have pv0 := papK_at hdp
    have pv1 := papK_at hd1
    have shw := ps.shw (k1 := k1) (k2 := k2)
    obtain ⟨a', xs', rfl, _, _⟩ := hd1.mk_at
    have b1 := ps.b1
    have b2 := ps.b2
    have p1 := ps.p1
    have p2 := ps.p2
    have g1 := ps.g1
    have g2 := ps.g2
    refine ⟨_, rfl, a', _, rfl, (hd1.ex st1.toH).toDp shw.n, shw.s, shw.n, shw.dp, shw.z, ?_⟩
    refine lc_any (J := Itr 0 60) (n := 60) (out := fun i => .int (tell b p g ns (i : Nat))) walk_range (fun R r => ⟨60, rfl, by decide, by decide, r⟩) (Evl.sz_of (by decide)) (fun _ _ => trivial) (fun i x Ha Hb hi e y => ?_) (fun x H q q' z => g_name_mono z) (fun q H2 nq e2 hq2 => ?_)
    · obtain ⟨rfl, rfl⟩ := y
      refine ⟨Ex.refl _, rfl, Ex.refl _, fun q hq => ?_⟩
      refine ⟨_, rfl, _, rfl, v, _, b, p, g, ns, rfl, pv0.ex (st1.toH.trans e), ps.ok, by omega, by omega, fun H4 e4 => ?_⟩
      have z := hq H4 e4
      rw [Int.zero_add]
      exact z
    have hq2 : H2 q = some (.lst ((tells b p g ns 60).map V.int)) := by
      rw [← below_eq]
      exact hq2
    have st2 := st1.ex e2
    have qn := S1.nea nq
    have Rq := st1.no nq
    have st3 := st2.hold hq2 qn.1 qn.2
    refine ⟨_, _, rfl, ?_⟩
    have hpt : isPaper (papK k1 k2 b p g ns) = true := ps.paper
    have hpf : isPaper (papK false true b p g ns) = true := ps.paper
    have zk := papK_z (k1 := k1) (k2 := k2) (b := b) (p := p) (g := g) (ns := ns) (by omega)
    have zf := papK_z (k1 := false) (k2 := true) (b := b) (p := p) (g := g) (ns := ns) (by omega)
    have no1 : ∀ {A : Prop}, isPaper (papK k1 k2 b p g ns) = false → A := fun {A} z => by
      rw [hpt] at z
      cases z
    have no2 : ∀ {A : Prop}, isPaper (papK false true b p g ns) = false → A := fun {A} z => by
      rw [hpf] at z
      cases z
    generalize hR3 : upd G1 q (.lst ((tells b p g ns 60).map V.int)) = R3 at st3
    have eR3 : Ex G1 R3 := by
      rw [← hR3]
      exact Ex.new Rq
    have hd3 := hd1.ex eR3
    have hp3 := hdp.ex eR3
    have q3 : R3 q = some (.lst ((tells b p g ns 60).map V.int)) := by
      rw [← hR3]
      exact upd_same
    have tl : (tells b p g ns 60).length ≤ 90000 := by
      rw [tells_len]
      decide
    -- told = values_by(passed, 59)
    refine ⟨_, rfl, .ref a', .int 59, _, .int 59, rfl, hd3.ex st3.toH, .int 59, zk, fun z => no1 z, fun _ z => (by cases z), fun _ _ => ⟨ps.sml, by decide, fun z H3 nz e3 hz3 => ?_⟩⟩
    rw [papK_b, papK_p, papK_g, papK_n, below_eq] at hz3
    have zn := st3.s.nea nz
    have Rz := st3.no nz
    have st4 := st3.ex e3
    -- the three tests
    refine ⟨_, rfl, .ref a', _, rfl, hd3.ex st4.toH, zk, fun H4 e4 => ⟨_, rfl, ?_⟩⟩
    rw [hpt]
    refine iteF ?_
    have st5 := st4.ex e4
    refine ⟨_, rfl, _, rfl, .ref z, .ref q, .list ((tells b p g ns 60).map .int), rfl, d_ints (e4 _ _ hz3), d_ints (st5.toH _ _ q3), okD_ints 4 tl, fun H5 e5 => ⟨_, rfl, iteF ?_⟩⟩
    have st6 := st5.ex e5
    refine ⟨_, rfl, a', _, rfl, (hd3.ex st6.toH).toDp shw.n, shw.s, shw.n, shw.dp, shw.z, _, rfl, rfl, _, rfl, ?_⟩
    refine ite_ff (by rw [decide_eq_true rfl]; rfl) ?_
    -- told.append('late')
    have hz5 := e5 _ _ (e4 _ _ hz3)
    refine ⟨_, rfl, .inl ⟨rfl, _, SqL.of hz5⟩, z, _, _, rfl, rfl, hz5, ?_, ?_⟩
    · rw [List.length_map]
      exact Evl.sz_lt (by rw [tells_len]; decide)
    generalize hH6 : upd H5 z (.lst ((tells b p g ns (intOf (.int 59) + 1)).map V.int ++ [.str "late"])) = H6
    have st7 : Stt a c n1 R3 H6 := by
      rw [← hH6]
      exact st6.mut Rz zn.1 zn.2
    have t1 : tells b p g ns 1 = [0] := by
      show [tell b p g ns ((0 : Nat) : Int)] = [0]
      unfold tell
      rw [if_pos (by show ((0 : Nat) : Int) < b; omega)]
      cases ns with
      | nil => exact absurd ps.hd (by simp)
      | cons x r =>
        obtain rfl : x = 0 := Option.some.inj ps.hd
        rfl
    -- [values_by(paper, 0), values_by(passed, 59)] against [[0], due]
    refine ⟨_, rfl, v, .int 0, _, .int 0, rfl, hp3.ex st7.toH, .int 0, zf, fun z => no2 z, fun _ z => (by cases z), fun _ _ => ⟨ps.sml, by decide, fun u1 H7 nu1 e7 hu1 => ?_⟩⟩
    rw [papK_b, papK_p, papK_g, papK_n, below_eq] at hu1
    have hu1 : H7 u1 = some (.lst ((tells b p g ns 1).map V.int)) := hu1
    rw [t1] at hu1
    have st8 := st7.ex e7
    refine ⟨_, rfl, .ref a', .int 59, _, .int 59, rfl, hd3.ex st8.toH, .int 59, zk, fun z => no1 z, fun _ z => (by cases z), fun _ _ => ⟨ps.sml, by decide, fun u2 H8 nu2 e8 hu2 => ?_⟩⟩
    rw [papK_b, papK_p, papK_g, papK_n, below_eq] at hu2
    have hu2 : H8 u2 = some (.lst ((tells b p g ns 60).map V.int)) := hu2
    have st9 := st8.ex e8
    refine ⟨by show 2 ≤ sizeLine; decide, fun l1 nl1 => ?_⟩
    have e9 := Ex.new (o := .lst [.ref u1, .ref u2]) nl1
    have hl1 : upd H8 l1 (.lst [.ref u1, .ref u2]) l1 = some (.lst [.ref u1, .ref u2]) := upd_same
    generalize upd H8 l1 (.lst [.ref u1, .ref u2]) = H9 at e9 hl1
    have st10 := st9.ex e9
    refine ⟨by show 1 ≤ sizeLine; decide, fun l2 nl2 => ?_⟩
    have e10 := Ex.new (o := .lst [.int 0]) nl2
    have hl2 : upd H9 l2 (.lst [.int 0]) l2 = some (.lst [.int 0]) := upd_same
    generalize upd H9 l2 (.lst [.int 0]) = H10 at e10 hl2
    have st11 := st10.ex e10
    refine ⟨_, rfl, by show 2 ≤ sizeLine; decide, fun l3 nl3 => ?_⟩
    have e11 := Ex.new (o := .lst [.ref l2, .ref q]) nl3
    have hl3 : upd H10 l3 (.lst [.ref l2, .ref q]) l3 = some (.lst [.ref l2, .ref q]) := upd_same
    generalize upd H10 l3 (.lst [.ref l2, .ref q]) = H11 at e11 hl3
    have st12 := st11.ex e11
    have okl2 : okD 5 (.list [.list ([0].map .int), .list ((tells b p g ns 60).map .int)]) = true := by
      refine Bool.and_eq_true_iff.mpr ⟨decide_eq_true (by show 2 ≤ 90000; decide), ?_⟩
      show (okD 4 _ && (okD 4 _ && true)) = true
      rw [okD_ints 3 tl, okD_ints 3 (ns := [0]) (by decide)]
      rfl
    refine ⟨.ref l1, .ref l3, .list [.list ([0].map .int), .list ((tells b p g ns 60).map .int)], rfl, .lst (e11 _ _ (e10 _ _ hl1)) (.cons (d_ints (ns := [0]) (e11 _ _ (e10 _ _ (e9 _ _ (e8 _ _ hu1))))) (.cons (d_ints (e11 _ _ (e10 _ _ (e9 _ _ hu2)))) .nil)),
      .lst hl3 (.cons (d_ints (ns := [0]) (e11 _ _ hl2)) (.cons (d_ints (st12.toH _ _ q3)) .nil)), okl2, fun H12 e12 => ⟨_, rfl, iteF ?_⟩⟩
    have st13 := st12.ex e12
    -- the heaps to 10 ** 18
    obtain ⟨pa, pt, rfl, prow0, ptrow0⟩ := pv0
    have prow := prow0.ex eR3
    have ptrow := ptrow0.ex eR3
    refine ⟨_, rfl, ix_row (prow.ex st13.toH) (atI_nat (j := 0) rfl) ?_⟩
    refine ⟨_, _, rfl, rfl, ⟨by decide, by decide, by decide⟩, _, _, rfl, rfl, ⟨by decide, by decide, by decide⟩, _, rfl, a, c, n1, 99, rfl, st13.s, by decide, by decide, by omega, fun H14 r1 e14 S14 r10 r11 => ?_⟩
    have st14 := st13.drawn e14 S14
    refine ⟨_, _, rfl, rfl, _, rfl, _, _, rfl, rfl, ⟨by decide, by decide, by decide⟩, a, c, n1 + 1, _, rfl, S14, by decide, by decide, by omega, fun H15 r2 e15 S15 r20 r21 => ?_⟩
    have st15 := st14.drawn e15 S15
    refine ⟨_, _, rfl, rfl, by show 6 ≤ sizeLine; decide, fun L nL => ?_⟩
    have Ln := S15.nea nL
    have RL := st15.no nL
    have p18 : (10 : Int) ^ (18 : Int).toNat = 1000000000000000000 := by decide
    have p12 : (10 : Int) ^ (12 : Int).toNat = 1000000000000 := by decide
    rw [p12] at r21
    have heaps : ∀ x ∈ [V.int 1, .int b, .int 59, .int ((10 : Int) ^ (18 : Int).toNat), .int ((10 : Int) ^ (18 : Int).toNat - r1), .int (1 + r2)], ∃ h : Int, x = .int h ∧ 1 ≤ h ∧ h ≤ 1000000000000000000 := by
      intro x hx
      rw [p18] at hx
      simp only [List.mem_cons, List.not_mem_nil, or_false] at hx
      rcases hx with rfl | rfl | rfl | rfl | rfl | rfl
      · exact ⟨_, rfl, by decide, by decide⟩
      · exact ⟨_, rfl, by omega, by omega⟩
      · exact ⟨_, rfl, by decide, by decide⟩
      · exact ⟨_, rfl, by decide, by decide⟩
      · exact ⟨_, rfl, by omega, by omega⟩
      · exact ⟨_, rfl, by omega, by omega⟩
    generalize hxs : [V.int 1, .int b, .int 59, .int ((10 : Int) ^ (18 : Int).toNat), .int ((10 : Int) ^ (18 : Int).toNat - r1), .int (1 + r2)] = xs at heaps
    have e16 := Ex.new (o := .lst xs) nL
    have st16 := st15.ex e16
    have stL := st16.hold upd_same Ln.1 Ln.2
    refine ⟨L, rfl, ⟨_, SqL.of upd_same⟩, for_list (K := K) (a := L) (xs := xs) (fun i σ H' => ∃ hv, σ = [some (.ref a), some (.ref pa), some (.ref a'), some (.str (papK k1 k2 b p g ns).shown), some (.ref q), some (.ref z), hv, none, none, none, none, none, none, none, none] ∧ Stt a c (n1 + 1 + 1) (upd R3 L (.lst xs)) H')
      ⟨none, rfl, stL⟩ (fun i σ H' _ p => ?_) (fun i x σ H' hx p => ?_) (fun σ H' p => ?_)⟩
    · obtain ⟨hv, _, st⟩ := p
      exact SqL.of (st.toH _ _ upd_same)
    · obtain ⟨hv, rfl, st⟩ := p
      obtain ⟨h, rfl, h1, h2⟩ := heaps x (List.mem_of_getElem? hx)
      have eL : Ex R3 (upd R3 L (.lst xs)) := Ex.new RL
      have ih : isHp (.int h) = true := Bool.and_eq_true_iff.mpr ⟨decide_eq_true h1, decide_eq_true h2⟩
      refine ⟨_, rfl, _, rfl, .ref a', .int h, _, .int h, rfl, (hd3.ex eL).ex st.toH, .int h, zk, fun z => no1 z, fun _ z => (by rw [ih] at z; cases z), fun _ _ => ⟨ps.sml, fun H2' e2' => ?_⟩⟩
      rw [papK_b, papK_p, papK_g, papK_n]
      have st' := st.ex e2'
      refine ⟨_, rfl, _, rfl, .ref pa, h, b, p, g, ns, rfl, ⟨pa, pt, rfl, (prow.ex eL).ex st'.toH, (ptrow.ex eL).ex st'.toH⟩, ps.ok, by omega, by omega, fun H3' e3' => ?_⟩
      refine ⟨.int _, .int _, .int (tell b p g ns h), rfl, .int _, .int _, rfl, fun H4' e4' => ⟨_, rfl, iteF ?_⟩⟩
      exact ⟨_, rfl, (st'.ex e3').ex e4'⟩
    · obtain ⟨hv, rfl, st⟩ := p
      have eL : Ex R3 (upd R3 L (.lst xs)) := Ex.new RL
      have st17 : Stt a c (n1 + 1 + 1) R3 H' := ⟨st.s, eL.trans st.r⟩
      clear st
      refine ⟨3, rfl, by decide, by decide, for_range (lo := 0) (n := 3) (fun i σ H' => ∃ tv bv mv fv vv, σ = [some (.ref a), some (.ref pa), some (.ref a'), some (.str (papK k1 k2 b p g ns).shown), some (.ref q), some (.ref z), hv, tv, bv, mv, fv, vv, none, none, none] ∧ Stt a c (n1 + 1 + 1 + 2 * (i : Nat)) R3 H')
        ⟨none, none, none, none, none, rfl, by simpa using st17⟩ (fun i σ H' hi p => ?_) (fun σ H' p => ?_)⟩
      · obtain ⟨tv, bv, mv, fv, vv, rfl, st⟩ := p
        refine ⟨_, rfl, ix_row (prow.ex st.toH) (atI_nat (j := 0) rfl) ⟨_, rfl, a, c, _, 5, rfl, st.s, by decide, by decide, by omega, fun Ha r3 ea Sa r30 r31 => ?_⟩⟩
        have sta := st.drawn ea Sa
        refine ⟨_, _, rfl, rfl, _, rfl, a, c, _, 3, rfl, Sa, by decide, by decide, by omega, fun Hb r4 eb Sb r40 r41 => ⟨_, _, rfl, rfl, _, _, rfl, ?_⟩⟩
        have stb := sta.drawn eb Sb
        have hM : (1 + r4) * p ≤ 300 := Int.le_trans (Int.mul_le_mul_of_nonneg_left p2 (by omega)) (by omega)
        have hM0 : 0 < (1 + r4) * p := Int.mul_pos (by omega) (by omega)
        have hmod : (1 + r4) * p % p = 0 := Int.mul_emod_left _ _
        refine ⟨_, rfl, _, rfl, _, rfl, _, rfl, ix_row (prow.ex stb.toH) (atI_nat (j := 1) rfl) ⟨_, _, rfl, rfl, .inl ⟨by omega, by omega⟩, ?_⟩⟩
        have iB : isNum (.int (b + r3)) = true := decide_eq_true (by omega)
        have iP : isNum (.int ((1 + r4) * p)) = true := decide_eq_true (by omega)
        refine ⟨.ref a', .int (b + r3), .int ((1 + r4) * p), _, .int (b + r3), .int ((1 + r4) * p), rfl, hd3.ex stb.toH, .int _, .int _, zk, fun z => no1 z, fun _ z => ?_, fun _ _ _ z => ?_, fun _ _ _ _ _ _ => ⟨ps.sml, ?_, fun z' Hc led => ?_⟩⟩
        · exfalso
          rcases z with z | z
          · rw [iB] at z
            cases z
          · rw [papK_b] at z
            have z : b + r3 < b := z
            omega
        · exfalso
          rcases z with z | z | z
          · rw [iP] at z
            cases z
          · have z : (1 + r4) * p = 0 := z
            omega
          · rw [papK_p] at z
            exact z hmod
        · show b + r3 + (1 + r4) * p ≤ 100000
          omega
        obtain ⟨ec, nz', y', ny', hz', hy'⟩ := led
        rw [papK_p, papK_g] at hz'
        rw [papK_b, papK_p, papK_g, papK_n, below_eq] at hy'
        have hy' : Hc y' = some (.lst ((tells b p g ns (b + r3 + (1 + r4) * p)).map V.int)) := hy'
        have hz' : Hc z' = some (.tup [.int (b + r3), .int ((1 + r4) * p), .int (g * ((1 + r4) * p) / p), .ref y']) := hz'
        have eg : g * ((1 + r4) * p) / p = (1 + r4) * g := by
          rw [← Int.mul_assoc, Int.mul_ediv_cancel _ (by omega), Int.mul_comm]
        rw [eg] at hz'
        have stc := stb.ex ec
        have yn := Sb.nea ny'
        have Ry := stb.no ny'
        unfold gName
        dsimp only
        refine seq1 (asg1 ?_)
        refine lc_any (J := Itr 0 (b + r3 + (1 + r4) * p).toNat) (n := (b + r3 + (1 + r4) * p).toNat) (out := fun i => .int (tell b p g ns (i : Nat))) walk_range
          (fun R r => ⟨_, rfl, _, rfl, _, rfl, ix_row (prow.ex stc.toH) (atI_nat (j := 1) rfl) ⟨_, _, rfl, rfl, .inl ⟨by omega, by omega⟩, _, _, rfl, rfl, b + r3 + (1 + r4) * p, rfl, by omega, by omega, r⟩⟩) (Evl.sz_of (by omega)) (fun _ _ => trivial) (fun i x Hx Hy hi e y => ?_) (fun x H q q' z => g_name_mono z) (fun vq Hd nvq ed hvq => ?_)
        · obtain ⟨rfl, rfl⟩ := y
          refine ⟨Ex.refl _, rfl, Ex.refl _, fun q hq => ?_⟩
          refine ⟨_, rfl, _, rfl, .ref pa, _, b, p, g, ns, rfl, ⟨pa, pt, rfl, (prow.ex stc.toH).ex e, (ptrow.ex stc.toH).ex e⟩, ps.ok, by omega, by omega, fun H4 e4 => ?_⟩
          have z := hq H4 e4
          rw [Int.zero_add]
          exact z
        have hvq : Hd vq = some (.lst ((tells b p g ns (b + r3 + (1 + r4) * p)).map V.int)) := by
          rw [← below_eq]
          exact hvq
        have std := stc.ex ed
        refine ⟨_, rfl, _, rfl, _, rfl, _, rfl, ix_row (prow.ex std.toH) (atI_nat (j := 1) rfl) ⟨_, _, rfl, rfl, .inl ⟨by omega, by omega⟩, ?_⟩⟩
        refine ⟨_, rfl, _, rfl, ix_row (prow.ex std.toH) (atI_nat (j := 2) rfl) ⟨_, _, rfl, rfl, .inl ⟨by omega, by omega⟩, _, rfl, by show 4 ≤ sizeLine; decide, fun tq ntq => ?_⟩⟩
        have et := Ex.new (o := .tup [.int (b + r3), .int ((1 + r4) * p), .int ((1 + r4) * g), .ref vq]) ntq
        have htq : upd Hd tq (.tup [.int (b + r3), .int ((1 + r4) * p), .int ((1 + r4) * g), .ref vq]) tq = some (.tup [.int (b + r3), .int ((1 + r4) * p), .int ((1 + r4) * g), .ref vq]) := upd_same
        generalize upd Hd tq (.tup [.int (b + r3), .int ((1 + r4) * p), .int ((1 + r4) * g), .ref vq]) = He at et htq
        have ste := std.ex et
        have tlB : (tells b p g ns (b + r3 + (1 + r4) * p)).length ≤ 90000 := by
          rw [tells_len]
          omega
        have okT : okD 5 (.tuple [.int (b + r3), .int ((1 + r4) * p), .int ((1 + r4) * g), .list ((tells b p g ns (b + r3 + (1 + r4) * p)).map .int)]) = true := by
          refine Bool.and_eq_true_iff.mpr ⟨decide_eq_true (by show 4 ≤ 90000; decide), ?_⟩
          show (true && (true && (true && (okD 4 _ && true)))) = true
          rw [okD_ints 3 tlB]
          rfl
        refine ⟨.ref z', .ref tq, .tuple [.int (b + r3), .int ((1 + r4) * p), .int ((1 + r4) * g), .list ((tells b p g ns (b + r3 + (1 + r4) * p)).map .int)], rfl, .tup (et _ _ (ed _ _ hz')) (.cons (.int _) (.cons (.int _) (.cons (.int _) (.cons (d_ints (et _ _ (ed _ _ hy'))) .nil)))),
          .tup htq (.cons (.int _) (.cons (.int _) (.cons (.int _) (.cons (d_ints (et _ _ hvq)) .nil)))), okT, fun Hf ef => ⟨_, rfl, iteF ?_⟩⟩
        have stf := ste.ex ef
        have hyf := ef _ _ (et _ _ (ed _ _ hy'))
        have hzf := ef _ _ (et _ _ (ed _ _ hz'))
        refine ⟨_, rfl, .inr (.inl ⟨z', _, 3, .ref y', rfl, rfl, SqT.of hzf, atI_nat (j := 3) rfl, ?_⟩)⟩
        refine ⟨.inl ⟨rfl, _, SqL.of hyf⟩, y', _, _, rfl, rfl, hyf, ?_, ?_⟩
        · rw [List.length_map, tells_len]
          exact Evl.sz_lt (by omega)
        refine ⟨_, _, _, _, _, rfl, ?_⟩
        have q1 := stf.mut (o := .lst ((tells b p g ns (b + r3 + (1 + r4) * p)).map V.int ++ [.str "late"])) Ry yn.1 yn.2
        have ec : n1 + 1 + 1 + 2 * ((i : Nat) : Int) + 1 + 1 = n1 + 1 + 1 + 2 * ((i + 1 : Nat) : Int) := by omega
        rw [ec] at q1
        exact q1
      · obtain ⟨tv, bv, mv, fv, vv, rfl, st⟩ := p
        -- held, thing, found
        refine ⟨_, rfl, ix_row (prow.ex st.toH) (atI_nat (j := 3) rfl) ⟨pt, _, rfl, (ptrow.ex st.toH).sq, fun hl nhl => ?_⟩⟩
        have hln := st.s.nea nhl
        have Rhl := st.no nhl
        have eg := Ex.new (o := .lst (ns.map V.int)) nhl
        have hlg : upd H' hl (.lst (ns.map V.int)) hl = some (.lst (ns.map V.int)) := upd_same
        generalize upd H' hl (.lst (ns.map V.int)) = Hg at eg hlg
        have stg := st.ex eg
        refine ⟨_, rfl, ix_row (prow.ex stg.toH) (atI_nat (j := 0) rfl) ?_⟩
        refine ⟨_, rfl, ix_row (prow.ex stg.toH) (atI_nat (j := 1) rfl) ?_⟩
        refine ⟨_, rfl, ix_row (prow.ex stg.toH) (atI_nat (j := 2) rfl) ?_⟩
        refine ⟨_, rfl, by show 4 ≤ sizeLine; decide, fun th nth => ?_⟩
        have n_hl_th : hl ≠ th := ne_of_none hlg nth
        have thn := stg.s.nea nth
        have Rth := stg.no nth
        have eh := Ex.new (o := .lst [.int b, .int p, .int g, .ref hl]) nth
        have hth : upd Hg th (.lst [.int b, .int p, .int g, .ref hl]) th = some (.lst [.int b, .int p, .int g, .ref hl]) := upd_same
        generalize upd Hg th (.lst [.int b, .int p, .int g, .ref hl]) = Hh at eh hth
        have hlh := eh _ _ hlg
        have sth := stg.ex eh
        have dthing : ∀ {Hx : Hp} {ms : List Int}, Hx th = some (.lst [.int b, .int p, .int g, .ref hl]) → Hx hl = some (.lst (ms.map V.int)) → D Hx (.ref th) (papK true true b p g ms) := fun {Hx ms} h1 h2 =>
          .lst h1 (.cons (.int _) (.cons (.int _) (.cons (.int _) (.cons (d_ints h2) .nil))))
        have ib : isHp (.int b) = true := Bool.and_eq_true_iff.mpr ⟨decide_eq_true b1, decide_eq_true (by omega)⟩
        have pt1 : isPaper (papK true true b p g ns) = true := ps.paper
        refine ⟨_, rfl, _, rfl, ix_row (prow.ex sth.toH) (atI_nat (j := 0) rfl) ?_⟩
        refine ⟨.ref th, .int b, _, .int b, rfl, dthing hth hlh, .int b, papK_z (by omega), fun z => (by rw [pt1] at z; cases z), fun _ z => (by rw [ib] at z; cases z), fun _ _ => ⟨ps.sml, fun Hi ei => ?_⟩⟩
        rw [papK_b, papK_p, papK_g, papK_n]
        have sti := sth.ex ei
        have etb : tell b p g ns (intOf (.int b)) = ns.getD b.toNat 0 := tell_at p1 (Int.le_refl _) (by show b < b + p; omega)
        rw [etb]
        refine ⟨by show 1 ≤ sizeLine; decide, fun fl nfl => ?_⟩
        have n_hl_fl : hl ≠ fl := ne_of_none (ei _ _ hlh) nfl
        have n_th_fl : th ≠ fl := ne_of_none (ei _ _ hth) nfl
        have fln := sti.s.nea nfl
        have Rfl := sti.no nfl
        have ej := Ex.new (o := .lst [.int (ns.getD b.toNat 0)]) nfl
        have hfl : upd Hi fl (.lst [.int (ns.getD b.toNat 0)]) fl = some (.lst [.int (ns.getD b.toNat 0)]) := upd_same
        generalize upd Hi fl (.lst [.int (ns.getD b.toNat 0)]) = Hj at ej hfl
        have stj := sti.ex ej
        have hlj := ej _ _ (ei _ _ hlh)
        have hthj := ej _ _ (ei _ _ hth)
        -- held[paper[0]] = 77
        have bl : b.toNat < ns.length := by have := ps.len; omega
        refine ⟨_, rfl, _, rfl, ix_row (prow.ex stj.toH) (atI_nat (j := 0) rfl) ⟨hl, _, b, b.toNat, rfl, rfl, hlj, ?_, ?_⟩⟩
        · unfold ixN
          rw [if_pos (by omega), if_pos (by rw [List.length_map]; omega)]
        have eset : (ns.map V.int).set b.toNat (.int 77) = (ns.set b.toNat 77).map V.int := (List.map_set ..).symm
        rw [eset]
        have hlk : upd Hj hl (.lst ((ns.set b.toNat 77).map V.int)) hl = some (.lst ((ns.set b.toNat 77).map V.int)) := upd_same
        have hthk : upd Hj hl (.lst ((ns.set b.toNat 77).map V.int)) th = some (.lst [.int b, .int p, .int g, .ref hl]) := by rw [upd_ne (Ne.symm n_hl_th)]; exact hthj
        have hflk : upd Hj hl (.lst ((ns.set b.toNat 77).map V.int)) fl = some (.lst [.int (ns.getD b.toNat 0)]) := by rw [upd_ne (Ne.symm n_hl_fl)]; exact hfl
        have stk := stj.mut (o := .lst ((ns.set b.toNat 77).map V.int)) Rhl hln.1 hln.2
        generalize upd Hj hl (.lst ((ns.set b.toNat 77).map V.int)) = Hk at hlk hthk hflk stk
        have ps2 := ps.set
        have pt2 : isPaper (papK true true b p g (ns.set b.toNat 77)) = true := ps2.paper
        refine ⟨_, rfl, .inl ⟨rfl, _, SqL.of hflk⟩, _, rfl, _, rfl, ix_row (prow.ex stk.toH) (atI_nat (j := 0) rfl) ?_⟩
        refine ⟨.ref th, .int b, _, .int b, rfl, dthing hthk hlk, .int b, papK_z (by rw [List.length_set]; omega), fun z => (by rw [pt2] at z; cases z), fun _ z => (by rw [ib] at z; cases z), fun _ _ => ⟨ps2.sml, fun Hl el => ?_⟩⟩
        rw [papK_b, papK_p, papK_g, papK_n]
        have et2 : tell b p g (ns.set b.toNat 77) (intOf (.int b)) = 77 := by
          show tell b p g (ns.set b.toNat 77) b = 77
          rw [tell_at p1 (Int.le_refl _) (by show b < b + p; omega)]
          show (ns.set b.toNat 77).getD b.toNat 0 = 77
          rw [List.getD, List.getElem?_set_self bl]
          rfl
        rw [et2]
        have stl := stk.ex el
        refine ⟨fl, _, _, rfl, rfl, el _ _ hflk, by show 1 < sizeLine; decide, ?_⟩
        have hlm : upd Hl fl (.lst ([.int (ns.getD b.toNat 0)] ++ [.int 77])) hl = some (.lst ((ns.set b.toNat 77).map V.int)) := by rw [upd_ne n_hl_fl]; exact el _ _ hlk
        have hthm : upd Hl fl (.lst ([.int (ns.getD b.toNat 0)] ++ [.int 77])) th = some (.lst [.int b, .int p, .int g, .ref hl]) := by rw [upd_ne n_th_fl]; exact el _ _ hthk
        have hflm : upd Hl fl (.lst ([.int (ns.getD b.toNat 0)] ++ [.int 77])) fl = some (.lst ([.int (ns.getD b.toNat 0)] ++ [.int 77])) := upd_same
        have stm := stl.mut (o := .lst ([.int (ns.getD b.toNat 0)] ++ [.int 77])) Rfl fln.1 fln.2
        generalize upd Hl fl (.lst ([.int (ns.getD b.toNat 0)] ++ [.int 77])) = Hm at hlm hthm hflm stm
        -- held.append(0)
        refine ⟨_, rfl, .inl ⟨rfl, _, SqL.of hlm⟩, hl, _, _, rfl, rfl, hlm, ?_, ?_⟩
        · rw [List.length_map, List.length_set]
          exact Evl.sz_lt (by omega)
        have eapp : (ns.set b.toNat 77).map V.int ++ [.int 0] = (ns.set b.toNat 77 ++ [0]).map V.int := by rw [List.map_append]; rfl
        rw [eapp]
        have hln2 : upd Hm hl (.lst ((ns.set b.toNat 77 ++ [0]).map V.int)) hl = some (.lst ((ns.set b.toNat 77 ++ [0]).map V.int)) := upd_same
        have hthn : upd Hm hl (.lst ((ns.set b.toNat 77 ++ [0]).map V.int)) th = some (.lst [.int b, .int p, .int g, .ref hl]) := by rw [upd_ne (Ne.symm n_hl_th)]; exact hthm
        have hfln : upd Hm hl (.lst ((ns.set b.toNat 77 ++ [0]).map V.int)) fl = some (.lst ([.int (ns.getD b.toNat 0)] ++ [.int 77])) := by rw [upd_ne (Ne.symm n_hl_fl)]; exact hflm
        have stn := stm.mut (o := .lst ((ns.set b.toNat 77 ++ [0]).map V.int)) Rhl hln.1 hln.2
        generalize upd Hm hl (.lst ((ns.set b.toNat 77 ++ [0]).map V.int)) = Hn at hln2 hthn hfln stn
        -- the end
        refine ⟨_, rfl, _, rfl, ix_row (prow.ex stn.toH) (atI_nat (j := 3) rfl) ?_⟩
        refine ⟨_, rfl, ix_row (prow.ex stn.toH) (atI_nat (j := 0) rfl) ?_⟩
        refine ix_row (ptrow.ex stn.toH) (atI_int (by omega) (get_map bl)) ?_
        refine ⟨by show 2 ≤ sizeLine; decide, fun w_ nw => ?_⟩
        have eo := Ex.new (o := .lst [.int (ns.getD b.toNat 0), .int 77]) nw
        have hw : upd Hn w_ (.lst [.int (ns.getD b.toNat 0), .int 77]) w_ = some (.lst [.int (ns.getD b.toNat 0), .int 77]) := upd_same
        generalize upd Hn w_ (.lst [.int (ns.getD b.toNat 0), .int 77]) = Ho at eo hw
        have sto := stn.ex eo
        refine ⟨.ref fl, .ref w_, .list [.int (ns.getD b.toNat 0), .int 77], rfl, .lst (eo _ _ hfln) (.cons (.int _) (.cons (.int _) .nil)), .lst hw (.cons (.int _) (.cons (.int _) .nil)), rfl, fun Hp' ep => ⟨_, rfl, iteT ?_⟩⟩
        have stp := sto.ex ep
        refine ⟨_, rfl, .ref th, papK true true b p g (ns.set b.toNat 77 ++ [0]), rfl, dthing (ep _ _ (eo _ _ hthn)) (ep _ _ (eo _ _ hln2)), papK_z (by rw [List.length_append, List.length_set]; show ns.length + 1 ≤ 100000; omega), fun Hq eq => ⟨_, rfl, ?_⟩⟩
        have stq := stp.ex eq
        rw [papK_long (by rw [List.length_append, List.length_set]; have := ps.len; show ((ns.length + 1 : Nat) : Int) ≠ b + p; omega)]
        exact kq Hq _ (reg.e.trans (eR3.trans stq.r)) stq.s (by omega) (by omega)
end
end Ts


set_option Elab.async false
set_option linter.all false
set_option maxRecDepth 100000
set_option maxHeartbeats 4000000
namespace Ts
open PySem PySem.Spec L2
open Evl (Ex)
/-! ## several except clauses, with and without a name; nothing else may come -/
abbrev Suite := Addr → Value → Option Addr → TS
/-- the ends behind a suite whose name is let go -/
def lets (i : Nat) (D : Ends) : Ends := { nx := fun σ H => D.nx (σ.set i none) H, rt := D.rt, bk := fun σ H => D.bk (σ.set i none) H, ct := fun σ H => D.ct (σ.set i none) H }
def wClauses (K : PySem.W.Frag) (i : Nat) (D : Ends) : List (Value × Bool × Suite) → WX
  | [] => fun _ _ _ _ => False
  | (c, true, ts) :: r => fun cls d σ H => ∃ b, PySem.W.exmOne K cls c = some b ∧ (b = true → ∀ a, H a = none → i < σ.length → ts a cls d (lets i D) (σ.set i (some (.ref a))) H) ∧ (b = false → wClauses K i D r cls d σ H)
  | (c, false, ts) :: r => fun cls d σ H => ∃ b, PySem.W.exmOne K cls c = some b ∧ (b = true → ∀ a, H a = none → ts a cls d D σ H) ∧ (b = false → wClauses K i D r cls d σ H)
def SuiteOk (X : Cx) (st : List Stmt) (ts : Suite) : Prop := ∀ (a : Addr) (oe : Obj) (cls : Value) (d : Option Addr) (pn : List (Addr × Obj)), Zc cls d oe → (∃ vs, oe.data = .fields vs) → PSs (X.suite a ((a, oe) :: pn)) st (ts a cls d)
inductive Clauses (X : Cx) (n : Str) : List ExceptHandler → List (Value × Bool × Suite) → Prop
  | nil : Clauses X n [] []
  | as_ {x : Str} {c : Value} {ts : Suite} {b₀ : Stmt} {st : List Stmt} {np p : Pos} {hds : List ExceptHandler} {l : List (Value × Bool × Suite)} (hc : Names X x c) (hs : SuiteOk X (b₀ :: st) ts) (r : Clauses X n hds l) :
      Clauses X n (.ExceptHandler (some (.Name x np)) (some n) (b₀ :: st) p :: hds) ((c, true, ts) :: l)
  | bare {x : Str} {c : Value} {ts : Suite} {b₀ : Stmt} {st : List Stmt} {np p : Pos} {hds : List ExceptHandler} {l : List (Value × Bool × Suite)} (hc : Names X x c) (hs : SuiteOk X (b₀ :: st) ts) (r : Clauses X n hds l) :
      Clauses X n (.ExceptHandler (some (.Name x np)) none (b₀ :: st) p :: hds) ((c, false, ts) :: l)
section
variable {X : Cx} {n : Str} {i : Nat} {body : List Stmt} {h₀ : ExceptHandler} {hds : List ExceptHandler} {l : List (Value × Bool × Suite)} {pos : Pos} {tb : WX → TS}
theorem ps_clauses (hs : X.stack = X.env :: X.outer) (hf : X.env.frame = some X.env.locals) (hN : X.N.Nodup) (hi : X.N[i]? = some n) (hln : X.env.kindOf n = some .local)
    (hb : ∀ (W : WX) (pn : List (Addr × Obj)) (xe : Value → Shared → Prop), Takes (X.tr pn xe) W → PSs (X.tr pn xe) body (tb W))
    (hh : Clauses X n (h₀ :: hds) l) : L2.PS X (.Try body (h₀ :: hds) [] [] pos) (fun D σ H => tb (wClauses X.K i D l) D σ H) := by
  refine ⟨fun pins s σ H D I h => wpAny_Try_except ?_⟩
  have hfr : X.A.frames = some (X.env :: X.outer) := by rw [I.ok.frames, hs]
  have hloc : Loc X.env.scope n := .inl hln
  let now : Value → Shared → Prop := fun e s1 => wpAny (model X.prog X.w) X.A (noteFrame e X.env) (fun _ s2 => wpAny (model X.prog X.w) X.A (setFlight e none) (fun _ s3 => wpAny (model X.prog X.w) X.A (handleBy e X.env (h₀ :: hds)) (SP X pins D) X.xe s3) X.xe s2) X.xe s1
  have got : Takes (X.tr (X.pn ++ pins) now) (wClauses X.K i D l) := by
    intro u s' xx
    obtain ⟨a, B, sI, pins', σ', H', cls, d, rfl, J', nb, up, sky, na, os, ag, w⟩ := xx
    have J : Inv X pins σ' H' sI := J'.ofTry I.ok
    show wpAny (model X.prog X.w) X.A (noteFrame (.ref a) X.env) _ _ _
    refine Sky.land Zc.steady hfr hf (show Sky B (X.env :: X.outer) a (Zc cls d) X.env.locals s'.heap from hs ▸ sky) fun h3 fl up3 => ?_
    have J3 : Inv X pins σ' H' { s' with heap := h3 } := J.landed nb fl.1 (up.trans up3) os ag
    obtain ⟨oe, vs, he, hz, hd⟩ := fl.there
    have aside : a ∉ frs (X.env :: X.outer) := fun hm => by
      obtain ⟨_, o2, g1, g2⟩ := fl.2.2.1.mem hm
      rw [he] at g1
      cases g1
      exact g2 _ hd
    have nL : a ≠ X.env.locals := fun z => aside (List.mem_filterMap.mpr ⟨X.env, .head _, by rw [hf, z]⟩)
    have nF : a ∉ X.fs := fun hm => by
      obtain ⟨e, q1, q2⟩ := List.mem_filterMap.mp hm
      exact aside (List.mem_filterMap.mpr ⟨e, .tail _ q1, q2⟩)
    have S3 := J3.suite he hd na nL nF
    -- a clause's class, looked up
    have named : ∀ {x : Str} {c : Value} {np : Pos} {Q E : Value → Shared → Prop}, Names X x c → Q c { s' with heap := h3 } → wpAny (model X.prog X.w) (X.A.mark (some (.ref a))) (eval (.Name x np) X.env) Q E { s' with heap := h3 } := by
      intro x c np Q E hc q
      rcases hc with ⟨g, gd, g2 | ⟨g2, g3, g4⟩⟩
      · exact ld_glob (X := X.suite a ((a, oe) :: (X.pn ++ pins))) S3 g g2 q gd
      · exact ld_blt (X := X.suite a ((a, oe) :: (X.pn ++ pins))) S3 g g2 g3 q g4 gd
    have asks : ∀ {c : Value} {b : Bool}, PySem.W.exmOne X.K cls c = some b → _ := fun {c b} hb1 =>
      PySem.W.exm_one (M := model X.prog X.w) J3.kIn (fun A Q E s k q => wpAny_typeOf_ref (k _ _ he) (by rw [hz.1]; exact q)) hb1
    have turn : ∀ {hk : List ExceptHandler} {lk : List (Value × Bool × Suite)}, Clauses X n hk lk → wClauses X.K i D lk cls d σ' H' → wpAny (model X.prog X.w) X.A (handleBy (.ref a) X.env hk) (SP X pins D) X.xe { s' with heap := h3 } := by
      intro hk lk hc
      induction hc with
      | nil => exact fun w => w.elim
      | @as_ x c ts b₀ st np p hds2 l2 hc hsu r ih =>
        rintro ⟨b, hb1, yes, no⟩
        refine wpAny_handleBy_cons (codeAny_handlers_test ?_) (fun q => nomatch q)
        refine named hc ((asks hb1).here ?_)
        cases b with
        | false => exact ih (no rfl)
        | true =>
          refine codeAny_handlers_suite_as (HandSPX.lands_againZ fl fun h4 fl4 up4 => ?_)
          have J4 : Inv X pins σ' H' { s' with heap := h4 } := J.landed nb fl4.1 ((up.trans up3).trans up4) os ag
          obtain ⟨oe4, vs4, he4, hz4, hd4⟩ := fl4.there
          refine store_ok (X := X.suite a ((a, oe4) :: (X.pn ++ pins))) (v := .ref a) (J4.suite he4 hd4 na nL nF) hN hi hloc rfl (fun s5 S5 => ?_) (.inr hln)
          refine wpAny_mono ((hsu a oe4 cls d (X.pn ++ pins) hz4 ⟨_, hd4⟩).run [] s5 _ H' _ S5 (yes rfl a na (by rw [J.len]; exact (List.getElem?_eq_some_iff.mp hi).1))) (fun f s6 hsp => ?_) (fun _ _ z => z.elim)
          have fin : ∀ {σ6 : L2.St} {H6 : Hp} {Q : Shared → Prop}, Inv (X.suite a ((a, oe4) :: (X.pn ++ pins))) [] σ6 H6 s6 → (∀ s7, Inv X pins (σ6.set i none) H6 s7 → Q s7) →
              wpAny (model X.prog X.w) X.A (do bindName X.env n .none; unbindBehindTheSuite X.env n p) (fun _ s7 => Q s7) X.xe s6 := fun S6 hq => gone_ok (S6.unsuite I.ok) hN hi hln hq
          cases f <;> first
            | (obtain ⟨σ6, H6, S6, q6⟩ := hsp; exact fin S6 fun s7 J7 => ⟨_, _, J7, q6⟩)
            | (obtain ⟨v6, σ6, H6, S6, r6, q6⟩ := hsp; exact fin S6 fun s7 J7 => ⟨_, _, _, J7, r6, q6⟩)
      | @bare x c ts b₀ st np p hds2 l2 hc hsu r ih =>
        rintro ⟨b, hb1, yes, no⟩
        refine wpAny_handleBy_cons (codeAny_handlers_test ?_) (fun q => nomatch q)
        refine named hc ((asks hb1).here ?_)
        cases b with
        | false => exact ih (no rfl)
        | true =>
          refine codeAny_handlers_suite (HandSPX.lands_againZ fl fun h4 fl4 up4 => ?_)
          have J4 : Inv X pins σ' H' { s' with heap := h4 } := J.landed nb fl4.1 ((up.trans up3).trans up4) os ag
          obtain ⟨oe4, vs4, he4, hz4, hd4⟩ := fl4.there
          refine wpAny_mono ((hsu a oe4 cls d (X.pn ++ pins) hz4 ⟨_, hd4⟩).run [] _ _ H' _ (J4.suite he4 hd4 na nL nF) (yes rfl a na)) (fun f s6 hsp => ?_) (fun _ _ z => z.elim)
          cases f <;> first
            | (obtain ⟨σ6, H6, S6, q6⟩ := hsp; exact ⟨_, _, S6.unsuite I.ok, q6⟩)
            | (obtain ⟨v6, σ6, H6, S6, r6, q6⟩ := hsp; exact ⟨_, _, _, S6.unsuite I.ok, r6, q6⟩)
    exact turn hh w
  refine wpAny_mono ((hb (wClauses X.K i D l) (X.pn ++ pins) now got).run [] s σ H D (I.toTry _) h) (fun f s1 hsp => ?_) (fun e s1 he => he)
  cases f <;> first
    | (obtain ⟨σ', H', J', q⟩ := hsp; exact wpAny_execs_nil ⟨σ', H', J'.ofTry I.ok, q⟩)
    | (obtain ⟨σ', H', J', q⟩ := hsp; exact ⟨σ', H', J'.ofTry I.ok, q⟩)
    | (obtain ⟨v, σ', H', J', r, q⟩ := hsp; exact ⟨v, σ', H', J'.ofTry I.ok, r, q⟩)
end
end Ts


set_option Elab.async false
set_option linter.all false
set_option maxRecDepth 100000
set_option maxHeartbeats 4000000
namespace Ts
open PySem PySem.Spec L2
open Evl (Ex)
/-! ## what is told, or how it is refused -/
/-- the classes of errors that are met here, apart from one another -/
structure Errs (K : PySem.W.Frag) (mg : Str → Option Value) (CB CP CN CR CH CG gB gP gN gR gH : Addr) : Prop where
  b : XC K mg "BadBook" "thing" CB gB
  p : XC K mg "BadPaper" "thing" CP gP
  n : XC K mg "BadNumber" "thing" CN gN
  r : XC K mg "BadPeriod" "thing" CR gR
  h : XC K mg "BadHeap" "thing" CH gH
  g : mg "Grows" = some (.ref CG)
  pb : PySem.W.exmOne K (.ref CP) (.ref CB) = some false
  nb : PySem.W.exmOne K (.ref CN) (.ref CB) = some false
  rb : PySem.W.exmOne K (.ref CR) (.ref CB) = some false
  hb : PySem.W.exmOne K (.ref CH) (.ref CB) = some false
  pp : PySem.W.exmOne K (.ref CP) (.ref CP) = some true
  np : PySem.W.exmOne K (.ref CN) (.ref CP) = some false
  rp : PySem.W.exmOne K (.ref CR) (.ref CP) = some false
  hp : PySem.W.exmOne K (.ref CH) (.ref CP) = some false
  nn : PySem.W.exmOne K (.ref CN) (.ref CN) = some true
  rn : PySem.W.exmOne K (.ref CR) (.ref CN) = some false
  hn : PySem.W.exmOne K (.ref CH) (.ref CN) = some false
  rr : PySem.W.exmOne K (.ref CR) (.ref CR) = some true
  hr : PySem.W.exmOne K (.ref CH) (.ref CR) = some false
  hh : PySem.W.exmOne K (.ref CH) (.ref CH) = some true
def EM (CP CN CR CH : Addr) (Q : VK) : XK := fun cls d H' => ∃ (C : Addr) (w : Str), ((C = CP ∧ w = "paper") ∨ (C = CN ∧ w = "number") ∨ (C = CR ∧ w = "period") ∨ (C = CH ∧ w = "heap")) ∧ cls = .ref C ∧
  ∃ dd v, d = some dd ∧ H' dd = some (.xd [(("thing" : Str), v)]) ∧ ∀ p, H' p = none → Q (.ref p) (upd H' p (.tup [.str w, v]))
def TMet (CP CN CR CH : Addr) : (XK → Hp → VK → Prop) → Hp → VK → Prop := fun tl H Q => tl (EM CP CN CR CH Q) H fun v H' => 2 ≤ sizeLine ∧ ∀ p, H' p = none → Q (.ref p) (upd H' p (.tup [.str "told", v]))
section
variable {X : Cx} {CB CP CN CR CH CG gB gP gN gR gH : Addr}
abbrev s_met := top 32
theorem sc_met : FnScope ["ask", "e"] ["ask"] (defScope s_met) := ⟨rfl, rfl, rfl, by decide +kernel, rfl, by decide +kernel, by decide +kernel⟩
/-- return (word, e.thing) -/
def tSaid (C : Addr) (w : Str) : Suite := fun a cls d => tRet (tTup (tCons (tC (.str w)) (tCons (tXf a cls d C "thing" (tVar 1)) tNil)))
theorem said {C : Addr} {w : Str} {a dd : Addr} {v : V} {σ : L2.St} {H : Hp} {D : Ends} (hl : 1 < σ.length) (hx : H dd = some (.xd [(("thing" : Str), v)])) (q : ∀ p, H p = none → D.rt (.ref p) (upd H p (.tup [.str w, v]))) :
    tSaid C w a (.ref C) (some dd) (lets 1 D) (σ.set 1 (some (.ref a))) H :=
  ⟨.ref a, List.getElem?_set_self hl, rfl, rfl, dd, _, v, rfl, hx, by simp [List.lookup], by show 2 ≤ sizeLine; decide, q⟩
theorem met_gives (M : Errs X.K X.mg CB CP CN CR CH CG gB gP gN gR gH) {g : Addr} {cdg : Value} {q : Str} :
    LamX.GivesTo X ["ask", "e"] "_law_c_met" (defScope s_met) g cdg (defBody s_met) "ask" q (TMet CP CN CR CH) := by
  intro f c' s H Q tl act hc h
  refine ⟨_, pss_one (ps_clauses (X := (cxOf C8.CX0 X.prog X.w X.K X.mg X.base ["ask", "e"] "_law_c_met" (defScope s_met) g cdg X.A X.stack s H C8.E0).nox) (i := 1) (n := "e")
      (l := [(.ref CB, true, tSaid CB "book"), (.ref CP, true, tSaid CP "paper"), (.ref CN, true, tSaid CN "number"), (.ref CR, true, tSaid CR "period"), (.ref CH, true, tSaid CH "heap"), (.ref CG, false, fun _ _ _ => tRet (tTup (tCons (tC (.str "grows")) (tCons (tC (.int 0)) tNil))))])
      (tb := fun W D σ H => ∃ Ech : XK, (∀ cls d σ' H', Ech cls d H' → W cls d σ' H') ∧ σ[0]? = some (some (.ref f)) ∧ H c' = some (LamX.CodeO c' q) ∧ tl Ech H fun v H1 => 2 ≤ sizeLine ∧ ∀ p, H1 p = none → D.rt (.ref p) (upd H1 p (.tup [.str "told", v])))
      rfl rfl sc_met.nd rfl rfl (fun W pn xe tk => ?_) ?_), ?_⟩
  · refine ⟨fun pins s' σ H' D I h' => ?_⟩
    obtain ⟨Ech, hW, h1, h2, h3⟩ := h'
    have hp := fun p1 p2 => act W pn xe Ech p1 p2 tk hW
    exact (pss_one (ps_ret (pe_tup (pa_cons pe_str (pa_cons (hp _ _) pa_nil))))).run pins s' σ H' D I ⟨h1, h2, h3⟩
  · have sd : ∀ {x : Str} {C gg : Addr}, XC X.K X.mg x "thing" C gg → Gl (cxOf C8.CX0 X.prog X.w X.K X.mg X.base ["ask", "e"] "_law_c_met" (defScope s_met) g cdg X.A X.stack s H C8.E0).nox x → (x == ("__debug__" : Str)) = false → Names (cxOf C8.CX0 X.prog X.w X.K X.mg X.base ["ask", "e"] "_law_c_met" (defScope s_met) g cdg X.A X.stack s H C8.E0).nox x (.ref C) :=
      fun T hg hd => ⟨hg, hd, .inl T.gC⟩
    refine .as_ (sd M.b rfl rfl) (fun a oe cls d pn hz hf => pss_one (ps_ret (pe_tup (pa_cons pe_str (pa_cons (pe_xf M.b.xf M.b.nF hz hf (pv 1)) pa_nil))))) ?_
    refine .as_ (sd M.p rfl rfl) (fun a oe cls d pn hz hf => pss_one (ps_ret (pe_tup (pa_cons pe_str (pa_cons (pe_xf M.p.xf M.p.nF hz hf (pv 1)) pa_nil))))) ?_
    refine .as_ (sd M.n rfl rfl) (fun a oe cls d pn hz hf => pss_one (ps_ret (pe_tup (pa_cons pe_str (pa_cons (pe_xf M.n.xf M.n.nF hz hf (pv 1)) pa_nil))))) ?_
    refine .as_ (sd M.r rfl rfl) (fun a oe cls d pn hz hf => pss_one (ps_ret (pe_tup (pa_cons pe_str (pa_cons (pe_xf M.r.xf M.r.nF hz hf (pv 1)) pa_nil))))) ?_
    refine .as_ (sd M.h rfl rfl) (fun a oe cls d pn hz hf => pss_one (ps_ret (pe_tup (pa_cons pe_str (pa_cons (pe_xf M.h.xf M.h.nF hz hf (pv 1)) pa_nil))))) ?_
    exact .bare ⟨rfl, rfl, .inl M.g⟩ (fun a oe cls d pn hz hf => pss_one (ps_ret (pe_tup (pa_cons pe_str (pa_cons pe_int pa_nil))))) .nil
  · refine ⟨EM CP CN CR CH Q, ?_, rfl, hc, ?_⟩
    · rintro cls d σ' H' ⟨C, w, hw, rfl, dd, v, rfl, hx, k⟩
      rcases hw with ⟨rfl, rfl⟩ | ⟨rfl, rfl⟩ | ⟨rfl, rfl⟩ | ⟨rfl, rfl⟩
      · exact ⟨_, M.pb, fun z => (nomatch z), fun _ => ⟨_, M.pp, fun _ a na hl => said hl hx k, fun z => (nomatch z)⟩⟩
      · exact ⟨_, M.nb, fun z => (nomatch z), fun _ => ⟨_, M.np, fun z => (nomatch z), fun _ => ⟨_, M.nn, fun _ a na hl => said hl hx k, fun z => (nomatch z)⟩⟩⟩
      · exact ⟨_, M.rb, fun z => (nomatch z), fun _ => ⟨_, M.rp, fun z => (nomatch z), fun _ => ⟨_, M.rn, fun z => (nomatch z), fun _ => ⟨_, M.rr, fun _ a na hl => said hl hx k, fun z => (nomatch z)⟩⟩⟩⟩
      · exact ⟨_, M.hb, fun z => (nomatch z), fun _ => ⟨_, M.hp, fun z => (nomatch z), fun _ => ⟨_, M.hn, fun z => (nomatch z), fun _ => ⟨_, M.hr, fun z => (nomatch z), fun _ => ⟨_, M.hh, fun _ a na hl => said hl hx k, fun z => (nomatch z)⟩⟩⟩⟩⟩
    · exact h
end
end Ts


set_option Elab.async false
set_option linter.all false
set_option maxRecDepth 100000
set_option maxHeartbeats 4000000
namespace Ts
open PySem PySem.Spec L2 LamX
open Evl (Ex)
section
variable {P : Program} {w : World} {K : PySem.W.Frag} {mg : Str → Option Value} {base : Heap}
/-- a def whose code object is known -/
theorem okC {x q : Str} {st : Stmt} {f c : Addr} {N ps : List Str} {k : Nat} {sp : Sp} {oc kV doc pm ct : Value} {od an : Option Addr} {osl : Array (Option Value)}
    (lk : K.lookup f = some ⟨oc, od, .func (PySem.W.fnOf x q (defArgs st) (defBody st) (defScope st) .none kV doc pm an (.ref c) ct), osl⟩) (hcd : PySem.W.codeIn K (.ref c) q = true) (S : FnScope N ps (defScope st)) (ln : ∀ vs H Q E, sp vs H Q E → vs.length = ps.length)
    (hb : ∀ (A : Around) (outer : List Env) (s : Shared) (H : Hp) (vs : List V) (Q : VK) (E : XK), Room k (A.deeper (PyProof.Rows.envOfC q (defScope st) s.heap.objs.size f (.ref c))) → sp vs H Q E →
      ∃ t, PSs (cxOf CX0 P w K mg base N q (defScope st) f (.ref c) A outer s H E).nox (defBody st) t ∧ t { nx := fun _ H' => Q .non H', rt := Q } (L2.start N vs) H) :
    FnOk P w K mg base CX0 (k + 1) f (PySem.W.fnOf x q (defArgs st) (defBody st) (defScope st) .none kV doc pm an (.ref c) ct) ps sp :=
  fn_of lk hcd S ln fun A outer s H vs Q E hr hsp => by
    obtain ⟨t, h, q⟩ := hb A outer s H vs Q E hr hsp
    exact ⟨t, h.nox, q⟩
end
section
variable {X : Cx} {CB CP CN CR CH CG gB gP gN gR gH : Addr}
theorem pe_met (M : Errs X.K X.mg CB CP CN CR CH CG gB gP gN gR gH) {g c T : Addr} {fd : FuncData} {k : Nat} {params : Arguments} {body : Expr} {scope : Scope} {t : XK → TE} {p lpos pos : Pos}
    (F : FD X.K X.mg "_law_c_met" "_law_c_met" s_met g fd) (hg : Gl X "_law_c_met") (TB : TabB X.base X.mg c T) (hcode : X.env.code = .ref c) (hr : Room (k + 2) X.A) (L : LamS X.env.scope scope) (hdef : defaultsOf params X.env = ([], []))
    (hbind : ∀ (q : Str) (cl : List (Str × Addr)) (pm cv ctv : Value), bindArgs (PySem.W.kla_fn "<lambda>" q params body scope cl pm cv ctv) ⟨[], []⟩ = pure [])
    (hbody : ∀ (A : Around) (outer : List Env) (s : Shared) (H : Hp) (E : XK) (f c' : Addr), Room k (A.deeper (lamEnv X scope s.heap.objs.size f c')) → PE (lamCx X A outer s H E scope f c') body (t E)) :
    PE X (.Call (.Name "_law_c_met" p) [.Lambda params body scope lpos] [] pos) (tLam [(T, X.env.qual ++ "<lambda>")] (TMet CP CN CR CH) t) := by
  obtain ⟨oc, od, kV, doc, pm, an, cdv, ct, osl, hfd, lk, hcd⟩ := F.F.ex
  subst hfd
  refine pe_lamcall (a := "ask") (Ng := ["ask", "e"]) hg F.g F.F.kp lk hcd (F.F.binds fun _ _ _ _ _ _ us hl => match us, hl with | [_], _ => rfl) sc_met rfl (Or.inl rfl) (met_gives M) TB hcode (.head _) (fun p hp _ => ?_) hr L hdef hbind hbody
  rw [List.mem_singleton] at hp
  rw [hp]
end
/-! ## what stands where tables grow -/
/-- a heap without its tables -/
def nt (H : Hp) : Hp := fun b => match H b with
  | some (.tbl _) => none
  | o => o
theorem nt_of {H : Hp} {b : Addr} {o : HO} (h : nt H b = some o) : H b = some o ∧ ∀ ps, o ≠ .tbl ps := by
  unfold nt at h
  cases e : H b with
  | none =>
    rw [e] at h
    cases h
  | some u =>
    rw [e] at h
    cases u <;> first
      | (cases h; done)
      | (cases h; exact ⟨rfl, fun ps z => by cases z⟩)
theorem nt_at {H : Hp} {b : Addr} {o : HO} (h : H b = some o) (hn : ∀ ps, o ≠ .tbl ps) : nt H b = some o := by
  unfold nt
  rw [h]
  cases o <;> first
    | rfl
    | exact (hn _ rfl).elim
mutual
theorem D.nt {H : Hp} : ∀ {v : V} {d : PyData}, D H v d → D (Ts.nt H) v d
  | _, _, .non => .non
  | _, _, .bl b => .bl b
  | _, _, .int i => .int i
  | _, _, .str x => .str x
  | _, _, .lst h r => .lst (nt_at h fun _ z => by cases z) (DAll.nt r)
  | _, _, .tup h r => .tup (nt_at h fun _ z => by cases z) (DAll.nt r)
  | _, _, .dic h r => .dic (nt_at h fun _ z => by cases z) (DKv.nt r)
theorem DAll.nt {H : Hp} : ∀ {v : List V} {d : List PyData}, DAll H v d → DAll (Ts.nt H) v d
  | _, _, .nil => .nil
  | _, _, .cons h r => .cons (D.nt h) (DAll.nt r)
theorem DKv.nt {H : Hp} : ∀ {v : List (Key × V)} {d : List (PyData × PyData)}, DKv H v d → DKv (Ts.nt H) v d
  | _, _, .nil => .nil
  | _, _, .cons h r => .cons (D.nt h) (DKv.nt r)
end
/-- what a region holds is no table -/
def NoT (R : Hp) : Prop := ∀ b o, R b = some o → ∀ ps, o ≠ .tbl ps
theorem nt_no (H : Hp) : NoT (nt H) := fun _ _ h => (nt_of h).2
/-- a region held, the tables told -/
structure Tst (T : List (Addr × Str)) (R H : Hp) : Prop where
  n : NoT R
  r : Ex R H
  t : Tabs T H
theorem Tst.ex {T : List (Addr × Str)} {R H H' : Hp} (s : Tst T R H) (e : Ex H H') : Tst T R H' := ⟨s.n, s.r.trans e, s.t.ext e⟩
theorem Tst.extN {T : List (Addr × Str)} {R H H' : Hp} (s : Tst T R H) (e : ExtN H H') (t : Tabs T H') : Tst T R H' := ⟨s.n, fun b o h => e b o (s.r b o h) (s.n b o h), t⟩
/-- what is new is held from now on -/
theorem Tst.add {T : List (Addr × Str)} {R H : Hp} {z : Addr} {o : HO} (s : Tst T R H) (hz : H z = some o) (hn : ∀ ps, o ≠ .tbl ps) (hr : R z = none) : Tst T (upd R z o) H :=
  ⟨fun b u h => by
    by_cases hb : b = z
    · rw [hb, upd_same] at h
      cases h
      exact hn
    · rw [upd_ne hb] at h
      exact s.n b u h, fun b u h => by
    by_cases hb : b = z
    · rw [hb, upd_same] at h
      cases h
      rw [hb]
      exact hz
    · rw [upd_ne hb] at h
      exact s.r b u h, s.t⟩
theorem Tst.no {T : List (Addr × Str)} {R H : Hp} (s : Tst T R H) {z : Addr} (h : H z = none) : R z = none := Evl.fresh_back s.r h
/-- an object that is no table and of no region changes -/
theorem Tst.mut {T : List (Addr × Str)} {R H : Hp} {z : Addr} {xs ys : List V} (s : Tst T R H) (hz : H z = some (.lst xs)) (hr : R z = none) : Tst T R (upd H z (.lst ys)) :=
  ⟨s.n, s.r.mut hr, fun p hp => by
    obtain ⟨ps, h1, h2, h3⟩ := s.t p hp
    have n1 : p.1 ≠ z := fun q => by
      rw [q, hz] at h1
      cases h1
    refine ⟨ps, by rw [upd_ne n1]; exact h1, h2, fun po cv hc => ?_⟩
    obtain ⟨cc, e1, e2⟩ := h3 po cv hc
    refine ⟨cc, e1, ?_⟩
    have n2 : cc ≠ z := fun q => by
      rw [q, hz] at e2
      cases e2
    rw [upd_ne n2]
    exact e2⟩
end Ts


set_option Elab.async false
set_option linter.all false
set_option maxRecDepth 100000
set_option maxHeartbeats 8000000
namespace Ts
open PySem PySem.Spec L2 LamX
open Evl (Ex)
theorem Tst.weak {T : List (Addr × Str)} {R R' H : Hp} (s : Tst T R H) (e : Ex R' R) : Tst T R' H := ⟨fun b o h => s.n b o (e b o h), e.trans s.r, s.t⟩
/-- a refusal that is met -/
theorem met_ref {CP CN CR CH C : Addr} {w : Str} {x : V} {T : List (Addr × Str)} {R H : Hp} {Q : VK} {tt : XK → TE} {σ : L2.St} (t : Tst T R H) (hw : (C = CP ∧ w = "paper") ∨ (C = CN ∧ w = "number") ∨ (C = CR ∧ w = "period") ∨ (C = CH ∧ w = "heap"))
    (hc : ∀ (H2 : Hp) (E : XK) (q : VK), Tst T R H2 → (∀ Hc, Ex H2 Hc → Raised Hc "thing" x C E) → tt E σ H2 q)
    (k : ∀ H' p, Tst T (upd R p (.tup [.str w, x])) H' → R p = none → Q (.ref p) H') : tLam T (TMet CP CN CR CH) tt σ H Q :=
  ⟨t.t, fun H2 eN t2 => hc H2 _ _ (t.extN eN t2) fun Hc ec d H3 e3 nd hd => ⟨C, w, hw, rfl, d, x, rfl, hd, fun p np =>
    have t3 : Tst T R H3 := (t.extN eN t2).ex (ec.trans e3)
    k _ p ((t3.ex (Ex.new np)).add upd_same (fun _ z => by cases z) (t3.no np)) (t3.no np)⟩⟩
theorem d_pair {H : Hp} {p : Addr} {w : Str} {x : V} {d : PyData} (h : H p = some (.tup [.str w, x])) (hx : D H x d) : D H (.ref p) (.tuple [.str w, d]) := .tup h (.cons (.str w) (.cons hx .nil))
theorem tup_of {ta : TA} {ds : List PyData} {σ : L2.St} {H : Hp} {Q : VK} (h : EvDs ta ds) (hz : ds.length ≤ 1000) (k : ∀ vs H1 p, Ex H H1 → DAll (nw H H1) vs ds → H1 p = none → Q (.ref p) (upd H1 p (.tup vs))) : tTup ta σ H Q :=
  h σ H _ fun vs H1 e1 d1 => ⟨by rw [d1.len]; exact Evl.sz_of (by omega), fun p np => k vs H1 p e1 d1 np⟩
theorem evd_18 : EvD (tOp (rI0 fun i j => .int (i + j)) (tOp (rI CPow fun i j => .int (i ^ j.toNat)) (tC (.int 10)) (tC (.int 18))) (tC (.int 1))) (.int 1000000000000000001) := fun σ H Q k =>
  ⟨_, _, rfl, rfl, ⟨by decide, by decide, by decide⟩, _, _, rfl, rfl, k _ H (Ex.refl H) (by
    have e : (10 : Int) ^ (18 : Int).toNat + 1 = 1000000000000000001 := by decide
    show D _ (V.int ((10 : Int) ^ (18 : Int).toNat + 1)) _
    rw [e]
    exact .int _)⟩
def odds2 : List PyData := [.none, .int 0, .int (-1), .bool true, .str "1", .list [.int 1], .dict [], .int 1000000000000000001]
def odds3 : List PyData := [.none, .int (-1), .bool true, .str "1", .list [.int 1], .dict []]
theorem odds2_no : ∀ d ∈ odds2, isHp d = false ∧ okD 3 d = true := by
  have h : odds2.all (fun d => !isHp d && okD 3 d) = true := by decide +kernel
  intro d hd
  have := List.all_eq_true.mp h d hd
  simpa using this
theorem odds3_no : ∀ d ∈ odds3, isNum d = false ∧ okD 3 d = true := by
  have h : odds3.all (fun d => !isNum d && okD 3 d) = true := by decide +kernel
  intro d hd
  have := List.all_eq_true.mp h d hd
  simpa using this
theorem ok_pair {w : Str} {d : PyData} (h : okD 3 d = true) : okD 4 (.tuple [.str w, d]) = true := by
  refine Bool.and_eq_true_iff.mpr ⟨decide_eq_true (by show 2 ≤ 90000; decide), ?_⟩
  show (true && (okD 3 d && true)) = true
  rw [h]
  rfl
theorem okD_up : ∀ {k : Nat} {d : PyData}, okD k d = true → okD (k + 1) d = true
  | _, .none, _ => rfl
  | _, .bool _, _ => rfl
  | _, .int _, _ => rfl
  | _, .str _, _ => rfl
  | 0, .list _, h => by cases h
  | 0, .tuple _, h => by cases h
  | 0, .dict _, h => by cases h
  | k + 1, .list l, h => by
    obtain ⟨h1, h2⟩ := Bool.and_eq_true_iff.mp h
    exact Bool.and_eq_true_iff.mpr ⟨h1, List.all_eq_true.mpr fun e he => okD_up (List.all_eq_true.mp h2 e he)⟩
  | k + 1, .tuple l, h => by
    obtain ⟨h1, h2⟩ := Bool.and_eq_true_iff.mp h
    exact Bool.and_eq_true_iff.mpr ⟨h1, List.all_eq_true.mpr fun e he => okD_up (List.all_eq_true.mp h2 e he)⟩
  | k + 1, .dict l, h => by
    obtain ⟨h1, h2⟩ := Bool.and_eq_true_iff.mp h
    exact Bool.and_eq_true_iff.mpr ⟨h1, okD_up h2⟩
theorem odd_no : ∀ d ∈ oddD, isPaper d = false := by
  have h : oddD.all (fun d => !isPaper d) = true := by decide +kernel
  intro d hd
  have := List.all_eq_true.mp h d hd
  simpa using this
theorem odd_z : ∀ d ∈ oddD, ∀ t ∈ items d, (items t).length ≤ 100000 := by
  have h : oddD.all (fun d => (items d).all fun t => decide ((items t).length ≤ 100)) = true := by decide +kernel
  intro d hd t ht
  have := of_decide_eq_true (List.all_eq_true.mp (List.all_eq_true.mp h d hd) t ht)
  omega
theorem odd_ok : ∀ d ∈ oddD, okD 3 d = true := by
  have h : oddD.all (fun d => okD 3 d) = true := by decide +kernel
  exact fun d hd => List.all_eq_true.mp h d hd
def EvA (σ : L2.St) (H0 : Hp) (te : TE) (d : PyData) : Prop := ∀ H Q, Ex H0 H → (∀ v H', Ex H H' → D (nw H H') v d → Q v H') → te σ H Q
def EvAs (σ : L2.St) (H0 : Hp) (ta : TA) (ds : List PyData) : Prop := ∀ H Q, Ex H0 H → (∀ vs H', Ex H H' → DAll (nw H H') vs ds → Q vs H') → ta σ H Q
theorem EvD.at {te : TE} {d : PyData} (h : EvD te d) {σ : L2.St} {H0 : Hp} : EvA σ H0 te d := fun H Q _ k => h σ H Q k
theorem evas_nil {σ : L2.St} {H0 : Hp} : EvAs σ H0 tNil [] := fun H Q _ k => k [] H (Ex.refl H) .nil
theorem evas_cons {σ : L2.St} {H0 : Hp} {te : TE} {ta : TA} {d : PyData} {ds : List PyData} (h : EvA σ H0 te d) (hs : EvAs σ H0 ta ds) : EvAs σ H0 (tCons te ta) (d :: ds) := fun H Q e0 k =>
  h H _ e0 fun v H1 e1 d1 => hs H1 _ (e0.trans e1) fun vs H2 e2 d2 => k (v :: vs) H2 (e1.trans e2) (.cons (d1.ex (nw_mono (Ex.refl H) e2)) (d2.ex (nw_mono e1 (Ex.refl H2))))
theorem lsa_of {ta : TA} {ds : List PyData} {σ : L2.St} {H : Hp} {Q : VK} (h : EvAs σ H ta ds) (hz : ds.length ≤ 1000) (k : ∀ vs H1 p, Ex H H1 → DAll (nw H H1) vs ds → H1 p = none → vs.length = ds.length → Q (.ref p) (upd H1 p (.lst vs))) : tLst ta σ H Q :=
  h H _ (Ex.refl H) fun vs H1 e1 d1 => ⟨by rw [d1.len]; exact Evl.sz_of (by omega), fun p np => k vs H1 p e1 d1 np d1.len⟩
theorem eva_negix {K : PySem.W.Frag} {σ : L2.St} {H0 : Hp} {a : Addr} {xs : List V} {p : Int} (hσ : σ[1]? = some (some (.ref a))) (hr : Row H0 a xs) (hx : atI xs 1 = some (.int p)) : EvA σ H0 (tUn (rU fun i => .int (-i)) (tOp (rIx K) (tVar 1) (tC (.int 1)))) (.int (-p)) := fun H Q e k =>
  ⟨_, hσ, ix_row (hr.ex e) hx ⟨_, rfl, k _ _ (Ex.refl _) (.int _)⟩⟩
theorem cat_if {K : PySem.W.Frag} {σ : L2.St} {Hf : Hp} {a l5 : Addr} {xs vs5 : List V} {p : Int} {Q : VK} (hσ : σ[1]? = some (some (.ref a))) (hr : Row Hf a xs) (hx : atI xs 1 = some (.int p)) (h5 : Hf l5 = some (.lst vs5)) (hz : vs5.length ≤ 100)
    (k : ∀ ys Hg L, Ex Hf Hg → DAll Hg ys (if 1 < p then [.int (p + 1)] else []) → Hg L = some (.lst (vs5 ++ ys)) → Q (.ref L) Hg) :
    tIf (tTest (tOp (rI0 fun i j => .bl (decide (j < i))) (tOp (rIx K) (tVar 1) (tC (.int 1))) (tC (.int 1)))) (tLst (tCons (tOp (rI0 fun i j => .int (i + j)) (tOp (rIx K) (tVar 1) (tC (.int 1))) (tC (.int 1))) tNil)) (tLst tNil) σ Hf (fun y H2 => rCat (.ref l5) y H2 Q) := by
  refine ⟨_, hσ, ix_row hr hx ⟨_, _, rfl, rfl, ⟨_, rfl, ?_⟩⟩⟩
  by_cases h1 : 1 < p
  · rw [if_pos h1] at k
    refine ite_tt (decide_eq_true h1) ⟨_, hσ, ix_row hr hx ⟨_, _, rfl, rfl, ⟨by show 1 ≤ sizeLine; decide, fun l6 n6 => ?_⟩⟩⟩
    have e6 := Ex.new (o := .lst [.int (p + 1)]) n6
    refine ⟨l5, l6, _, _, rfl, rfl, e6 _ _ h5, upd_same, Evl.sz_of (by show vs5.length + 1 ≤ _; omega), fun l7 n7 => ?_⟩
    exact k _ _ _ (e6.trans (Ex.new n7)) (.cons (.int _) .nil) upd_same
  · rw [if_neg h1] at k
    refine ite_ff (decide_eq_false h1) ⟨by show 0 ≤ sizeLine; decide, fun l6 n6 => ?_⟩
    have e6 := Ex.new (o := .lst []) n6
    refine ⟨l5, l6, _, _, rfl, rfl, e6 _ _ h5, upd_same, Evl.sz_of (by show vs5.length + 0 ≤ _; omega), fun l7 n7 => ?_⟩
    exact k _ _ _ (e6.trans (Ex.new n7)) .nil upd_same
def odds5 (p : Int) : List PyData := [.none, .int 0, .int (-p), .bool true, .str "1", .list [.int 1], .dict []]
theorem odds5_no {p : Int} (hp : 1 ≤ p) : ∀ d ∈ odds5 p ++ (if 1 < p then [.int (p + 1)] else []), okD 3 d = true ∧ (isNum d = false ∨ intOf d = 0 ∨ intOf d % p ≠ 0) := by
  intro d hd
  rcases List.mem_append.mp hd with hd | hd
  · simp only [odds5, List.mem_cons, List.not_mem_nil, or_false] at hd
    rcases hd with rfl | rfl | rfl | rfl | rfl | rfl | rfl
    · exact ⟨rfl, .inl rfl⟩
    · exact ⟨rfl, .inr (.inl rfl)⟩
    · refine ⟨rfl, .inl ?_⟩
      show decide (0 ≤ -p) = false
      exact decide_eq_false (by omega)
    · exact ⟨rfl, .inl rfl⟩
    · exact ⟨rfl, .inl rfl⟩
    · exact ⟨by decide +kernel, .inl rfl⟩
    · exact ⟨rfl, .inl rfl⟩
  · by_cases h1 : 1 < p
    · rw [if_pos h1] at hd
      obtain rfl := List.mem_singleton.mp hd
      refine ⟨rfl, .inr (.inr ?_)⟩
      show (p + 1) % p ≠ 0
      rw [Int.add_emod, Int.emod_self, Int.zero_add, Int.emod_emod, Int.emod_eq_of_lt (by omega) h1]
      decide
    · rw [if_neg h1] at hd
      cases hd
section
variable {P : Program} {w : World} {K : PySem.W.Frag} {mg : Str → Option Value} {base : Heap}
abbrev s_refused := top 38
theorem sc_refused : FnScope ["stream", "paper", "odd", "found"] ["stream", "paper"] (defScope s_refused) := ⟨rfl, rfl, rfl, by decide +kernel, rfl, by decide +kernel, by decide +kernel⟩
def lamQ : Str := (PyProof.Rows.envOfC "_law_refused_right" (defScope s_refused) 0 0 .none).qual ++ "<lambda>"
def spRef (tab : Addr) : Sp := fun vs H Q _ => ∃ u v b p g ns, vs = [u, v] ∧ D H v (papD b p g ns) ∧ PS b p g ns ∧ Tabs [(tab, lamQ)] H ∧ ∀ H', ExtN H H' → Tabs [(tab, lamQ)] H' → Q (.bl true) H'
theorem ok_refused {f c tab f0 f1 f2 f3 f4 f5 f6 CB CP CN CR CH CG gB gP gN gR gH : Addr} {fd0 fd1 fd2 fd3 fd4 fd5 fd6 : FuncData} {oc kV doc pm ct : Value} {od an : Option Addr} {osl : Array (Option Value)}
    (lk : K.lookup f = some ⟨oc, od, .func (PySem.W.fnOf "_law_refused_right" "_law_refused_right" (defArgs s_refused) (defBody s_refused) (defScope s_refused) .none kV doc pm an (.ref c) ct), osl⟩) (hcd : PySem.W.codeIn K (.ref c) "_law_refused_right" = true)
    (M : Errs K mg CB CP CN CR CH CG gB gP gN gR gH) (TB : TabB base mg c tab)
    (F_met : FD K mg "_law_c_met" "_law_c_met" s_met f0 fd0)
    (F_odd : FD K mg "_law_c_odd" "_law_c_odd" s_c_odd f1 fd1) (G_odd : FnOk P w K mg base CX0 1 f1 fd1 [] spOdd)
    (F_va : FD K mg "value_at" "value_at" s_value_at f2 fd2) (G_va : FnOk P w K mg base (L2.CX P w) 7 f2 fd2 ["paper", "heap"] (spVal CP CH))
    (F_vb : FD K mg "values_by" "values_by" s_values_by f3 fd3) (G_vb : FnOk P w K mg base (L2.CX P w) 7 f3 fd3 ["paper", "most"] (spVals CP CN))
    (F_lp : FD K mg "led_paper" "led_paper" s_led_paper f4 fd4) (G_lp : FnOk P w K mg base (L2.CX P w) 7 f4 fd4 ["paper", "begin", "period"] (spLed CP CN CR))
    (F_ip : FD K mg "is_paper" "is_paper" s_is_paper f5 fd5) (G_ip : FnOk P w K mg base CX0 5 f5 fd5 ["thing"] spPaper)
    (F_same : FD K mg "_law_same" "_law_same" s_same f6 fd6) (G_same : FnOk P w K mg base CX0 6 f6 fd6 ["found", "due"] (spSame 6)) (T : Bl mg) :
    FnOk P w K mg base CX0 10 f (PySem.W.fnOf "_law_refused_right" "_law_refused_right" (defArgs s_refused) (defBody s_refused) (defScope s_refused) .none kV doc pm an (.ref c) ct) ["stream", "paper"] (spRef tab) := by
  have b_odd : Binds K fd1 [] [] := F_odd.F.binds fun _ _ _ _ _ _ us hl => match us, hl with | [], _ => rfl
  have b_va : Binds K fd2 ["paper", "heap"] [] := F_va.F.binds fun _ _ _ _ _ _ us hl => match us, hl with | [_, _], _ => rfl
  have b_vb : Binds K fd3 ["paper", "most"] [] := F_vb.F.binds fun _ _ _ _ _ _ us hl => match us, hl with | [_, _], _ => rfl
  have b_lp : Binds K fd4 ["paper", "begin", "period"] [] := F_lp.F.binds fun _ _ _ _ _ _ us hl => match us, hl with | [_, _, _], _ => rfl
  have b_ip : Binds K fd5 ["thing"] [] := F_ip.F.binds fun _ _ _ _ _ _ us hl => match us, hl with | [_], _ => rfl
  have b_same : Binds K fd6 ["found", "due"] [] := F_same.F.binds fun _ _ _ _ _ _ us hl => match us, hl with | [_, _], _ => rfl
  refine okC lk hcd sc_refused (fun vs H Q E h => ?_) (fun A outer s H vs Q E hr h => ?_)
  · obtain ⟨u, v, b, p, g, ns, rfl, _⟩ := h
    rfl
  · obtain ⟨u, v, b, p, g, ns, rfl, hd, ps, hT, kq⟩ := h
    have nd := sc_refused.nd
    have hr8 : Room (7 + 2) _ := hr
    have hpf : isPaper (papD b p g ns) = true := ps.paper (k1 := false) (k2 := true)
    have zf := papK_z (k1 := false) (k2 := true) (b := b) (p := p) (g := g) (ns := ns) (by have := ps.small; omega)
    have noP : ∀ {A : Prop}, isPaper (papD b p g ns) = false → A := fun {A} z => by
      rw [hpf] at z
      cases z
    refine ⟨_, (pss_cons (ps_for PassesOwn.never rfl (pi_list (pe_call0 G_odd (hr.mono (by decide)) (by rfl) F_odd.g F_odd.F.kp b_odd .nil pass0)) (pg_name (i := 2) nd rfl (Or.inr rfl)) (pss_cons (ps_set (i := 3) nd rfl (Or.inl rfl) (pe_lst (pa_cons (pe_met M F_met (by rfl) TB rfl hr8 (lamS_by (by show lamSB (defScope s_refused) _ = true; decide +kernel)) rfl (fun _ _ _ _ _ => rfl) (fun A outer s H E f c' hr2 => (pe_call G_va hr2 (by rfl) F_va.g F_va.F.kp b_va .nil (passes_call (takes_of rfl rfl rfl rfl) (fun _ _ _ _ h => h)) (pa_cons (pv 2) (pa_cons pe_non pa_nil))))) pa_nil)))
      (pss_cons (ps_expr (pe_bm PySem.F.plainAttrs_list PySem.F.slot_list_append PySem.F.type_list_append mt_append (pv 3) (pa_cons (pe_met M F_met (by rfl) TB rfl hr8 (lamS_by (by show lamSB (defScope s_refused) _ = true; decide +kernel)) rfl (fun _ _ _ _ _ => rfl) (fun A outer s H E f c' hr2 => (pe_call G_vb hr2 (by rfl) F_vb.g F_vb.F.kp b_vb .nil (passes_call (takes_of rfl rfl rfl rfl) (fun _ _ _ _ h => h)) (pa_cons (pv 2) (pa_cons pe_non pa_nil))))) pa_nil)))
      (pss_cons (ps_expr (pe_bm PySem.F.plainAttrs_list PySem.F.slot_list_append PySem.F.type_list_append mt_append (pv 3) (pa_cons (pe_met M F_met (by rfl) TB rfl hr8 (lamS_by (by show lamSB (defScope s_refused) _ = true; decide +kernel)) rfl (fun _ _ _ _ _ => rfl) (fun A outer s H E f c' hr2 => (pe_call G_lp hr2 (by rfl) F_lp.g F_lp.F.kp b_lp .nil (passes_call (takes_of rfl rfl rfl rfl) (fun _ _ _ _ h => h)) (pa_cons (pv 2) (pa_cons pe_non (pa_cons pe_non pa_nil)))))) pa_nil)))
      (pss_one (ps_if (pt_not (pt_val (pe_call G_same (hr.mono (by decide)) (by rfl) F_same.g F_same.F.kp b_same .nil pass0 (pa_cons (pe_op op_cat (pv 3) (pe_lst (pa_cons (pe_call G_ip (hr.mono (by decide)) (by rfl) F_ip.g F_ip.F.kp b_ip .nil pass0 (pa_cons (pv 2) pa_nil)) pa_nil))) (pa_cons (pe_op op_cat (pe_op op_rep (pe_lst (pa_cons (pe_tup (pa_cons pe_str (pa_cons (pv 2) pa_nil))) pa_nil)) pe_int) (pe_lst (pa_cons pe_bl pa_nil))) pa_nil))))) (pss_one (ps_ret pe_bl)) pss_nil))))))
      (pss_cons (ps_for PassesOwn.never rfl (pi_tup (pe_tup (pa_cons pe_non (pa_cons pe_int (pa_cons (pe_un un_neg pe_int) (pa_cons pe_bl (pa_cons pe_str (pa_cons (pe_lst (pa_cons pe_int pa_nil)) (pa_cons pe_dnewK (pa_cons (pe_op op_add (pe_op op_pow pe_int pe_int) pe_int) pa_nil)))))))))) (pg_name (i := 2) nd rfl (Or.inr rfl)) (pss_one (ps_if (pt_not (pt_val (pe_call G_same (hr.mono (by decide)) (by rfl) F_same.g F_same.F.kp b_same .nil pass0 (pa_cons (pe_met M F_met (by rfl) TB rfl hr8 (lamS_by (by show lamSB (defScope s_refused) _ = true; decide +kernel)) rfl (fun _ _ _ _ _ => rfl) (fun A outer s H E f c' hr2 => (pe_call G_va hr2 (by rfl) F_va.g F_va.F.kp b_va .nil (passes_call (takes_of rfl rfl rfl rfl) (fun _ _ _ _ h => h)) (pa_cons (pv 1) (pa_cons (pv 2) pa_nil))))) (pa_cons (pe_tup (pa_cons pe_str (pa_cons (pv 2) pa_nil))) pa_nil))))) (pss_one (ps_ret pe_bl)) pss_nil)))
      (pss_cons (ps_for PassesOwn.never rfl (pi_tup (pe_tup (pa_cons pe_non (pa_cons (pe_un un_neg pe_int) (pa_cons pe_bl (pa_cons pe_str (pa_cons (pe_lst (pa_cons pe_int pa_nil)) (pa_cons pe_dnewK pa_nil)))))))) (pg_name (i := 2) nd rfl (Or.inr rfl)) (pss_cons (ps_set (i := 3) nd rfl (Or.inl rfl) (pe_lst (pa_cons (pe_met M F_met (by rfl) TB rfl hr8 (lamS_by (by show lamSB (defScope s_refused) _ = true; decide +kernel)) rfl (fun _ _ _ _ _ => rfl) (fun A outer s H E f c' hr2 => (pe_call G_vb hr2 (by rfl) F_vb.g F_vb.F.kp b_vb .nil (passes_call (takes_of rfl rfl rfl rfl) (fun _ _ _ _ h => h)) (pa_cons (pv 1) (pa_cons (pv 2) pa_nil))))) pa_nil)))
      (pss_cons (ps_expr (pe_bm PySem.F.plainAttrs_list PySem.F.slot_list_append PySem.F.type_list_append mt_append (pv 3) (pa_cons (pe_met M F_met (by rfl) TB rfl hr8 (lamS_by (by show lamSB (defScope s_refused) _ = true; decide +kernel)) rfl (fun _ _ _ _ _ => rfl) (fun A outer s H E f c' hr2 => (pe_call G_lp hr2 (by rfl) F_lp.g F_lp.F.kp b_lp .nil (passes_call (takes_of rfl rfl rfl rfl) (fun _ _ _ _ h => h)) (pa_cons (pv 1) (pa_cons (pv 2) (pa_cons pe_non pa_nil)))))) pa_nil)))
      (pss_one (ps_if (pt_not (pt_val (pe_call G_same (hr.mono (by decide)) (by rfl) F_same.g F_same.F.kp b_same .nil pass0 (pa_cons (pv 3) (pa_cons (pe_op op_rep (pe_lst (pa_cons (pe_tup (pa_cons pe_str (pa_cons (pv 2) pa_nil))) pa_nil)) pe_int) pa_nil))))) (pss_one (ps_ret pe_bl)) pss_nil)))))
      (pss_cons (ps_if (pt_not (pt_val (pe_call G_same (hr.mono (by decide)) (by rfl) F_same.g F_same.F.kp b_same .nil pass0 (pa_cons (pe_met M F_met (by rfl) TB rfl hr8 (lamS_by (by show lamSB (defScope s_refused) _ = true; decide +kernel)) rfl (fun _ _ _ _ _ => rfl) (fun A outer s H E f c' hr2 => (pe_call G_lp hr2 (by rfl) F_lp.g F_lp.F.kp b_lp .nil (passes_call (takes_of rfl rfl rfl rfl) (fun _ _ _ _ h => h)) (pa_cons (pv 1) (pa_cons (pe_op op_sub (pe_ix (r := rIx K) ix_seq (pv 1) pe_int (fun _ _ => rfl)) pe_int) (pa_cons pe_non pa_nil)))))) (pa_cons (pe_tup (pa_cons pe_str (pa_cons (pe_op op_sub (pe_ix (r := rIx K) ix_seq (pv 1) pe_int (fun _ _ => rfl)) pe_int) pa_nil))) pa_nil))))) (pss_one (ps_ret pe_bl)) pss_nil)
      (pss_cons (ps_for PassesOwn.never rfl (pi_list (pe_op op_cat (pe_lst (pa_cons pe_non (pa_cons pe_int (pa_cons (pe_un un_neg (pe_ix (r := rIx K) ix_seq (pv 1) pe_int (fun _ _ => rfl))) (pa_cons pe_bl (pa_cons pe_str (pa_cons (pe_lst (pa_cons pe_int pa_nil)) (pa_cons pe_dnewK pa_nil)))))))) (pe_ifExp (pt_cmpR op_gt (pe_ix (r := rIx K) ix_seq (pv 1) pe_int (fun _ _ => rfl)) pe_int (nomark _)) (pe_lst (pa_cons (pe_op op_add (pe_ix (r := rIx K) ix_seq (pv 1) pe_int (fun _ _ => rfl)) pe_int) pa_nil)) (pe_lst pa_nil)))) (pg_name (i := 2) nd rfl (Or.inr rfl)) (pss_one (ps_if (pt_not (pt_val (pe_call G_same (hr.mono (by decide)) (by rfl) F_same.g F_same.F.kp b_same .nil pass0 (pa_cons (pe_met M F_met (by rfl) TB rfl hr8 (lamS_by (by show lamSB (defScope s_refused) _ = true; decide +kernel)) rfl (fun _ _ _ _ _ => rfl) (fun A outer s H E f c' hr2 => (pe_call G_lp hr2 (by rfl) F_lp.g F_lp.F.kp b_lp .nil (passes_call (takes_of rfl rfl rfl rfl) (fun _ _ _ _ h => h)) (pa_cons (pv 1) (pa_cons (pe_ix (r := rIx K) ix_seq (pv 1) pe_int (fun _ _ => rfl)) (pa_cons (pv 2) pa_nil)))))) (pa_cons (pe_tup (pa_cons pe_str (pa_cons (pv 2) pa_nil))) pa_nil))))) (pss_one (ps_ret pe_bl)) pss_nil)))
      (pss_one (ps_ret pe_bl))))))), ?_⟩
    have hp1 := ps.p1
    have hp2 := ps.p2
    have hb1 := ps.b1
    have hb2 := ps.b2
    -- for odd in _law_c_odd()
    refine ⟨rfl, fun L H1 nL e1 dL => ?_⟩
    obtain ⟨xs, hL, dxs⟩ : ∃ xs, H1 L = some (.lst xs) ∧ DAll H1 xs oddD := by
      cases dL with
      | lst h r => exact ⟨_, h, r⟩
    have t1 : Tst [(tab, lamQ)] (nt H1) H1 := ⟨nt_no H1, fun b o h => (nt_of h).1, hT.ext e1⟩
    have dv := (hd.ex e1).nt
    have LR : nt H1 L = some (.lst xs) := nt_at hL fun _ z => by cases z
    have dxs := dxs.nt
    have goX : ∀ {H' : Hp}, Tst [(tab, lamQ)] (nt H1) H' → ExtN H H' := fun {H'} t b o h hn => t.r _ _ (nt_at (e1 _ _ h) hn)
    clear hT hL dL
    generalize nt H1 = R1 at *
    refine ⟨L, rfl, ⟨xs, SqL.of (t1.r _ _ LR)⟩, for_list (K := K) (a := L) (xs := xs) (fun i σ H' => ∃ ov fv, σ = [some u, some v, ov, fv] ∧ Tst [(tab, lamQ)] R1 H') ⟨none, none, rfl, t1⟩ (fun i σ H' _ q => ?_) (fun i x σ H' hx q => ?_) (fun σ H' q => ?_)⟩
    · obtain ⟨ov, fv, rfl, t⟩ := q
      exact SqL.of (t.r _ _ LR)
    · obtain ⟨ov, fv, rfl, t⟩ := q
      obtain ⟨dx, hdx, Dx⟩ := dxs.get hx
      have mem := List.mem_of_getElem? hdx
      have np := odd_no dx mem
      have no : ∀ {A : Prop}, isPaper dx = true → A := fun {A} z => by
        rw [np] at z
        cases z
      refine met_ref t (.inl ⟨rfl, rfl⟩) (fun H2 E q t2 hr => ⟨_, rfl, x, .non, dx, .none, rfl, Dx.ex t2.r, .non, odd_z dx mem, fun _ => hr, fun z => no z, fun z => no z⟩) (fun H3 p1 t3 n1 => ?_)
      have eRa : Ex R1 (upd R1 p1 (.tup [.str "paper", x])) := Ex.new n1
      have a1 : upd R1 p1 (.tup [.str "paper", x]) p1 = some (.tup [.str "paper", x]) := upd_same
      generalize upd R1 p1 (.tup [.str "paper", x]) = Ra at t3 eRa a1
      refine ⟨by show 1 ≤ sizeLine; decide, fun fl nfl => ?_⟩
      have Rfl := t3.no nfl
      have t4 := (t3.ex (Ex.new (o := .lst [.ref p1]) nfl)).add upd_same (fun _ z => by cases z) Rfl
      have b1 : upd Ra fl (.lst [.ref p1]) fl = some (.lst [.ref p1]) := upd_same
      have eRb : Ex Ra (upd Ra fl (.lst [.ref p1])) := Ex.new Rfl
      generalize hRb : upd Ra fl (.lst [.ref p1]) = Rb at t4 b1 eRb
      generalize upd H3 fl (.lst [.ref p1]) = H4 at t4
      -- found.append(..)
      refine ⟨_, rfl, .inl ⟨rfl, _, SqL.of (t4.r _ _ b1)⟩, ?_⟩
      refine met_ref t4 (.inl ⟨rfl, rfl⟩) (fun H2 E q t2 hr => ⟨_, rfl, x, .non, dx, .none, rfl, ((Dx.ex eRa).ex eRb).ex t2.r, .non, odd_z dx mem, fun _ => hr, fun z => no z, fun z => no z⟩) (fun H5 p2 t5 n2 => ?_)
      have n2fl : fl ≠ p2 := fun z => by
        rw [← z, b1] at n2
        cases n2
      have Ra2n : Ra p2 = none := Evl.fresh_back eRb n2
      have f5 : H5 fl = some (.lst [.ref p1]) := t5.r _ _ ((upd_ne n2fl).trans b1)
      refine ⟨fl, _, _, rfl, rfl, f5, by show 1 < sizeLine; decide, ?_⟩
      have t6 : Tst [(tab, lamQ)] (upd Ra p2 (.tup [.str "paper", x])) (upd H5 fl (.lst ([.ref p1] ++ [.ref p2]))) := by
        refine (t5.weak fun b o h => ?_).mut f5 ((upd_ne n2fl).trans Rfl)
        by_cases hb : b = p2
        · rw [hb, upd_same] at h ⊢
          exact h
        · rw [upd_ne hb] at h ⊢
          exact eRb _ _ h
      have f6 : upd H5 fl (.lst ([.ref p1] ++ [.ref p2])) fl = some (.lst ([.ref p1] ++ [.ref p2])) := upd_same
      generalize upd H5 fl (.lst ([.ref p1] ++ [.ref p2])) = H6 at t6 f6
      have eRc : Ex Ra (upd Ra p2 (.tup [.str "paper", x])) := Ex.new Ra2n
      have a2 : upd Ra p2 (.tup [.str "paper", x]) p2 = some (.tup [.str "paper", x]) := upd_same
      have Rfl2 : upd Ra p2 (.tup [.str "paper", x]) fl = none := (upd_ne n2fl).trans Rfl
      generalize upd Ra p2 (.tup [.str "paper", x]) = Rc at t6 eRc a2 Rfl2
      have t7 := t6.add f6 (fun _ z => by cases z) Rfl2
      have b2 : upd Rc fl (.lst ([.ref p1] ++ [.ref p2])) fl = some (.lst ([.ref p1] ++ [.ref p2])) := upd_same
      have eRd : Ex Rc (upd Rc fl (.lst ([.ref p1] ++ [.ref p2]))) := Ex.new Rfl2
      generalize upd Rc fl (.lst ([.ref p1] ++ [.ref p2])) = Rd at t7 b2 eRd
      refine ⟨_, rfl, .inl ⟨rfl, _, SqL.of (t7.r _ _ b2)⟩, ?_⟩
      refine met_ref t7 (.inl ⟨rfl, rfl⟩) (fun H2 E q t2 hr => ⟨_, rfl, x, .non, .non, dx, .none, .none, rfl, (((Dx.ex eRa).ex eRc).ex eRd).ex t2.r, .non, .non, odd_z dx mem, fun _ => hr, fun z => no z, fun z => no z, fun z => no z⟩) (fun H7 p3 t8 n3 => ?_)
      have n3fl : fl ≠ p3 := fun z => by
        rw [← z, b2] at n3
        cases n3
      have f7 : H7 fl = some (.lst ([.ref p1] ++ [.ref p2])) := t8.r _ _ ((upd_ne n3fl).trans b2)
      refine ⟨fl, _, _, rfl, rfl, f7, by show 2 < sizeLine; decide, ?_⟩
      have t9 : Tst [(tab, lamQ)] (upd Rc p3 (.tup [.str "paper", x])) (upd H7 fl (.lst (([.ref p1] ++ [.ref p2]) ++ [.ref p3]))) := by
        refine (t8.weak fun b o h => ?_).mut f7 ((upd_ne n3fl).trans Rfl2)
        by_cases hb : b = p3
        · rw [hb, upd_same] at h ⊢
          exact h
        · rw [upd_ne hb] at h ⊢
          exact eRd _ _ h
      have f9 : upd H7 fl (.lst (([.ref p1] ++ [.ref p2]) ++ [.ref p3])) fl = some (.lst (([.ref p1] ++ [.ref p2]) ++ [.ref p3])) := upd_same
      generalize upd H7 fl (.lst (([.ref p1] ++ [.ref p2]) ++ [.ref p3])) = H9 at t9 f9
      have eRe : Ex Rc (upd Rc p3 (.tup [.str "paper", x])) := Ex.new (Evl.fresh_back eRd n3)
      have a3 : upd Rc p3 (.tup [.str "paper", x]) p3 = some (.tup [.str "paper", x]) := upd_same
      generalize upd Rc p3 (.tup [.str "paper", x]) = Re at t9 eRe a3
      have eR1e : Ex R1 Re := (eRa.trans eRc).trans eRe
      have DxE := Dx.ex eR1e
      -- found + [is_paper(odd)] against [('paper', odd)] * 3 + [False]
      refine ⟨_, rfl, _, rfl, x, dx, rfl, DxE.ex t9.r, odd_z dx mem, fun H10 e10 => ?_⟩
      rw [np]
      have t10 := t9.ex e10
      have f10 := e10 _ _ f9
      refine ⟨by show 1 ≤ sizeLine; decide, fun l1 nl1 => ?_⟩
      have e11 := Ex.new (o := .lst [.bl false]) nl1
      have h11 : upd H10 l1 (.lst [.bl false]) l1 = some (.lst [.bl false]) := upd_same
      generalize upd H10 l1 (.lst [.bl false]) = H11 at e11 h11
      refine ⟨fl, l1, _, _, rfl, rfl, e11 _ _ f10, h11, by show 4 ≤ sizeLine; decide, fun l2 nl2 => ?_⟩
      have e12 := Ex.new (o := .lst ((([.ref p1] ++ [.ref p2]) ++ [.ref p3]) ++ [.bl false])) nl2
      have h12 : upd H11 l2 (.lst ((([.ref p1] ++ [.ref p2]) ++ [.ref p3]) ++ [.bl false])) l2 = some (.lst [.ref p1, .ref p2, .ref p3, .bl false]) := upd_same
      generalize upd H11 l2 (.lst ((([.ref p1] ++ [.ref p2]) ++ [.ref p3]) ++ [.bl false])) = H12 at e12 h12
      have t12 := (t10.ex e11).ex e12
      refine ⟨_, rfl, by show 2 ≤ sizeLine; decide, fun w1 nw1 => ⟨by show 1 ≤ sizeLine; decide, fun l3 nl3 => ?_⟩⟩
      have e13 := Ex.new (o := .tup [.str "paper", x]) nw1
      have h13 : upd H12 w1 (.tup [.str "paper", x]) w1 = some (.tup [.str "paper", x]) := upd_same
      generalize upd H12 w1 (.tup [.str "paper", x]) = H13 at e13 h13 nl3
      have e14 := Ex.new (o := .lst [.ref w1]) nl3
      have h14 : upd H13 l3 (.lst [.ref w1]) l3 = some (.lst [.ref w1]) := upd_same
      generalize upd H13 l3 (.lst [.ref w1]) = H14 at e14 h14
      refine ⟨l3, 3, _, rfl, rfl, h14, by decide, by decide, by show 3 ≤ sizeLine; decide, fun l4 nl4 => ?_⟩
      have e15 := Ex.new (o := .lst (List.replicate (3 : Int).toNat [V.ref w1]).flatten) nl4
      have h15 : upd H14 l4 (.lst (List.replicate (3 : Int).toNat [V.ref w1]).flatten) l4 = some (.lst [.ref w1, .ref w1, .ref w1]) := upd_same
      generalize upd H14 l4 (.lst (List.replicate (3 : Int).toNat [V.ref w1]).flatten) = H15 at e15 h15
      refine ⟨by show 1 ≤ sizeLine; decide, fun l5 nl5 => ?_⟩
      have e16 := Ex.new (o := .lst [.bl false]) nl5
      have h16 : upd H15 l5 (.lst [.bl false]) l5 = some (.lst [.bl false]) := upd_same
      generalize upd H15 l5 (.lst [.bl false]) = H16 at e16 h16
      refine ⟨l4, l5, _, _, rfl, rfl, e16 _ _ h15, h16, by show 4 ≤ sizeLine; decide, fun l6 nl6 => ?_⟩
      have e17 := Ex.new (o := .lst ([.ref w1, .ref w1, .ref w1] ++ [.bl false])) nl6
      have h17 : upd H16 l6 (.lst ([.ref w1, .ref w1, .ref w1] ++ [.bl false])) l6 = some (.lst [.ref w1, .ref w1, .ref w1, .bl false]) := upd_same
      generalize upd H16 l6 (.lst ([.ref w1, .ref w1, .ref w1] ++ [.bl false])) = H17 at e17 h17
      have e27 : Ex H12 H17 := (((e13.trans e14).trans e15).trans e16).trans e17
      have t17 := t12.ex e27
      have hw17 := e17 _ _ (e16 _ _ (e15 _ _ (e14 _ _ h13)))
      have p1_ := d_pair (t17.r _ _ (eRe _ _ (eRc _ _ a1))) (DxE.ex t17.r)
      have p2_ := d_pair (t17.r _ _ (eRe _ _ a2)) (DxE.ex t17.r)
      have p3_ := d_pair (t17.r _ _ a3) (DxE.ex t17.r)
      have p4_ := d_pair hw17 (DxE.ex t17.r)
      have ok5 : okD 5 (.list [.tuple [.str "paper", dx], .tuple [.str "paper", dx], .tuple [.str "paper", dx], .bool false]) = true := by
        have o3 := odd_ok dx mem
        have o4 : okD 4 (.tuple [.str "paper", dx]) = true := by
          refine Bool.and_eq_true_iff.mpr ⟨decide_eq_true (by show 2 ≤ 90000; decide), ?_⟩
          show (true && (okD 3 dx && true)) = true
          rw [o3]
          rfl
        refine Bool.and_eq_true_iff.mpr ⟨decide_eq_true (by show 4 ≤ 90000; decide), ?_⟩
        show (okD 4 _ && (okD 4 _ && (okD 4 _ && (true && true)))) = true
        rw [o4]
        rfl
      refine ⟨.ref l2, .ref l6, _, rfl, .lst (e27 _ _ h12) (.cons p1_ (.cons p2_ (.cons p3_ (.cons (.bl false) .nil)))), .lst h17 (.cons p4_ (.cons p4_ (.cons p4_ (.cons (.bl false) .nil)))), ok5, fun H18 e18 => ⟨_, rfl, iteF ?_⟩⟩
      exact ⟨_, _, rfl, (t17.ex e18).weak eR1e⟩
    · obtain ⟨ov, fv, rfl, t⟩ := q
      -- for odd in (None, 0, ..)
      have x1 := goX t
      have dv1 := dv.ex t.r
      have T1 := t.t
      clear goX t t1 dv dxs LR
      dsimp only
      refine seq1 ?_
      have h2 : EvDs _ odds2 := evds_cons (evd_c fun _ => .non) (evds_cons (evd_c fun _ => .int 0) (evds_cons (evd_neg 1) (evds_cons (evd_c fun _ => .bl true) (evds_cons (evd_c fun _ => .str "1") (evds_cons (evd_lst (evds_cons (evd_c fun _ => .int 1) evds_nil) (by decide)) (evds_cons evd_d0 (evds_cons evd_18 evds_nil)))))))
      unfold tFor iTup
      refine tup_of h2 (by decide) fun vs2 Ha L2 ea d2 nL2 => ?_
      have eL2 := Ex.new (o := .tup vs2) nL2
      have hL2 : upd Ha L2 (.tup vs2) L2 = some (.tup vs2) := upd_same
      generalize upd Ha L2 (.tup vs2) = Hb at eL2 hL2
      have eb := ea.trans eL2
      have d2 := (d2.ex (nw_ex.trans eL2)).nt
      have t2 : Tst [(tab, lamQ)] (nt Hb) Hb := ⟨nt_no Hb, fun b o h => (nt_of h).1, T1.ext eb⟩
      have dv2 := (dv1.ex eb).nt
      have LR2 : nt Hb L2 = some (.tup vs2) := nt_at hL2 fun _ z => by cases z
      have goX2 : ∀ {H2 : Hp}, Tst [(tab, lamQ)] (nt Hb) H2 → ExtN H H2 := fun {H2} t b o h hn => t.r _ _ (nt_at (eb _ _ (x1 b o h hn)) hn)
      generalize nt Hb = R2 at *
      refine ⟨L2, rfl, ⟨vs2, SqT.of hL2⟩, for_tup (K := K) (a := L2) (xs := vs2) (fun i σ H' => ∃ ov, σ = [some u, some v, ov, fv] ∧ Tst [(tab, lamQ)] R2 H') ⟨ov, rfl, t2⟩ (fun i σ H' _ q => ?_) (fun i x σ H' hx q => ?_) (fun σ H' q => ?_)⟩
      · obtain ⟨ov, rfl, t⟩ := q
        exact SqT.of (t.r _ _ LR2)
      · obtain ⟨ov, rfl, t⟩ := q
        obtain ⟨dx, hdx, Dx⟩ := d2.get hx
        obtain ⟨nh, ok3⟩ := odds2_no dx (List.mem_of_getElem? hdx)
        refine met_ref t (.inr (.inr (.inr ⟨rfl, rfl⟩))) (fun Hm E q t2 hr => ⟨_, rfl, _, rfl, v, x, papD b p g ns, dx, rfl, dv2.ex t2.r, Dx.ex t2.r, zf, fun z => noP z, fun _ _ => hr, fun _ z => (by rw [nh] at z; cases z)⟩) (fun H3 p1 t3 n1 => ?_)
        refine ⟨_, rfl, by show 2 ≤ sizeLine; decide, fun w1 nw1 => ?_⟩
        have e4 := Ex.new (o := .tup [.str "heap", x]) nw1
        have h4 : upd H3 w1 (.tup [.str "heap", x]) w1 = some (.tup [.str "heap", x]) := upd_same
        generalize upd H3 w1 (.tup [.str "heap", x]) = H4 at e4 h4
        have eR : Ex R2 (upd R2 p1 (.tup [.str "heap", x])) := Ex.new n1
        have t4 := t3.ex e4
        have Dx4 := (Dx.ex eR).ex t4.r
        exact ⟨.ref p1, .ref w1, _, rfl, d_pair (t4.r _ _ upd_same) Dx4, d_pair h4 Dx4, okD_up (ok_pair ok3), fun H5 e5 => ⟨_, rfl, iteF ⟨_, rfl, (t4.ex e5).weak eR⟩⟩⟩
      · obtain ⟨ov, rfl, t⟩ := q
        -- for odd in (None, -1, ..)
        have x2 := goX2 t
        have dv1 := dv2.ex t.r
        have T1 := t.t
        clear goX2 t t2 dv2 d2 LR2 x1
        dsimp only
        refine seq1 ?_
        have h3 : EvDs _ odds3 := evds_cons (evd_c fun _ => .non) (evds_cons (evd_neg 1) (evds_cons (evd_c fun _ => .bl true) (evds_cons (evd_c fun _ => .str "1") (evds_cons (evd_lst (evds_cons (evd_c fun _ => .int 1) evds_nil) (by decide)) (evds_cons evd_d0 evds_nil)))))
        refine tup_of h3 (by decide) fun vs3 Hc L3 ec d3 nL3 => ?_
        have eL3 := Ex.new (o := .tup vs3) nL3
        have hL3 : upd Hc L3 (.tup vs3) L3 = some (.tup vs3) := upd_same
        generalize upd Hc L3 (.tup vs3) = Hd at eL3 hL3
        have ed := ec.trans eL3
        have d3 := (d3.ex (nw_ex.trans eL3)).nt
        have t3 : Tst [(tab, lamQ)] (nt Hd) Hd := ⟨nt_no Hd, fun b o h => (nt_of h).1, T1.ext ed⟩
        have dv3 := (dv1.ex ed).nt
        have LR3 : nt Hd L3 = some (.tup vs3) := nt_at hL3 fun _ z => by cases z
        have goX3 : ∀ {H2 : Hp}, Tst [(tab, lamQ)] (nt Hd) H2 → ExtN H H2 := fun {H2} t b o h hn => t.r _ _ (nt_at (ed _ _ (x2 b o h hn)) hn)
        generalize nt Hd = R3 at *
        refine ⟨L3, rfl, ⟨vs3, SqT.of hL3⟩, for_tup (K := K) (a := L3) (xs := vs3) (fun i σ H' => ∃ ov fv, σ = [some u, some v, ov, fv] ∧ Tst [(tab, lamQ)] R3 H') ⟨ov, fv, rfl, t3⟩ (fun i σ H' _ q => ?_) (fun i x σ H' hx q => ?_) (fun σ H' q => ?_)⟩
        · obtain ⟨ov, fv, rfl, t⟩ := q
          exact SqT.of (t.r _ _ LR3)
        · obtain ⟨ov, fv, rfl, t⟩ := q
          obtain ⟨dx, hdx, Dx⟩ := d3.get hx
          obtain ⟨nh, ok3⟩ := odds3_no dx (List.mem_of_getElem? hdx)
          have noN : ∀ {A : Prop}, isNum dx = true → A := fun {A} z => by
            rw [nh] at z
            cases z
          refine met_ref t (.inr (.inl ⟨rfl, rfl⟩)) (fun Hm E q t2 hr => ⟨_, rfl, _, rfl, v, x, papD b p g ns, dx, rfl, dv3.ex t2.r, Dx.ex t2.r, zf, fun z => noP z, fun _ _ => hr, fun _ z => noN z⟩) (fun H3 p1 t3 n1 => ?_)
          have eRa : Ex R3 (upd R3 p1 (.tup [.str "number", x])) := Ex.new n1
          have a1 : upd R3 p1 (.tup [.str "number", x]) p1 = some (.tup [.str "number", x]) := upd_same
          generalize upd R3 p1 (.tup [.str "number", x]) = Ra at t3 eRa a1
          refine ⟨by show 1 ≤ sizeLine; decide, fun fl nfl => ?_⟩
          have Rfl := t3.no nfl
          have t4 := (t3.ex (Ex.new (o := .lst [.ref p1]) nfl)).add upd_same (fun _ z => by cases z) Rfl
          have b1 : upd Ra fl (.lst [.ref p1]) fl = some (.lst [.ref p1]) := upd_same
          have eRb : Ex Ra (upd Ra fl (.lst [.ref p1])) := Ex.new Rfl
          generalize hRb : upd Ra fl (.lst [.ref p1]) = Rb at t4 b1 eRb
          generalize upd H3 fl (.lst [.ref p1]) = H4 at t4
          refine ⟨_, rfl, .inl ⟨rfl, _, SqL.of (t4.r _ _ b1)⟩, ?_⟩
          have eR3b := eRa.trans eRb
          refine met_ref t4 (.inr (.inl ⟨rfl, rfl⟩)) (fun Hm E q t2 hr => ⟨_, rfl, _, rfl, v, x, .non, papD b p g ns, dx, .none, rfl, (dv3.ex eR3b).ex t2.r, (Dx.ex eR3b).ex t2.r, .non, zf, fun z => noP z, fun _ _ => hr, fun _ z => noN z, fun _ z => noN z⟩) (fun H5 p2 t5 n2 => ?_)
          have n2fl : fl ≠ p2 := fun z => by
            rw [← z, b1] at n2
            cases n2
          have Ra2n : Ra p2 = none := Evl.fresh_back eRb n2
          have f5 : H5 fl = some (.lst [.ref p1]) := t5.r _ _ ((upd_ne n2fl).trans b1)
          refine ⟨fl, _, _, rfl, rfl, f5, by show 1 < sizeLine; decide, ?_⟩
          have t6 : Tst [(tab, lamQ)] (upd Ra p2 (.tup [.str "number", x])) (upd H5 fl (.lst ([.ref p1] ++ [.ref p2]))) := by
            refine (t5.weak fun b o h => ?_).mut f5 ((upd_ne n2fl).trans Rfl)
            by_cases hb : b = p2
            · rw [hb, upd_same] at h ⊢
              exact h
            · rw [upd_ne hb] at h ⊢
              exact eRb _ _ h
          have f6 : upd H5 fl (.lst ([.ref p1] ++ [.ref p2])) fl = some (.lst [.ref p1, .ref p2]) := upd_same
          generalize upd H5 fl (.lst ([.ref p1] ++ [.ref p2])) = H6 at t6 f6
          have eRc : Ex Ra (upd Ra p2 (.tup [.str "number", x])) := Ex.new Ra2n
          have a2 : upd Ra p2 (.tup [.str "number", x]) p2 = some (.tup [.str "number", x]) := upd_same
          generalize upd Ra p2 (.tup [.str "number", x]) = Rc at t6 eRc a2
          have eR3c := eRa.trans eRc
          have DxC := Dx.ex eR3c
          refine ⟨_, rfl, _, rfl, by show 2 ≤ sizeLine; decide, fun w1 nw1 => ⟨by show 1 ≤ sizeLine; decide, fun l3 nl3 => ?_⟩⟩
          have e13 := Ex.new (o := .tup [.str "number", x]) nw1
          have h13 : upd H6 w1 (.tup [.str "number", x]) w1 = some (.tup [.str "number", x]) := upd_same
          generalize upd H6 w1 (.tup [.str "number", x]) = H13 at e13 h13 nl3
          have e14 := Ex.new (o := .lst [.ref w1]) nl3
          have h14 : upd H13 l3 (.lst [.ref w1]) l3 = some (.lst [.ref w1]) := upd_same
          generalize upd H13 l3 (.lst [.ref w1]) = H14 at e14 h14
          refine ⟨l3, 2, _, rfl, rfl, h14, by decide, by decide, by show 2 ≤ sizeLine; decide, fun l4 nl4 => ?_⟩
          have e15 := Ex.new (o := .lst (List.replicate (2 : Int).toNat [V.ref w1]).flatten) nl4
          have h15 : upd H14 l4 (.lst (List.replicate (2 : Int).toNat [V.ref w1]).flatten) l4 = some (.lst [.ref w1, .ref w1]) := upd_same
          generalize upd H14 l4 (.lst (List.replicate (2 : Int).toNat [V.ref w1]).flatten) = H15 at e15 h15
          have e6 : Ex H6 H15 := (e13.trans e14).trans e15
          have t7 := t6.ex e6
          have hw := e15 _ _ (e14 _ _ h13)
          have o4 := ok_pair (w := "number") ok3
          have o5 : okD 5 (.list [.tuple [.str "number", dx], .tuple [.str "number", dx]]) = true := by
            refine Bool.and_eq_true_iff.mpr ⟨decide_eq_true (by show 2 ≤ 90000; decide), ?_⟩
            show (okD 4 _ && (okD 4 _ && true)) = true
            rw [o4]
            rfl
          have q1 := d_pair (t7.r _ _ (eRc _ _ a1)) (DxC.ex t7.r)
          have q2 := d_pair (t7.r _ _ a2) (DxC.ex t7.r)
          have q3 := d_pair hw (DxC.ex t7.r)
          exact ⟨.ref fl, .ref l4, _, rfl, .lst (e6 _ _ f6) (.cons q1 (.cons q2 .nil)), .lst h15 (.cons q3 (.cons q3 .nil)), o5, fun H8 e8 => ⟨_, rfl, iteF ⟨_, _, rfl, (t7.ex e8).weak eR3c⟩⟩⟩
        · obtain ⟨ov, fv, rfl, t⟩ := q
          -- paper[0] - 1
          have x3 := goX3 t
          have dv1 := dv3.ex t.r
          have T1 := t.t
          clear goX3 t t3 dv3 d3 LR3 x2
          have t4 : Tst [(tab, lamQ)] (nt H') H' := ⟨nt_no H', fun b o h => (nt_of h).1, T1⟩
          have dv4 := dv1.nt
          have goX4 : ∀ {H2 : Hp}, Tst [(tab, lamQ)] (nt H') H2 → ExtN H H2 := fun {H2} t b o h hn => t.r _ _ (nt_at (x3 b o h hn) hn)
          generalize nt H' = R4 at *
          have pat := papK_at (k1 := false) (k2 := true) dv4
          obtain ⟨pa, pt, rfl, prow, ptrow⟩ := pat
          refine met_ref t4 (.inr (.inl ⟨rfl, rfl⟩)) (x := .int (b - 1)) (fun Hm E q t2 hr => ⟨_, rfl, _, rfl, ix_row (prow.ex t2.r) (atI_nat (j := 0) rfl) ⟨_, _, rfl, rfl, .ref pa, .int (b - 1), .non, papD b p g ns, .int (b - 1), .none, rfl, dv4.ex t2.r, .int _, .non, zf, fun z => noP z, fun _ _ => hr, fun _ _ z => ?_, fun _ _ z => ?_⟩⟩) (fun H5 p1 t5 n1 => ?_)
          · rw [papD_eq, papK_b] at z
            have z : b ≤ b - 1 := z
            omega
          · rw [papD_eq, papK_b] at z
            have z : b ≤ b - 1 := z
            omega
          have eR : Ex R4 (upd R4 p1 (.tup [.str "number", .int (b - 1)])) := Ex.new n1
          refine ⟨_, rfl, ix_row ((prow.ex eR).ex t5.r) (atI_nat (j := 0) rfl) ⟨_, _, rfl, rfl, by show 2 ≤ sizeLine; decide, fun w1 nw1 => ?_⟩⟩
          have e6 := Ex.new (o := .tup [.str "number", .int (b - 1)]) nw1
          have h6 : upd H5 w1 (.tup [.str "number", .int (b - 1)]) w1 = some (.tup [.str "number", .int (b - 1)]) := upd_same
          generalize upd H5 w1 (.tup [.str "number", .int (b - 1)]) = H6 at e6 h6
          have t6 := t5.ex e6
          refine ⟨.ref p1, .ref w1, _, rfl, d_pair (t6.r _ _ upd_same) (.int _), d_pair h6 (.int _), rfl, fun H7 e7 => ⟨_, rfl, iteF ?_⟩⟩
          have t7 := (t6.ex e7).weak eR
          -- for odd in [None, 0, -paper[1], ..]
          have x4 := goX4 t7
          have dv5 := dv4.ex t7.r
          have prowH := prow.ex t7.r
          have T1 := t7.t
          have x5 : ExtN H (nt H7) := fun b o h hn => nt_at (x4 b o h hn) hn
          dsimp only
          refine next1 ?_
          dsimp only
          refine seq1 ?_
          unfold iList
          refine lsa_of (evas_cons (evd_c fun _ => .non).at (evas_cons (evd_c fun _ => .int 0).at (evas_cons (eva_negix rfl prowH (atI_nat (j := 1) rfl)) (evas_cons (evd_c fun _ => .bl true).at (evas_cons (evd_c fun _ => .str "1").at (evas_cons (evd_lst (evds_cons (evd_c fun _ => .int 1) evds_nil) (by decide)).at (evas_cons evd_d0.at evas_nil))))))) (by show 7 ≤ 1000; decide) fun vs5 He l5 ee d5 nl5 ln5 => ?_
          have eL5 := Ex.new (o := .lst vs5) nl5
          have hL5 : upd He l5 (.lst vs5) l5 = some (.lst vs5) := upd_same
          generalize upd He l5 (.lst vs5) = Hf at eL5 hL5
          have ef := ee.trans eL5
          have d5 := d5.ex (nw_ex.trans eL5)
          have l100 : vs5.length ≤ 100 := by
            rw [ln5]
            show 7 ≤ 100
            decide
          refine cat_if rfl (prowH.ex ef) (atI_nat (j := 1) rfl) hL5 l100 fun ys Hg L6 eg dy hL6 => ?_
          have d6 : DAll Hg (vs5 ++ ys) (odds5 p ++ (if 1 < p then [.int (p + 1)] else [])) := (d5.ex eg).app dy
          have efg := ef.trans eg
          have d7 := d6.nt
          have t8 : Tst [(tab, lamQ)] (nt Hg) Hg := ⟨nt_no Hg, fun b o h => (nt_of h).1, T1.ext efg⟩
          have dv6 := (dv5.ex efg).nt
          have prow6 := papK_at (k1 := false) (k2 := true) dv6
          have LR6 : nt Hg L6 = some (.lst (vs5 ++ ys)) := nt_at hL6 fun _ z => by cases z
          have goX6 : ∀ {H2 : Hp}, Tst [(tab, lamQ)] (nt Hg) H2 → ExtN H H2 := fun {H2} t b o h hn => t.r _ _ (nt_at (efg _ _ (x4 b o h hn)) hn)
          generalize nt Hg = R6 at *
          refine ⟨L6, rfl, ⟨vs5 ++ ys, SqL.of hL6⟩, for_list (K := K) (a := L6) (xs := vs5 ++ ys) (fun i σ H' => ∃ ov, σ = [some u, some (.ref pa), ov, fv] ∧ Tst [(tab, lamQ)] R6 H') ⟨ov, rfl, t8⟩ (fun i σ H' _ q => ?_) (fun i x σ H' hx q => ?_) (fun σ H' q => ?_)⟩
          · obtain ⟨ov, rfl, t⟩ := q
            exact SqL.of (t.r _ _ LR6)
          · obtain ⟨ov, rfl, t⟩ := q
            obtain ⟨dx, hdx, Dx⟩ := d7.get hx
            obtain ⟨ok3, np⟩ := odds5_no hp1 dx (List.mem_of_getElem? hdx)
            obtain ⟨pa', pt', epa, prow6, ptrow6⟩ := prow6
            cases epa
            have hb0 : isNum (.int b) = true := decide_eq_true (by omega)
            refine met_ref t (.inr (.inr (.inl ⟨rfl, rfl⟩))) (fun Hm E q t2 hr => ⟨_, rfl, _, rfl, ix_row (prow6.ex t2.r) (atI_nat (j := 0) rfl) ⟨_, rfl, .ref pa, .int b, x, papD b p g ns, .int b, dx, rfl, dv6.ex t2.r, .int _, Dx.ex t2.r, zf, fun z => noP z, fun _ z => ?_, fun _ _ _ z => hr, fun _ _ _ z1 z2 z3 => ?_⟩⟩) (fun H3 p1 t3 n1 => ?_)
            · rw [papD_eq, papK_b, hb0] at z
              have z : intOf (.int b) < b := z.resolve_left (by decide)
              exact absurd z (Int.lt_irrefl b)
            · rw [papD_eq, papK_p] at z3
              rcases np with np | np | np
              · rw [np] at z1
                cases z1
              · exact absurd np z2
              · exact absurd z3 np
            refine ⟨_, rfl, by show 2 ≤ sizeLine; decide, fun w1 nw1 => ?_⟩
            have e4 := Ex.new (o := .tup [.str "period", x]) nw1
            have h4 : upd H3 w1 (.tup [.str "period", x]) w1 = some (.tup [.str "period", x]) := upd_same
            generalize upd H3 w1 (.tup [.str "period", x]) = H4 at e4 h4
            have eR : Ex R6 (upd R6 p1 (.tup [.str "period", x])) := Ex.new n1
            have t4 := t3.ex e4
            have Dx4 := (Dx.ex eR).ex t4.r
            exact ⟨.ref p1, .ref w1, _, rfl, d_pair (t4.r _ _ upd_same) Dx4, d_pair h4 Dx4, okD_up (ok_pair ok3), fun H5 e5 => ⟨_, rfl, iteF ⟨_, rfl, (t4.ex e5).weak eR⟩⟩⟩
          · obtain ⟨ov, rfl, t⟩ := q
            exact kq H' (goX6 t) t.t
end
end Ts


set_option Elab.async false
set_option linter.all false
set_option maxRecDepth 100000
set_option maxHeartbeats 4000000
namespace Ts
open PySem PySem.Spec L2 LamX
open Evl (Ex)
theorem Strm.exN {H H' : Hp} {a c : Addr} {n : Int} (e : ExtN H H') (h : Strm H a c n) : Strm H' a c n := by
  obtain ⟨⟨cells, s1, s3, h1, h2, r⟩, ne, n0⟩ := h
  exact ⟨⟨cells, s1, s3, e _ _ h1 (fun _ z => by cases z), e _ _ h2 (fun _ z => by cases z), r⟩, ne, n0⟩
theorem tabs_off {T : List (Addr × Str)} {H : Hp} {a c : Addr} {n : Int} (S : Strm H a c n) (t : Tabs T H) : Tabs T (off a c H) := fun p hp => by
  obtain ⟨ps, h1, h2, h3⟩ := t p hp
  obtain ⟨⟨cells, s1, s3, g1, g2, _⟩, _, _⟩ := S
  have k : ∀ (z : Addr) (o : HO), H z = some o → (∀ xs, o ≠ .lst xs) → off a c H z = some o := fun z o hz ho => by
    have n1 : z ≠ a := fun q => by
      rw [q, g1] at hz
      cases hz
      exact ho _ rfl
    have n2 : z ≠ c := fun q => by
      rw [q, g2] at hz
      cases hz
      exact ho _ rfl
    rw [off_ne n1 n2]
    exact hz
  refine ⟨ps, k _ _ h1 (fun _ z => by cases z), h2, fun pos cv hc => ?_⟩
  obtain ⟨cc, e1, e2⟩ := h3 pos cv hc
  exact ⟨cc, e1, k _ _ e2 (fun _ z => by unfold CodeO at z; cases z)⟩
theorem tabs_drawn {T : List (Addr × Str)} {H H' : Hp} {a c : Addr} {n : Int} (S : Strm H a c n) (t : Tabs T H) (e : Ex (off a c H) (off a c H')) : Tabs T H' := (tabs_off S t).ext fun b o h => off_of (e b o h)
section
variable {P : Program} {w : World} {K : PySem.W.Frag} {mg : Str → Option Value} {base : Heap}
abbrev s_law := top 39
theorem sc_law : FnScope ["script", "stream", "turn", "paper", "found"] ["script"] (defScope s_law) := ⟨rfl, rfl, rfl, by decide +kernel, rfl, by decide +kernel, by decide +kernel⟩
def spLaw (K : PySem.W.Frag) (tab : Addr) : Sp := fun vs H Q _ => ∃ (s : Addr) (ns : List Int), vs = [.ref s] ∧ SqL K H s (ns.map V.int) ∧ Tabs [(tab, lamQ)] H ∧ ∀ H', Q (.bl true) H'
theorem ps1 : PS 4 2 1 [0, 1, 0, 0, 2, 2] := ⟨by decide, by decide, by decide, by decide, by decide, by decide, by decide, by decide, by decide⟩
theorem ps2 : PS 1 5 0 [0, 1, 0, 0, 2, 1] := ⟨by decide, by decide, by decide, by decide, by decide, by decide, by decide, by decide, by decide⟩
theorem told1 : tells 4 2 1 [0, 1, 0, 0, 2, 2] 10 = [0, 1, 0, 0, 2, 2, 3, 3, 4, 4] := by decide +kernel
theorem told2 : tell 1 5 0 [0, 1, 0, 0, 2, 1] 1000000000000000000 = 1 := by decide +kernel
theorem ok_law {tab f f1 f2 f3 f4 f5 f6 f7 CP CH CN : Addr} {fd fd1 fd2 fd3 fd4 fd5 fd6 fd7 : FuncData} (F : FD K mg "law" "law" s_law f fd)
    (F_start : FD K mg "_law_start" "_law_start" s_start f1 fd1) (G_start : FnOk P w K mg base CX0 1 f1 fd1 ["script"] (spStart K))
    (F_paper : FD K mg "_law_c_paper" "_law_c_paper" s_c_paper f2 fd2) (G_paper : FnOk P w K mg base CX0 2 f2 fd2 ["stream", "far", "gains"] spCPaper)
    (F_right : FD K mg "_law_right" "_law_right" s_right f3 fd3) (G_right : GOk P w K mg base CX0 8 f3 fd3 ["stream", "paper"] spRight)
    (F_ref : FD K mg "_law_refused_right" "_law_refused_right" s_refused f4 fd4) (G_ref : FnOk P w K mg base CX0 10 f4 fd4 ["stream", "paper"] (spRef tab))
    (F_vb : FD K mg "values_by" "values_by" s_values_by f5 fd5) (G_vb : FnOk P w K mg base (L2.CX P w) 7 f5 fd5 ["paper", "most"] (spVals CP CN))
    (F_va : FD K mg "value_at" "value_at" s_value_at f6 fd6) (G_va : FnOk P w K mg base (L2.CX P w) 7 f6 fd6 ["paper", "heap"] (spVal CP CH))
    (F_same : FD K mg "_law_same" "_law_same" s_same f7 fd7) (G_same : FnOk P w K mg base CX0 6 f7 fd7 ["found", "due"] (spSame 6)) (T : Bl mg) :
    GOk P w K mg base CX0 11 f fd ["script"] (spLaw K tab) := by
  have b_start : Binds K fd1 ["script"] [] := F_start.F.binds fun _ _ _ _ _ _ us hl => match us, hl with | [_], _ => rfl
  have b_paper : Binds K fd2 ["stream", "far", "gains"] [] := F_paper.F.binds fun _ _ _ _ _ _ us hl => match us, hl with | [_, _, _], _ => rfl
  have b_right : Binds K fd3 ["stream", "paper"] [] := F_right.F.binds fun _ _ _ _ _ _ us hl => match us, hl with | [_, _], _ => rfl
  have b_ref : Binds K fd4 ["stream", "paper"] [] := F_ref.F.binds fun _ _ _ _ _ _ us hl => match us, hl with | [_, _], _ => rfl
  have b_vb : Binds K fd5 ["paper", "most"] [] := F_vb.F.binds fun _ _ _ _ _ _ us hl => match us, hl with | [_, _], _ => rfl
  have b_va : Binds K fd6 ["paper", "heap"] [] := F_va.F.binds fun _ _ _ _ _ _ us hl => match us, hl with | [_, _], _ => rfl
  have b_same : Binds K fd7 ["found", "due"] [] := F_same.F.binds fun _ _ _ _ _ _ us hl => match us, hl with | [_, _], _ => rfl
  refine okG F.F sc_law (fun vs H Q E h => ?_) (fun cdv A outer s H vs Q E hA hr h => ?_)
  · obtain ⟨s, ns, rfl, _⟩ := h
    rfl
  · obtain ⟨sa, zs, rfl, hs, hT, kq⟩ := h
    have nd := sc_law.nd
    refine ⟨_, (pss_cons (ps_set (i := 1) nd rfl (Or.inl rfl) (pe_call G_start (hr.mono (by decide)) (by rfl) F_start.g F_start.F.kp b_start .nil pass0 (pa_cons (pv 0) pa_nil)))
      (pss_cons (ps_for PassesOwn.never rfl (pi_range1 (by rfl) T.range (pa_cons pe_int pa_nil)) (pg_name (i := 2) nd rfl (Or.inl rfl)) (pss_cons (ps_set (i := 3) nd rfl (Or.inl rfl) (pe_call G_paper (hr.mono (by decide)) (by rfl) F_paper.g F_paper.F.kp b_paper .nil pass0 (pa_cons (pv 1) (pa_cons pe_int (pa_cons pe_int pa_nil)))))
      (pss_one (ps_if (PW.pt (pw_or (pt_not (pt_val (pe_callG (E := fun _ _ _ => False) G_right hA (hr.mono (by decide)) (by rfl) F_right.g F_right.F.kp b_right (pa_cons (pv 1) (pa_cons (pv 3) pa_nil))))) (pw_or1 (pt_not (pt_val (pe_call G_ref hr (by rfl) F_ref.g F_ref.F.kp b_ref .nil pass0 (pa_cons (pv 1) (pa_cons (pv 3) pa_nil)))))))) (pss_one (ps_ret pe_bl)) pss_nil))))
      (pss_cons (ps_set (i := 4) nd rfl (Or.inl rfl) (pe_lst (pa_cons (pe_call G_vb (hr.mono (by decide)) (by rfl) F_vb.g F_vb.F.kp b_vb .nil (passF rfl rfl) (pa_cons (pe_tup (pa_cons pe_int (pa_cons pe_int (pa_cons pe_int (pa_cons (pe_lst (pa_cons pe_int (pa_cons pe_int (pa_cons pe_int (pa_cons pe_int (pa_cons pe_int (pa_cons pe_int pa_nil))))))) pa_nil))))) (pa_cons pe_int pa_nil))) (pa_cons (pe_call G_va (hr.mono (by decide)) (by rfl) F_va.g F_va.F.kp b_va .nil (passF rfl rfl) (pa_cons (pe_tup (pa_cons pe_int (pa_cons pe_int (pa_cons pe_int (pa_cons (pe_lst (pa_cons pe_int (pa_cons pe_int (pa_cons pe_int (pa_cons pe_int (pa_cons pe_int (pa_cons pe_int pa_nil))))))) pa_nil))))) (pa_cons (pe_op op_pow pe_int pe_int) pa_nil))) pa_nil))))
      (pss_one (ps_ret (pe_call G_same (hr.mono (by decide)) (by rfl) F_same.g F_same.F.kp b_same .nil pass0 (pa_cons (pv 4) (pa_cons (pe_lst (pa_cons (pe_lst (pa_cons pe_int (pa_cons pe_int (pa_cons pe_int (pa_cons pe_int (pa_cons pe_int (pa_cons pe_int (pa_cons pe_int (pa_cons pe_int (pa_cons pe_int (pa_cons pe_int pa_nil))))))))))) (pa_cons pe_int pa_nil))) pa_nil)))))))), ?_⟩
    refine ⟨_, rfl, sa, zs, rfl, hs, fun a c H1 na nc S1 e1 => ?_⟩
    refine ⟨8, rfl, by decide, by decide, for_range (lo := 0) (n := 8) (fun i σ H' => ∃ tv pv m, σ = [some (.ref sa), some (.ref a), tv, pv, none] ∧ Strm H' a c m ∧ m ≤ 800 * (i : Nat) ∧ Tabs [(tab, lamQ)] H')
      ⟨none, none, 0, rfl, S1, by decide, hT.ext e1⟩ (fun i σ H' hi p => ?_) (fun σ H' p => ?_)⟩
    · obtain ⟨tv, pv, m, rfl, S, hm, t⟩ := p
      refine ⟨_, rfl, a, c, m, 8, 3, rfl, S, by omega, by decide, by decide, by decide, by decide, fun H2 z b p g ns n' e2 S2 n1 n2 hd pg => ?_⟩
      have ps := pg.ps (by decide) (by decide)
      have len : ns.length ≤ 90 := by
        have := pg.len
        have := pg.b2
        have := pg.p2
        omega
      have t2 := tabs_drawn S t e2
      refine ⟨_, rfl, _, rfl, a, c, n', .ref z, b, p, g, ns, rfl, S2, hd, ps, len, by omega, fun H3 n3 e3 S3 n4 n5 => ⟨_, rfl, iteF ?_⟩⟩
      have t3 := tabs_drawn S2 t2 e3
      refine ⟨_, rfl, _, rfl, .ref a, .ref z, b, p, g, ns, rfl, (hd.ex e3).ex off_ex, ps, t3, fun H4 e4 t4 => ⟨_, rfl, ?_⟩⟩
      refine iteF ?_
      exact ⟨_, _, n3, rfl, S3.exN e4, by omega, t4⟩
    · obtain ⟨tv, pv, m, rfl, S, hm, t⟩ := p
      clear S hm t hT
      refine ⟨by show 6 ≤ sizeLine; decide, fun l1 n1 => ?_⟩
      have e1 := Ex.new (o := .lst [.int 0, .int 1, .int 0, .int 0, .int 2, .int 2]) n1
      have h1 : upd H' l1 (.lst [.int 0, .int 1, .int 0, .int 0, .int 2, .int 2]) l1 = some (.lst [.int 0, .int 1, .int 0, .int 0, .int 2, .int 2]) := upd_same
      generalize upd H' l1 (.lst [.int 0, .int 1, .int 0, .int 0, .int 2, .int 2]) = Ha at e1 h1
      refine ⟨by show 4 ≤ sizeLine; decide, fun p1 m1 => ?_⟩
      have e2 := Ex.new (o := .tup [.int 4, .int 2, .int 1, .ref l1]) m1
      have h2 : upd Ha p1 (.tup [.int 4, .int 2, .int 1, .ref l1]) p1 = some (.tup [.int 4, .int 2, .int 1, .ref l1]) := upd_same
      generalize upd Ha p1 (.tup [.int 4, .int 2, .int 1, .ref l1]) = Hb at e2 h2
      have d1 : D Hb (.ref p1) (papK false true 4 2 1 [0, 1, 0, 0, 2, 2]) := .tup h2 (.cons (.int _) (.cons (.int _) (.cons (.int _) (.cons (d_ints (ns := [0, 1, 0, 0, 2, 2]) (e2 _ _ h1)) .nil))))
      have zf1 := papK_z (k1 := false) (k2 := true) (b := 4) (p := 2) (g := 1) (ns := [0, 1, 0, 0, 2, 2]) (by decide)
      have zf2 := papK_z (k1 := false) (k2 := true) (b := 1) (p := 5) (g := 0) (ns := [0, 1, 0, 0, 2, 1]) (by decide)
      have hp1 : isPaper (papK false true 4 2 1 [0, 1, 0, 0, 2, 2]) = true := ps1.paper
      have hp2 : isPaper (papK false true 1 5 0 [0, 1, 0, 0, 2, 1]) = true := ps2.paper
      refine ⟨.ref p1, .int 9, _, .int 9, rfl, d1, .int 9, zf1, fun z => (by rw [hp1] at z; cases z), fun _ z => (by cases z), fun _ _ => ⟨ps1.sml, by decide, fun z1 H3 nz1 e3 hz1 => ?_⟩⟩
      rw [papK_b, papK_p, papK_g, papK_n, below_eq] at hz1
      have hz1 : H3 z1 = some (.lst ((tells 4 2 1 [0, 1, 0, 0, 2, 2] 10).map V.int)) := hz1
      rw [told1] at hz1
      refine ⟨by show 6 ≤ sizeLine; decide, fun l2 n2 => ?_⟩
      have e4 := Ex.new (o := .lst [.int 0, .int 1, .int 0, .int 0, .int 2, .int 1]) n2
      have h4 : upd H3 l2 (.lst [.int 0, .int 1, .int 0, .int 0, .int 2, .int 1]) l2 = some (.lst [.int 0, .int 1, .int 0, .int 0, .int 2, .int 1]) := upd_same
      generalize upd H3 l2 (.lst [.int 0, .int 1, .int 0, .int 0, .int 2, .int 1]) = Hc at e4 h4
      refine ⟨by show 4 ≤ sizeLine; decide, fun p2 m2 => ?_⟩
      have e5 := Ex.new (o := .tup [.int 1, .int 5, .int 0, .ref l2]) m2
      have h5 : upd Hc p2 (.tup [.int 1, .int 5, .int 0, .ref l2]) p2 = some (.tup [.int 1, .int 5, .int 0, .ref l2]) := upd_same
      generalize upd Hc p2 (.tup [.int 1, .int 5, .int 0, .ref l2]) = Hd at e5 h5
      have d2 : D Hd (.ref p2) (papK false true 1 5 0 [0, 1, 0, 0, 2, 1]) := .tup h5 (.cons (.int _) (.cons (.int _) (.cons (.int _) (.cons (d_ints (ns := [0, 1, 0, 0, 2, 1]) (e5 _ _ h4)) .nil))))
      have p18 : (10 : Int) ^ (18 : Int).toNat = 1000000000000000000 := by decide
      refine ⟨_, _, rfl, rfl, ⟨by decide, by decide, by decide⟩, ?_⟩
      refine ⟨.ref p2, .int ((10 : Int) ^ (18 : Int).toNat), _, .int ((10 : Int) ^ (18 : Int).toNat), rfl, d2, .int _, zf2, fun z => (by rw [hp2] at z; cases z), fun _ z => (by rw [p18] at z; cases z), fun _ _ => ⟨ps2.sml, fun H5 e6 => ?_⟩⟩
      rw [papK_b, papK_p, papK_g, papK_n]
      have et : tell 1 5 0 [0, 1, 0, 0, 2, 1] (intOf (.int ((10 : Int) ^ (18 : Int).toNat))) = 1 := by
        rw [p18]
        exact told2
      rw [et]
      refine ⟨by show 2 ≤ sizeLine; decide, fun L nL => ?_⟩
      have e7 := Ex.new (o := .lst [.ref z1, .int 1]) nL
      have h7 : upd H5 L (.lst [.ref z1, .int 1]) L = some (.lst [.ref z1, .int 1]) := upd_same
      generalize upd H5 L (.lst [.ref z1, .int 1]) = He at e7 h7
      refine ⟨_, rfl, by show 10 ≤ sizeLine; decide, fun l3 n3 => ?_⟩
      have e8 := Ex.new (o := .lst ([0, 1, 0, 0, 2, 2, 3, 3, 4, 4].map V.int)) n3
      have h8 : upd He l3 (.lst ([0, 1, 0, 0, 2, 2, 3, 3, 4, 4].map V.int)) l3 = some (.lst ([0, 1, 0, 0, 2, 2, 3, 3, 4, 4].map V.int)) := upd_same
      refine ⟨by show 2 ≤ sizeLine; decide, fun l4 n4 => ?_⟩
      have e9 := Ex.new (o := .lst [.ref l3, .int 1]) n4
      refine ⟨.ref L, .ref l4, .list [.list ([0, 1, 0, 0, 2, 2, 3, 3, 4, 4].map .int), .int 1], rfl,
        .lst (e9 _ _ (e8 _ _ h7)) (.cons (d_ints (e9 _ _ (e8 _ _ (e7 _ _ (e6 _ _ (e5 _ _ (e4 _ _ hz1))))))) (.cons (.int _) .nil)),
        .lst upd_same (.cons (d_ints (e9 _ _ h8)) (.cons (.int _) .nil)), by decide +kernel, fun Hf ef => ?_⟩
      exact kq Hf
end
end Ts


set_option Elab.async false
set_option linter.all false
set_option maxRecDepth 100000
set_option maxHeartbeats 4000000
namespace Ts
open PySem PySem.Spec PyProof.Rows L2 LamX
open Evl (Ex)
/-! ## the law's call, its table told -/
/-- what is told when the law starts: its table, and perhaps its script -/
structure Beg (H : Hp) (tab a : Addr) : Prop where
  t : H tab = some (.tbl #[])
  only : ∀ b u, H b = some u → b = tab ∨ (b = a ∧ ∃ o xs, u = .frz o (.lst xs))
section
variable {P : Program} {w : World} {K : PySem.W.Frag} {mg mb : Str → Option Value} {k : Nat} {fa a c tab : Addr} {fd : FuncData} {x : Str} {sp : Sp} {st : Shared} {us : List Value} {zs : List Int}
/-- the ground that a law's call stands on -/
structure Grd (K : PySem.W.Frag) (mg mb : Str → Option Value) (c tab a : Addr) (us : List Value) (st : Shared) : Prop where
  k : K.In st.heap
  m : st.heap.Ns mainGlobals mg
  b : st.heap.Ns builtinsNs mb
  bb : ∀ y : Str, y ≠ "__name__" → mb y = bootBuiltins y
  lim : st.heap.NoLimit
  ng : st.gens = #[]
  t : st.heap.get? tab = some { cls := .none, data := .fields #[] }
  kt : K.lookup tab = none
  cd : PySem.W.CodeHd st.heap c tab
  bm : ∃ (q : Addr) (oq : Obj), mg "__builtins__" = some (.ref q) ∧ q ≠ builtinsNs ∧ st.heap.get? q = some oq ∧ oq.cls = .type "module" ∧ oq.dict = some builtinsNs ∧ oq.data = .plain
  a : st.heap.get? a = some { cls := .type "list", data := .seq us.toArray }
theorem Grd.free {H : Hp} (g : Grd K mg mb c tab a us st) (B : Beg H tab a) {b : Addr} {o : Obj} (h : st.heap.get? b = some o) (n1 : o.data ≠ .fields #[]) (n2 : ∀ vs n, o.data ≠ .seq vs n) : H b = none := by
  cases e : H b with
  | none => rfl
  | some u =>
    exfalso
    rcases B.only b u e with z | ⟨z, _⟩
    · rw [z, g.t] at h
      cases h
      exact n1 rfl
    · rw [z, g.a] at h
      cases h
      exact n2 _ _ rfl
theorem Grd.ns {H : Hp} (g : Grd K mg mb c tab a us st) (B : Beg H tab a) {b : Addr} {m : Str → Option Value} (h : st.heap.Ns b m) : (hidT st.heap H).Ns b m := by
  obtain ⟨o, es, ep, h1, h2, h3⟩ := h
  have f := g.free B h1 (fun z => by rw [h2] at z; cases z) (fun vs n z => by rw [h2] at z; cases z)
  exact ⟨o, es, ep, hidT_get h1 f, h2, h3⟩
theorem Grd.kin {H : Hp} (g : Grd K mg mb c tab a us st) (B : Beg H tab a) (fr : H a ≠ none → K.lookup a = none) : K.In (hidT st.heap H) := fun b o h => by
  refine hidT_get (g.k b o h) ?_
  cases e : H b with
  | none => rfl
  | some u =>
    exfalso
    rcases B.only b u e with z | ⟨z, _⟩
    · rw [z, g.kt] at h
      cases h
    · rw [z] at h e
      rw [fr (by rw [e]; simp)] at h
      cases h
theorem Grd.tabB {H : Hp} (g : Grd K mg mb c tab a us st) (B : Beg H tab a) : TabB (hidT st.heap H) mg c tab := by
  refine ⟨?_, ?_, fun z => ?_⟩
  · obtain ⟨o, ws, fl, tf, gs, tg, ib, tx, tt, h1, h2, h3, h4, h5, h6, h7, h8, h9, h10⟩ := g.cd
    have f : H c = none := g.free B h1
      (fun z => by
        rw [h3] at z
        cases z
        simp at h4)
      (fun vs n z => by
        rw [h3] at z
        cases z)
    exact ⟨o, ws, fl, tf, gs, tg, ib, tx, tt, hidT_get h1 f, h2, h3, h4, h5, h6, h7, h8, h9, h10⟩
  · obtain ⟨q, oq, h1, h2, h3, h4, h5, h6⟩ := g.bm
    have f : H q = none := g.free B h3 (fun z => by rw [h6] at z; cases z) (fun vs n z => by rw [h6] at z; cases z)
    refine ⟨q, oq, h1, h2, fun z => ?_, fun z => ?_, hidT_get h3 f, h4, h5, h6⟩
    · obtain ⟨o, es, ep, d1, d2, _⟩ := g.m
      rw [z, d1] at h3
      cases h3
      rw [d2] at h6
      cases h6
    · rw [z, g.t] at h3
      cases h3
      cases h6
  · obtain ⟨o, es, ep, d1, d2, _⟩ := g.m
    rw [z, g.t] at d1
    cases d1
    cases d2
/-- the call, from a heap that tells the table and perhaps the script -/
theorem Grd.call {H : Hp} (g : Grd K mg mb c tab a us st) (B : Beg H tab a) (fr : H a ≠ none → K.lookup a = none) (hk : HOk P w H st.heap) (rm : Room k callerA)
    (G : ∀ base : Heap, K.In base → base.Ns mainGlobals mg → TabB base mg c tab → GOk P w K mg base CX0 k fa fd [x] sp) (bi : ∀ (s : Shared) (u : Value), BindsTo s fd ⟨[u], []⟩ [(x, u)]) (hsp : sp [.ref a] H (fun v _ => v = .bl true) fun _ _ _ => False) :
    codeAny (model P w) callerA (.call (.ref fa) ⟨[.ref a], []⟩) (fun r s' => r = .ok (.ret (.bool true)) ∧ OldK st.heap s'.heap ∧ s'.os = st.os ∧ AllBare s'.gens) st := by
  have kb := g.kin B fr
  have M : L2.Mod K mg (hidT st.heap H) := by
    obtain ⟨mc, l1, l2⟩ := g.lim
    exact ⟨kb, g.ns B g.m, ⟨mb, g.ns B g.b, g.bb⟩, mc, g.ns B l1, l2⟩
  have e0 : Env0 P w K mg (hidT st.heap H) callerA [] st H := {
    frames := rfl
    mod := M
    bs := fun b o e => of_hidT e
    bsz := by rw [hidT_size]; exact Nat.le_refl _
    funs := trivial
    frf := fun b hb => by cases hb
    hok := hk
    bare := .of_eq g.ng }
  have run := (G _ kb (g.ns B g.m) (g.tabB B)).go callerA [] st H ⟨[.ref a], []⟩ [.ref a] [.ref a] _ _ rfl rm e0 (bi st (.ref a)) (.cons rfl .nil) hsp
  refine codeAny_mono run fun r s' h => ?_
  rcases r with e | (_ | _ | _ | u) <;> first
    | exact (show False from h).elim
    | skip
  obtain ⟨v, H', ho, hb, un, hk', rv, rfl⟩ := h
  obtain rfl : u = Value.bool true := rv
  have tk : ∃ more : Array Value, s'.heap.get? tab = some { cls := .none, data := .fields more } := by
    obtain ⟨more, z⟩ := un.tbls tab #[] B.t
    exact ⟨_, hk' tab _ z⟩
  have kp : ∀ b o, b ≠ tab → st.heap.get? b = some o → s'.heap.get? b = some o := fun b o nb e => by
    cases q : H b with
    | none => exact un.keep b o e q (fun z => by cases z) (fun z => by cases z)
    | some u =>
      rcases B.only b u q with z | ⟨_, ob, xs, rfl⟩
      · exact absurd z nb
      · have h1 := (hk b _ q).1
        rw [e] at h1
        cases h1
        exact (hk' b _ (un.frzs b _ _ q)).1
  refine ⟨rfl, ⟨fun b o e => ?_, fun b o e => ?_⟩, ho, hb⟩
  · by_cases z : b = tab
    · obtain ⟨more, hm⟩ := tk
      rw [z, g.t] at e
      cases e
      rw [z]
      exact .inr (.inl ⟨(g.cd.tab g.t).isCodeTable, rfl, #[], more, rfl, by rw [Array.empty_append]; exact hm⟩)
    · exact .inl (kp b o z e)
  · by_cases z : b = tab
    · rw [z]
      exact tk.elim fun m q => ⟨_, q⟩
    · exact ⟨o, kp b o z e⟩
/-- the call of a law whose table is told -/
theorem Grd.law (g : Grd K mg mb c tab a us st) (hi : IntsAre us zs) (hl : zs.length ≤ sizeLine) (rm : Room k callerA)
    (G : ∀ base : Heap, K.In base → base.Ns mainGlobals mg → TabB base mg c tab → GOk P w K mg base CX0 k fa fd [x] sp) (bi : ∀ (s : Shared) (u : Value), BindsTo s fd ⟨[u], []⟩ [(x, u)])
    (hsp : ∀ H : Hp, H tab = some (.tbl #[]) → SqL K H a (zs.map V.int) → sp [.ref a] H (fun v _ => v = .bl true) fun _ _ _ => False) :
    codeAny (model P w) callerA (.call (.ref fa) ⟨[.ref a], []⟩) (fun r s' => r = .ok (.ret (.bool true)) ∧ OldK st.heap s'.heap ∧ s'.os = st.os ∧ AllBare s'.gens) st := by
  have rv := vals_ints hi
  have hu := hi.length
  have na : a ≠ tab := fun z => by
    have q := g.a
    rw [z, g.t] at q
    cases q
  let H0 : Hp := upd (fun _ => none) tab (.tbl #[])
  have h0 : H0 tab = some (.tbl #[]) := upd_same
  have h0n : ∀ b, b ≠ tab → H0 b = none := fun b nb => upd_ne nb
  cases lk : K.lookup a with
  | some o =>
    have e := g.k a o lk
    rw [g.a] at e
    cases e
    have B : Beg H0 tab a := ⟨h0, fun b u h => by
      by_cases z : b = tab
      · exact .inl z
      · rw [h0n b z] at h
        cases h⟩
    refine g.call B (fun z => absurd (h0n a na) z) (fun b u h => ?_) rm G bi (hsp H0 h0 (.inr ⟨_, us.toArray, _, lk, rfl, rfl, rfl, by rw [List.size_toArray, hu]; exact hl, by simpa using rv⟩))
    by_cases z : b = tab
    · rw [z, h0] at h
      cases h
      rw [z]
      exact g.t
    · rw [h0n b z] at h
      cases h
  | none =>
    let ob : Obj := { cls := .type "list", data := .seq us.toArray }
    let H1 : Hp := upd H0 a (.frz ob (.lst (zs.map V.int)))
    have h1 : H1 a = some (.frz ob (.lst (zs.map V.int))) := upd_same
    have h1t : H1 tab = some (.tbl #[]) := (upd_ne (Ne.symm na)).trans h0
    have B : Beg H1 tab a := ⟨h1t, fun b u h => by
      by_cases z : b = a
      · rw [z, h1] at h
        cases h
        exact .inr ⟨z, _, _, rfl⟩
      · have h' : H0 b = some u := (upd_ne z).symm.trans h
        by_cases z2 : b = tab
        · exact .inl z2
        · rw [h0n b z2] at h'
          cases h'⟩
    refine g.call B (fun _ => lk) (fun b u h => ?_) rm G bi (hsp H1 h1t (.inl (.inr ⟨ob, h1⟩)))
    by_cases z : b = a
    · rw [z, h1] at h
      cases h
      rw [z]
      exact ⟨g.a, by rw [List.length_map]; exact hl, us, _, rv, g.a⟩
    · have h' : H0 b = some u := (upd_ne z).symm.trans h
      by_cases z2 : b = tab
      · rw [z2, h0] at h'
        cases h'
        rw [z2]
        exact g.t
      · rw [h0n b z2] at h'
        cases h'
end
end Ts


set_option Elab.async false
set_option linter.all false
set_option maxRecDepth 100000
set_option maxHeartbeats 4000000
namespace Ts
open PySem PySem.Spec PyProof.Rows L2 LamX
open Evl (Ex)
section
variable {P : Program} {w : World} {K : PySem.W.Frag} {mg : Str → Option Value} {h : Heap}
theorem fd_mk (X : K.In h) (G : h.Ns mainGlobals mg) {x q : Str} {st : Stmt} {f : Addr} {oc : Value} {od an : Option Addr} {sl : Array (Option Value)} {kV doc pm cd ct : Value} (a : PySem.W.nsIn K mainGlobals x = some (some (.ref f)))
    (l : K.lookup f = some ⟨oc, od, .func (PySem.W.fnOf x q (defArgs st) (defBody st) (defScope st) .none kV doc pm an cd ct), sl⟩) (c : PySem.W.codeIn K cd q = true) (k : PySem.W.keepIn K (.ref f) = true) :
    ∃ f fd, FD K mg x q st f fd := ⟨_, _, fun_mk l c k, PySem.W.mg_of X G a⟩
theorem xc_mk (X : K.In h) (G : h.Ns mainGlobals mg) {x : Str} {C g : Addr} {nm q : Str} {N : Addr} {bs bm : List Value} {sn : List Str} {sub : List Value} {ab : Bool} {col : Option Bool} {dd : Option Addr} {m0 m1 m2 m3 m5 : Option Value}
    (a : PySem.W.nsIn K mainGlobals x = some (some (.ref C))) (l : K.lookup C = some (excClassObj nm q C N bs bm true sn sub ab col dd m0 m1 m2 m3 m5 "ValueError.__new__")) (rv : PySem.HandSPX.refsVE bm = true)
    (sa : PySem.W.findIn K (.ref C) "__setattr__" = some (some (.builtin "object.__setattr__"))) (eC : PySem.W.subIn K (.ref C) (.type "BaseException") = some true) (tC : PySem.W.typeIn K (.ref C) = some (.type "type")) (kC : PySem.W.keepIn K (.ref C) = true)
    (iC : PySem.W.findIn K (.ref C) "__init__" = some (some (.ref g))) (tI : PySem.W.typeIn K (.ref g) = some (.type "function")) (nF : PySem.W.findIn K (.ref C) "thing" = some none)
    (ga : PySem.W.findIn K (.ref C) "__getattribute__" = some (some (.builtin "BaseException.__getattribute__"))) (gg : PySem.W.findIn K (.ref C) "__getattr__" = some none) (hC : PySem.W.hasDictIn K C = true) : XC K mg x "thing" C g :=
  ⟨⟨⟨_, _, _, _, _, _, _, _, _, _, _, _, _, _, _, l, rv⟩, sa, eC, tC, kC⟩, PySem.W.mg_of X G a, iC, tI, nF, ⟨ga, gg, eC, hC⟩⟩
theorem bi_mk {q : Str} {i : Nat} {g : Addr} {oc : Value} {od an : Option Addr} {sl : Array (Option Value)} {kV doc pm cd ct : Value} (l : K.lookup g = some ⟨oc, od, .func (PySem.W.fnOf "__init__" q (defArgs (i_thing i)) (defBody (i_thing i)) (defScope (i_thing i)) .none kV doc pm an cd ct), sl⟩)
    (c : PySem.W.codeIn K cd q = true) (k : PySem.W.keepIn K (.ref g) = true) : ∃ fd, Fun K "__init__" q (i_thing i) g fd := ⟨_, fun_mk l c k⟩
/-- one class met by another -/
theorem exm_mk {C : Value} {S : Addr} {b : Bool} (h1 : PySem.W.subIn K (.ref S) (.type "BaseException") = some true) (h2 : PySem.W.isClsIn K S = true) (h3 : PySem.W.typeIn K (.ref S) = some (.type "type")) (h4 : PySem.W.subIn K C (.ref S) = some b) : PySem.W.exmOne K C (.ref S) = some b := by
  unfold PySem.W.exmOne
  rw [h1]
  refine (if_pos (by rfl)).trans ?_
  have e : ((PySem.W.clsIn K S).isSome && PySem.W.typeIn K (.ref S) == some (.type "type")) = true := by
    have h2 : (PySem.W.clsIn K S).isSome = true := h2
    rw [h2, h3]
    rfl
  show (if ((PySem.W.clsIn K S).isSome && PySem.W.typeIn K (.ref S) == some (.type "type")) = true then PySem.W.subIn K C (.ref S) else none) = some b
  rw [if_pos e]
  exact h4
/-- what the law's call needs -/
def Ready (l : PySem.W.OpenLaw) (w : World) (K : PySem.W.Frag) (k : Nat) (x : Str) (mg : Str → Option Value) (fa : Addr) (h : Heap) : Prop :=
  ∃ (fd : FuncData) (c tab : Addr), h.get? tab = some { cls := .none, data := .fields #[] } ∧ K.lookup tab = none ∧ PySem.W.CodeHd h c tab ∧ (∀ (s : Shared) (u : Value), BindsTo s fd ⟨[u], []⟩ [(x, u)]) ∧
    ∀ base : Heap, K.In base → base.Ns mainGlobals mg → TabB base mg c tab → GOk l.prog w K mg base CX0 k fa fd [x] (spLaw K tab)
theorem walk_tab {l : PySem.W.OpenLaw} {n k : Nat} {p : Program} {loose : List Str} {XP : (Str → Option Value) → Heap → Prop} {YP : World → Heap → Prop} {d : DefRec} {F : Params → PySem.W.Frag} {x : Str}
    (hn : l.most = some n) (hz : n ≤ sizeLine) (hdf : d.params.defaults = []) (hr : Room k callerA) (hY : ∀ (w : World) (h : Heap), YP w h → (F w.params).In h)
    (hF : ∀ (w : World) (mg : Str → Option Value) (fa : Addr) (h : Heap), YP w h → (F w.params).In h → h.Ns mainGlobals mg → mg d.name = some (.ref fa) → Ready l w (F w.params) k x mg fa h) :
    PySem.W.WalkO p loose XP YP l.row.toRowW d [] (fun f vs => PySem.call f vs) := by
  refine Att.attach_callB hn hdf fun w sh st mg mb fa o pm cd doc a us zs g y _ _ _ hm hl hi hlen _ ng => ?_
  obtain ⟨fd, c, tab, ht, kt, hc, bi, G⟩ := hF w mg fa _ y (hY w _ y) g.T.g hm
  refine Grd.law (mb := mb) ⟨hY w _ y, g.T.g, g.T.b, g.T.builtins, g.T.nolimit, ng, ht, kt, hc, g.T.bmain, hl⟩ hi (Nat.le_trans hlen hz) hr G bi fun H h1 h2 => ⟨a, zs, rfl, h2, fun p hp => ?_, fun H' => rfl⟩
  rw [List.mem_singleton] at hp
  rw [hp]
  exact TabS.nil h1

theorem ready {l : PySem.W.OpenLaw} {w : World} {fa c tab CB CH CN CP CR CG gB gH gN gP gR : Addr} (X : K.In h) (G : h.Ns mainGlobals mg) (hfa : mg "law" = some (.ref fa)) (T : Bl mg) {tm : Tok} (hm : mg "MOST_HEAP" = some (.int 1000000000000000000 tm))
    (F_is_row : ∃ f fd, FD K mg "is_row" "is_row" s_is_row f fd)
    (F_is_integer : ∃ f fd, FD K mg "is_integer" "is_integer" s_is_integer f fd)
    (F_is_number : ∃ f fd, FD K mg "is_number" "is_number" s_is_number f fd)
    (F_is_heap : ∃ f fd, FD K mg "is_heap" "is_heap" s_is_heap f fd)
    (F_is_numbers : ∃ f fd, FD K mg "is_numbers" "is_numbers" s_is_numbers f fd)
    (F_numf : ∃ f fd, FD K mg "numbers_fault" "numbers_fault" s_numf f fd) (z_enumerate : mg "enumerate" = none)
    (F_need_heap : ∃ f fd, FD K mg "need_heap" "need_heap" s_need_heap f fd)
    (F_need_number : ∃ f fd, FD K mg "need_number" "need_number" s_need_number f fd)
    (F_is_paper : ∃ f fd, FD K mg "is_paper" "is_paper" s_is_paper f fd)
    (F_need_paper : ∃ f fd, FD K mg "need_paper" "need_paper" s_need_paper f fd)
    (F_told_of : ∃ f fd, FD K mg "told_of" "told_of" s_told_of f fd)
    (F_told_below : ∃ f fd, FD K mg "told_below" "told_below" s_told_below f fd)
    (F_value_at : ∃ f fd, FD K mg "value_at" "value_at" s_value_at f fd)
    (F_values_by : ∃ f fd, FD K mg "values_by" "values_by" s_values_by f fd)
    (F_led_on : ∃ f fd, FD K mg "led_on" "led_on" s_led_on f fd)
    (F_led_paper : ∃ f fd, FD K mg "led_paper" "led_paper" s_led_paper f fd)
    (F_a_told : ∃ f fd, FD K mg "_law_a_told" "_law_a_told" s_a_told f fd)
    (F_c_paper : ∃ f fd, FD K mg "_law_c_paper" "_law_c_paper" s_c_paper f fd)
    (F_c_odd : ∃ f fd, FD K mg "_law_c_odd" "_law_c_odd" s_c_odd f fd)
    (F_c_met : ∃ f fd, FD K mg "_law_c_met" "_law_c_met" s_met f fd)
    (F_start : ∃ f fd, FD K mg "_law_start" "_law_start" s_start f fd)
    (F_draw : ∃ f fd, FD K mg "_law_draw" "_law_draw" s_draw f fd)
    (F_same : ∃ f fd, FD K mg "_law_same" "_law_same" s_same f fd)
    (F_loose : ∃ f fd, FD K mg "_law_loose" "_law_loose" s_loose f fd)
    (F_right : ∃ f fd, FD K mg "_law_right" "_law_right" s_right f fd)
    (F_law : ∃ f fd, FD K mg "law" "law" s_law f fd)
    (XB : XC K mg "BadBook" "thing" CB gB) (IB : ∃ fd, Fun K "__init__" "BadBook.__init__" (i_thing 2) gB fd)
    (XH : XC K mg "BadHeap" "thing" CH gH) (IH : ∃ fd, Fun K "__init__" "BadHeap.__init__" (i_thing 3) gH fd)
    (XN : XC K mg "BadNumber" "thing" CN gN) (IN : ∃ fd, Fun K "__init__" "BadNumber.__init__" (i_thing 4) gN fd)
    (XP : XC K mg "BadPaper" "thing" CP gP) (IP : ∃ fd, Fun K "__init__" "BadPaper.__init__" (i_thing 5) gP fd)
    (XR : XC K mg "BadPeriod" "thing" CR gR) (IR : ∃ fd, Fun K "__init__" "BadPeriod.__init__" (i_thing 6) gR fd)
    (gG : mg "Grows" = some (.ref CG))
(epb : PySem.W.exmOne K (.ref CP) (.ref CB) = some false)
    (enb : PySem.W.exmOne K (.ref CN) (.ref CB) = some false)
    (erb : PySem.W.exmOne K (.ref CR) (.ref CB) = some false)
    (ehb : PySem.W.exmOne K (.ref CH) (.ref CB) = some false)
    (epp : PySem.W.exmOne K (.ref CP) (.ref CP) = some true)
    (enp : PySem.W.exmOne K (.ref CN) (.ref CP) = some false)
    (erp : PySem.W.exmOne K (.ref CR) (.ref CP) = some false)
    (ehp : PySem.W.exmOne K (.ref CH) (.ref CP) = some false)
    (enn : PySem.W.exmOne K (.ref CN) (.ref CN) = some true)
    (ern : PySem.W.exmOne K (.ref CR) (.ref CN) = some false)
    (ehn : PySem.W.exmOne K (.ref CH) (.ref CN) = some false)
    (err : PySem.W.exmOne K (.ref CR) (.ref CR) = some true)
    (ehr : PySem.W.exmOne K (.ref CH) (.ref CR) = some false)
    (ehh : PySem.W.exmOne K (.ref CH) (.ref CH) = some true)
    {fr : Addr} {oc kV doc pm ct : Value} {od an : Option Addr} {sl : Array (Option Value)} (ar : PySem.W.nsIn K mainGlobals "_law_refused_right" = some (some (.ref fr)))
    (lr : K.lookup fr = some ⟨oc, od, .func (PySem.W.fnOf "_law_refused_right" "_law_refused_right" (defArgs s_refused) (defBody s_refused) (defScope s_refused) .none kV doc pm an (.ref c) ct), sl⟩) (cr : PySem.W.codeIn K (.ref c) "_law_refused_right" = true) (kr : PySem.W.keepIn K (.ref fr) = true)
    (ht : h.get? tab = some { cls := .none, data := .fields #[] }) (kt : K.lookup tab = none) (hc : PySem.W.codeHdIn K c tab = true) : Ready l w K 11 "script" mg fa h := by
  obtain ⟨f_is_row, d_is_row, F_is_row⟩ := F_is_row
  obtain ⟨f_is_integer, d_is_integer, F_is_integer⟩ := F_is_integer
  obtain ⟨f_is_number, d_is_number, F_is_number⟩ := F_is_number
  obtain ⟨f_is_heap, d_is_heap, F_is_heap⟩ := F_is_heap
  obtain ⟨f_is_numbers, d_is_numbers, F_is_numbers⟩ := F_is_numbers
  obtain ⟨f_numf, d_numf, F_numf⟩ := F_numf
  obtain ⟨f_need_heap, d_need_heap, F_need_heap⟩ := F_need_heap
  obtain ⟨f_need_number, d_need_number, F_need_number⟩ := F_need_number
  obtain ⟨f_is_paper, d_is_paper, F_is_paper⟩ := F_is_paper
  obtain ⟨f_need_paper, d_need_paper, F_need_paper⟩ := F_need_paper
  obtain ⟨f_told_of, d_told_of, F_told_of⟩ := F_told_of
  obtain ⟨f_told_below, d_told_below, F_told_below⟩ := F_told_below
  obtain ⟨f_value_at, d_value_at, F_value_at⟩ := F_value_at
  obtain ⟨f_values_by, d_values_by, F_values_by⟩ := F_values_by
  obtain ⟨f_led_on, d_led_on, F_led_on⟩ := F_led_on
  obtain ⟨f_led_paper, d_led_paper, F_led_paper⟩ := F_led_paper
  obtain ⟨f_a_told, d_a_told, F_a_told⟩ := F_a_told
  obtain ⟨f_c_paper, d_c_paper, F_c_paper⟩ := F_c_paper
  obtain ⟨f_c_odd, d_c_odd, F_c_odd⟩ := F_c_odd
  obtain ⟨f_c_met, d_c_met, F_c_met⟩ := F_c_met
  obtain ⟨f_start, d_start, F_start⟩ := F_start
  obtain ⟨f_draw, d_draw, F_draw⟩ := F_draw
  obtain ⟨f_same, d_same, F_same⟩ := F_same
  obtain ⟨f_loose, d_loose, F_loose⟩ := F_loose
  obtain ⟨f_right, d_right, F_right⟩ := F_right
  obtain ⟨f_law, d_law, F_law⟩ := F_law
  obtain ⟨d_B, IB⟩ := IB
  have bB : Binds K d_B ["self", "thing"] [] := IB.binds fun _ _ _ _ _ _ us hl => match us, hl with | [_, _], _ => rfl
  obtain ⟨d_H, IH⟩ := IH
  have bH : Binds K d_H ["self", "thing"] [] := IH.binds fun _ _ _ _ _ _ us hl => match us, hl with | [_, _], _ => rfl
  obtain ⟨d_N, IN⟩ := IN
  have bN : Binds K d_N ["self", "thing"] [] := IN.binds fun _ _ _ _ _ _ us hl => match us, hl with | [_, _], _ => rfl
  obtain ⟨d_P, IP⟩ := IP
  have bP : Binds K d_P ["self", "thing"] [] := IP.binds fun _ _ _ _ _ _ us hl => match us, hl with | [_, _], _ => rfl
  obtain ⟨d_R, IR⟩ := IR
  have bR : Binds K d_R ["self", "thing"] [] := IR.binds fun _ _ _ _ _ _ us hl => match us, hl with | [_, _], _ => rfl
  have M : Errs K mg CB CP CN CR CH CG gB gP gN gR gH := ⟨XB, XP, XN, XR, XH, gG, epb, enb, erb, ehb, epp, enp, erp, ehp, enn, ern, ehn, err, ehr, ehh⟩
  have e := hfa.symm.trans F_law.g
  cases e
  have F_ref : FD K mg "_law_refused_right" "_law_refused_right" s_refused fr _ := ⟨fun_mk lr cr kr, PySem.W.mg_of X G ar⟩
  have bi : ∀ (s : Shared) (u : Value), BindsTo s d_law ⟨[u], []⟩ [("script", u)] := by
    obtain ⟨_, _, _, _, _, _, _, _, _, e, _, _⟩ := F_law.F.ex
    rw [e]
    exact fun s u => .of_eq rfl
  refine ⟨d_law, c, tab, ht, kt, PySem.W.codeHd_of_K X hc, bi, fun base KB NB TB => ?_⟩
  have G_row := ok_is_row (P := l.prog) (w := w) (base := base) F_is_row T
  have G_num := ok_is_number (P := l.prog) (w := w) (base := base) F_is_number F_is_integer T
  have G_heap := ok_is_heap (P := l.prog) (w := w) (base := base) F_is_heap F_is_integer T hm
  have G_nums := ok_is_numbers (P := l.prog) (w := w) (base := base) F_is_numbers F_is_row F_is_number F_is_integer F_numf T z_enumerate
  have G_ip := ok_is_paper F_is_paper F_is_row F_is_number F_is_numbers G_row G_num G_nums T
  have J_H := ok_ini (P := l.prog) (w := w) (base := base) 3 (by decide) IH XH
  have J_N := ok_ini (P := l.prog) (w := w) (base := base) 4 (by decide) IN XN
  have J_P := ok_ini (P := l.prog) (w := w) (base := base) 5 (by decide) IP XP
  have J_R := ok_ini (P := l.prog) (w := w) (base := base) 6 (by decide) IR XR
  have G_nh := ok_need_heap F_need_heap F_is_heap G_heap XH J_H bH
  have G_nn := ok_need_number F_need_number F_is_number G_num XN J_N bN
  have G_np := ok_need_paper F_need_paper F_is_paper G_ip XP J_P bP
  have G_tb := ok_told_below (P := l.prog) (w := w) (base := base) F_told_below F_told_of T
  have G_va := ok_value_at F_value_at F_need_paper F_need_heap F_told_of G_np G_nh T
  have G_vb := ok_values_by F_values_by F_need_paper F_need_number F_told_below G_np G_nn G_tb
  have G_lo := ok_led_on F_led_on F_told_below G_tb
  have G_lp := ok_led_paper F_led_paper F_need_paper F_is_number F_led_on G_np G_num G_lo XN J_N bN XR J_R bR
  have G_draw := ok_draw (P := l.prog) (w := w) (base := base) F_draw T
  have G_start := ok_start (P := l.prog) (w := w) (base := base) F_start T
  have G_told := ok_a_told (P := l.prog) (w := w) (base := base) F_a_told T
  have G_paper := ok_c_paper (P := l.prog) (w := w) (base := base) F_c_paper F_draw T
  have G_odd := ok_c_odd (P := l.prog) (w := w) (base := base) F_c_odd
  have G_same := ok_same (P := l.prog) (w := w) (base := base) F_same T 6
  have G_loose := ok_loose (P := l.prog) (w := w) (base := base) F_loose F_draw T 3
  have G_right := ok_right F_right F_loose G_loose F_a_told G_told F_values_by G_vb F_is_paper G_ip F_same G_same F_value_at G_va F_led_paper G_lp F_draw G_draw T
  have G_ref := ok_refused lr cr M TB F_c_met F_c_odd G_odd F_value_at G_va F_values_by G_vb F_led_paper G_lp F_is_paper G_ip F_same G_same T
  exact ok_law F_law F_start G_start F_c_paper G_paper F_right G_right F_ref G_ref F_values_by G_vb F_value_at G_va F_same G_same T
end
end Ts


set_option Elab.async false
open PySem PySem.W PyProof.Rows in
set_option maxRecDepth 100000 in
set_option maxHeartbeats 0 in
theorem PySem.Challenge.cw_takeandsplit_k14_whole_papers_holds : PySem.Challenge.rw_takeandsplit_k14_whole_papers.Holds := by
  w_on; o_law; k_head; (case hw => w_witness2)
  k_fill
  refine Ts.walk_tab (l := PySem.Challenge.rw_takeandsplit_k14_whole_papers) (n := 63) (k := 11) (x := "script") rfl (by decide) rfl ⟨rfl, by decide, by decide⟩ (fun w h Y => PySem.W.km_in_of Y) ?F
  case F =>
    intro w mg fa h Y KX G hmg
    refine' Ts.ready (tab := 301) KX G hmg ?T ?hm ?F_is_row ?F_is_integer ?F_is_number ?F_is_heap ?F_is_numbers ?F_numf ?z_enumerate ?F_need_heap ?F_need_number ?F_is_paper ?F_need_paper ?F_told_of ?F_told_below ?F_value_at ?F_values_by ?F_led_on ?F_led_paper ?F_a_told ?F_c_paper ?F_c_odd ?F_c_met ?F_start ?F_draw ?F_same ?F_loose ?F_right ?F_law ?XB ?IB ?XH ?IH ?XN ?IN ?XP ?IP ?XR ?IR ?gG ?epb ?enb ?erb ?ehb ?epp ?enp ?erp ?ehp ?enn ?ern ?ehn ?err ?ehr ?ehh ?z_ar ?z_lr ?z_cr ?z_kr ?z_ht ?z_kt ?z_hc
    case T =>
      refine' ⟨PySem.W.mg_none_of KX G ?b0, PySem.W.mg_none_of KX G ?b1, PySem.W.mg_none_of KX G ?b2, PySem.W.mg_none_of KX G ?b3, PySem.W.mg_none_of KX G ?b4, PySem.W.mg_none_of KX G ?b5, PySem.W.mg_none_of KX G ?b6, PySem.W.mg_none_of KX G ?b7, PySem.W.mg_none_of KX G ?b8, PySem.W.mg_none_of KX G ?b9, PySem.W.mg_none_of KX G ?b10, PySem.W.mg_none_of KX G ?b11⟩
      (case b0 => k_is); (case b1 => k_is); (case b2 => k_is); (case b3 => k_is); (case b4 => k_is); (case b5 => k_is); (case b6 => k_is); (case b7 => k_is); (case b8 => k_is); (case b9 => k_is); (case b10 => k_is); (case b11 => k_is)
    case hm =>
      refine' PySem.W.mg_of KX G ?a
      (case a => k_is)
    case F_is_row =>
      refine' Ts.fd_mk KX G ?a ?l ?c ?k
      (case a => k_is); (case l => k_is); (case c => k_is); (case k => k_is)
    case F_is_integer =>
      refine' Ts.fd_mk KX G ?a ?l ?c ?k
      (case a => k_is); (case l => k_is); (case c => k_is); (case k => k_is)
    case F_is_number =>
      refine' Ts.fd_mk KX G ?a ?l ?c ?k
      (case a => k_is); (case l => k_is); (case c => k_is); (case k => k_is)
    case F_is_heap =>
      refine' Ts.fd_mk KX G ?a ?l ?c ?k
      (case a => k_is); (case l => k_is); (case c => k_is); (case k => k_is)
    case F_is_numbers =>
      refine' Ts.fd_mk KX G ?a ?l ?c ?k
      (case a => k_is); (case l => k_is); (case c => k_is); (case k => k_is)
    case F_numf =>
      refine' Ts.fd_mk KX G ?a ?l ?c ?k
      (case a => k_is); (case l => k_is); (case c => k_is); (case k => k_is)
    case z_enumerate =>
      refine' PySem.W.mg_none_of KX G ?a
      (case a => k_is)
    case F_need_heap =>
      refine' Ts.fd_mk KX G ?a ?l ?c ?k
      (case a => k_is); (case l => k_is); (case c => k_is); (case k => k_is)
    case F_need_number =>
      refine' Ts.fd_mk KX G ?a ?l ?c ?k
      (case a => k_is); (case l => k_is); (case c => k_is); (case k => k_is)
    case F_is_paper =>
      refine' Ts.fd_mk KX G ?a ?l ?c ?k
      (case a => k_is); (case l => k_is); (case c => k_is); (case k => k_is)
    case F_need_paper =>
      refine' Ts.fd_mk KX G ?a ?l ?c ?k
      (case a => k_is); (case l => k_is); (case c => k_is); (case k => k_is)
    case F_told_of =>
      refine' Ts.fd_mk KX G ?a ?l ?c ?k
      (case a => k_is); (case l => k_is); (case c => k_is); (case k => k_is)
    case F_told_below =>
      refine' Ts.fd_mk KX G ?a ?l ?c ?k
      (case a => k_is); (case l => k_is); (case c => k_is); (case k => k_is)
    case F_value_at =>
      refine' Ts.fd_mk KX G ?a ?l ?c ?k
      (case a => k_is); (case l => k_is); (case c => k_is); (case k => k_is)
    case F_values_by =>
      refine' Ts.fd_mk KX G ?a ?l ?c ?k
      (case a => k_is); (case l => k_is); (case c => k_is); (case k => k_is)
    case F_led_on =>
      refine' Ts.fd_mk KX G ?a ?l ?c ?k
      (case a => k_is); (case l => k_is); (case c => k_is); (case k => k_is)
    case F_led_paper =>
      refine' Ts.fd_mk KX G ?a ?l ?c ?k
      (case a => k_is); (case l => k_is); (case c => k_is); (case k => k_is)
    case F_a_told =>
      refine' Ts.fd_mk KX G ?a ?l ?c ?k
      (case a => k_is); (case l => k_is); (case c => k_is); (case k => k_is)
    case F_c_paper =>
      refine' Ts.fd_mk KX G ?a ?l ?c ?k
      (case a => k_is); (case l => k_is); (case c => k_is); (case k => k_is)
    case F_c_odd =>
      refine' Ts.fd_mk KX G ?a ?l ?c ?k
      (case a => k_is); (case l => k_is); (case c => k_is); (case k => k_is)
    case F_c_met =>
      refine' Ts.fd_mk KX G ?a ?l ?c ?k
      (case a => k_is); (case l => k_is); (case c => k_is); (case k => k_is)
    case F_start =>
      refine' Ts.fd_mk KX G ?a ?l ?c ?k
      (case a => k_is); (case l => k_is); (case c => k_is); (case k => k_is)
    case F_draw =>
      refine' Ts.fd_mk KX G ?a ?l ?c ?k
      (case a => k_is); (case l => k_is); (case c => k_is); (case k => k_is)
    case F_same =>
      refine' Ts.fd_mk KX G ?a ?l ?c ?k
      (case a => k_is); (case l => k_is); (case c => k_is); (case k => k_is)
    case F_loose =>
      refine' Ts.fd_mk KX G ?a ?l ?c ?k
      (case a => k_is); (case l => k_is); (case c => k_is); (case k => k_is)
    case F_right =>
      refine' Ts.fd_mk KX G ?a ?l ?c ?k
      (case a => k_is); (case l => k_is); (case c => k_is); (case k => k_is)
    case F_law =>
      refine' Ts.fd_mk KX G ?a ?l ?c ?k
      (case a => k_is); (case l => k_is); (case c => k_is); (case k => k_is)
    case XB =>
      refine' Ts.xc_mk KX G ?a ?l ?rv ?sa ?eC ?tC ?kC ?iC ?tI ?nF ?ga ?gg ?hC
      (case a => k_is); (case l => k_is); (case rv => decide +kernel); (case sa => k_is); (case eC => k_is); (case tC => k_is); (case kC => k_is)
      (case iC => k_is); (case tI => k_is); (case nF => k_is); (case ga => k_is); (case gg => k_is); (case hC => k_is)
    case IB =>
      refine' Ts.bi_mk ?l ?c ?k
      (case l => k_is); (case c => k_is); (case k => k_is)
    case XH =>
      refine' Ts.xc_mk KX G ?a ?l ?rv ?sa ?eC ?tC ?kC ?iC ?tI ?nF ?ga ?gg ?hC
      (case a => k_is); (case l => k_is); (case rv => decide +kernel); (case sa => k_is); (case eC => k_is); (case tC => k_is); (case kC => k_is)
      (case iC => k_is); (case tI => k_is); (case nF => k_is); (case ga => k_is); (case gg => k_is); (case hC => k_is)
    case IH =>
      refine' Ts.bi_mk ?l ?c ?k
      (case l => k_is); (case c => k_is); (case k => k_is)
    case XN =>
      refine' Ts.xc_mk KX G ?a ?l ?rv ?sa ?eC ?tC ?kC ?iC ?tI ?nF ?ga ?gg ?hC
      (case a => k_is); (case l => k_is); (case rv => decide +kernel); (case sa => k_is); (case eC => k_is); (case tC => k_is); (case kC => k_is)
      (case iC => k_is); (case tI => k_is); (case nF => k_is); (case ga => k_is); (case gg => k_is); (case hC => k_is)
    case IN =>
      refine' Ts.bi_mk ?l ?c ?k
      (case l => k_is); (case c => k_is); (case k => k_is)
    case XP =>
      refine' Ts.xc_mk KX G ?a ?l ?rv ?sa ?eC ?tC ?kC ?iC ?tI ?nF ?ga ?gg ?hC
      (case a => k_is); (case l => k_is); (case rv => decide +kernel); (case sa => k_is); (case eC => k_is); (case tC => k_is); (case kC => k_is)
      (case iC => k_is); (case tI => k_is); (case nF => k_is); (case ga => k_is); (case gg => k_is); (case hC => k_is)
    case IP =>
      refine' Ts.bi_mk ?l ?c ?k
      (case l => k_is); (case c => k_is); (case k => k_is)
    case XR =>
      refine' Ts.xc_mk KX G ?a ?l ?rv ?sa ?eC ?tC ?kC ?iC ?tI ?nF ?ga ?gg ?hC
      (case a => k_is); (case l => k_is); (case rv => decide +kernel); (case sa => k_is); (case eC => k_is); (case tC => k_is); (case kC => k_is)
      (case iC => k_is); (case tI => k_is); (case nF => k_is); (case ga => k_is); (case gg => k_is); (case hC => k_is)
    case IR =>
      refine' Ts.bi_mk ?l ?c ?k
      (case l => k_is); (case c => k_is); (case k => k_is)
    case gG =>
      refine' PySem.W.mg_of KX G ?a
      (case a => k_is)
    case epb =>
      refine' Ts.exm_mk ?h1 ?h2 ?h3 ?h4
      (case h1 => k_is); (case h2 => k_is); (case h3 => k_is); (case h4 => first | rfl | k_is)
    case enb =>
      refine' Ts.exm_mk ?h1 ?h2 ?h3 ?h4
      (case h1 => k_is); (case h2 => k_is); (case h3 => k_is); (case h4 => first | rfl | k_is)
    case erb =>
      refine' Ts.exm_mk ?h1 ?h2 ?h3 ?h4
      (case h1 => k_is); (case h2 => k_is); (case h3 => k_is); (case h4 => first | rfl | k_is)
    case ehb =>
      refine' Ts.exm_mk ?h1 ?h2 ?h3 ?h4
      (case h1 => k_is); (case h2 => k_is); (case h3 => k_is); (case h4 => first | rfl | k_is)
    case epp =>
      refine' Ts.exm_mk ?h1 ?h2 ?h3 ?h4
      (case h1 => k_is); (case h2 => k_is); (case h3 => k_is); (case h4 => first | rfl | k_is)
    case enp =>
      refine' Ts.exm_mk ?h1 ?h2 ?h3 ?h4
      (case h1 => k_is); (case h2 => k_is); (case h3 => k_is); (case h4 => first | rfl | k_is)
    case erp =>
      refine' Ts.exm_mk ?h1 ?h2 ?h3 ?h4
      (case h1 => k_is); (case h2 => k_is); (case h3 => k_is); (case h4 => first | rfl | k_is)
    case ehp =>
      refine' Ts.exm_mk ?h1 ?h2 ?h3 ?h4
      (case h1 => k_is); (case h2 => k_is); (case h3 => k_is); (case h4 => first | rfl | k_is)
    case enn =>
      refine' Ts.exm_mk ?h1 ?h2 ?h3 ?h4
      (case h1 => k_is); (case h2 => k_is); (case h3 => k_is); (case h4 => first | rfl | k_is)
    case ern =>
      refine' Ts.exm_mk ?h1 ?h2 ?h3 ?h4
      (case h1 => k_is); (case h2 => k_is); (case h3 => k_is); (case h4 => first | rfl | k_is)
    case ehn =>
      refine' Ts.exm_mk ?h1 ?h2 ?h3 ?h4
      (case h1 => k_is); (case h2 => k_is); (case h3 => k_is); (case h4 => first | rfl | k_is)
    case err =>
      refine' Ts.exm_mk ?h1 ?h2 ?h3 ?h4
      (case h1 => k_is); (case h2 => k_is); (case h3 => k_is); (case h4 => first | rfl | k_is)
    case ehr =>
      refine' Ts.exm_mk ?h1 ?h2 ?h3 ?h4
      (case h1 => k_is); (case h2 => k_is); (case h3 => k_is); (case h4 => first | rfl | k_is)
    case ehh =>
      refine' Ts.exm_mk ?h1 ?h2 ?h3 ?h4
      (case h1 => k_is); (case h2 => k_is); (case h3 => k_is); (case h4 => first | rfl | k_is)
    case z_ar =>
      k_is
    case z_lr =>
      k_is
    case z_cr =>
      k_is
    case z_kr =>
      k_is
    case z_ht =>
      exact PySem.W.km_tabs_of Y 301 (by k_mem)
    case z_kt =>
      kernel_rfl
    case z_hc =>
      kernel_rfl

