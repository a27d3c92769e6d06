import PyProof.Rows.All
import Wide.All
import OpenK.AllK
import Wide.FinOn
import HandS.ForMost
import HandS.EndTab
import HandS.IsInst
import HandS.Lambda
import HandS.TryMany
import HandS.ExcInit
import HandS.ExcField
import HandS.NoneIn
import HandS.WideBits
import HandS.Walk
import HandS.Flow
import HandS.Conv
import HandS.Evl
import HandS.ForExc
import PySem.Challenge.RW_takeandsplit_k19_whole_least_papers
import KE.GoesMore
import KE.GoesEnum
import HandS.Iter
import HandS.Wide
import HandS.Zip
import HandS.ListItems
set_option Elab.async false
set_option linter.all false
set_option maxRecDepth 100000
set_option maxHeartbeats 2000000
namespace Ts
open PySem PySem.Spec PyProof.Rows L2
section
variable {X : Cx}
/-- repr of data at an address -/
def rShow (K : PySem.W.Frag) : List V → Hp → VK → Prop := fun xs H Q =>
  ∃ (a : Addr) (d : PyData), xs = [.ref a] ∧ Dp K H (.ref a) d ∧ d.showable = true ∧ d.hasDict = false ∧ d.depth ≤ 60 ∧ d.shown.length ≤ sizeLine ∧ Q (.str d.shown) H
theorem call_show (hg : X.A.guards = some []) (hu : X.A.units + 64 < cLine) : CallR X (.builtin "repr") (rShow X.K) := by
  intro pins s σ H xs us Q I r h
  obtain ⟨a, d, rfl, hd, hs, hn, hdp, hz, q⟩ := h
  obtain ⟨u, rfl, e⟩ := vals1 r
  cases e
  obtain ⟨as, rd⟩ := Dp.reads I d _ _ hd rfl
  exact repr_of_reads' rd hs (fun z => by rw [hn] at z; cases z) hg (by omega) (fun b o e => e) (fun h' u tk hk => ⟨.str _, H, I.kept hk, ⟨_, rfl⟩, q⟩) hz

/-! a def's promise where no repr is under way -/
structure GOk (P : Program) (w : World) (K : PySem.W.Frag) (mg : Str → Option Value) (base : Heap) (CX : CXT) (k : Nat) (f : Addr) (fd : FuncData) (ps : List Str) (sp : Sp) : Prop where
  ln : ∀ vs H Q E, sp vs H Q E → vs.length = ps.length
  go : ∀ (A : Around) (outer : List Env) (s : Shared) (H : Hp) (args : Args) (us : List Value) (vs : List V) (Q : VK) (E : XK),
    A.guards = some [] → Room k A → Env0 P w K mg base A outer s H → BindsTo s fd args (ps.zip us) → Vals vs us → sp vs H Q E →
      codeAny (model P w) A (.call (.ref f) args) (CR CX outer P w H s Q E) s
end
end Ts


set_option Elab.async false
set_option linter.all false
set_option maxRecDepth 100000
set_option maxHeartbeats 2000000
namespace Ts
open PySem PySem.Spec PyProof.Rows L2
open Evl (Ex)

/-! ## data, with dicts -/
def keyD : Key → PyData
  | .inl n => .int n
  | .inr x => .str x
mutual
inductive D (H : Hp) : V → PyData → Prop
  | non : D H .non .none
  | bl (b : Bool) : D H (.bl b) (.bool b)
  | int (i : Int) : D H (.int i) (.int i)
  | str (x : Str) : D H (.str x) (.str x)
  | lst {a : Addr} {xs : List V} {ds : List PyData} : H a = some (.lst xs) → DAll H xs ds → D H (.ref a) (.list ds)
  | tup {a : Addr} {xs : List V} {ds : List PyData} : H a = some (.tup xs) → DAll H xs ds → D H (.ref a) (.tuple ds)
  | dic {a : Addr} {kvs : List (Key × V)} {ds : List (PyData × PyData)} : H a = some (.dK kvs) → DKv H kvs ds → D H (.ref a) (.dict ds)
inductive DAll (H : Hp) : List V → List PyData → Prop
  | nil : DAll H [] []
  | cons {v : V} {vs : List V} {d : PyData} {ds : List PyData} : D H v d → DAll H vs ds → DAll H (v :: vs) (d :: ds)
inductive DKv (H : Hp) : List (Key × V) → List (PyData × PyData) → Prop
  | nil : DKv H [] []
  | cons {k : Key} {v : V} {vs : List (Key × V)} {d : PyData} {ds : List (PyData × PyData)} : D H v d → DKv H vs ds → DKv H ((k, v) :: vs) ((keyD k, d) :: ds)
end
mutual
theorem D.ex {H H' : Hp} (e : Ex H H') : ∀ {v : V} {d : PyData}, D H v d → D H' v d
  | _, _, .non => .non
  | _, _, .bl b => .bl b
  | _, _, .int i => .int i
  | _, _, .str x => .str x
  | _, _, .lst h r => .lst (e _ _ h) (DAll.ex e r)
  | _, _, .tup h r => .tup (e _ _ h) (DAll.ex e r)
  | _, _, .dic h r => .dic (e _ _ h) (DKv.ex e r)
theorem DAll.ex {H H' : Hp} (e : Ex H H') : ∀ {v : List V} {d : List PyData}, DAll H v d → DAll H' v d
  | _, _, .nil => .nil
  | _, _, .cons h r => .cons (D.ex e h) (DAll.ex e r)
theorem DKv.ex {H H' : Hp} (e : Ex H H') : ∀ {v : List (Key × V)} {d : List (PyData × PyData)}, DKv H v d → DKv H' v d
  | _, _, .nil => .nil
  | _, _, .cons h r => .cons (D.ex e h) (DKv.ex e r)
end
theorem DAll.len {H : Hp} : ∀ {v : List V} {d : List PyData}, DAll H v d → v.length = d.length
  | _, _, .nil => rfl
  | _, _, .cons _ r => by rw [List.length_cons, List.length_cons, DAll.len r]
def tyD : PyData → String
  | .none => "NoneType" | .bool _ => "bool" | .int _ => "int" | .str _ => "str" | .list _ => "list" | .tuple _ => "tuple" | .dict _ => "dict"
theorem D.ty {K : PySem.W.Frag} {H : Hp} {v : V} {d : PyData} (h : D H v d) : TyX K H v (.type (tyD d)) := by
  cases h with
  | non => exact .base .non
  | bl b => exact .base (.bl b)
  | int i => exact .base (.int i)
  | str x => exact .base (.str x)
  | lst h _ => exact .base (.lst h)
  | tup h _ => exact .base (.tup h)
  | dic h _ => exact .base (.dK h)

/-! ## the text -/
def top (i : Nat) : Stmt := PySem.Challenge.pw_takeandsplit_k19_whole_least_papers.main.body.getD i (.Pass ⟨0, 0, 0, 0⟩)
/-- a def of the text that stands behind the top -/
structure FD (K : PySem.W.Frag) (mg : Str → Option Value) (x : Str) (q : Str) (st : Stmt) (f : Addr) (fd : FuncData) : Prop where
  F : Fun K x q st f fd
  g : mg x = some (.ref f)
structure Bl (mg : Str → Option Value) : Prop where
  list : mg "list" = none
  tuple : mg "tuple" = none
  int : mg "int" = none
  bool : mg "bool" = none
  dict : mg "dict" = none
  isinstance : mg "isinstance" = none
  len : mg "len" = none
  all : mg "all" = none
  range : mg "range" = none
  divmod : mg "divmod" = none
  zip : mg "zip" = none
  repr : mg "repr" = none

/-- a question about any data -/
def spAsk (p : PyData → Bool) : Sp := fun vs H Q _ => ∃ v d, vs = [v] ∧ D H v d ∧ ∀ H', Ex H H' → Q (.bl (p d)) H'
def isRow : PyData → Bool
  | .list _ => true | .tuple _ => true | _ => false
def isInt : PyData → Bool
  | .int _ => true | _ => false
def isNum : PyData → Bool
  | .int i => decide (0 ≤ i) | _ => false
def isHp : PyData → Bool
  | .int i => decide (1 ≤ i) && decide (i ≤ 1000000000000000000) | _ => false
def items : PyData → List PyData
  | .list l => l | .tuple l => l | _ => []
def isNums (d : PyData) : Bool := isRow d && (items d).all isNum

section
variable {P : Program} {w : World} {K : PySem.W.Frag} {mg : Str → Option Value} {base : Heap}
abbrev s_is_row := top 9
abbrev s_is_integer := top 10
abbrev s_is_number := top 11
abbrev s_is_numbers := top 13

theorem kit_row (d : PyData) : PySem.W.kitAny K (.type (tyD d)) [.type "list", .type "tuple"] = some (isRow d) := by
  cases d <;> first | rfl | decide +kernel
theorem kit_int (d : PyData) : PySem.W.kitOne K (.type (tyD d)) (.type "int") = some (match d with | .int _ => true | .bool _ => true | _ => false) := by
  cases d <;> first | rfl | decide +kernel
theorem kit_bool (d : PyData) : PySem.W.kitOne K (.type (tyD d)) (.type "bool") = some (match d with | .bool _ => true | _ => false) := by
  cases d <;> first | rfl | decide +kernel

theorem sc_is_row : FnScope ["thing"] ["thing"] (defScope s_is_row) := ⟨rfl, rfl, rfl, by decide +kernel, rfl, by decide +kernel, by decide +kernel⟩
theorem ok_is_row {f : Addr} {fd : FuncData} (F : FD K mg "is_row" "is_row" s_is_row f fd) (T : Bl mg) : FnOk P w K mg base CX0 1 f fd ["thing"] (spAsk isRow) := by
  refine F.F.ok sc_is_row (fun vs H Q E h => ?_) (fun cdv A outer s H vs Q E hr h => ?_)
  · obtain ⟨v, d, rfl, _⟩ := h
    rfl
  · obtain ⟨v, d, rfl, hd, k⟩ := h
    refine ⟨_, pss_one (ps_ret (pe_callB call_isiT (by rfl) T.isinstance (by decide +kernel) (pa_cons (pv 0) (pa_cons (pe_tup (pa_cons (pe_bltn (v := .ty "list") (by rfl) T.list PyProof.Rows.boot_list rfl) (pa_cons (pe_bltn (v := .ty "tuple") (by rfl) T.tuple PyProof.Rows.boot_tuple rfl) pa_nil))) pa_nil)))), ?_⟩
    refine ⟨_, rfl, by decide, fun p np => ?_⟩
    exact ⟨_, p, _, _, _, _, rfl, upd_same, .cons (.ty "list") (.cons (.ty "tuple") .nil), (hd.ex (Ex.new np)).ty, kit_row d, k _ (Ex.new np)⟩

theorem sc_is_integer : FnScope ["thing"] ["thing"] (defScope s_is_integer) := ⟨rfl, rfl, rfl, by decide +kernel, rfl, by decide +kernel, by decide +kernel⟩
theorem ok_is_integer {f : Addr} {fd : FuncData} (F : FD K mg "is_integer" "is_integer" s_is_integer f fd) (T : Bl mg) : FnOk P w K mg base CX0 1 f fd ["thing"] (spAsk isInt) := by
  refine F.F.ok sc_is_integer (fun vs H Q E h => ?_) (fun cdv A outer s H vs Q E hr h => ?_)
  · obtain ⟨v, d, rfl, _⟩ := h
    rfl
  · obtain ⟨v, d, rfl, hd, k⟩ := h
    refine ⟨_, pss_one (ps_ret (pe_and (pe_callB call_isi (by rfl) T.isinstance (by decide +kernel) (pa_cons (pv 0) (pa_cons (pe_bltn (v := .ty "int") (by rfl) T.int PyProof.Rows.boot_int rfl) pa_nil))) (pe_one (pe_not (pe_callB call_isi (by rfl) T.isinstance (by decide +kernel) (pa_cons (pv 0) (pa_cons (pe_bltn (v := .ty "bool") (by rfl) T.bool (by decide +kernel) rfl) pa_nil))))))), ?_⟩
    refine ⟨_, rfl, _, _, _, _, _, rfl, .ty "int", hd.ty, kit_int d, _, rfl, ?_⟩
    have k0 := k H (Ex.refl H)
    cases d <;> first
      | exact k0
      | exact ⟨_, rfl, _, _, _, _, _, rfl, .ty "bool", hd.ty, kit_bool _, _, rfl, k0⟩
end
end Ts


set_option Elab.async false
set_option linter.all false
set_option maxRecDepth 100000
set_option maxHeartbeats 2000000
namespace Ts
open PySem PySem.Spec PyProof.Rows L2
open Evl (Ex)
/-! ## errors with one field -/
/-- self.f = e, where a name says what f is -/
def iniSt (f : Str) (q : List Pos) (sc : Scope) : Stmt :=
  let p := fun i => q.getD i ⟨0, 0, 0, 0⟩
  .FunctionDef "__init__" { posonlyargs := [], args := [{ arg := "self", annotation := none, pos := p 0 }, { arg := f, annotation := none, pos := p 1 }], vararg := none, kwonlyargs := [], kw_defaults := [], kwarg := none, defaults := [] }
    [.Assign [.Attribute (.Name "self" (p 2)) f (p 3)] (.Name f (p 4)) (p 5)] [] none [] sc none "__init__" (p 6)
/-- the class x at C with one field f that its __init__ at g stores -/
structure XC (K : PySem.W.Frag) (mg : Str → Option Value) (x f : Str) (C g : Addr) : Prop where
  o : OexC K C
  gC : mg x = some (.ref C)
  iC : PySem.W.findIn K (.ref C) "__init__" = some (some (.ref g))
  tI : PySem.W.typeIn K (.ref g) = some (.type "function")
  nF : PySem.W.findIn K (.ref C) f = some none
  xf : XfC K C
def spIni (C : Addr) (f : Str) : Sp := fun vs H Q _ => ∃ (a : Addr) (y : V), vs = [.ref a, y] ∧ H a = some (exo a C none) ∧
  ∀ dx, H dx = none → dx ≠ a → Q .non (upd (upd H dx (exd dx [(f, y)])) a (exo a C (some dx)))
/-- what a raised error of one field leaves -/
def Raised (H : Hp) (f : Str) (y : V) (C : Addr) (E : XK) : Prop := ∀ d H', Ex H H' → H d = none → H' d = some (.xd [(f, y)]) → E (.ref C) (some d) H'
section
variable {P : Program} {w : World} {K : PySem.W.Frag} {mg : Str → Option Value} {base : Heap}
abbrev i_thing (i : Nat) : Stmt := inClass (top i) 0
theorem sc_ini (i : Nat) (h : i = 2 ∨ i = 3 ∨ i = 4 ∨ i = 5 ∨ i = 6) : FnScope ["self", "thing"] ["self", "thing"] (defScope (i_thing i)) := by
  rcases h with rfl | rfl | rfl | rfl | rfl <;> exact ⟨rfl, rfl, rfl, by decide +kernel, rfl, by decide +kernel, by decide +kernel⟩
theorem ok_ini (i : Nat) (h : i = 2 ∨ i = 3 ∨ i = 4 ∨ i = 5 ∨ i = 6) {q : Str} {x : Str} {C g : Addr} {fd : FuncData} (F : Fun K "__init__" q (i_thing i) g fd) (T : XC K mg x "thing" C g) : FnOk P w K mg base CX0 1 g fd ["self", "thing"] (spIni C "thing") := by
  refine F.ok (sc_ini i h) (fun vs H Q E h => ?_) (fun cdv A outer s H vs Q E hr hh => ?_)
  · obtain ⟨a, y, rfl, _⟩ := h
    rfl
  · obtain ⟨a, y, rfl, ha, k⟩ := hh
    rcases h with rfl | rfl | rfl | rfl | rfl <;>
      exact ⟨_, pss_one (ps_ost (pv 0) (pv 1)), _, rfl, _, rfl, a, C, rfl, T.o, T.nF, .inl ⟨ha, fun dx n1 n2 => k dx n1 n2⟩⟩
/-- raise x(e): the reading behind e -/
theorem raise1 {f : Str} {y : V} {C : Addr} {H1 : Hp} {Q : XK} (h : Raised H1 f y C Q) : [y].length ≤ 1000 ∧ ∀ a, H1 a = none → spIni C f (.ref a :: ([y] ++ [])) (upd H1 a (exo a C none))
    (fun v H2 => v = .non ∧ ∃ (d : Addr) (fs : List (Str × V)), H2 a = some (exo a C (some d)) ∧ H2 d = some (exd d fs) ∧ H1 d = none ∧ Q (.ref C) (some d) (upd (del H2 a) d (.xd fs))) (fun _ _ _ => False) := by
  refine ⟨by show 1 ≤ 1000; decide, fun a na => ⟨a, y, rfl, upd_same, fun dx nd ne => ⟨rfl, dx, _, upd_same, (upd_ne ne).trans upd_same, ?_, ?_⟩⟩⟩
  · rw [upd_ne ne] at nd
    exact nd
  · rw [upd_ne ne] at nd
    refine h dx _ (fun b o e => ?_) nd upd_same
    have n1 : b ≠ dx := ne_of_none e nd
    have n2 : b ≠ a := ne_of_none e na
    rw [upd_ne n1, del_ne n2, upd_ne n2, upd_ne n1, upd_ne n2]
    exact e
theorem ps_raise1 {X : Cx} {W : WX} {x f : Str} {C g : Addr} {fd : FuncData} {k : Nat} {e : Expr} {te : TE} {p pos pos2 : Pos} (hc : X.calm = true) (tk : Takes X W) (T : XC X.K X.mg x f C g) (F1 : FnOk X.prog X.w X.K X.mg X.base CX0 k g fd ["self", f] (spIni C f))
    (hb : Binds X.K fd ["self", f] []) (hr : Room (k + 1) X.A) (hg : Gl X x) (he : PE X e te)
    (hdb : (x == ("__debug__" : Str)) = false := by decide) (hs : starEach [e] X.env = (false, eval e X.env) :: starEach [] X.env := by rfl) :
    PS X (.Raise (some (.Call (.Name x p) [e] [] pos)) none pos2) (fun _ σ H => tMkO C (spIni C f) [] (tCons te tNil) σ H fun cls d H' => W cls d σ H') :=
  ps_raise (pos := pos2) hc tk (pmk_oex (p := p) (pos := pos) T.o T.iC T.tI F1 hr hb .nil pass0 hg T.gC (pa_cons he pa_nil hs) hdb hs (by rfl))
end
end Ts


set_option Elab.async false
set_option linter.all false
set_option maxRecDepth 100000
set_option maxHeartbeats 2000000
namespace Ts
open PySem PySem.Spec L2
open Evl (Ex)
/-! ## rows: a list or a tuple -/
def Row (H : Hp) (a : Addr) (xs : List V) : Prop := H a = some (.lst xs) ∨ H a = some (.tup xs)
theorem Row.ex {H H' : Hp} (e : Ex H H') {a : Addr} {xs : List V} (h : Row H a xs) : Row H' a xs := h.imp (e _ _) (e _ _)
theorem Row.ty {K : PySem.W.Frag} {H : Hp} {a : Addr} {xs : List V} (h : Row H a xs) : ∃ s, TyX K H (.ref a) (.type s) ∧ (s = "list" ∨ s = "tuple") := by
  rcases h with h | h
  · exact ⟨_, .base (.lst h), .inl rfl⟩
  · exact ⟨_, .base (.tup h), .inr rfl⟩
theorem Row.sq {K : PySem.W.Frag} {H : Hp} {a : Addr} {xs : List V} (h : Row H a xs) : SqL K H a xs ∨ SqT K H a xs := h.imp SqL.of SqT.of
section
variable {X : Cx}
def gOr (t u : TG) : TG := fun v σ H Q => t v σ H Q ∨ u v σ H Q
theorem pg_or {tg : Expr} {t u : TG} (h1 : PG X tg t) (h2 : PG X tg u) : PG X tg (gOr t u) :=
  ⟨fun pins s σ H v w Q I r h => h.elim (fun h => h1.run pins s σ H v w Q I r h) fun h => h2.run pins s σ H v w Q I r h⟩
def iOr (t u : TI) : TI := fun σ H R => t σ H R ∨ u σ H R
theorem pi_or {tg it : Expr} {t u : TI} (h1 : PI X tg it t) (h2 : PI X tg it u) : PI X tg it (iOr t u) :=
  ⟨fun pins s σ H R I h => h.elim (fun h => h1.run pins s σ H R I h) fun h => h2.run pins s σ H R I h⟩
theorem passF {P : Program} {w : World} (hp : X.prog = P) (hw : X.w = w) : Passes (L2.CX P w) X (fun _ _ _ => False) := fun pins σ H s e s' I h => by
  obtain ⟨_, _, _, _, _, _, _, _, _, _, _, _, z⟩ := h
  exact z.elim
end
/-! ## a comprehension that only makes things -/
theorem lc_pure {J : It} {n : Nat} {G : Hp → Prop} {Y : Nat → Hp → V → Hp → Prop} (w : Walk J n G Y) {g : TG} {te : TE} {vs : List Nat} {σ : St} {H1 : Hp} {out : Nat → V} {Q : VK} (hz : n ≤ sizeLine)
    (hG : ∀ H, Ex H1 H → G H)
    (hs : ∀ i x H H', i < n → Ex H1 H → Y i H x H' → Ex H H' ∧ g x (wipe σ vs) H' fun σ2 H2 => wipe σ2 vs = wipe σ vs ∧ Ex H' H2 ∧ ∀ q : VK, (∀ H4, Ex H2 H4 → q (out i) H4) → te σ2 H2 q)
    (hgm : ∀ (x : V) (H : Hp) (q q' : St → Hp → Prop), (∀ σ2 H2, q σ2 H2 → q' σ2 H2) → g x (wipe σ vs) H q → g x (wipe σ vs) H q')
    (hq : ∀ D Hf, H1 D = none → Ex H1 Hf → Hf D = some (.lst ((List.range n).map out)) → Q (.ref D) Hf) :
    ∀ D, H1 D = none → ∃ W : Nat → Nat → Hp → Prop, (∃ m, W 0 m (upd H1 D (.lst []))) ∧ ∀ i m H, W i m H →
      (J.stop i H ∧ Q (.ref D) H) ∨ (J.go i H ∧ ∃ Nx : Hp → Prop, (∀ H', Nx H' → ∃ m', m' < m ∧ W (i + 1) m' H') ∧ ∀ x H', J.yld i H x H' → g x (wipe σ vs) H' fun σ2 H2 => wipe σ2 vs = wipe σ vs ∧ tYes σ2 H2 fun b H3 =>
        if b = true then te σ2 H3 fun y H4 => ∃ acc, H4 D = some (.lst acc) ∧ acc.length < sizeLine ∧ Nx (upd H4 D (.lst (acc ++ [y]))) else Nx H3) := by
  intro D hD
  refine lc_it w (Pv := fun i H => Ex H1 H ∧ H D = some (.lst ((List.range i).map out))) ⟨Ex.new hD, upd_same⟩ (fun i H _ p => hG H p.1) ?_ (fun H p => hq D H hD p.1 p.2)
  intro i x H H' hi ⟨e, hd⟩ y
  obtain ⟨e2, h⟩ := hs i x H H' hi e y
  refine hgm x H' _ _ (fun σ2 H2 ⟨h1, e3, h3⟩ => ⟨h1, ?_⟩) h
  unfold tYes
  dsimp only
  rw [if_pos rfl]
  refine h3 _ fun H4 e4 => ?_
  have hd4 : H4 D = some (.lst ((List.range i).map out)) := e4 _ _ (e3 _ _ (e2 _ _ hd))
  refine ⟨_, hd4, ?_, ?_, ?_⟩
  · rw [List.length_map, List.length_range]
    omega
  · exact ((e.trans e2).trans (e3.trans e4)).mut hD
  · rw [upd_same, List.range_succ, List.map_append]
    rfl
theorem g_name_mono {j : Nat} {x : V} {σ : St} {H : Hp} {q q' : St → Hp → Prop} (h : ∀ σ2 H2, q σ2 H2 → q' σ2 H2) (z : gName j x σ H q) : gName j x σ H q' := h _ _ z

section
variable {P : Program} {w : World} {K : PySem.W.Frag} {mg : Str → Option Value} {base : Heap}
abbrev F1 {f : Addr} {fd : FuncData} {x q : Str} {st : Stmt} {p : Str} (F : Fun K x q st f fd) (h : ∀ (kV doc pm : Value) (an : Option Addr) (cdv ct : Value) (us : List Value), us.length = [p].length → bindArgs (PySem.W.fnOf x q (defArgs st) (defBody st) (defScope st) .none kV doc pm an cdv ct) ⟨us, []⟩ = pure ([p].zip us)) : Binds K fd [p] [] := F.binds h
theorem b_is_row {f : Addr} {fd : FuncData} (F : FD K mg "is_row" "is_row" s_is_row f fd) : Binds K fd ["thing"] [] := F.F.binds fun _ _ _ _ _ _ us hl => match us, hl with | [_], _ => rfl
theorem b_is_integer {f : Addr} {fd : FuncData} (F : FD K mg "is_integer" "is_integer" s_is_integer f fd) : Binds K fd ["thing"] [] := F.F.binds fun _ _ _ _ _ _ us hl => match us, hl with | [_], _ => rfl
theorem b_is_number {f : Addr} {fd : FuncData} (F : FD K mg "is_number" "is_number" s_is_number f fd) : Binds K fd ["thing"] [] := F.F.binds fun _ _ _ _ _ _ us hl => match us, hl with | [_], _ => rfl

theorem sc_is_number : FnScope ["thing"] ["thing"] (defScope s_is_number) := ⟨rfl, rfl, rfl, by decide +kernel, rfl, by decide +kernel, by decide +kernel⟩
theorem ok_is_number {f f1 : Addr} {fd fd1 : FuncData} (F : FD K mg "is_number" "is_number" s_is_number f fd) (F1 : FD K mg "is_integer" "is_integer" s_is_integer f1 fd1) (T : Bl mg) : FnOk P w K mg base CX0 2 f fd ["thing"] (spAsk isNum) := by
  have G1 : FnOk P w K mg base CX0 1 f1 fd1 ["thing"] (spAsk isInt) := ok_is_integer F1 T
  refine F.F.ok sc_is_number (fun vs H Q E h => ?_) (fun cdv A outer s H vs Q E hr h => ?_)
  · obtain ⟨v, d, rfl, _⟩ := h
    rfl
  · obtain ⟨v, d, rfl, hd, k⟩ := h
    refine ⟨_, pss_one (ps_ret (pe_and (pe_call G1 hr (by rfl) F1.g F1.F.kp (b_is_integer F1) .nil pass0 (pa_cons (pv 0) pa_nil)) (pe_one (pe_cmpR op_ge (pv 0) pe_int (nomark _))))), ?_⟩
    refine ⟨_, rfl, v, d, rfl, hd, fun H' e => ⟨_, rfl, ?_⟩⟩
    have k0 := k H' e
    cases hd <;> first
      | exact k0
      | skip
    rename_i i
    refine iteT ⟨_, rfl, _, _, rfl, rfl, ?_⟩
    exact k0
theorem sc_is_numbers : FnScope ["thing"] ["thing"] (defScope s_is_numbers) := ⟨rfl, rfl, rfl, by decide +kernel, rfl, by decide +kernel, by decide +kernel⟩
end
end Ts


set_option Elab.async false
set_option linter.all false
set_option maxRecDepth 100000
set_option maxHeartbeats 2000000
namespace Ts
open PySem PySem.Spec L2
open Evl (Ex)
theorem DAll.get {H : Hp} : ∀ {vs : List V} {ds : List PyData} {i : Nat} {x : V}, DAll H vs ds → vs[i]? = some x → ∃ d, ds[i]? = some d ∧ D H x d
  | _, _, _, _, .nil, e => by simp at e
  | _, _, 0, _, .cons h _, e => by
    have e' : _ = _ := Option.some.inj e
    subst e'
    exact ⟨_, rfl, h⟩
  | _, _, i + 1, _, .cons _ r, e => DAll.get (i := i) r e
/-- a list, or a tuple -/
def mk (k : Bool) (l : List PyData) : PyData := if k = true then .list l else .tuple l
theorem mk_row (k : Bool) (l : List PyData) : isRow (mk k l) = true := by cases k <;> rfl
theorem mk_items (k : Bool) (l : List PyData) : items (mk k l) = l := by cases k <;> rfl
theorem D.row {H : Hp} {v : V} {d : PyData} (h : D H v d) (hr : isRow d = true) : ∃ a xs, v = .ref a ∧ Row H a xs ∧ DAll H xs (items d) := by
  cases h with
  | lst h r => exact ⟨_, _, rfl, .inl h, r⟩
  | tup h r => exact ⟨_, _, rfl, .inr h, r⟩
  | non => cases hr
  | bl b => cases hr
  | int i => cases hr
  | str x => cases hr
  | dic h r => cases hr
theorem g_row {K : PySem.W.Frag} {H : Hp} {a : Addr} {xs : List V} {n : Nat} {t : TGs} {σ : L2.St} {Q : L2.St → Hp → Prop} (h : Row H a xs) (hn : xs.length = n) (q : t xs σ H Q) : gOr (gTup K n t) (gUnl K n t) (.ref a) σ H Q := by
  rcases h with h | h
  · exact .inr ⟨a, xs, rfl, SqL.of h, hn, q⟩
  · exact .inl ⟨a, xs, rfl, SqT.of h, hn, q⟩
theorem ix_row {K : PySem.W.Frag} {H : Hp} {a : Addr} {xs : List V} {i : Int} {v : V} {Q : VK} (h : Row H a xs) (hi : atI xs i = some v) (q : Q v H) : rIx K (.ref a) (.int i) H Q := by
  rcases h with h | h
  · exact .inl ⟨a, xs, i, v, rfl, rfl, SqL.of h, hi, q⟩
  · exact .inr (.inl ⟨a, xs, i, v, rfl, rfl, SqT.of h, hi, q⟩)
/-- a comprehension over the row in slot i, pure -/
theorem lc_row {K : PySem.W.Frag} {i : Nat} {g : TG} {te : TE} {vs : List Nat} {σ : L2.St} {H : Hp} {a : Addr} {xs : List V} {out : Nat → V} {Q : VK} (hσ : σ[i]? = some (some (.ref a))) (hr : Row H a xs) (hz : xs.length ≤ sizeLine)
    (hs : ∀ j x H1, xs[j]? = some x → Ex H H1 → g x (wipe σ vs) H1 fun σ2 H2 => wipe σ2 vs = wipe σ vs ∧ Ex H1 H2 ∧ ∀ q : VK, (∀ H4, Ex H2 H4 → q (out j) H4) → te σ2 H2 q)
    (hgm : ∀ (x : V) (H : Hp) (q q' : L2.St → Hp → Prop), (∀ σ2 H2, q σ2 H2 → q' σ2 H2) → g x (wipe σ vs) H q → g x (wipe σ vs) H q')
    (hq : ∀ D Hf, H D = none → Ex H Hf → Hf D = some (.lst ((List.range xs.length).map out)) → Q (.ref D) Hf) :
    tLc (iOr (iList K (tVar i)) (iTup K (tVar i))) g tYes te vs σ H Q := by
  rcases hr with h | h
  · refine .inl ⟨_, hσ, a, rfl, ⟨xs, SqL.of h⟩, lc_pure (walk_list (xs := xs)) hz (fun H' e => SqL.of (e _ _ h)) (fun j x H1 H2 hj e y => ?_) hgm hq⟩
    obtain ⟨rfl, hx⟩ := y
    exact ⟨Ex.refl _, hs j x H2 hx e⟩
  · refine .inr ⟨_, hσ, a, rfl, ⟨xs, SqT.of h⟩, lc_pure (walk_tup (xs := xs)) hz (fun H' e => SqT.of (e _ _ h)) (fun j x H1 H2 hj e y => ?_) hgm hq⟩
    obtain ⟨rfl, hx⟩ := y
    exact ⟨Ex.refl _, hs j x H2 hx e⟩
theorem map_getD {α β : Type} (f : α → β) (d : α) : ∀ l : List α, (List.range l.length).map (fun i => f (l.getD i d)) = l.map f := by
  intro l
  apply List.ext_getElem?
  intro i
  rw [List.getElem?_map, List.getElem?_map]
  by_cases h : i < l.length
  · rw [List.getElem?_range h]
    simp [List.getD, h]
  · rw [List.getElem?_eq_none (by simpa using h), List.getElem?_eq_none (by omega)]
    rfl
theorem getD_of {α : Type} {l : List α} {i : Nat} {x d : α} (h : l[i]? = some x) : l.getD i d = x := by
  rw [List.getD, h]
  rfl
theorem all_id {α : Type} (f : α → Bool) (l : List α) : (l.map f).all id = l.all f := by
  rw [List.all_map]
  rfl

section
variable {P : Program} {w : World} {K : PySem.W.Frag} {mg : Str → Option Value} {base : Heap}
/-- what is asked of a thing: it is so, or it is refused -/
def spNeed (p : PyData → Bool) (C : Addr) : Sp := fun vs H Q E => ∃ v d, vs = [v] ∧ D H v d ∧ (p d = true → ∀ H', Ex H H' → Q .non H') ∧ (p d = false → ∀ H', Ex H H' → Raised H' "thing" v C E)
end
end Ts


set_option Elab.async false
set_option linter.all false
set_option maxRecDepth 100000
set_option maxHeartbeats 4000000
/-! ## enumerate of a tuple -/
namespace PySem
open Sem (wp)
open AutoSeq1 (wpAny_loadPart')
theorem made_enum_tuple (q : Addr) (its : Array Value) (m : Nat) (dct : Option Addr) (sl : Array (Option Value)) :
    Meets (Builtin.«enumerate.__new__» ⟨[.type "enumerate", .ref q], []⟩) (fun _ R s => s.heap.get? q = some { cls := .type "tuple", dict := dct, data := .seq its m, slots := sl } ∧
      R (.ok (.ret (.ref (s.heap.push { cls := .type "tuple_iterator", data := .fields #[.ref q, .int 0 0] }).objs.size)))
        { s with heap := (s.heap.push { cls := .type "tuple_iterator", data := .fields #[.ref q, .int 0 0] }).push { cls := .type "enumerate", data := .fields #[.none, .bool false, .ref s.heap.objs.size, rawInt 0, .none, .none] } }) :=
  .of_wp fun prog w A R s z => by
    obtain ⟨hp, g, d, tk, os⟩ := s
    obtain ⟨hq, z⟩ := z
    have subE := sub_enumerate
    have isT : Heap.IsTuple (Shared.heap ⟨hp, g, d, tk, os⟩) q its := ⟨_, hq, rfl, m, rfl⟩
    wp_walk using wpAny_loadPart' hq
    refine wpAny_stack_any fun st => wpAny_pure ?_
    split
    · rename_i c _ _ _ _ _
      cases (c == Value.type "enumerate")
      · wp_walk using wpAny_loadPart' hq, wpAny_pyIter_tuple isT
        exact ⟨_, rfl, z⟩
      · wp_walk using wpAny_loadPart' hq, wpAny_pyIter_tuple isT
        exact ⟨_, rfl, z⟩
    · wp_walk using wpAny_loadPart' hq, wpAny_pyIter_tuple isT
      exact ⟨_, rfl, z⟩
section
variable {prog : Program} {w : World} {A : Around} {E : Value → Shared → Prop} {s : Shared}
theorem call_enum_tuple {q : Addr} {its : Array Value} {Q : Value → Shared → Prop} (hT : s.heap.IsTuple q its)
    (k : ∀ h', IsEnum h' (s.heap.objs.size + 1) s.heap.objs.size 0 .none → h'.IsTupleIter s.heap.objs.size q 0 → (∀ b o, s.heap.get? b = some o → h'.get? b = some o) → Q (.ref (s.heap.objs.size + 1)) { s with heap := h' }) :
    wpAny (model prog w) A (call (.type "enumerate") [.ref q]) Q E s := by
  obtain ⟨⟨c, dct, dt, sl⟩, hq, hc, m, hd⟩ := hT
  have hc : c = .type "tuple" := hc
  have hd : dt = .seq its m := hd
  subst hc hd
  refine callType_new F.called_enumerate (by decide) (F.typeCall_enumerate_1 _) (F.newCall_enumerate_1 _) (fun ob => F.args_object_init_2 ob _) F.entry_enumerate_new (made_enum_tuple q its m dct sl) ⟨hq, ?_⟩
  have sz : (s.heap.push { cls := .type "tuple_iterator", data := .fields #[.ref q, .int 0 0] }).objs.size = s.heap.objs.size + 1 := Heap.size_push ..
  show _ ∧ _
  rw [sz]
  have ie : IsEnum ((s.heap.push { cls := .type "tuple_iterator", data := .fields #[.ref q, .int 0 0] }).push
      { cls := .type "enumerate", data := .fields #[.none, .bool false, .ref s.heap.objs.size, rawInt 0, .none, .none] }) (s.heap.objs.size + 1) s.heap.objs.size 0 .none := by
    have z := Heap.get?_push_size (s.heap.push { cls := .type "tuple_iterator", data := .fields #[.ref q, .int 0 0] })
      (o := { cls := .type "enumerate", data := .fields #[.none, .bool false, .ref s.heap.objs.size, rawInt 0, .none, .none] }) rfl
    rw [sz] at z
    exact z
  exact ⟨⟨_, ie, rfl⟩, k _ ie ⟨_, Heap.get?_push_of_some _ (Heap.get?_push_size _ rfl), rfl, rfl⟩ fun b o x => Heap.get?_push_of_some _ (Heap.get?_push_of_some _ x)⟩
end
end PySem
namespace Ts
open PySem PySem.Spec PyProof.Rows L2
open Evl (Ex)
/-- the tuple at a: pairs of index and item, in new tuples -/
def ItE (K : PySem.W.Frag) (a : Addr) : It :=
  ⟨fun i H => ∃ (xs : List V) (x : V), SqT K H a xs ∧ xs[i]? = some x, fun i H v H' => ∃ T x, v = .ref T ∧ H T = none ∧ H' = upd H T (.tup [.int (i : Nat), x]) ∧ ∀ xs, SqT K H a xs → xs[i]? = some x,
    fun i H => ∃ xs : List V, SqT K H a xs ∧ xs.length = i⟩
theorem turn_enumE {P : Program} {w : World} {K : PySem.W.Frag} {elts : List Expr} {kk : Nat} {tpos : Pos} (a e it : Addr) :
    Turn P w K (.Tuple elts kk tpos) (ItE K a) [e, it] e (fun i h => (∃ old, IsEnum h e it ((i : Nat) : Int) old) ∧ h.IsTupleIter it a i ∧ e ≠ it) where
  mem := by simp
  obj := fun i h st b hb => by
    obtain ⟨⟨old, ie⟩, ⟨o, ho, hc, hd⟩, _⟩ := st
    have eb : b = e ∨ b = it := by simpa using hb
    rcases eb with rfl | rfl
    · exact ⟨_, ie, fun v q => nomatch q⟩
    · exact ⟨o, ho, fun v q => by rw [hd] at q; cases q⟩
  keep := fun i h h' ⟨⟨old, ie⟩, hi, ne⟩ k => ⟨⟨old, k e (by simp) _ ie⟩, hi.at fun o q => k it (by simp) o q, ne⟩
  item := by
    intro X hP hw hK hc i pins s σ H E I hf st hg
    subst hP hw hK
    obtain ⟨⟨old, ie⟩, hit, ne⟩ := st
    obtain ⟨xs, x, hq, hx⟩ := hg
    obtain ⟨its, rv, pt, hz⟩ := I.tuple hq
    obtain ⟨u, hu, ru⟩ := rv.get hx
    have tup : s.heap.IsTuple a its.toArray := pt
    have lte : e < s.heap.objs.size := Heap.lt_size ie
    have lti : it < s.heap.objs.size := by
      obtain ⟨_, q, _⟩ := hit
      exact Heap.lt_size q
    have nea : e ≠ a := fun z => by
      obtain ⟨o, q1, q2, _⟩ := tup
      rw [← z, ie] at q1
      cases q1
      exact absurd (Value.type.inj q2) (by decide)
    have nia : a ≠ it := fun z => by
      obtain ⟨o, q1, q2, _⟩ := tup
      obtain ⟨o', p1, p2, _⟩ := hit
      rw [z, p1] at q1
      cases q1
      rw [p2] at q2
      exact absurd (Value.type.inj q2) (by decide)
    have hi : i < its.toArray.size := by
      have := (List.getElem?_eq_some_iff.mp hu).1
      simpa using this
    refine wpAny_pyNext_enum_itemD (Draws.tuple (A := X.A.in1) (I.ok.hd hc) it a nia its.toArray) ie ⟨hit, tup⟩ hi ne (by simp [ne, nea]) fun v h' tk hv ho hst hT hsz hk => ?_
    obtain rfl : v = u := by
      have z : its.toArray[i]? = some v := hv
      rw [List.getElem?_toArray, hu] at z
      exact (Option.some.inj z).symm
    refine ⟨_, rfl, wpAny_letOwnedTupleGo_enum (s := { s with heap := h', toks := tk + 1 }) ho fun g he' sb => ?_⟩
    have hT2 : g.get? s.heap.objs.size = some { cls := .type "tuple", data := .seq #[.int i tk, v] } := (sb.2 _ (Nat.ne_of_gt lte)).trans hT
    have new : ObjOk X.prog X.w (upd H s.heap.objs.size (.tup [.int (i : Nat), x])) g s.heap.objs.size (.tup [.int (i : Nat), x]) := ⟨by show 2 ≤ sizeLine; decide, [.int i tk, v], .cons ⟨_, rfl⟩ (.cons ru .nil), ⟨_, hT2, rfl, _, rfl⟩⟩
    have J : Inv X pins σ (upd H s.heap.objs.size (.tup [.int (i : Nat), x])) { s with heap := g, toks := tk + 1 } :=
      I.turnedNew (ch := [e, it]) (fun b ob hb q => by
        have n1 : b ≠ e := fun z => hb (by simp [z])
        have n2 : b ≠ it := fun z => hb (by simp [z])
        exact (sb.2 b n1).trans (hk b ob n1 n2 q)) hf (Nat.le_refl _) new
    refine ⟨.ref s.heap.objs.size, _, J, rfl, ⟨_, x, rfl, I.hok.fresh (Nat.le_refl _), rfl, fun ys hy => by rw [I.tuple_inj hy hq]; exact hx⟩, ⟨⟨v, ?_⟩, hst.1.at fun o q => (sb.2 it (Ne.symm ne)).trans q, ne⟩, fun b hb => ?_⟩
    · have e1 : ((i + 1 : Nat) : Int) = (i : Int) + 1 := by omega
      rw [e1]
      exact he'
    · have hb' : b < s.heap.objs.size := by
        have eb : b = e ∨ b = it := by simpa using hb
        rcases eb with rfl | rfl
        · exact lte
        · exact lti
      rw [upd_ne (Nat.ne_of_lt hb')]
      exact (hf b hb).1
  done := by
    intro X hP hw hK hc i pins s σ H E I hf st hg
    subst hP hw hK
    obtain ⟨⟨old, ie⟩, hit, ne⟩ := st
    obtain ⟨xs, hq, hx⟩ := hg
    obtain ⟨its, rv, pt, hz⟩ := I.tuple hq
    have tup : s.heap.IsTuple a its.toArray := pt
    have nia : a ≠ it := fun z => by
      obtain ⟨o, q1, q2, _⟩ := tup
      obtain ⟨o', p1, p2, _⟩ := hit
      rw [z, p1] at q1
      cases q1
      rw [p2] at q2
      exact absurd (Value.type.inj q2) (by decide)
    obtain ⟨f0, f1, f2, f3, f4, f5⟩ := hf it (by simp)
    have hl := rv.length
    have en : i = its.toArray.size := by
      rw [List.size_toArray]
      omega
    subst en
    exact wpAny_pyNext_enum_endD (Draws.tuple (A := X.A.in1) (I.ok.hd hc) it a nia its.toArray) ie ⟨hit, tup⟩ fun h' eb => ⟨rfl, I.turned (t' := s.toks) (fun b o hb q => eb b o hb q) f0 f1 f3 f4 f5⟩
  self := fun A i s Q E ⟨⟨_, ie⟩, _⟩ k => wpAny_pyIter_enum ie k
def iEnT (K : PySem.W.Frag) (ta : TA) : TI := fun σ H R => ta σ H fun vs H1 => ∃ a xs, vs = [.ref a] ∧ SqT K H1 a xs ∧ R (ItE K a) H1
theorem pi_enumT {X : Cx} {e : Expr} {ta : TA} {p pos tpos : Pos} {elts : List Expr} {kk : Nat} (hg : Gl X "enumerate") (hm : X.mg "enumerate" = none) (ha : PA X [e] ta) (hs : starEach [e] X.env = [(false, eval e X.env)] := by rfl) :
    PI X (.Tuple elts kk tpos) (.Call (.Name "enumerate" p) [e] [] pos) (iEnT X.K ta) := by
  refine ⟨fun pins s σ H R I h => ?_⟩
  refine Call_ (ld_blt I hg hm boot_enumerate (PyProof.Rows.callWith_type1 (thn (ha.run pos pins s σ H _ I h) fun us s1 z => ?_) hs rfl))
  obtain ⟨vs, H1, I1, r1, a, xs, rfl, hq, q⟩ := z
  obtain rfl := Vals.ref1 r1
  obtain ⟨its, rv, pt, hz⟩ := I1.tuple hq
  refine call_enum_tuple (show s1.heap.IsTuple a its.toArray from pt) fun h' ie hit hk => wpAny_pyIter_enum ie ?_
  have I2 : Inv X pins σ H1 { s1 with heap := h' } := I1.kept (t' := s1.toks) hk
  refine ⟨s1.heap.objs.size + 1, [s1.heap.objs.size + 1, s1.heap.objs.size], _, _, H1, rfl, I2, turn_enumE a (s1.heap.objs.size + 1) s1.heap.objs.size, ⟨⟨.none, ie⟩, hit, Nat.succ_ne_self _⟩, fun b hb => ?_, q⟩
  have hle : s1.heap.objs.size ≤ b := by
    have eb : b = s1.heap.objs.size + 1 ∨ b = s1.heap.objs.size := by simpa using hb
    rcases eb with z | z
    · rw [z]
      exact Nat.le_succ _
    · rw [z]
      exact Nat.le_refl _
  exact I1.fpOk hle (I1.hok.fresh hle)
end Ts
namespace Ts
open PySem PySem.Spec L2
open Evl (Ex)
theorem walk_enumT {K : PySem.W.Frag} {a : Addr} {xs : List V} : Walk (ItE K a) xs.length (fun H => SqT K H a xs) (YPair (fun i => some (.int (i : Nat))) (fun i => xs[i]?)) := by
  refine ⟨fun i _ hi q => ⟨xs, xs[i], q, by simp [hi]⟩, fun _ q => ⟨xs, q, rfl⟩, fun i H v H' _ q y => ?_⟩
  obtain ⟨T, x, h1, h2, h3, h4⟩ := y
  exact ⟨T, .int (i : Nat), x, h1, h2, h3, rfl, h4 xs q⟩
/-- for (.., ..) in enumerate(row) -/
theorem for_enum_row {K : PySem.W.Frag} {i : Nat} {g : TG} {tb : TS} {D : Ends} {σ : L2.St} {H : Hp} {a : Addr} {xs : List V} (hσ : σ[i]? = some (some (.ref a))) (hr : Row H a xs) (Pv : Nat → L2.St → Hp → Prop) (h0 : Pv 0 σ H) (hG : ∀ j σ' H', Pv j σ' H' → ∀ o, H a = some o → H' a = some o)
    (hs : ∀ j x σ' H' T, xs[j]? = some x → Pv j σ' H' → H' T = none → g (.ref T) σ' (upd H' T (.tup [.int (j : Nat), x])) fun σ2 H2 => tb { D with nx := Pv (j + 1), ct := Pv (j + 1), bk := D.nx } σ2 H2) (hd : ∀ σ' H', Pv xs.length σ' H' → D.nx σ' H') :
    tFor (iOr (iEnum K (tCons (tVar i) tNil)) (iEnT K (tCons (tVar i) tNil))) g tb D σ H := by
  have step : ∀ j x σ' H' H'', j < xs.length → Pv j σ' H' → YPair (fun i => some (.int (i : Nat))) (fun i => xs[i]?) j H' x H'' → g x σ' H'' fun σ2 H2 => tb { D with nx := Pv (j + 1), ct := Pv (j + 1), bk := D.nx } σ2 H2 := fun j x σ' H' H'' hj p y => by
    obtain ⟨T, u, v, rfl, hT, rfl, h1, h2⟩ := y
    cases h1
    exact hs j v σ' H' T h2 p hT
  rcases hr with h | h
  · exact .inl ⟨_, hσ, a, xs, rfl, SqL.of h, for_it (walk_enum (xs := xs)) Pv h0 (fun j σ' H' _ p => SqL.of (hG j σ' H' p _ h)) step hd⟩
  · exact .inr ⟨_, hσ, a, xs, rfl, SqT.of h, for_it (walk_enumT (xs := xs)) Pv h0 (fun j σ' H' _ p => SqT.of (hG j σ' H' p _ h)) step hd⟩
abbrev s_numf := top 12
def numAt : List PyData → Nat → Option Nat
  | [], _ => none
  | d :: ds, i => if isNum d = true then numAt ds (i + 1) else some i
theorem numAt_none : ∀ (l : List PyData) (i : Nat), (numAt l i).isNone = l.all isNum
  | [], _ => rfl
  | d :: ds, i => by
    unfold numAt
    rw [List.all_cons]
    cases h : isNum d with
    | true => rw [if_pos rfl, Bool.true_and]; exact numAt_none ds (i + 1)
    | false => rw [if_neg (by decide), Bool.false_and]; rfl
def numF (d : PyData) : V := if isRow d = true then (match numAt (items d) 0 with
  | some i => .int (i : Nat)
  | none => .non) else .int 0
theorem numF_non (d : PyData) : decide (numF d = .non) = isNums d := by
  unfold numF isNums
  cases h : isRow d with
  | false => rfl
  | true =>
    rw [if_pos rfl, Bool.true_and, ← numAt_none _ 0]
    cases numAt (items d) 0 <;> rfl
section
variable {P : Program} {w : World} {K : PySem.W.Frag} {mg : Str → Option Value} {base : Heap}
theorem sc_numf : FnScope ["thing", "index", "part"] ["thing"] (defScope s_numf) := ⟨rfl, rfl, rfl, by decide +kernel, rfl, by decide +kernel, by decide +kernel⟩
def spNumF : Sp := fun vs H Q _ => ∃ v d, vs = [v] ∧ D H v d ∧ ∀ H', Ex H H' → Q (numF d) H'
theorem ok_numf {f f1 f2 f3 : Addr} {fd fd1 fd2 fd3 : FuncData} (F : FD K mg "numbers_fault" "numbers_fault" s_numf f fd) (F1 : FD K mg "is_row" "is_row" s_is_row f1 fd1) (F2 : FD K mg "is_number" "is_number" s_is_number f2 fd2)
    (F3 : FD K mg "is_integer" "is_integer" s_is_integer f3 fd3) (T : Bl mg) (henum : mg "enumerate" = none) : FnOk P w K mg base CX0 3 f fd ["thing"] spNumF := by
  have G1 : FnOk P w K mg base CX0 1 f1 fd1 ["thing"] (spAsk isRow) := ok_is_row F1 T
  have G2 : FnOk P w K mg base CX0 2 f2 fd2 ["thing"] (spAsk isNum) := ok_is_number F2 F3 T
  refine F.F.ok sc_numf (fun vs H Q E h => ?_) (fun cdv A outer s H vs Q E hr h => ?_)
  · obtain ⟨v, d, rfl, _⟩ := h
    rfl
  · obtain ⟨v, d, rfl, hd, k⟩ := h
    have nd := sc_numf.nd
    refine ⟨_, pss_cons (ps_if (pt_not (pt_val (pe_call G1 (hr.mono (by decide)) (by rfl) F1.g F1.F.kp (b_is_row F1) .nil pass0 (pa_cons (pv 0) pa_nil)))) (pss_one (ps_ret pe_int)) pss_nil)
      (pss_cons (ps_for PassesOwn.never rfl (pi_or (pi_enum (by rfl) henum (pa_cons (pv 0) pa_nil)) (pi_enumT (by rfl) henum (pa_cons (pv 0) pa_nil))) (pg_tup rfl (pgs_cons (pg_name (i := 1) nd rfl (Or.inl rfl)) (pgs_cons (pg_name (i := 2) nd rfl (Or.inl rfl)) pgs_nil)))
        (pss_one (ps_if (pt_not (pt_val (pe_call G2 (hr.mono (by decide)) (by rfl) F2.g F2.F.kp (b_is_number F2) .nil pass0 (pa_cons (pv 2) pa_nil)))) (pss_one (ps_ret (pv 1))) pss_nil)))
      (pss_one (ps_ret pe_non))), ?_⟩
    refine ⟨_, rfl, v, d, rfl, hd, fun H1 e1 => ⟨_, rfl, ?_⟩⟩
    by_cases hrw : isRow d = true
    · obtain ⟨a, xs, rfl, hrow, hall⟩ := hd.row hrw
      rw [hrw]
      refine iteF ?_
      have hlen := hall.len
      have hv : ∀ H', Ex H H' → Q (match numAt (items d) 0 with
          | some i => .int (i : Nat)
          | none => .non) H' := fun H' e => by
        have z := k H' e
        unfold numF at z
        rw [if_pos hrw] at z
        exact z
      have ha2 : ∀ H1 H', Ex H H1 → Ex H H' → ∀ o, H1 a = some o → H' a = some o := fun H1 H' e1 e o ho => by
        rcases hrow with h | h
        · rw [e1 _ _ h] at ho
          rw [← ho]
          exact e _ _ h
        · rw [e1 _ _ h] at ho
          rw [← ho]
          exact e _ _ h
      refine for_enum_row (K := K) (i := 0) (a := a) (xs := xs) rfl (hrow.ex e1) (fun j σ H' => ∃ (v4 v5 : Option V), σ = [some (.ref a), v4, v5] ∧ Ex H H' ∧ numAt (items d) 0 = numAt ((items d).drop j) j)
        ⟨none, none, rfl, e1, rfl⟩ (fun j σ' H' q' o ho => ?_) (fun j x σ' H' Tq hx q' nT => ?_) (fun σ' H' q' => ?_)
      · obtain ⟨v4, v5, _, e, _⟩ := q'
        exact ha2 _ H' e1 e o ho
      · obtain ⟨v4, v5, rfl, e, hf⟩ := q'
        obtain ⟨dx, hdx, Dx⟩ := hall.get hx
        have eT := Ex.new (o := .tup [.int (j : Nat), x]) nT
        have hT : upd H' Tq (.tup [.int (j : Nat), x]) Tq = some (.tup [.int (j : Nat), x]) := upd_same
        generalize upd H' Tq (.tup [.int (j : Nat), x]) = H3 at eT hT
        have hj : (items d).drop j = dx :: (items d).drop (j + 1) := by
          have q := (List.getElem?_eq_some_iff.mp hdx)
          obtain ⟨q1, q2⟩ := q
          rw [List.drop_eq_getElem_cons q1, q2]
        rw [hj] at hf
        have e3 := e.trans eT
        refine ⟨Tq, _, rfl, SqT.of hT, rfl, _, _, rfl, _, _, rfl, rfl, ?_⟩
        refine ⟨_, rfl, x, dx, rfl, Dx.ex e3, fun H4 e4 => ⟨_, rfl, ?_⟩⟩
        have e34 := e3.trans e4
        cases cr : isNum dx with
        | false =>
          refine iteT ?_
          have hf2 : numAt (items d) 0 = some j := by
            rw [hf]
            show (if isNum dx = true then numAt ((items d).drop (j + 1)) (j + 1) else some j) = _
            rw [cr, if_neg Bool.false_ne_true]
          have q := hv H4 e34
          rw [hf2] at q
          exact ⟨_, rfl, q⟩
        | true =>
          refine iteF ?_
          have hf2 : numAt (items d) 0 = numAt ((items d).drop (j + 1)) (j + 1) := by
            rw [hf]
            show (if isNum dx = true then numAt ((items d).drop (j + 1)) (j + 1) else some j) = _
            rw [if_pos cr]
          exact ⟨_, _, rfl, e34, hf2⟩
      · obtain ⟨v4, v5, rfl, e, hf⟩ := q'
        have q := hv H' e
        rw [hf, List.drop_of_length_le (by omega)] at q
        exact q
    · have hf : isRow d = false := by simpa using hrw
      rw [hf]
      have z := k H1 e1
      unfold numF at z
      rw [if_neg hrw] at z
      exact iteT z
theorem ok_is_numbers {f f1 f2 f3 f4 : Addr} {fd fd1 fd2 fd3 fd4 : FuncData} (F : FD K mg "is_numbers" "is_numbers" s_is_numbers f fd) (F1 : FD K mg "is_row" "is_row" s_is_row f1 fd1) (F2 : FD K mg "is_number" "is_number" s_is_number f2 fd2)
    (F3 : FD K mg "is_integer" "is_integer" s_is_integer f3 fd3) (F4 : FD K mg "numbers_fault" "numbers_fault" s_numf f4 fd4) (T : Bl mg) (henum : mg "enumerate" = none) : FnOk P w K mg base CX0 4 f fd ["thing"] (fun vs H Q E => ∃ v d, vs = [v] ∧ D H v d ∧ (items d).length ≤ 100000 ∧ ∀ H', Ex H H' → Q (.bl (isNums d)) H') := by
  have G4 : FnOk P w K mg base CX0 3 f4 fd4 ["thing"] spNumF := ok_numf F4 F1 F2 F3 T henum
  have b4 : Binds K fd4 ["thing"] [] := F4.F.binds fun _ _ _ _ _ _ us hl => match us, hl with | [_], _ => rfl
  refine F.F.ok sc_is_numbers (fun vs H Q E h => ?_) (fun cdv A outer s H vs Q E hr h => ?_)
  · obtain ⟨v, d, rfl, _⟩ := h
    rfl
  · obtain ⟨v, d, rfl, hd, hz, k⟩ := h
    refine ⟨_, pss_one (ps_ret (pe_cmpR op_isN (pe_call G4 hr (by rfl) F4.g F4.F.kp b4 .nil pass0 (pa_cons (pv 0) pa_nil)) pe_non (nomark _))), ?_⟩
    refine ⟨_, rfl, v, d, rfl, hd, fun H1 e1 => ⟨rfl, ?_⟩⟩
    have z := k H1 e1
    rw [← numF_non] at z
    exact z
end
end Ts


set_option Elab.async false
set_option linter.all false
set_option maxRecDepth 100000
set_option maxHeartbeats 2000000
namespace Ts
open PySem PySem.Spec L2
open Evl (Ex)
def intOf : PyData → Int
  | .int i => i | _ => 0
theorem isNum_int {d : PyData} (h : isNum d = true) : ∃ i, d = .int i ∧ 0 ≤ i := by
  cases d <;> first
    | (exact ⟨_, rfl, of_decide_eq_true h⟩)
    | cases h
def headIs0 : List PyData → Bool
  | x :: _ => decide (intOf x = 0) | [] => false
def paper4 (b p g t : PyData) : Bool :=
  isNum b && (isNum p && (isNum g && (!decide (intOf b = 0) && (!decide (intOf p = 0) && (isNums t && (decide (((items t).length : Int) = intOf b + intOf p) && headIs0 (items t)))))))
def isPaper (d : PyData) : Bool := isRow d && (match items d with
  | [b, p, g, t] => paper4 b p g t
  | _ => false)
theorem isPaper_len {d : PyData} (h : (items d).length ≠ 4) : isPaper d = false := by
  unfold isPaper
  split
  · rename_i e
    rw [e] at h
    exact absurd rfl h
  · rw [Bool.and_false]
theorem isPaper_row {d : PyData} (h : isRow d = false) : isPaper d = false := by
  unfold isPaper
  rw [h, Bool.false_and]
theorem isPaper_4 {d b p g t : PyData} (h : isRow d = true) (e : items d = [b, p, g, t]) : isPaper d = paper4 b p g t := by
  unfold isPaper
  rw [h, e, Bool.true_and]
theorem DAll.four {H : Hp} {xs : List V} {b p g t : PyData} (h : DAll H xs [b, p, g, t]) : ∃ vb vp vg vt, xs = [vb, vp, vg, vt] ∧ D H vb b ∧ D H vp p ∧ D H vg g ∧ D H vt t := by
  cases h with
  | cons h1 r =>
    cases r with
    | cons h2 r =>
      cases r with
      | cons h3 r =>
        cases r with
        | cons h4 r =>
          cases r
          exact ⟨_, _, _, _, rfl, h1, h2, h3, h4⟩
theorem D.int_of {H : Hp} {v : V} {i : Int} (h : D H v (.int i)) : v = .int i := by
  cases h
  rfl
section
variable {P : Program} {w : World} {K : PySem.W.Frag} {mg : Str → Option Value} {base : Heap}
abbrev s_is_paper := top 15
theorem sc_is_paper : FnScope ["thing", "begin", "period", "gain", "told"] ["thing"] (defScope s_is_paper) := ⟨rfl, rfl, rfl, by decide +kernel, rfl, by decide +kernel, by decide +kernel⟩
def spPaper : Sp := fun vs H Q _ => ∃ v d, vs = [v] ∧ D H v d ∧ (∀ t ∈ items d, (items t).length ≤ 100000) ∧ ∀ H', Ex H H' → Q (.bl (isPaper d)) H'
theorem ok_is_paper {f f1 f2 f3 : Addr} {fd fd1 fd2 fd3 : FuncData} (F : FD K mg "is_paper" "is_paper" s_is_paper f fd) (F1 : FD K mg "is_row" "is_row" s_is_row f1 fd1) (F2 : FD K mg "is_number" "is_number" s_is_number f2 fd2)
    (F3 : FD K mg "is_numbers" "is_numbers" s_is_numbers f3 fd3) (G1 : FnOk P w K mg base CX0 1 f1 fd1 ["thing"] (spAsk isRow)) (G2 : FnOk P w K mg base CX0 2 f2 fd2 ["thing"] (spAsk isNum))
    (G3 : FnOk P w K mg base CX0 4 f3 fd3 ["thing"] (fun vs H Q E => ∃ v d, vs = [v] ∧ D H v d ∧ (items d).length ≤ 100000 ∧ ∀ H', Ex H H' → Q (.bl (isNums d)) H')) (T : Bl mg) : FnOk P w K mg base CX0 5 f fd ["thing"] spPaper := by
  have b3 : Binds K fd3 ["thing"] [] := F3.F.binds fun _ _ _ _ _ _ us hl => match us, hl with | [_], _ => rfl
  refine F.F.ok sc_is_paper (fun vs H Q E h => ?_) (fun cdv A outer s H vs Q E hr h => ?_)
  · obtain ⟨v, d, rfl, _⟩ := h
    rfl
  · obtain ⟨v, d, rfl, hd, hz, k⟩ := h
    have nd := sc_is_paper.nd
    have hr1 : Room 1 _ := hr.mono (by decide)
    have hr2 : Room 2 _ := hr.mono (by decide)
    refine ⟨_, pss_cons (ps_if (PW.pt (pw_or (pt_not (pt_val (pe_call G1 hr1 (by rfl) F1.g F1.F.kp (b_is_row F1) .nil pass0 (pa_cons (pv 0) pa_nil)))) (pw_or1 (pt_cmpR op_ne (pe_callB call_len_seq (by rfl) T.len PySem.boot_len (pa_cons (pv 0) pa_nil)) pe_int (nomark _))))) (pss_one (ps_ret pe_bl)) pss_nil)
      (pss_cons (ps_asg (pv 0) (pg_or (pg_tup rfl (pgs_cons (pg_name (i := 1) nd rfl (Or.inl rfl)) (pgs_cons (pg_name (i := 2) nd rfl (Or.inl rfl)) (pgs_cons (pg_name (i := 3) nd rfl (Or.inl rfl)) (pgs_cons (pg_name (i := 4) nd rfl (Or.inl rfl)) pgs_nil)))))
          (pg_unl rfl (pgs_cons (pg_name (i := 1) nd rfl (Or.inl rfl)) (pgs_cons (pg_name (i := 2) nd rfl (Or.inl rfl)) (pgs_cons (pg_name (i := 3) nd rfl (Or.inl rfl)) (pgs_cons (pg_name (i := 4) nd rfl (Or.inl rfl)) pgs_nil)))))))
      (pss_cons (ps_if (PW.pt (pw_or (pt_not (pt_val (pe_call G2 hr2 (by rfl) F2.g F2.F.kp (b_is_number F2) .nil pass0 (pa_cons (pv 1) pa_nil)))) (pw_or (pt_not (pt_val (pe_call G2 hr2 (by rfl) F2.g F2.F.kp (b_is_number F2) .nil pass0 (pa_cons (pv 2) pa_nil))))
          (pw_or (pt_not (pt_val (pe_call G2 hr2 (by rfl) F2.g F2.F.kp (b_is_number F2) .nil pass0 (pa_cons (pv 3) pa_nil)))) (pw_or (pt_cmpR op_eq (pv 1) pe_int (nomark _)) (pw_or1 (pt_cmpR op_eq (pv 2) pe_int (nomark _)))))))) (pss_one (ps_ret pe_bl)) pss_nil)
      (pss_one (ps_ret (pe_and (pe_call G3 hr (by rfl) F3.g F3.F.kp b3 .nil pass0 (pa_cons (pv 4) pa_nil)) (pe_and (pe_cmpR op_eq (pe_callB call_len_seq (by rfl) T.len PySem.boot_len (pa_cons (pv 4) pa_nil)) (pe_op op_add (pv 1) (pv 2)) (nomark _))
        (pe_one (pe_cmpR op_eq (pe_ix ix_seq (pv 4) pe_int (fun _ _ => rfl)) pe_int (nomark _))))))))), ?_⟩
    refine ⟨_, rfl, v, d, rfl, hd, fun H1 e1 => ⟨_, rfl, ?_⟩⟩
    by_cases hrw : isRow d = true
    · obtain ⟨a, xs, rfl, hrow, hall⟩ := hd.row hrw
      rw [hrw]
      refine iteF ?_
      refine ⟨_, rfl, a, xs, rfl, (hrow.ex e1).sq, rfl, _, rfl, ?_⟩
      by_cases h4 : (items d).length = 4
      · have e4 : (!decide (V.int ((xs.length : Nat) : Int) = V.int 4)) = false := by rw [hall.len, h4]; rfl
        rw [e4]
        refine iteF ?_
        obtain ⟨b, p, g, t, e⟩ : ∃ b p g t, items d = [b, p, g, t] := by
          match h : items d, h4 with
          | [b, p, g, t], _ => exact ⟨b, p, g, t, rfl⟩
        rw [e] at hall
        obtain ⟨vb, vp, vg, vt, rfl, hb, hp, hg, ht⟩ := hall.four
        have k' := fun H' (z : Ex H H') => k H' z
        rw [isPaper_4 hrw e] at k'
        unfold paper4 at k'
        refine ⟨_, rfl, g_row (hrow.ex e1) rfl ⟨_, _, rfl, _, _, rfl, _, _, rfl, _, _, rfl, rfl, ?_⟩⟩
        refine ⟨_, rfl, vb, b, rfl, hb.ex e1, fun H2 e2 => ⟨_, rfl, ?_⟩⟩
        have e12 := e1.trans e2
        cases nb : isNum b with
        | false =>
          rw [nb] at k'
          exact iteT (iteT (k' H2 e12))
        | true =>
          rw [nb] at k'
          obtain ⟨ib, rfl, _⟩ := isNum_int nb
          obtain rfl := hb.int_of
          refine iteF ?_
          refine ⟨_, rfl, vp, p, rfl, hp.ex e12, fun H3 e3 => ⟨_, rfl, ?_⟩⟩
          have e13 := e12.trans e3
          cases np : isNum p with
          | false =>
            rw [np] at k'
            exact iteT (iteT (k' H3 e13))
          | true =>
            rw [np] at k'
            obtain ⟨ip, rfl, _⟩ := isNum_int np
            obtain rfl := hp.int_of
            refine iteF ?_
            refine ⟨_, rfl, vg, g, rfl, hg.ex e13, fun H4 e4 => ⟨_, rfl, ?_⟩⟩
            have e14 := e13.trans e4
            cases ng : isNum g with
            | false =>
              rw [ng] at k'
              exact iteT (iteT (k' H4 e14))
            | true =>
              rw [ng] at k'
              refine iteF ⟨_, rfl, rfl, _, rfl, ?_⟩
              by_cases zb : ib = 0
              · subst zb
                exact iteT (iteT (k' H4 e14))
              · have eb : decide (V.int ib = V.int 0) = false := decide_eq_false fun z => zb (V.int.inj z)
                have eb' : decide (intOf (.int ib) = 0) = false := decide_eq_false zb
                rw [eb]
                rw [eb'] at k'
                refine iteF ⟨_, rfl, rfl, _, rfl, ?_⟩
                by_cases zp : ip = 0
                · subst zp
                  exact iteT (k' H4 e14)
                · have ep : decide (V.int ip = V.int 0) = false := decide_eq_false fun z => zp (V.int.inj z)
                  have ep' : decide (intOf (.int ip) = 0) = false := decide_eq_false zp
                  rw [ep]
                  rw [ep'] at k'
                  refine iteF ?_
                  refine ⟨_, rfl, vt, t, rfl, ht.ex e14, hz t (by rw [e]; simp), fun H5 e5 => ⟨_, rfl, ?_⟩⟩
                  have e15 := e14.trans e5
                  cases nt : isNums t with
                  | false =>
                    rw [nt] at k'
                    exact iteF (k' H5 e15)
                  | true =>
                    rw [nt] at k'
                    have rt : isRow t = true := by
                      unfold isNums at nt
                      exact (Bool.and_eq_true_iff.mp nt).1
                    have at' : (items t).all isNum = true := by
                      unfold isNums at nt
                      exact (Bool.and_eq_true_iff.mp nt).2
                    obtain ⟨at_, ts, rfl, trow, tall⟩ := ht.row rt
                    refine iteT ?_
                    refine ⟨_, rfl, at_, ts, rfl, (trow.ex e15).sq, _, rfl, _, rfl, _, _, rfl, rfl, rfl, _, rfl, ?_⟩
                    by_cases hl : ((items t).length : Int) = ib + ip
                    · have el : decide (V.int ((ts.length : Nat) : Int) = V.int (ib + ip)) = true := decide_eq_true (by rw [tall.len, hl])
                      have el' : decide (((items t).length : Int) = intOf (.int ib) + intOf (.int ip)) = true := decide_eq_true hl
                      rw [el]
                      rw [el'] at k'
                      refine iteT ?_
                      cases hi : items t with
                      | nil =>
                        rw [hi] at hl
                        have i1 : 0 ≤ ib := by assumption
                        have i2 : 0 ≤ ip := by assumption
                        simp at hl
                        omega
                      | cons x rest =>
                        rw [hi] at tall k' at'
                        cases tall with
                        | cons hx hrest =>
                          have nx : isNum x = true := by
                            rw [List.all_cons] at at'
                            exact (Bool.and_eq_true_iff.mp at').1
                          obtain ⟨ix, rfl, _⟩ := isNum_int nx
                          obtain rfl := hx.int_of
                          refine ⟨_, rfl, ix_row (trow.ex e15) (atI_nat (j := 0) rfl) ⟨rfl, ?_⟩⟩
                          have z := k' H5 e15
                          have ez : decide (V.int ix = V.int 0) = decide (ix = 0) := by
                            by_cases c : ix = 0
                            · rw [c]; rfl
                            · rw [decide_eq_false c, decide_eq_false fun q => c (V.int.inj q)]
                          rw [ez]
                          exact z
                    · have el : decide (V.int ((ts.length : Nat) : Int) = V.int (ib + ip)) = false := decide_eq_false fun z => hl (by rw [← tall.len]; exact V.int.inj z)
                      have el' : decide (((items t).length : Int) = intOf (.int ib) + intOf (.int ip)) = false := decide_eq_false hl
                      rw [el]
                      rw [el'] at k'
                      exact iteF (k' H5 e15)
      · have e4 : (!decide (V.int ((xs.length : Nat) : Int) = V.int 4)) = true := by
          rw [hall.len, decide_eq_false fun z => h4 (by have := V.int.inj z; omega)]
          rfl
        rw [e4]
        have z := k H1 e1
        rw [isPaper_len h4] at z
        exact iteT z
    · have hf : isRow d = false := by simpa using hrw
      rw [hf]
      have z := k H1 e1
      rw [isPaper_row hf] at z
      exact iteT (iteT z)
end
end Ts


set_option Elab.async false
set_option linter.all false
set_option maxRecDepth 100000
set_option maxHeartbeats 2000000
namespace Ts
open PySem PySem.Spec L2
open Evl (Ex)
theorem atI_int {α : Type} {xs : List α} {i : Int} {v : α} (h0 : 0 ≤ i) (h : xs[i.toNat]? = some v) : atI xs i = some v := by
  have q := atI_nat h
  rw [Int.toNat_of_nonneg h0] at q
  exact q
/-- a paper as it stands in memory -/
def PapAt (H : Hp) (v : V) (b p g : Int) (ns : List Int) : Prop := ∃ a t, v = .ref a ∧ Row H a [.int b, .int p, .int g, .ref t] ∧ Row H t (ns.map V.int)
theorem PapAt.ex {H H' : Hp} (e : Ex H H') {v : V} {b p g : Int} {ns : List Int} (h : PapAt H v b p g ns) : PapAt H' v b p g ns := by
  obtain ⟨a, t, rfl, h1, h2⟩ := h
  exact ⟨a, t, rfl, h1.ex e, h2.ex e⟩
structure PapOk (b p g : Int) (ns : List Int) : Prop where
  b1 : 1 ≤ b
  p1 : 1 ≤ p
  g0 : 0 ≤ g
  bb : b ≤ 10000
  pb : p ≤ 10000
  gb : g ≤ 10000
  len : (ns.length : Int) = b + p
/-- what a paper tells -/
def tell (b p g : Int) (ns : List Int) (n : Int) : Int := if n < b then ns.getD n.toNat 0 else ns.getD (b + (n - b) % p).toNat 0 + (n - b) / p * g
theorem get_map {ns : List Int} {i : Nat} (h : i < ns.length) : (ns.map V.int)[i]? = some (.int (ns.getD i 0)) := by
  rw [List.getElem?_map, List.getElem?_eq_getElem h, List.getD, List.getElem?_eq_getElem h]
  rfl
theorem divp_of {b p g n : Int} {ns : List Int} (ok : PapOk b p g ns) (n0 : 0 ≤ n) (n1 : n < 2 ^ 62) (hn : ¬ n < b) : CDivP (n - b) p := by
  have hb1 := ok.b1
  have hp1 := ok.p1
  have q := PyProof.Rows.intBits_le (a := n - b) (k := 64) (by omega)
  exact divp_ok (by omega) (by omega)
section
variable {P : Program} {w : World} {K : PySem.W.Frag} {mg : Str → Option Value} {base : Heap}
abbrev s_told_of := top 17
abbrev s_told_below := top 18
theorem sc_told_of : FnScope ["paper", "number", "begin", "period", "gain", "told", "times", "rest"] ["paper", "number"] (defScope s_told_of) := ⟨rfl, rfl, rfl, by decide +kernel, rfl, by decide +kernel, by decide +kernel⟩
def spTold : Sp := fun vs H Q _ => ∃ v n b p g ns, vs = [v, .int n] ∧ PapAt H v b p g ns ∧ PapOk b p g ns ∧ 0 ≤ n ∧ n < 2 ^ 62 ∧ ∀ H', Ex H H' → Q (.int (tell b p g ns n)) H'
theorem ok_told_of {f : Addr} {fd : FuncData} (F : FD K mg "told_of" "told_of" s_told_of f fd) (T : Bl mg) : FnOk P w K mg base CX0 1 f fd ["paper", "number"] spTold := by
  refine F.F.ok sc_told_of (fun vs H Q E h => ?_) (fun cdv A outer s H vs Q E hr h => ?_)
  · obtain ⟨v, n, b, p, g, ns, rfl, _⟩ := h
    rfl
  · obtain ⟨v, n, b, p, g, ns, rfl, ⟨a, t, rfl, hrow, trow⟩, ok, n0, n1, k⟩ := h
    have nd := sc_told_of.nd
    refine ⟨_, pss_cons (ps_asg (pv 0) (pg_or (pg_tup rfl (pgs_cons (pg_name (i := 2) nd rfl (Or.inl rfl)) (pgs_cons (pg_name (i := 3) nd rfl (Or.inl rfl)) (pgs_cons (pg_name (i := 4) nd rfl (Or.inl rfl)) (pgs_cons (pg_name (i := 5) nd rfl (Or.inl rfl)) pgs_nil)))))
          (pg_unl rfl (pgs_cons (pg_name (i := 2) nd rfl (Or.inl rfl)) (pgs_cons (pg_name (i := 3) nd rfl (Or.inl rfl)) (pgs_cons (pg_name (i := 4) nd rfl (Or.inl rfl)) (pgs_cons (pg_name (i := 5) nd rfl (Or.inl rfl)) pgs_nil)))))))
      (pss_cons (ps_if (pt_cmpR op_lt (pv 1) (pv 2) (nomark _)) (pss_one (ps_ret (pe_ix ix_seq (pv 5) (pv 1) (fun _ _ => rfl)))) pss_nil)
      (pss_cons (ps_asg (pe_callB call_divmodW (by rfl) T.divmod (by decide +kernel) (pa_cons (pe_op op_sub (pv 1) (pv 2)) (pa_cons (pv 3) pa_nil))) (pg_tup rfl (pgs_cons (pg_name (i := 6) nd rfl (Or.inl rfl)) (pgs_cons (pg_name (i := 7) nd rfl (Or.inl rfl)) pgs_nil))))
      (pss_one (ps_ret (pe_op op_add (pe_ix ix_seq (pv 5) (pe_op op_add (pv 2) (pv 7)) (fun _ _ => rfl)) (pe_op op_mul (pv 6) (pv 4))))))), ?_⟩
    refine ⟨_, rfl, g_row hrow rfl ⟨_, _, rfl, _, _, rfl, _, _, rfl, _, _, rfl, rfl, ?_⟩⟩
    refine ⟨_, rfl, _, rfl, _, _, rfl, rfl, _, rfl, ?_⟩
    have hb1 := ok.b1
    have hp1 := ok.p1
    have hl := ok.len
    by_cases hn : n < b
    · rw [decide_eq_true hn]
      refine iteT ⟨_, rfl, _, rfl, ix_row trow (atI_int n0 (get_map (by omega))) ?_⟩
      have z := k H (Ex.refl H)
      unfold tell at z
      rw [if_pos hn] at z
      exact z
    · rw [decide_eq_false hn]
      refine iteF ⟨_, rfl, _, rfl, _, _, rfl, rfl, _, rfl, _, _, rfl, divp_of ok n0 n1 hn, fun q nq => ?_⟩
      have eq := Ex.new (o := .tup [.int ((n - b) / p), .int ((n - b) % p)]) nq
      have m0 : 0 ≤ (n - b) % p := Int.emod_nonneg _ (by omega)
      have m1 : (n - b) % p < p := Int.emod_lt_of_pos _ (by omega)
      have d0 : 0 ≤ (n - b) / p := Int.ediv_nonneg (by omega) (by omega)
      have d1 : (n - b) / p ≤ n - b := Int.ediv_le_self _ (by omega)
      refine ⟨q, _, rfl, SqT.of upd_same, rfl, _, _, rfl, _, _, rfl, rfl, ?_⟩
      refine ⟨_, rfl, _, rfl, _, rfl, _, _, rfl, rfl, ix_row (trow.ex eq) (atI_int (by omega) (get_map (by omega))) ?_⟩
      refine ⟨_, rfl, _, rfl, _, _, rfl, rfl, .inl ⟨by omega, by omega⟩, _, _, rfl, rfl, ?_⟩
      have z := k _ eq
      unfold tell at z
      rw [if_neg hn] at z
      exact z
end
end Ts


set_option Elab.async false
set_option linter.all false
set_option maxRecDepth 100000
set_option maxHeartbeats 2000000
namespace Ts
open PySem PySem.Spec L2
open Evl (Ex)
def pB (d : PyData) : Int := intOf ((items d).getD 0 .none)
def pP (d : PyData) : Int := intOf ((items d).getD 1 .none)
def pG (d : PyData) : Int := intOf ((items d).getD 2 .none)
def pN (d : PyData) : List Int := (items ((items d).getD 3 .none)).map intOf
theorem DAll.ints {H : Hp} : ∀ {xs : List V} {ds : List PyData}, DAll H xs ds → ds.all isNum = true → xs = (ds.map intOf).map V.int
  | _, _, .nil, _ => rfl
  | _, _, .cons h r, e => by
    rw [List.all_cons] at e
    obtain ⟨e1, e2⟩ := Bool.and_eq_true_iff.mp e
    obtain ⟨i, rfl, _⟩ := isNum_int e1
    obtain rfl := h.int_of
    have q := DAll.ints r e2
    rw [q]
    rfl
theorem isNums_row {t : PyData} (h : isNums t = true) : isRow t = true ∧ (items t).all isNum = true := by
  unfold isNums at h
  exact Bool.and_eq_true_iff.mp h
structure IsPap (d : PyData) : Prop where
  row : isRow d = true
  its : ∃ t, items d = [.int (pB d), .int (pP d), .int (pG d), t] ∧ isNums t = true ∧ pN d = (items t).map intOf
  b1 : 1 ≤ pB d
  p1 : 1 ≤ pP d
  g0 : 0 ≤ pG d
  len : ((pN d).length : Int) = pB d + pP d
theorem isPap_of {d : PyData} (h : isPaper d = true) : IsPap d := by
  unfold isPaper at h
  obtain ⟨h1, h2⟩ := Bool.and_eq_true_iff.mp h
  split at h2
  · rename_i b p g t e
    unfold paper4 at h2
    obtain ⟨nb, h2⟩ := Bool.and_eq_true_iff.mp h2
    obtain ⟨np, h2⟩ := Bool.and_eq_true_iff.mp h2
    obtain ⟨ng, h2⟩ := Bool.and_eq_true_iff.mp h2
    obtain ⟨zb, h2⟩ := Bool.and_eq_true_iff.mp h2
    obtain ⟨zp, h2⟩ := Bool.and_eq_true_iff.mp h2
    obtain ⟨nt, h2⟩ := Bool.and_eq_true_iff.mp h2
    obtain ⟨hl, h2⟩ := Bool.and_eq_true_iff.mp h2
    obtain ⟨ib, rfl, hb⟩ := isNum_int nb
    obtain ⟨ip, rfl, hp⟩ := isNum_int np
    obtain ⟨ig, rfl, hg⟩ := isNum_int ng
    have eb : pB d = ib := by unfold pB; rw [e]; rfl
    have ep : pP d = ip := by unfold pP; rw [e]; rfl
    have eg : pG d = ig := by unfold pG; rw [e]; rfl
    have en : pN d = (items t).map intOf := by unfold pN; rw [e]; rfl
    have zb' : ¬ ib = 0 := fun z => by
      rw [decide_eq_true (show intOf (.int ib) = 0 from z)] at zb
      cases zb
    have zp' : ¬ ip = 0 := fun z => by
      rw [decide_eq_true (show intOf (.int ip) = 0 from z)] at zp
      cases zp
    have hl' : ((items t).length : Int) = ib + ip := of_decide_eq_true hl
    exact ⟨h1, ⟨t, by rw [eb, ep, eg]; exact e, nt, en⟩, by omega, by omega, by omega, by rw [en, List.length_map, eb, ep]; exact hl'⟩
  · cases h2
theorem IsPap.at {H : Hp} {v : V} {d : PyData} (h : IsPap d) (hd : D H v d) : PapAt H v (pB d) (pP d) (pG d) (pN d) := by
  obtain ⟨t, e, nt, en⟩ := h.its
  obtain ⟨a, xs, rfl, hr, hall⟩ := hd.row h.row
  rw [e] at hall
  obtain ⟨vb, vp, vg, vt, rfl, hb, hp, hg, ht⟩ := hall.four
  obtain rfl := hb.int_of
  obtain rfl := hp.int_of
  obtain rfl := hg.int_of
  obtain ⟨rt, at_⟩ := isNums_row nt
  obtain ⟨ta, ts, rfl, tr, tall⟩ := ht.row rt
  refine ⟨a, ta, rfl, hr, ?_⟩
  rw [en, ← tall.ints at_]
  exact tr
structure Sml (d : PyData) : Prop where
  b : pB d ≤ 10000
  p : pP d ≤ 10000
  g : pG d ≤ 10000
  z : ∀ t ∈ items d, (items t).length ≤ 100000
theorem IsPap.ok {d : PyData} (h : IsPap d) (s : Sml d) : PapOk (pB d) (pP d) (pG d) (pN d) := ⟨h.b1, h.p1, h.g0, s.b, s.p, s.g, h.len⟩

section
variable {P : Program} {w : World} {K : PySem.W.Frag} {mg : Str → Option Value} {base : Heap}
def below (b p g : Int) (ns : List Int) (m : Int) : List V := (List.range m.toNat).map fun i => .int (tell b p g ns (i : Nat))
theorem sc_told_below : FnScope ["paper", "end", "number"] ["paper", "end"] (defScope s_told_below) := ⟨rfl, rfl, rfl, by decide +kernel, rfl, by decide +kernel, by decide +kernel⟩
def spBelow : Sp := fun vs H Q _ => ∃ v m b p g ns, vs = [v, .int m] ∧ PapAt H v b p g ns ∧ PapOk b p g ns ∧ 0 ≤ m ∧ m ≤ 100000 ∧ ∀ x H', H x = none → Ex H H' → H' x = some (.lst (below b p g ns m)) → Q (.ref x) H'
theorem b_told_of {f : Addr} {fd : FuncData} (F : FD K mg "told_of" "told_of" s_told_of f fd) : Binds K fd ["paper", "number"] [] := F.F.binds fun _ _ _ _ _ _ us hl => match us, hl with | [_, _], _ => rfl
theorem b_told_below {f : Addr} {fd : FuncData} (F : FD K mg "told_below" "told_below" s_told_below f fd) : Binds K fd ["paper", "end"] [] := F.F.binds fun _ _ _ _ _ _ us hl => match us, hl with | [_, _], _ => rfl
theorem ok_told_below {f f1 : Addr} {fd fd1 : FuncData} (F : FD K mg "told_below" "told_below" s_told_below f fd) (F1 : FD K mg "told_of" "told_of" s_told_of f1 fd1) (T : Bl mg) : FnOk P w K mg base CX0 2 f fd ["paper", "end"] spBelow := by
  have G1 : FnOk P w K mg base CX0 1 f1 fd1 ["paper", "number"] spTold := ok_told_of F1 T
  refine F.F.ok sc_told_below (fun vs H Q E h => ?_) (fun cdv A outer s H vs Q E hr h => ?_)
  · obtain ⟨v, m, b, p, g, ns, rfl, _⟩ := h
    rfl
  · obtain ⟨v, m, b, p, g, ns, rfl, hp, ok, m0, m1, k⟩ := h
    have nd := sc_told_below.nd
    refine ⟨_, pss_one (ps_ret (pe_lc (own := [("number", 2)]) (g := gName 2) (tt := tYes) rfl nd (pi_range1 (by rfl) T.range (pa_cons (pv 1) pa_nil)) (blkOk_by (N := ["paper", "end", "number"]) (sc := defScope s_told_below) (by decide +kernel))
        (fun _ _ _ _ _ => pg_name (i := 2) nd rfl (Or.inl rfl)) (fun _ _ _ _ _ => pts_nil)
        (fun _ _ _ _ _ => pe_call G1 hr (by rfl) F1.g F1.F.kp (b_told_of F1) .nil pass0 (pa_cons (pv 0) (pa_cons (pv 2) pa_nil))))), ?_⟩
    refine ⟨_, rfl, m, rfl, by omega, by omega, lc_pure (out := fun i => .int (tell b p g ns (i : Nat))) walk_range (Evl.sz_of (by omega)) (fun _ _ => trivial) (fun i x H1 H2 hi e y => ?_) (fun x H q q' z => g_name_mono z) (fun x Hf hx e hl => k x Hf hx e hl)⟩
    obtain ⟨rfl, rfl⟩ := y
    refine ⟨Ex.refl _, rfl, Ex.refl _, fun q hq => ?_⟩
    refine ⟨_, rfl, _, rfl, v, _, b, p, g, ns, rfl, hp.ex e, ok, by omega, by omega, fun H4 e4 => ?_⟩
    have z := hq H4 e4
    rw [Int.zero_add]
    exact z
abbrev s_need_paper := top 16
theorem sc_need_paper : FnScope ["thing"] ["thing"] (defScope s_need_paper) := ⟨rfl, rfl, rfl, by decide +kernel, rfl, by decide +kernel, by decide +kernel⟩
def spNeedP (C : Addr) : Sp := fun vs H Q E => ∃ v d, vs = [v] ∧ D H v d ∧ (∀ t ∈ items d, (items t).length ≤ 100000) ∧ (isPaper d = true → ∀ H', Ex H H' → Q .non H') ∧ (isPaper d = false → ∀ H', Ex H H' → Raised H' "thing" v C E)
theorem ok_need_paper {f f1 C g : Addr} {fd fd1 fi : FuncData} (F : FD K mg "need_paper" "need_paper" s_need_paper f fd) (F1 : FD K mg "is_paper" "is_paper" s_is_paper f1 fd1) (G1 : FnOk P w K mg base CX0 5 f1 fd1 ["thing"] spPaper)
    (X : XC K mg "BadPaper" "thing" C g) (GI : FnOk P w K mg base CX0 1 g fi ["self", "thing"] (spIni C "thing")) (bI : Binds K fi ["self", "thing"] []) : FnOk P w K mg base (L2.CX P w) 6 f fd ["thing"] (spNeedP C) := by
  refine F.F.okX sc_need_paper (fun vs H Q E h => ?_) (fun cdv A outer s H vs Q E hr h => ?_)
  · obtain ⟨v, d, rfl, _⟩ := h
    rfl
  · obtain ⟨v, d, rfl, hd, hz, k1, k2⟩ := h
    have b1 : Binds K fd1 ["thing"] [] := F1.F.binds fun _ _ _ _ _ _ us hl => match us, hl with | [_], _ => rfl
    refine ⟨_, pss_one (ps_if (pt_not (pt_val (pe_call G1 hr (by rfl) F1.g F1.F.kp b1 .nil pass0 (pa_cons (pv 0) pa_nil)))) (pss_one (ps_raise1 rfl (takes_of rfl rfl rfl rfl) X GI bI (hr.mono (by decide)) (by rfl) (pv 0))) pss_nil), ?_⟩
    refine ⟨_, rfl, v, d, rfl, hd, hz, fun H1 e1 => ⟨_, rfl, ?_⟩⟩
    by_cases hp : isPaper d = true
    · rw [hp]
      exact iteF (k1 hp H1 e1)
    · have hf : isPaper d = false := by simpa using hp
      rw [hf]
      exact iteT ⟨_, rfl, raise1 (k2 hf H1 e1)⟩
theorem isHp_int {d : PyData} (h : isHp d = true) : ∃ i, d = .int i ∧ 1 ≤ i ∧ i ≤ 1000000000000000000 := by
  cases d <;> first
    | (obtain ⟨h1, h2⟩ := Bool.and_eq_true_iff.mp h; exact ⟨_, rfl, of_decide_eq_true h1, of_decide_eq_true h2⟩)
    | cases h
theorem b1_of {f : Addr} {fd : FuncData} {x p : Str} {st : Stmt} (F : FD K mg x x st f fd) (h : ∀ (kV doc pm : Value) (an : Option Addr) (cdv ct u : Value), bindArgs (PySem.W.fnOf x x (defArgs st) (defBody st) (defScope st) .none kV doc pm an cdv ct) ⟨[u], []⟩ = pure [(p, u)]) : Binds K fd [p] [] :=
  F.F.binds fun kV doc pm an cdv ct us hl => match us, hl with | [u], _ => h kV doc pm an cdv ct u
end
end Ts


set_option Elab.async false
set_option linter.all false
set_option maxRecDepth 100000
set_option maxHeartbeats 2000000
namespace Ts
open PySem PySem.Spec L2
open Evl (Ex)
theorem PapAt.open4 {H : Hp} {v : V} {b p g : Int} {ns : List Int} (h : PapAt H v b p g ns) : ∃ a t, v = .ref a ∧ Row H a [.int b, .int p, .int g, .ref t] ∧ Row H t (ns.map V.int) := h
section
variable {P : Program} {w : World} {K : PySem.W.Frag} {mg : Str → Option Value} {base : Heap}
/-- a led paper as it is told: a new tuple with a new list -/
def Led (H H' : Hp) (z : Addr) (b p g : Int) (ns : List Int) (bb pp : Int) : Prop :=
  Ex H H' ∧ H z = none ∧ ∃ y, H y = none ∧ H' z = some (.tup [.int bb, .int pp, .int (g * pp / p), .ref y]) ∧ H' y = some (.lst (below b p g ns (bb + pp)))
theorem Led.back {H H1 H' : Hp} {z : Addr} {b p g : Int} {ns : List Int} {bb pp : Int} (e : Ex H H1) (h : Led H1 H' z b p g ns bb pp) : Led H H' z b p g ns bb pp := by
  obtain ⟨e1, h1, y, h2, h3, h4⟩ := h
  exact ⟨e.trans e1, Evl.fresh_back e h1, y, Evl.fresh_back e h2, h3, h4⟩
theorem ite_ff {c : Bool} {A B : Prop} (h : c = false) (b : B) : if c = true then A else B := by
  rw [h]
  exact iteF b
theorem ite_tt {c : Bool} {A B : Prop} (h : c = true) (a : A) : if c = true then A else B := by
  rw [h]
  exact iteT a
theorem dec_z {i j : Int} : decide (V.int i = V.int j) = decide (i = j) := by
  by_cases c : i = j
  · rw [c]
    rw [decide_eq_true rfl, decide_eq_true rfl]
  · rw [decide_eq_false c, decide_eq_false fun q => c (V.int.inj q)]
end
end Ts


set_option Elab.async false
set_option linter.all false
set_option maxRecDepth 100000
set_option maxHeartbeats 4000000
namespace Ts
open PySem PySem.Spec L2
open Evl (Ex)
/-! ## the spring of draws -/
/-- a heap without two objects that change -/
def off (a c : Addr) (H : Hp) : Hp := fun b => if b = a ∨ b = c then none else H b
theorem off_of {a c b : Addr} {H : Hp} {o : HO} (h : off a c H b = some o) : H b = some o := by
  unfold off at h
  split at h
  · cases h
  · exact h
theorem off_ne {a c b : Addr} {H : Hp} (h1 : b ≠ a) (h2 : b ≠ c) : off a c H b = H b := if_neg (fun z => z.elim h1 h2)
theorem off_ex {a c : Addr} {H : Hp} : Ex (off a c H) H := fun _ _ h => off_of h
theorem Ex.offs {a c : Addr} {H H' : Hp} (e : Ex H H') : Ex (off a c H) (off a c H') := fun b o h => by
  unfold off at h ⊢
  split at h
  · cases h
  · rename_i n
    rw [if_neg n]
    exact e _ _ h
/-- a change of one of the two -/
theorem off_upd {a c p : Addr} {H : Hp} {o : HO} (h : p = a ∨ p = c) : off a c (upd H p o) = off a c H := by
  funext b
  unfold off
  split
  · rfl
  · rename_i n
    exact upd_ne fun z => n (z ▸ h)
structure Strm (H : Hp) (a c : Addr) (n : Int) : Prop where
  h : ∃ (cells : List Int) (s1 s3 : Int), H a = some (.lst [.ref c, .int s1, .int n, .int s3]) ∧ H c = some (.lst (cells.map V.int)) ∧ 0 ≤ s1 ∧ 0 ≤ s3 ∧ s3 < 2147483647
  ne : a ≠ c
  n0 : 0 ≤ n
theorem Strm.ex {H H' : Hp} {a c : Addr} {n : Int} (e : Ex H H') (h : Strm H a c n) : Strm H' a c n := by
  obtain ⟨⟨cells, s1, s3, h1, h2, r⟩, ne, n0⟩ := h
  exact ⟨⟨cells, s1, s3, e _ _ h1, e _ _ h2, r⟩, ne, n0⟩
theorem while_then {c : TT} {tb : TS} {D : Ends} {σ : L2.St} {H : Hp} (Pv Pn : L2.St → Hp → Prop) (μ : L2.St → Hp → Nat) (h0 : Pv σ H)
    (mono : ∀ σ H Q Q', (∀ b H1, Q b H1 → Q' b H1) → c σ H Q → c σ H Q')
    (hs : ∀ σ H, Pv σ H → c σ H fun b H1 => if b = true then tb { D with nx := fun σ' H' => Pv σ' H' ∧ μ σ' H' < μ σ H, ct := fun σ' H' => Pv σ' H' ∧ μ σ' H' < μ σ H, bk := D.nx } σ H1 else Pn σ H1)
    (fin : ∀ σ H, Pn σ H → D.nx σ H) : tWhile c tb D σ H :=
  while_by Pv μ h0 (fun σ H p => mono σ H _ _ (fun b H1 q => by
    cases b with
    | true => exact q
    | false => exact iteF (fin _ _ (by simpa using q))) (hs σ H p)) mono
theorem dp_ints {K : PySem.W.Frag} {H : Hp} : ∀ ns : List Int, DpAll K H (ns.map V.int) (ns.map PyData.int)
  | [] => .nil
  | n :: r => .cons (.int n) (dp_ints r)
theorem lay_ints : ∀ ns : List Int, PyData.canLayAll0 (ns.map PyData.int) = true
  | [] => by simp only [List.map_nil, PyData.canLayAll0]
  | n :: r => by
    rw [List.map_cons]
    simp only [PyData.canLayAll0, PyData.canLay0, lay_ints r, Bool.and_true]
theorem depth_ints : ∀ ns : List Int, PyData.depthAll (ns.map PyData.int) ≤ 1
  | [] => by simp [PyData.depthAll]
  | n :: r => by
    have := depth_ints r
    rw [List.map_cons]
    simp only [PyData.depthAll, PyData.depth]
    omega
theorem shaped_ints (ns : List Int) : SeqAt.shaped (.list (ns.map PyData.int)) = true := by
  have h := depth_ints ns
  refine Bool.and_eq_true_iff.mpr ⟨?_, decide_eq_true ?_⟩
  · simp only [PyData.canLay0, lay_ints]
  · simp only [PyData.depth]
    omega
theorem eqv_nil (ns : List Int) : PyData.eqv (.list (ns.map PyData.int)) (.list []) = ns.isEmpty := by
  cases ns <;> simp [PyData.eqv, PyData.eqvAll]
section
variable {P : Program} {w : World} {K : PySem.W.Frag} {mg : Str → Option Value} {base : Heap}
abbrev s_draw := top 29
theorem sc_draw : FnScope ["stream", "many", "cell", "digit", "mixed"] ["stream", "many"] (defScope s_draw) := ⟨rfl, rfl, rfl, by decide +kernel, rfl, by decide +kernel, by decide +kernel⟩
def spDraw : Sp := fun vs H Q _ => ∃ a c n m, vs = [.ref a, .int m] ∧ Strm H a c n ∧ 1 ≤ m ∧ m < 2 ^ 60 ∧ n < 2 ^ 40 ∧ ∀ H' r, Ex (off a c H) (off a c H') → Strm H' a c (n + 1) → 0 ≤ r → r < m → Q (.int r) H'
theorem ok_draw {f : Addr} {fd : FuncData} (F : FD K mg "_law_draw" "_law_draw" s_draw f fd) (T : Bl mg) : FnOk P w K mg base CX0 1 f fd ["stream", "many"] spDraw := by
  refine F.F.ok sc_draw (fun vs H Q E h => ?_) (fun cdv A outer s H vs Q E hr h => ?_)
  · obtain ⟨a, c, n, m, rfl, _⟩ := h
    rfl
  · obtain ⟨a, c, n, m, rfl, ⟨⟨cells, s1, s3, ha, hc, s10, s30, s31⟩, ne, n0⟩, m1, m2, n1, k⟩ := h
    have nd := sc_draw.nd
    refine ⟨_, pss_cons (ps_asg (pe_op op_add (pe_ix ix_list (pv 0) pe_int (fun _ _ => rfl)) pe_int) (pg_sub (pv 0) pe_int set_list))
      (pss_cons (ps_while PassesOwn.never (PW.pt (pw_and (pt_cmpR op_eq (pe_ix ix_list (pv 0) pe_int (fun _ _ => rfl)) pe_int (nomark _)) (pw_and1 (pt_cmpR (op_neD hr.units) (pe_ix ix_list (pv 0) pe_int (fun _ _ => rfl)) (pe_lst pa_nil) (nomark _)))))
          (pss_cons (ps_set (i := 2) nd rfl (Or.inl rfl) (pe_bm PySem.F.plainAttrs_list PySem.F.slot_list_pop PySem.F.type_list_pop mt_popAt (pe_ix ix_list (pv 0) pe_int (fun _ _ => rfl)) (pa_cons pe_int pa_nil)))
          (pss_cons (ps_asg (pe_op op_mod (pe_callTy call_int1 (by rfl) T.int (by decide +kernel) (pa_cons (pe_op op_add (pe_op op_add (pe_op op_mul (pe_ix ix_list (pv 0) pe_int (fun _ _ => rfl)) pe_int) (pv 2)) pe_int) pa_nil)) pe_int) (pg_sub (pv 0) pe_int set_list))
          (pss_one (ps_asg (pe_ifExp (pt_cmpR op_ge (pv 2) (pe_op op_pow pe_int pe_int) (nomark _)) (pv 2) pe_int) (pg_sub (pv 0) pe_int set_list))))))
      (pss_cons (ps_if (pt_cmpR op_gt (pe_ix ix_list (pv 0) pe_int (fun _ _ => rfl)) pe_int (nomark _))
          (pss_cons (ps_set (i := 3) nd rfl (Or.inl rfl) (pe_op op_mod (pe_callTy call_int1 (by rfl) T.int (by decide +kernel) (pa_cons (pe_ix ix_list (pv 0) pe_int (fun _ _ => rfl)) pa_nil)) (pv 1)))
          (pss_cons (ps_asg (pe_op op_fdivW (pe_ix ix_list (pv 0) pe_int (fun _ _ => rfl)) (pv 1)) (pg_sub (pv 0) pe_int set_list))
          (pss_one (ps_ret (pv 3))))) pss_nil)
      (pss_cons (ps_set (i := 4) nd rfl (Or.inl rfl) (pe_op op_mod (pe_callTy call_int1 (by rfl) T.int (by decide +kernel) (pa_cons (pe_op op_pow (pe_op op_add (pe_op op_add (pe_ix ix_list (pv 0) pe_int (fun _ _ => rfl)) (pe_op op_mul pe_int (pe_ix ix_list (pv 0) pe_int (fun _ _ => rfl)))) pe_int) pe_int) pa_nil)) pe_int))
      (pss_one (ps_ret (pe_op op_mod (pe_op op_mod (pe_callTy call_int1 (by rfl) T.int (by decide +kernel) (pa_cons (pe_op op_pow (pe_op op_add (pe_op op_add (pe_op op_mul (pv 4) pe_int) (pe_op op_mul pe_int (pe_ix ix_list (pv 0) pe_int (fun _ _ => rfl)))) pe_int) pe_int) pa_nil)) pe_int) (pv 1))))))), ?_⟩
    refine ⟨_, rfl, a, _, 2, _, rfl, rfl, SqL.of ha, atI_nat (j := 2) rfl, _, _, rfl, rfl, _, rfl, a, _, 2, 2, rfl, rfl, ha, rfl, ?_⟩
    let Pv : L2.St → Hp → Prop := fun σ H' => ∃ (cells : List Int) (s1 s3 : Int) (v2 : Option V), σ = [some (.ref a), some (.int m), v2, none, none] ∧ H' a = some (.lst [.ref c, .int s1, .int (n + 1), .int s3]) ∧ H' c = some (.lst (cells.map V.int)) ∧ 0 ≤ s1 ∧ 0 ≤ s3 ∧ s3 < 2147483647 ∧ Ex (off a c H) (off a c H')
    refine while_then Pv Pv (fun _ H' => match H' c with | some (.lst xs) => xs.length | _ => 0)
      ⟨cells, s1, s3, none, rfl, upd_same, by rw [upd_ne (Ne.symm ne)]; exact hc, s10, s30, s31, by rw [off_upd (.inl rfl)]; exact Ex.refl _⟩ ?_ ?_ ?_
    · rintro σ H2 q q' hq ⟨v, h1, p, xs, i, v2, h2, h3, h4, h5, h6, b1, h7, h8⟩
      refine ⟨v, h1, p, xs, i, v2, h2, h3, h4, h5, h6, b1, h7, ?_⟩
      cases b1 with
      | false => exact iteF (hq _ _ (by simpa using h8))
      | true =>
        rw [if_pos rfl] at h8
        obtain ⟨v, g1, p, xs, i, v2, g2, g3, g4, g5, g6, g7⟩ := h8
        refine iteT ⟨v, g1, p, xs, i, v2, g2, g3, g4, g5, g6, fun q nq => ?_⟩
        obtain ⟨d, e, x1, x2, x3, x4, b, x5, x6⟩ := g7 q nq
        exact ⟨d, e, x1, x2, x3, x4, b, x5, hq _ _ x6⟩
    · rintro σ H2 ⟨cells, s1, s3, v2, rfl, ha, hc, s10, s30, s31, e2⟩
      refine ⟨_, rfl, a, _, 1, _, rfl, rfl, SqL.of ha, atI_nat (j := 1) rfl, rfl, _, rfl, ?_⟩
      rw [dec_z]
      by_cases hz : s1 = 0
      · rw [decide_eq_true hz]
        refine iteT ⟨_, rfl, a, _, 0, _, rfl, rfl, SqL.of ha, atI_nat (j := 0) rfl, Nat.zero_le _, fun q nq => ?_⟩
        have eq := Ex.new (o := .lst []) nq
        refine ⟨_, _, .lst (SqL.of (eq _ _ hc)) (dp_ints cells), .lst (SqL.of upd_same) .nil, shaped_ints cells, shaped_ints [], _, rfl, ?_⟩
        rw [eqv_nil]
        have na : a ≠ q := ne_of_none ha nq
        have nc : c ≠ q := ne_of_none hc nq
        have eo : Ex (off a c H) (off a c (upd H2 q (.lst []))) := e2.trans (Ex.offs eq)
        cases cells with
        | nil => exact iteF ⟨[], s1, s3, v2, rfl, eq _ _ ha, eq _ _ hc, s10, s30, s31, eo⟩
        | cons z rest =>
          refine iteT ?_
          refine ⟨_, rfl, a, _, 0, _, rfl, rfl, SqL.of (eq _ _ ha), atI_nat (j := 0) rfl, .inl ⟨rfl, _, SqL.of (eq _ _ hc)⟩, c, _, 0, 0, .int z, rfl, rfl, eq _ _ hc, by decide, by decide, by simp [seqIndex?], rfl, ?_⟩
          have ha3 : upd (upd H2 q (.lst [])) c (.lst ((V.int z :: rest.map V.int).eraseIdx 0)) a = some (.lst [.ref c, .int s1, .int (n + 1), .int s3]) := by
            rw [upd_ne ne]
            exact eq _ _ ha
          refine ⟨_, rfl, a, _, 3, _, rfl, rfl, SqL.of ha3, atI_nat (j := 3) rfl, _, _, rfl, rfl, .inl ⟨by omega, by omega⟩, _, rfl, _, _, rfl, rfl, _, _, rfl, rfl, .inl ⟨_, rfl, ?_⟩⟩
          refine ⟨_, _, rfl, rfl, (by show (0 : Int) < 2147483647; decide), _, rfl, a, _, 3, 3, rfl, rfl, ha3, rfl, ?_⟩
          have last : ∀ (t : Int) (H3 : Hp), 0 ≤ t → H3 a = some (.lst [.ref c, .int t, .int (n + 1), .int ((s3 * 8191 + z + 3) % 2147483647)]) → H3 c = some (.lst (rest.map V.int)) → Ex (off a c H) (off a c H3) →
              Pv [some (.ref a), some (.int m), some (.int z), none, none] H3 ∧ (match H3 c with | some (.lst xs) => xs.length | _ => 0) < (match H2 c with | some (.lst xs) => xs.length | _ => 0) := fun t H3 t0 h1 h2 h3 => by
            refine ⟨⟨rest, t, _, _, rfl, h1, h2, t0, Int.emod_nonneg _ (by decide), Int.emod_lt_of_pos _ (by decide), h3⟩, ?_⟩
            rw [h2, hc]
            simp
          refine ⟨_, rfl, _, _, rfl, rfl, ⟨by decide, by decide, by decide⟩, _, _, rfl, rfl, _, rfl, ?_⟩
          have oe : ∀ (x y u : HO), Ex (off a c H) (off a c (upd (upd (upd (upd H2 q (.lst [])) c x) a y) a u)) := fun x y u => by
            rw [off_upd (.inl rfl), off_upd (.inl rfl), off_upd (.inr rfl)]
            exact eo
          have ce : ∀ (y u : HO), upd (upd (upd (upd H2 q (.lst [])) c (.lst ((V.int z :: rest.map V.int).eraseIdx 0))) a y) a u c = some (.lst (rest.map V.int)) := fun y u => by
            rw [upd_ne (Ne.symm ne), upd_ne (Ne.symm ne), upd_same]
            rfl
          cases hd : decide ((10 : Int) ^ (18 : Int).toNat ≤ z) with
          | true =>
            have hz18 := of_decide_eq_true hd
            refine iteT ⟨_, rfl, _, rfl, a, _, 1, 1, rfl, rfl, upd_same, rfl, ?_⟩
            exact last z _ (Int.le_trans (by decide) hz18) upd_same (ce _ _) (oe _ _ _)
          | false =>
            refine iteF ⟨_, rfl, a, _, 1, 1, rfl, rfl, upd_same, rfl, ?_⟩
            exact last 0 _ (Int.le_refl _) upd_same (ce _ _) (oe _ _ _)
      · rw [decide_eq_false hz]
        exact iteF ⟨cells, s1, s3, v2, rfl, ha, hc, s10, s30, s31, e2⟩
    · rintro σ H2 ⟨cells, s1, s3, v2, rfl, ha, hc, s10, s30, s31, e2⟩
      refine ⟨_, rfl, a, _, 1, _, rfl, rfl, SqL.of ha, atI_nat (j := 1) rfl, _, _, rfl, rfl, _, rfl, ?_⟩
      by_cases hp : 0 < s1
      · rw [decide_eq_true hp]
        refine iteT ⟨_, rfl, a, _, 1, _, rfl, rfl, SqL.of ha, atI_nat (j := 1) rfl, .inl ⟨_, rfl, ?_⟩⟩
        have r0 : 0 ≤ s1 % m := Int.emod_nonneg _ (by omega)
        have r1 : s1 % m < m := Int.emod_lt_of_pos _ (by omega)
        refine ⟨_, rfl, _, _, rfl, rfl, (by show (0 : Int) < m; omega), ?_⟩
        refine ⟨_, rfl, a, _, 1, _, rfl, rfl, SqL.of ha, atI_nat (j := 1) rfl, _, rfl, _, _, rfl, rfl, wide_div (b := 64) (by omega) (by omega) (by decide) (by decide), _, rfl, a, _, 1, 1, rfl, rfl, ha, rfl, ?_⟩
        refine ⟨_, rfl, k _ _ ?_ ⟨⟨cells, s1 / m, s3, upd_same, by rw [upd_ne (Ne.symm ne)]; exact hc, Int.ediv_nonneg (by omega) (by omega), s30, s31⟩, ne, by omega⟩ r0 r1⟩
        rw [off_upd (.inl rfl)]
        exact e2
      · rw [decide_eq_false hp]
        refine iteF ?_
        refine ⟨_, rfl, a, _, 3, _, rfl, rfl, SqL.of ha, atI_nat (j := 3) rfl, _, rfl, a, _, 2, _, rfl, rfl, SqL.of ha, atI_nat (j := 2) rfl, _, _, rfl, rfl, .inl ⟨by omega, by omega⟩, _, _, rfl, rfl, _, _, rfl, rfl, _, _, rfl, rfl, ⟨by decide, by decide, by omega⟩, .inl ⟨_, rfl, ?_⟩⟩
        refine ⟨_, _, rfl, rfl, (by show (0 : Int) < 2147483629; decide), ?_⟩
        have d0 : 0 ≤ (s3 + 7919 * (n + 1) + 104729) ^ (5 : Int).toNat % 2147483629 := Int.emod_nonneg _ (by decide)
        have d1 : (s3 + 7919 * (n + 1) + 104729) ^ (5 : Int).toNat % 2147483629 < 2147483629 := Int.emod_lt_of_pos _ (by decide)
        generalize (s3 + 7919 * (n + 1) + 104729) ^ (5 : Int).toNat % 2147483629 = mx at d0 d1
        refine ⟨_, rfl, _, _, rfl, rfl, .inl ⟨by omega, by omega⟩, _, rfl, a, _, 2, _, rfl, rfl, SqL.of ha, atI_nat (j := 2) rfl, _, _, rfl, rfl, .inl ⟨by omega, by omega⟩, _, _, rfl, rfl, _, _, rfl, rfl, _, _, rfl, rfl, ⟨by decide, by decide, by omega⟩, .inl ⟨_, rfl, ?_⟩⟩
        refine ⟨_, _, rfl, rfl, (by show (0 : Int) < 1000000007; decide), _, rfl, _, _, rfl, rfl, (by show (0 : Int) < m; omega), ?_⟩
        exact k _ _ e2 ⟨⟨cells, s1, s3, ha, hc, s10, s30, s31⟩, ne, by omega⟩ (Int.emod_nonneg _ (by omega)) (Int.emod_lt_of_pos _ (by omega))
end
end Ts


set_option Elab.async false
set_option linter.all false
set_option maxRecDepth 100000
set_option maxHeartbeats 4000000
namespace Ts
open PySem PySem.Spec L2
open Evl (Ex)
section
variable {P : Program} {w : World} {K : PySem.W.Frag} {mg : Str → Option Value} {base : Heap}
abbrev s_start := top 28
theorem sc_start : FnScope ["script"] ["script"] (defScope s_start) := ⟨rfl, rfl, rfl, by decide +kernel, rfl, by decide +kernel, by decide +kernel⟩
def spStart (K : PySem.W.Frag) : Sp := fun vs H Q _ => ∃ (s : Addr) (ns : List Int), vs = [.ref s] ∧ SqL K H s (ns.map V.int) ∧ ∀ a c H', H a = none → H c = none → Strm H' a c 0 → Ex H H' → Q (.ref a) H'
theorem ok_start {f : Addr} {fd : FuncData} (F : FD K mg "_law_start" "_law_start" s_start f fd) (T : Bl mg) : FnOk P w K mg base CX0 1 f fd ["script"] (spStart K) := by
  refine F.F.ok sc_start (fun vs H Q E h => ?_) (fun cdv A outer s H vs Q E hr h => ?_)
  · obtain ⟨s, ns, rfl, _⟩ := h
    rfl
  · obtain ⟨s, ns, rfl, hs, k⟩ := h
    refine ⟨_, pss_one (ps_ret (pe_lst (pa_cons (pe_callTy call_list_of (by rfl) T.list PyProof.Rows.boot_list (pa_cons (pv 0) pa_nil)) (pa_cons pe_int (pa_cons pe_int (pa_cons pe_int pa_nil)))))), ?_⟩
    refine ⟨_, rfl, s, _, rfl, .inl hs, fun c nc => ⟨by show 4 ≤ sizeLine; decide, fun a na => ?_⟩⟩
    have e1 := Ex.new (o := .lst (ns.map V.int)) nc
    have e2 := Ex.new (o := .lst [.ref c, .int 0, .int 0, .int 11]) na
    have ne : a ≠ c := fun z => by
      rw [z, upd_same] at na
      cases na
    exact k a c _ (Evl.fresh_back e1 na) nc ⟨⟨ns, 0, 11, upd_same, e2 _ _ upd_same, by decide, by decide, by decide⟩, ne, by decide⟩ (e1.trans e2)
abbrev s_a_told := top 24
theorem sc_a_told : FnScope ["paper", "number", "begin", "period", "gain", "values"] ["paper", "number"] (defScope s_a_told) := ⟨rfl, rfl, rfl, by decide +kernel, rfl, by decide +kernel, by decide +kernel⟩
theorem tell_at {b p g n : Int} {ns : List Int} (hp : 1 ≤ p) (h1 : b ≤ n) (h2 : n < b + p) : tell b p g ns n = ns.getD n.toNat 0 := by
  unfold tell
  rw [if_neg (by omega), Int.emod_eq_of_lt (by omega) (by omega), Int.ediv_eq_zero_of_lt (by omega) (by omega)]
  have e : b + (n - b) = n := by omega
  rw [e, Int.zero_mul, Int.add_zero]
theorem ok_a_told {f : Addr} {fd : FuncData} (F : FD K mg "_law_a_told" "_law_a_told" s_a_told f fd) (T : Bl mg) : FnOk P w K mg base CX0 1 f fd ["paper", "number"] spTold := by
  refine F.F.ok sc_a_told (fun vs H Q E h => ?_) (fun cdv A outer s H vs Q E hr h => ?_)
  · obtain ⟨v, n, b, p, g, ns, rfl, _⟩ := h
    rfl
  · obtain ⟨v, n, b, p, g, ns, rfl, ⟨a, t, rfl, hrow, trow⟩, ok, n0, n1, k⟩ := h
    have nd := sc_a_told.nd
    have hb1 := ok.b1
    have hp1 := ok.p1
    have hg0 := ok.g0
    have hgb := ok.gb
    have hpb := ok.pb
    have hl := ok.len
    refine ⟨_, pss_cons (ps_asg (pv 0) (pg_or (pg_tup rfl (pgs_cons (pg_name (i := 2) nd rfl (Or.inl rfl)) (pgs_cons (pg_name (i := 3) nd rfl (Or.inl rfl)) (pgs_cons (pg_name (i := 4) nd rfl (Or.inl rfl)) (pgs_cons (pg_name (i := 5) nd rfl (Or.inl rfl)) pgs_nil)))))
          (pg_unl rfl (pgs_cons (pg_name (i := 2) nd rfl (Or.inl rfl)) (pgs_cons (pg_name (i := 3) nd rfl (Or.inl rfl)) (pgs_cons (pg_name (i := 4) nd rfl (Or.inl rfl)) (pgs_cons (pg_name (i := 5) nd rfl (Or.inl rfl)) pgs_nil)))))))
      (pss_cons (ps_if (pt_cmpR op_lt (pv 1) (pe_op op_add (pv 2) (pv 3)) (nomark _)) (pss_one (ps_ret (pe_ix ix_seq (pv 5) (pv 1) (fun _ _ => rfl)))) pss_nil)
      (pss_one (ps_ret (pe_op op_add (pe_ix ix_seq (pv 5) (pe_op op_add (pv 2) (pe_op op_mod (pe_callTy call_int1 (by rfl) T.int (by decide +kernel) (pa_cons (pe_op op_sub (pv 1) (pv 2)) pa_nil)) (pv 3))) (fun _ _ => rfl))
        (pe_op op_mul (pv 4) (pe_op op_fdivW (pe_op op_sub (pv 1) (pv 2)) (pv 3))))))), ?_⟩
    refine ⟨_, rfl, g_row hrow rfl ⟨_, _, rfl, _, _, rfl, _, _, rfl, _, _, rfl, rfl, ?_⟩⟩
    refine ⟨_, rfl, _, rfl, _, rfl, _, _, rfl, rfl, _, _, rfl, rfl, _, rfl, ?_⟩
    have z := k H (Ex.refl H)
    by_cases hn : n < b + p
    · rw [decide_eq_true hn]
      refine iteT ⟨_, rfl, _, rfl, ix_row trow (atI_int n0 (get_map (by omega))) ?_⟩
      by_cases hb : n < b
      · unfold tell at z
        rw [if_pos hb] at z
        exact z
      · rw [tell_at hp1 (by omega) hn] at z
        exact z
    · rw [decide_eq_false hn]
      have m0 : 0 ≤ (n - b) % p := Int.emod_nonneg _ (by omega)
      have m1 : (n - b) % p < p := Int.emod_lt_of_pos _ (by omega)
      refine iteF ⟨_, rfl, _, rfl, _, rfl, _, rfl, _, _, rfl, rfl, .inl ⟨_, rfl, ?_⟩⟩
      refine ⟨_, rfl, _, _, rfl, rfl, (by show (0 : Int) < p; omega), _, _, rfl, rfl, ix_row trow (atI_int (by omega) (get_map (by omega))) ?_⟩
      refine ⟨_, rfl, _, rfl, _, rfl, _, _, rfl, rfl, _, rfl, _, _, rfl, rfl, wide_div (b := 64) (by omega) (by omega) (by decide) (by decide), _, _, rfl, rfl, .inl ⟨by omega, by omega⟩, _, _, rfl, rfl, ?_⟩
      unfold tell at z
      rw [if_neg (by omega), Int.mul_comm] at z
      exact z
end
end Ts


set_option Elab.async false
set_option linter.all false
set_option maxRecDepth 100000
set_option maxHeartbeats 4000000
namespace Ts
open PySem PySem.Spec L2
open Evl (Ex)
theorem off_upd_ne {a c p : Addr} {H : Hp} {o : HO} (h1 : p ≠ a) (h2 : p ≠ c) : off a c (upd H p o) = upd (off a c H) p o := by
  funext b
  by_cases hb : b = p
  · subst hb
    rw [upd_same, off_ne h1 h2, upd_same]
  · rw [upd_ne hb]
    unfold off
    split
    · rfl
    · exact upd_ne hb
theorem off_none {a c p : Addr} {H : Hp} (h : H p = none) : off a c H p = none := by
  unfold off
  split
  · rfl
  · exact h
theorem Strm.nea {H : Hp} {a c : Addr} {n : Int} (h : Strm H a c n) {p : Addr} (hp : H p = none) : p ≠ a ∧ p ≠ c := by
  obtain ⟨⟨cells, s1, s3, h1, h2, _⟩, _, _⟩ := h
  exact ⟨fun z => (by rw [z, h1] at hp; cases hp), fun z => (by rw [z, h2] at hp; cases hp)⟩
theorem Strm.upd {H : Hp} {a c p : Addr} {n : Int} {o : HO} (h : Strm H a c n) (h1 : p ≠ a) (h2 : p ≠ c) : Strm (L2.upd H p o) a c n := by
  obtain ⟨⟨cells, s1, s3, g1, g2, r⟩, ne, n0⟩ := h
  exact ⟨⟨cells, s1, s3, by rw [upd_ne (Ne.symm h1)]; exact g1, by rw [upd_ne (Ne.symm h2)]; exact g2, r⟩, ne, n0⟩
/-- a paper of the law's: a tuple -/
def papD (b p g : Int) (ns : List Int) : PyData := .tuple [.int b, .int p, .int g, .list (ns.map .int)]
structure PGood (far gains b p g : Int) (ns : List Int) : Prop where
  b1 : 1 ≤ b
  b2 : b ≤ far
  p1 : 1 ≤ p
  p2 : p ≤ far
  g1 : 0 ≤ g
  g2 : g < gains
  len : (ns.length : Int) = b + p
  nn : ∀ z ∈ ns, 0 ≤ z ∧ z ≤ 10
  hd : ns.head? = some 0
theorem dall_ints {H : Hp} : ∀ ns : List Int, DAll H (ns.map V.int) (ns.map PyData.int)
  | [] => .nil
  | n :: r => .cons (.int n) (dall_ints r)
section
variable {P : Program} {w : World} {K : PySem.W.Frag} {mg : Str → Option Value} {base : Heap}
abbrev s_c_paper := top 25
theorem sc_c_paper : FnScope ["stream", "far", "gains", "begin", "period", "some", "values", "number"] ["stream", "far", "gains"] (defScope s_c_paper) := ⟨rfl, rfl, rfl, by decide +kernel, rfl, by decide +kernel, by decide +kernel⟩
theorem b_draw {f : Addr} {fd : FuncData} (F : FD K mg "_law_draw" "_law_draw" s_draw f fd) : Binds K fd ["stream", "many"] [] := F.F.binds fun _ _ _ _ _ _ us hl => match us, hl with | [_, _], _ => rfl
def spCPaper : Sp := fun vs H Q _ => ∃ a c n far gains, vs = [.ref a, .int far, .int gains] ∧ Strm H a c n ∧ n < 2 ^ 39 ∧ 1 ≤ far ∧ far ≤ 100 ∧ 1 ≤ gains ∧ gains ≤ 100 ∧
  ∀ H' z b p g ns n', Ex (off a c H) (off a c H') → Strm H' a c n' → n ≤ n' → n' ≤ n + 300 → D (off a c H') (.ref z) (papD b p g ns) → PGood far gains b p g ns → Q (.ref z) H'
theorem ok_c_paper {f f1 : Addr} {fd fd1 : FuncData} (F : FD K mg "_law_c_paper" "_law_c_paper" s_c_paper f fd) (F1 : FD K mg "_law_draw" "_law_draw" s_draw f1 fd1) (T : Bl mg) : FnOk P w K mg base CX0 2 f fd ["stream", "far", "gains"] spCPaper := by
  have G1 : FnOk P w K mg base CX0 1 f1 fd1 ["stream", "many"] spDraw := ok_draw F1 T
  refine F.F.ok sc_c_paper (fun vs H Q E h => ?_) (fun cdv A outer s H vs Q E hr h => ?_)
  · obtain ⟨a, c, n, far, gains, rfl, _⟩ := h
    rfl
  · obtain ⟨a, c, n, far, gains, rfl, S, n1, f1_, f2_, g1_, g2_, k⟩ := h
    have nd := sc_c_paper.nd
    refine ⟨_, pss_cons (ps_par (i := 3) (j := 4) (by rfl) nd rfl rfl (by decide) rfl rfl (pa_cons (pe_op op_add pe_int (pe_call G1 hr (by rfl) F1.g F1.F.kp (b_draw F1) .nil pass0 (pa_cons (pv 0) (pa_cons (pv 1) pa_nil)))) (pa_cons (pe_op op_add pe_int (pe_call G1 hr (by rfl) F1.g F1.F.kp (b_draw F1) .nil pass0 (pa_cons (pv 0) (pa_cons (pv 1) pa_nil)))) pa_nil)) (by rfl))
      (pss_cons (ps_set (i := 5) nd rfl (Or.inr rfl) (pe_op op_add pe_int (pe_call G1 hr (by rfl) F1.g F1.F.kp (b_draw F1) .nil pass0 (pa_cons (pv 0) (pa_cons pe_int pa_nil)))))
      (pss_cons (ps_set (i := 6) nd rfl (Or.inl rfl) (pe_op op_cat (pe_lst (pa_cons pe_int pa_nil)) (pe_lc (own := [("number", 7)]) (g := gName 7) (tt := tYes) rfl nd (pi_range1 (by rfl) T.range (pa_cons (pe_op op_sub (pe_op op_add (pv 3) (pv 4)) pe_int) pa_nil))
          (blkOk_by (N := ["stream", "far", "gains", "begin", "period", "some", "values", "number"]) (sc := defScope s_c_paper) (by decide +kernel)) (fun _ _ _ _ _ => pg_name (i := 7) nd rfl (Or.inl rfl)) (fun _ _ _ _ _ => pts_nil)
          (fun _ _ _ _ _ => pe_call G1 hr (by rfl) F1.g F1.F.kp (b_draw F1) .nil pass0 (pa_cons (pv 0) (pa_cons (pv 5) pa_nil))))))
      (pss_one (ps_ret (pe_tup (pa_cons (pv 3) (pa_cons (pv 4) (pa_cons (pe_call G1 hr (by rfl) F1.g F1.F.kp (b_draw F1) .nil pass0 (pa_cons (pv 0) (pa_cons (pv 2) pa_nil))) (pa_cons (pv 6) pa_nil))))))))), ?_⟩
    refine ⟨_, rfl, _, rfl, a, c, n, far, rfl, S, f1_, by omega, by omega, fun H1 r1 e1 S1 r10 r11 => ⟨_, _, rfl, rfl, ?_⟩⟩
    refine ⟨_, rfl, _, rfl, a, c, n + 1, far, rfl, S1, f1_, by omega, by omega, fun H2 r2 e2 S2 r20 r21 => ⟨_, _, rfl, rfl, _, _, rfl, ?_⟩⟩
    refine ⟨_, rfl, a, c, n + 1 + 1, 4, rfl, S2, by decide, by decide, by omega, fun H3 r3 e3 S3 r30 r31 => ⟨_, _, rfl, rfl, ?_⟩⟩
    have e13 := (e1.trans e2).trans e3
    refine ⟨by show 1 ≤ sizeLine; decide, fun q nq => ?_⟩
    have eq := Ex.new (o := .lst [.int 0]) nq
    have S4 := S3.ex eq
    have e14 := e13.trans (Ex.offs (a := a) (c := c) eq)
    generalize hH4 : upd H3 q (.lst [.int 0]) = H4 at eq S4 e14
    have q4 : H4 q = some (.lst [.int 0]) := by rw [← hH4]; exact upd_same
    refine ⟨_, rfl, _, rfl, _, _, rfl, rfl, _, _, rfl, rfl, _, rfl, by omega, by omega, fun Dd hD => ?_⟩
    obtain ⟨da, dc⟩ := S4.nea hD
    refine lc_it (walk_range (n := (1 + r1 + (1 + r2) - 1).toNat)) (Pv := fun i H' => ∃ l : List Int, l.length = i ∧ H' Dd = some (.lst (l.map V.int)) ∧ Strm H' a c (n + 1 + 1 + 1 + (i : Nat)) ∧ Ex (off a c H4) (off a c H') ∧ ∀ z ∈ l, 0 ≤ z ∧ z ≤ 10)
      ⟨[], rfl, upd_same, by simpa using S4.ex (Ex.new hD), Ex.offs (Ex.new hD), fun z hz => by cases hz⟩ (fun _ _ _ _ => trivial) ?_ ?_
    · rintro i x H' H'' hi ⟨l, hl, hDl, S', e', hn⟩ ⟨rfl, rfl⟩
      refine ⟨rfl, ?_⟩
      unfold tYes
      dsimp only
      rw [if_pos rfl]
      refine ⟨_, rfl, _, rfl, a, c, _, 1 + r3, rfl, S', by omega, by omega, by omega, fun H5 r e5 S5 r0 r1' => ?_⟩
      have hD5 : H5 Dd = some (.lst (l.map V.int)) := off_of (e5 Dd _ ((off_ne da dc).trans hDl))
      refine ⟨_, hD5, by rw [List.length_map, hl]; exact Evl.sz_lt (by omega), l ++ [r], by rw [List.length_append, hl]; rfl, by rw [upd_same, List.map_append]; rfl, ?_, ?_, fun z hz => ?_⟩
      · have := S5.upd (o := .lst (l.map V.int ++ [V.int r])) da dc
        have ec : n + 1 + 1 + 1 + ((i + 1 : Nat) : Int) = n + 1 + 1 + 1 + (i : Nat) + 1 := by omega
        rw [ec]
        exact this
      · rw [off_upd_ne da dc]
        exact (e'.trans e5).mut (off_none hD)
      · rcases List.mem_append.mp hz with hz | hz
        · exact hn z hz
        · rw [List.mem_singleton] at hz
          omega
    · rintro H' ⟨l, hl, hDl, S', e', hn⟩
      have qa := S3.nea nq
      have q5 : H' q = some (.lst [.int 0]) := off_of (e' q _ ((off_ne qa.1 qa.2).trans q4))
      refine ⟨q, Dd, [.int 0], _, rfl, rfl, q5, hDl, by rw [List.length_map, hl]; exact Evl.sz_of (by show 1 + _ ≤ 100000; omega), fun pv npv => ?_⟩
      have ep := Ex.new (o := .lst ([.int 0] ++ l.map V.int)) npv
      have S6 := S'.ex ep
      refine ⟨_, rfl, _, rfl, _, rfl, _, rfl, a, c, _, gains, rfl, S6, g1_, by omega, by omega, fun H7 r7 e7 S7 r70 r71 => ?_⟩
      refine ⟨_, rfl, by show 4 ≤ sizeLine; decide, fun zz nzz => ?_⟩
      have ez := Ex.new (o := .tup [.int (1 + r1), .int (1 + r2), .int r7, .ref pv]) nzz
      obtain ⟨za, zc⟩ := S7.nea nzz
      obtain ⟨pa', pc'⟩ := S'.nea npv
      have pv7 : off a c H7 pv = some (.lst ([.int 0] ++ l.map V.int)) := e7 _ _ ((off_ne pa' pc').trans upd_same)
      refine k _ zz (1 + r1) (1 + r2) r7 (0 :: l) _ (((e14.trans e').trans (Ex.offs ep)).trans (e7.trans (Ex.offs ez))) (S7.ex ez) (by omega) (by omega) ?_ ⟨by omega, by omega, by omega, by omega, r70, r71, by rw [List.length_cons, hl]; omega, fun z hz => ?_, rfl⟩
      · refine .tup (xs := [.int (1 + r1), .int (1 + r2), .int r7, .ref pv]) ((off_ne za zc).trans upd_same) (.cons (.int _) (.cons (.int _) (.cons (.int _) (.cons (.lst (Ex.offs (a := a) (c := c) ez _ _ pv7) ?_) .nil))))
        exact .cons (.int 0) (dall_ints l)
      · rcases List.mem_cons.mp hz with hz | hz
        · omega
        · exact hn z hz
end
end Ts


set_option Elab.async false
set_option linter.all false
set_option maxRecDepth 100000
set_option maxHeartbeats 4000000
namespace Ts
open PySem PySem.Spec L2
open Evl (Ex)
theorem DAll.app {H : Hp} : ∀ {xs ys : List V} {ds es : List PyData}, DAll H xs ds → DAll H ys es → DAll H (xs ++ ys) (ds ++ es)
  | _, _, _, _, .nil, h => h
  | _, _, _, _, .cons h r, h2 => .cons h (DAll.app r h2)
/-! ## things that are made from nothing -/
/-- what is new -/
def nw (H H' : Hp) : Hp := fun b => match H b with
  | none => H' b
  | some _ => none
theorem nw_none {H H' : Hp} {b : Addr} (h : H b = none) : nw H H' b = H' b := by
  unfold nw
  rw [h]
theorem nw_some {H H' : Hp} {b : Addr} {o : HO} (h : nw H H' b = some o) : H b = none ∧ H' b = some o := by
  unfold nw at h
  cases e : H b with
  | none =>
    rw [e] at h
    exact ⟨rfl, h⟩
  | some u =>
    rw [e] at h
    cases h
theorem nw_ex {H H' : Hp} : Ex (nw H H') H' := fun _ _ h => (nw_some h).2
theorem nw_mono {H H1 H2 H3 : Hp} (e : Ex H H1) (e2 : Ex H2 H3) : Ex (nw H1 H2) (nw H H3) := fun b o h => by
  obtain ⟨h1, h2⟩ := nw_some h
  rw [nw_none (Evl.fresh_back e h1)]
  exact e2 _ _ h2
def EvD (te : TE) (d : PyData) : Prop := ∀ σ H Q, (∀ v H', Ex H H' → D (nw H H') v d → Q v H') → te σ H Q
def EvDs (ta : TA) (ds : List PyData) : Prop := ∀ σ H Q, (∀ vs H', Ex H H' → DAll (nw H H') vs ds → Q vs H') → ta σ H Q
theorem evd_c {v : V} {d : PyData} (h : ∀ H, D H v d) : EvD (tC v) d := fun σ H Q k => k v H (Ex.refl H) (h _)
theorem evds_nil : EvDs tNil [] := fun σ H Q k => k [] H (Ex.refl H) .nil
theorem evds_cons {te : TE} {ta : TA} {d : PyData} {ds : List PyData} (h : EvD te d) (hs : EvDs ta ds) : EvDs (tCons te ta) (d :: ds) := fun σ H Q k =>
  h σ H _ fun v H1 e1 d1 => hs σ H1 _ fun vs H2 e2 d2 => k (v :: vs) H2 (e1.trans e2) (.cons (d1.ex (nw_mono (Ex.refl H) e2)) (d2.ex (nw_mono e1 (Ex.refl H2))))
theorem evd_tup {ta : TA} {ds : List PyData} (h : EvDs ta ds) (hz : ds.length ≤ 1000) : EvD (tTup ta) (.tuple ds) := fun σ H Q k =>
  h σ H _ fun vs H1 e1 d1 => ⟨by rw [d1.len]; exact Evl.sz_of (by omega), fun p np => k _ _ (e1.trans (Ex.new np)) (.tup (by rw [nw_none (Evl.fresh_back e1 np)]; exact upd_same) (d1.ex (nw_mono (Ex.refl H) (Ex.new np))))⟩
theorem evd_lst {ta : TA} {ds : List PyData} (h : EvDs ta ds) (hz : ds.length ≤ 1000) : EvD (tLst ta) (.list ds) := fun σ H Q k =>
  h σ H _ fun vs H1 e1 d1 => ⟨by rw [d1.len]; exact Evl.sz_of (by omega), fun p np => k _ _ (e1.trans (Ex.new np)) (.lst (by rw [nw_none (Evl.fresh_back e1 np)]; exact upd_same) (d1.ex (nw_mono (Ex.refl H) (Ex.new np))))⟩
theorem evd_neg (i : Int) : EvD (tUn (rU fun i => .int (-i)) (tC (.int i))) (.int (-i)) := fun σ H Q k => ⟨i, rfl, k _ H (Ex.refl H) (.int _)⟩
theorem evd_d0 : EvD tDNewK (.dict []) := fun σ H Q k p np => k _ _ (Ex.new np) (.dic (by rw [nw_none np]; exact upd_same) .nil)
theorem evd_d1 (x : Str) (i : Int) : EvD (tDisp [(tC (.str x), tC (.int i))]) (.dict [(.str x, .int i)]) := fun σ H Q k p np => by
  refine ⟨upd_same, [(.inr x, .int i)], rfl, (by show 1 ≤ 15; decide), k _ _ (fun b o h => ?_) ?_⟩
  · rw [upd_ne (ne_of_none h np), upd_ne (ne_of_none h np)]
    exact h
  · refine .dic (kvs := [(.inr x, .int i)]) ?_ (.cons (k := .inr x) (.int i) .nil)
    rw [nw_none np]
    exact upd_same
/-- what is new but one -/
def rg (H : Hp) (p : Addr) (H' : Hp) : Hp := L2.del (nw H H') p
theorem rg_ex {H H' : Hp} {p : Addr} : Ex (rg H p H') H' := fun b o h => by
  unfold rg L2.del at h
  split at h
  · cases h
  · exact nw_ex _ _ h
theorem rg_of {H H1 H' : Hp} {p : Addr} (e1 : Ex H H1) (np : H1 p = none) {x : HO} (e2 : Ex (upd H1 p x) H') : Ex (nw H H1) (rg H p H') := fun b o h => by
  obtain ⟨g1, g2⟩ := nw_some h
  have hb : b ≠ p := ne_of_none g2 np
  unfold rg
  rw [L2.del_ne hb, nw_none g1]
  exact e2 _ _ (by rw [upd_ne hb]; exact g2)
theorem rg_old {H H1 H2 H' : Hp} {p : Addr} (e1 : Ex H H1) (hp : H1 p ≠ none) (e2 : ∀ b o, b ≠ p → H2 b = some o → H' b = some o) : Ex (nw H1 H2) (rg H p H') := fun b o h => by
  obtain ⟨g1, g2⟩ := nw_some h
  have hb : b ≠ p := fun z => hp (by rw [← z]; exact g1)
  unfold rg
  rw [L2.del_ne hb, nw_none (Evl.fresh_back e1 g1)]
  exact e2 _ _ hb g2
theorem rg_mono {H H1 H2 : Hp} {p : Addr} (e : ∀ b o, b ≠ p → H1 b = some o → H2 b = some o) : Ex (rg H p H1) (rg H p H2) := fun b o h => by
  by_cases hb : b = p
  · unfold rg at h
    rw [hb, L2.del_same] at h
    cases h
  · unfold rg at h ⊢
    rw [L2.del_ne hb] at h ⊢
    obtain ⟨g1, g2⟩ := nw_some h
    rw [nw_none g1]
    exact e _ _ hb g2
/-- a list at p that grows -/
structure Grown (H H' : Hp) (p : Addr) (ds : List PyData) : Prop where
  ex : Ex H H'
  new : H p = none
  at_ : ∃ xs, H' p = some (.lst xs) ∧ DAll (rg H p H') xs ds
theorem Grown.start {H H1 : Hp} {p : Addr} {xs : List V} {ds : List PyData} (e1 : Ex H H1) (d1 : DAll (nw H H1) xs ds) (np : H1 p = none) : Grown H (upd H1 p (.lst xs)) p ds :=
  ⟨e1.trans (Ex.new np), Evl.fresh_back e1 np, xs, upd_same, d1.ex (rg_of e1 np (Ex.refl _))⟩
theorem Grown.more {H H1 H2 : Hp} {p l : Addr} {ys : List V} {ds es : List PyData} (g : Grown H H1 p ds) (e : Ex H1 H2) (d : DAll (nw H1 H2) ys es) (nl : H2 l = none) {xs : List V} (hx : H1 p = some (.lst xs)) :
    Grown H (upd (upd H2 l (.lst ys)) p (.lst (xs ++ ys))) p (ds ++ es) := by
  obtain ⟨e0, np, xs', hx', dx⟩ := g
  rw [hx] at hx'
  cases hx'
  have k : ∀ b o, b ≠ p → H2 b = some o → upd (upd H2 l (.lst ys)) p (.lst (xs ++ ys)) b = some o := fun b o hb h => by
    rw [upd_ne hb, upd_ne (ne_of_none h nl)]
    exact h
  refine ⟨fun b o h => k b o (ne_of_none h np) (e _ _ (e0 _ _ h)), np, _, upd_same, ?_⟩
  have a1 : DAll (rg H p (upd (upd H2 l (.lst ys)) p (.lst (xs ++ ys)))) xs ds := dx.ex (rg_mono fun b o hb h => k b o hb (e _ _ h))
  have a2 : DAll (rg H p (upd (upd H2 l (.lst ys)) p (.lst (xs ++ ys)))) ys es := d.ex (rg_old e0 (by rw [hx]; simp) k)
  exact a1.app a2
theorem lst_of {ta : TA} {ds : List PyData} {σ : L2.St} {H : Hp} {Q : VK} (h : EvDs ta ds) (hz : ds.length ≤ 1000) (k : ∀ vs H1 p, Ex H H1 → DAll (nw H H1) vs ds → H1 p = none → vs.length = ds.length → vs.length ≤ 1000 → Q (.ref p) (upd H1 p (.lst vs))) : tLst ta σ H Q :=
  h σ H _ fun vs H1 e1 d1 => ⟨by rw [d1.len]; exact Evl.sz_of (by omega), fun p np => k vs H1 p e1 d1 np d1.len (by rw [d1.len]; exact hz)⟩
def odd1 : List PyData := [.none, .int 5, .str "paper", .tuple [], .dict [], .bool true, .tuple [.int 1, .int 1, .int 0], .tuple [.int 1, .int 1, .int 0, .list [.int 0]], .tuple [.int 0, .int 1, .int 0, .list [.int 0]], .tuple [.int 1, .int 0, .int 0, .list [.int 0]]]
def odd2 : List PyData := [.tuple [.int 1, .int 1, .int (-1), .list [.int 0, .int 0]], .tuple [.int 1, .int 1, .int 0, .list [.int 0, .int (-1)]], .tuple [.int 1, .int 1, .int 0, .list [.int 0, .bool true]], .tuple [.int 1, .bool true, .int 0, .list [.int 0, .int 0]], .tuple [.int 1, .int 1, .int 0, .str "00"]]
def odd3 : List PyData := [.tuple [.int 1, .int 1, .int 0, .list [.int 1, .int 0]], .tuple [.int 1, .int 1, .int 0, .list [.int 0, .int 0, .int 0]], .tuple [.int 1, .int 1, .int 0, .none], .tuple [.int 1, .int 1, .none, .list [.int 0, .int 0]], .dict [(.str "begin", .int 1)]]
def odd4 : List PyData := [.tuple [.int 1, .int 1, .int 0, .list [.int 0, .int 0], .int 0]]
def oddD : List PyData := ((odd1 ++ odd2) ++ odd3) ++ odd4
section
variable {P : Program} {w : World} {K : PySem.W.Frag} {mg : Str → Option Value} {base : Heap}
abbrev s_c_odd := top 26
theorem sc_c_odd : FnScope ["found"] [] (defScope s_c_odd) := ⟨rfl, rfl, rfl, by decide +kernel, rfl, by decide +kernel, by decide +kernel⟩
def spOdd : Sp := fun vs H Q _ => vs = [] ∧ ∀ p H', H p = none → Ex H H' → D H' (.ref p) (.list oddD) → Q (.ref p) H'
theorem ok_c_odd {f : Addr} {fd : FuncData} (F : FD K mg "_law_c_odd" "_law_c_odd" s_c_odd f fd) : FnOk P w K mg base CX0 1 f fd [] spOdd := by
  refine F.F.ok sc_c_odd (fun vs H Q E h => ?_) (fun cdv A outer s H vs Q E hr h => ?_)
  · obtain ⟨rfl, _⟩ := h
    rfl
  · obtain ⟨rfl, k⟩ := h
    have nd := sc_c_odd.nd
    refine ⟨_, pss_cons (ps_set (i := 0) nd rfl (Or.inl rfl) (pe_lst (pa_cons pe_non (pa_cons pe_int (pa_cons pe_str (pa_cons (pe_tup pa_nil) (pa_cons pe_dnewK (pa_cons pe_bl (pa_cons (pe_tup (pa_cons pe_int (pa_cons pe_int (pa_cons pe_int pa_nil)))) (pa_cons (pe_tup (pa_cons pe_int (pa_cons pe_int (pa_cons pe_int (pa_cons (pe_lst (pa_cons pe_int pa_nil)) pa_nil))))) (pa_cons (pe_tup (pa_cons pe_int (pa_cons pe_int (pa_cons pe_int (pa_cons (pe_lst (pa_cons pe_int pa_nil)) pa_nil))))) (pa_cons (pe_tup (pa_cons pe_int (pa_cons pe_int (pa_cons pe_int (pa_cons (pe_lst (pa_cons pe_int pa_nil)) pa_nil))))) pa_nil))))))))))))
      (pss_cons (ps_expr (pe_bm PySem.F.plainAttrs_list PySem.F.slot_list_extend PySem.F.type_list_extend mt_extend (pv 0) (pa_cons (pe_lst (pa_cons (pe_tup (pa_cons pe_int (pa_cons pe_int (pa_cons (pe_un un_neg pe_int) (pa_cons (pe_lst (pa_cons pe_int (pa_cons pe_int pa_nil))) pa_nil))))) (pa_cons (pe_tup (pa_cons pe_int (pa_cons pe_int (pa_cons pe_int (pa_cons (pe_lst (pa_cons pe_int (pa_cons (pe_un un_neg pe_int) pa_nil))) pa_nil))))) (pa_cons (pe_tup (pa_cons pe_int (pa_cons pe_int (pa_cons pe_int (pa_cons (pe_lst (pa_cons pe_int (pa_cons pe_bl pa_nil))) pa_nil))))) (pa_cons (pe_tup (pa_cons pe_int (pa_cons pe_bl (pa_cons pe_int (pa_cons (pe_lst (pa_cons pe_int (pa_cons pe_int pa_nil))) pa_nil))))) (pa_cons (pe_tup (pa_cons pe_int (pa_cons pe_int (pa_cons pe_int (pa_cons pe_str pa_nil))))) pa_nil)))))) pa_nil)))
      (pss_cons (ps_expr (pe_bm PySem.F.plainAttrs_list PySem.F.slot_list_extend PySem.F.type_list_extend mt_extend (pv 0) (pa_cons (pe_lst (pa_cons (pe_tup (pa_cons pe_int (pa_cons pe_int (pa_cons pe_int (pa_cons (pe_lst (pa_cons pe_int (pa_cons pe_int pa_nil))) pa_nil))))) (pa_cons (pe_tup (pa_cons pe_int (pa_cons pe_int (pa_cons pe_int (pa_cons (pe_lst (pa_cons pe_int (pa_cons pe_int (pa_cons pe_int pa_nil)))) pa_nil))))) (pa_cons (pe_tup (pa_cons pe_int (pa_cons pe_int (pa_cons pe_int (pa_cons pe_non pa_nil))))) (pa_cons (pe_tup (pa_cons pe_int (pa_cons pe_int (pa_cons pe_non (pa_cons (pe_lst (pa_cons pe_int (pa_cons pe_int pa_nil))) pa_nil))))) (pa_cons (pe_disp (pps_cons pe_str pe_int pps_nil) (by rfl) (by rfl) (fun z => by cases z) (by decide)) pa_nil)))))) pa_nil)))
      (pss_one (ps_ret (pe_op op_cat (pv 0) (pe_lst (pa_cons (pe_tup (pa_cons pe_int (pa_cons pe_int (pa_cons pe_int (pa_cons (pe_lst (pa_cons pe_int (pa_cons pe_int pa_nil))) (pa_cons pe_int pa_nil)))))) pa_nil))))))), ?_⟩
    have h1 : EvDs _ odd1 := (evds_cons (evd_c (fun _ => .non)) (evds_cons (evd_c (fun _ => .int 5)) (evds_cons (evd_c (fun _ => .str "paper")) (evds_cons (evd_tup evds_nil (by decide)) (evds_cons evd_d0 (evds_cons (evd_c (fun _ => .bl true)) (evds_cons (evd_tup (evds_cons (evd_c (fun _ => .int 1)) (evds_cons (evd_c (fun _ => .int 1)) (evds_cons (evd_c (fun _ => .int 0)) evds_nil))) (by decide)) (evds_cons (evd_tup (evds_cons (evd_c (fun _ => .int 1)) (evds_cons (evd_c (fun _ => .int 1)) (evds_cons (evd_c (fun _ => .int 0)) (evds_cons (evd_lst (evds_cons (evd_c (fun _ => .int 0)) evds_nil) (by decide)) evds_nil)))) (by decide)) (evds_cons (evd_tup (evds_cons (evd_c (fun _ => .int 0)) (evds_cons (evd_c (fun _ => .int 1)) (evds_cons (evd_c (fun _ => .int 0)) (evds_cons (evd_lst (evds_cons (evd_c (fun _ => .int 0)) evds_nil) (by decide)) evds_nil)))) (by decide)) (evds_cons (evd_tup (evds_cons (evd_c (fun _ => .int 1)) (evds_cons (evd_c (fun _ => .int 0)) (evds_cons (evd_c (fun _ => .int 0)) (evds_cons (evd_lst (evds_cons (evd_c (fun _ => .int 0)) evds_nil) (by decide)) evds_nil)))) (by decide)) evds_nil))))))))))
    have h2 : EvDs _ odd2 := (evds_cons (evd_tup (evds_cons (evd_c (fun _ => .int 1)) (evds_cons (evd_c (fun _ => .int 1)) (evds_cons (evd_neg 1) (evds_cons (evd_lst (evds_cons (evd_c (fun _ => .int 0)) (evds_cons (evd_c (fun _ => .int 0)) evds_nil)) (by decide)) evds_nil)))) (by decide)) (evds_cons (evd_tup (evds_cons (evd_c (fun _ => .int 1)) (evds_cons (evd_c (fun _ => .int 1)) (evds_cons (evd_c (fun _ => .int 0)) (evds_cons (evd_lst (evds_cons (evd_c (fun _ => .int 0)) (evds_cons (evd_neg 1) evds_nil)) (by decide)) evds_nil)))) (by decide)) (evds_cons (evd_tup (evds_cons (evd_c (fun _ => .int 1)) (evds_cons (evd_c (fun _ => .int 1)) (evds_cons (evd_c (fun _ => .int 0)) (evds_cons (evd_lst (evds_cons (evd_c (fun _ => .int 0)) (evds_cons (evd_c (fun _ => .bl true)) evds_nil)) (by decide)) evds_nil)))) (by decide)) (evds_cons (evd_tup (evds_cons (evd_c (fun _ => .int 1)) (evds_cons (evd_c (fun _ => .bl true)) (evds_cons (evd_c (fun _ => .int 0)) (evds_cons (evd_lst (evds_cons (evd_c (fun _ => .int 0)) (evds_cons (evd_c (fun _ => .int 0)) evds_nil)) (by decide)) evds_nil)))) (by decide)) (evds_cons (evd_tup (evds_cons (evd_c (fun _ => .int 1)) (evds_cons (evd_c (fun _ => .int 1)) (evds_cons (evd_c (fun _ => .int 0)) (evds_cons (evd_c (fun _ => .str "00")) evds_nil)))) (by decide)) evds_nil)))))
    have h3 : EvDs _ odd3 := (evds_cons (evd_tup (evds_cons (evd_c (fun _ => .int 1)) (evds_cons (evd_c (fun _ => .int 1)) (evds_cons (evd_c (fun _ => .int 0)) (evds_cons (evd_lst (evds_cons (evd_c (fun _ => .int 1)) (evds_cons (evd_c (fun _ => .int 0)) evds_nil)) (by decide)) evds_nil)))) (by decide)) (evds_cons (evd_tup (evds_cons (evd_c (fun _ => .int 1)) (evds_cons (evd_c (fun _ => .int 1)) (evds_cons (evd_c (fun _ => .int 0)) (evds_cons (evd_lst (evds_cons (evd_c (fun _ => .int 0)) (evds_cons (evd_c (fun _ => .int 0)) (evds_cons (evd_c (fun _ => .int 0)) evds_nil))) (by decide)) evds_nil)))) (by decide)) (evds_cons (evd_tup (evds_cons (evd_c (fun _ => .int 1)) (evds_cons (evd_c (fun _ => .int 1)) (evds_cons (evd_c (fun _ => .int 0)) (evds_cons (evd_c (fun _ => .non)) evds_nil)))) (by decide)) (evds_cons (evd_tup (evds_cons (evd_c (fun _ => .int 1)) (evds_cons (evd_c (fun _ => .int 1)) (evds_cons (evd_c (fun _ => .non)) (evds_cons (evd_lst (evds_cons (evd_c (fun _ => .int 0)) (evds_cons (evd_c (fun _ => .int 0)) evds_nil)) (by decide)) evds_nil)))) (by decide)) (evds_cons (evd_d1 "begin" 1) evds_nil)))))
    have h4 : EvDs _ odd4 := (evds_cons (evd_tup (evds_cons (evd_c (fun _ => .int 1)) (evds_cons (evd_c (fun _ => .int 1)) (evds_cons (evd_c (fun _ => .int 0)) (evds_cons (evd_lst (evds_cons (evd_c (fun _ => .int 0)) (evds_cons (evd_c (fun _ => .int 0)) evds_nil)) (by decide)) (evds_cons (evd_c (fun _ => .int 0)) evds_nil))))) (by decide)) evds_nil)
    have c1 : odd1.length = 10 := rfl
    have c2 : odd2.length = 5 := rfl
    have c3 : odd3.length = 5 := rfl
    have c4 : odd4.length = 1 := rfl
    unfold tSeq tAsg
    refine lst_of h1 (by rw [c1]; decide) fun vs1 H1 p e1 d1 np l1 z1 => ?_
    have g1 := Grown.start e1 d1 np
    generalize hA : upd H1 p (.lst vs1) = HA at g1
    have pA : HA p = some (.lst vs1) := by rw [← hA]; exact upd_same
    refine ⟨_, rfl, .inl ⟨rfl, _, SqL.of pA⟩, lst_of h2 (by rw [c2]; decide) fun vs2 H2 l e2 d2 nl l2 z2' => ?_⟩
    have z2 : vs1.length + vs2.length ≤ sizeLine := by rw [l1, l2, c1, c2]; exact Evl.sz_of (by decide)
    refine ⟨p, l, vs1, vs2, rfl, rfl, (by rw [upd_ne (ne_of_none (e2 _ _ pA) nl)]; exact e2 _ _ pA), upd_same, z2, ?_⟩
    have g2 := g1.more e2 d2 nl pA
    generalize hB : upd (upd H2 l (.lst vs2)) p (.lst (vs1 ++ vs2)) = HB at g2
    have pB : HB p = some (.lst (vs1 ++ vs2)) := by rw [← hB]; exact upd_same
    refine ⟨_, rfl, .inl ⟨rfl, _, SqL.of pB⟩, lst_of h3 (by rw [c3]; decide) fun vs3 H3 l' e3 d3 nl' l3 z3' => ?_⟩
    have z3 : (vs1 ++ vs2).length + vs3.length ≤ sizeLine := by rw [List.length_append, l1, l2, l3, c1, c2, c3]; exact Evl.sz_of (by decide)
    refine ⟨p, l', _, vs3, rfl, rfl, (by rw [upd_ne (ne_of_none (e3 _ _ pB) nl')]; exact e3 _ _ pB), upd_same, z3, ?_⟩
    have g3 := g2.more e3 d3 nl' pB
    generalize hC : upd (upd H3 l' (.lst vs3)) p (.lst ((vs1 ++ vs2) ++ vs3)) = HC at g3
    have pC : HC p = some (.lst ((vs1 ++ vs2) ++ vs3)) := by rw [← hC]; exact upd_same
    refine ⟨_, rfl, lst_of h4 (by rw [c4]; decide) fun vs4 H4 l4 e4 d4 nl4 l4' z4' => ?_⟩
    have z4 : ((vs1 ++ vs2) ++ vs3).length + vs4.length ≤ sizeLine := by rw [List.length_append, List.length_append, l1, l2, l3, l4', c1, c2, c3, c4]; exact Evl.sz_of (by decide)
    have e5 := Ex.new (o := .lst vs4) nl4
    refine ⟨p, l4, _, vs4, rfl, rfl, e5 _ _ (e4 _ _ pC), upd_same, z4, fun q nq => ?_⟩
    have e6 := Ex.new (o := .lst (((vs1 ++ vs2) ++ vs3) ++ vs4)) nq
    have eA : Ex HC _ := (e4.trans e5).trans e6
    obtain ⟨eH, _, xs, hx, dx⟩ := g3
    rw [pC] at hx
    cases hx
    exact k q _ (Evl.fresh_back eH (Evl.fresh_back (e4.trans e5) nq)) (eH.trans eA) (.lst upd_same ((dx.ex (rg_ex.trans eA)).app (d4.ex (nw_ex.trans (e5.trans e6)))))
end
end Ts


set_option Elab.async false
set_option linter.all false
set_option maxRecDepth 100000
set_option maxHeartbeats 4000000
namespace Ts
open PySem PySem.Spec L2
open Evl (Ex)
/-- containers not too deep, not too long -/
def okD : Nat → PyData → Bool
  | _, .none => true
  | _, .bool _ => true
  | _, .int _ => true
  | _, .str _ => true
  | 0, _ => false
  | k + 1, .list l => decide (l.length ≤ 90000) && l.all (okD k)
  | k + 1, .tuple l => decide (l.length ≤ 90000) && l.all (okD k)
  | k + 1, .dict l => decide (l.length ≤ 10) && okD k (.list (l.map fun p => .tuple [p.1, p.2]))
def isTy (n : String) (d : PyData) : Bool := decide (tyD d = n)
theorem kit_list {K : PySem.W.Frag} (d : PyData) : PySem.W.kitOne K (.type (tyD d)) (.type "list") = some (isTy "list" d) := by cases d <;> first | rfl | decide +kernel
theorem kit_tuple {K : PySem.W.Frag} (d : PyData) : PySem.W.kitOne K (.type (tyD d)) (.type "tuple") = some (isTy "tuple" d) := by cases d <;> first | rfl | decide +kernel
theorem kit_dict {K : PySem.W.Frag} (d : PyData) : PySem.W.kitOne K (.type (tyD d)) (.type "dict") = some (isTy "dict" d) := by cases d <;> first | rfl | decide +kernel
def isIB : PyData → Bool
  | .int _ => true | .bool _ => true | _ => false
def isB : PyData → Bool
  | .bool _ => true | _ => false
theorem kit_ib {K : PySem.W.Frag} (d : PyData) : PySem.W.kitOne K (.type (tyD d)) (.type "int") = some (isIB d) := by cases d <;> first | rfl | decide +kernel
theorem kit_b {K : PySem.W.Frag} (d : PyData) : PySem.W.kitOne K (.type (tyD d)) (.type "bool") = some (isB d) := by cases d <;> first | rfl | decide +kernel
def is4 : PyData → Bool
  | .none => false | .str _ => false | _ => true
theorem kit_4 {K : PySem.W.Frag} (d : PyData) : PySem.W.kitAny K (.type (tyD d)) [.type "int", .type "list", .type "tuple", .type "dict"] = some (is4 d) := by cases d <;> first | rfl | decide +kernel
theorem walk_zipT {K : PySem.W.Frag} {a b : Addr} {xs ys : List V} {n : Nat} (hn : n = min xs.length ys.length) : Walk (RZ.ItzT K a b) n (fun H => SqT K H a xs ∧ SqT K H b ys) (YPair (fun i => xs[i]?) (fun i => ys[i]?)) := by
  subst hn
  refine ⟨fun i H hi g => ⟨xs, ys, xs[i]'(by omega), ys[i]'(by omega), g.1, g.2, List.getElem?_eq_getElem _, List.getElem?_eq_getElem _⟩, fun H g => ⟨xs, ys, g.1, g.2, by omega⟩, fun i H v H' hi g z => ?_⟩
  obtain ⟨T, u, v', e1, e2, e3, e4, e5⟩ := z
  exact ⟨T, u, v', e1, e2, e3, e4 _ g.1, e5 _ g.2⟩
theorem tcb1 {r : List V → Hp → VK → Prop} {t : TE} {σ : L2.St} {H : Hp} {Q : VK} (h : t σ H (fun x H1 => r [x] H1 Q)) : tCB r (tCons t tNil) σ H Q := h
/-- a pure comprehension, whatever it walks: J is what its iterable gives -/
theorem lc_any {wi : TI} {J : It} {n : Nat} {G : Hp → Prop} {Y : Nat → Hp → V → Hp → Prop} (w : Walk J n G Y) {g : TG} {te : TE} {vs : List Nat} {σ : L2.St} {H H1 : Hp} {out : Nat → V} {Q : VK} (hw : ∀ R : It → Hp → Prop, R J H1 → wi σ H R) (hz : n ≤ sizeLine)
    (hG : ∀ H, Ex H1 H → G H)
    (hs : ∀ i x H H', i < n → Ex H1 H → Y i H x H' → Ex H H' ∧ g x (wipe σ vs) H' fun σ2 H2 => wipe σ2 vs = wipe σ vs ∧ Ex H' H2 ∧ ∀ q : VK, (∀ H4, Ex H2 H4 → q (out i) H4) → te σ2 H2 q)
    (hgm : ∀ (x : V) (H : Hp) (q q' : L2.St → Hp → Prop), (∀ σ2 H2, q σ2 H2 → q' σ2 H2) → g x (wipe σ vs) H q → g x (wipe σ vs) H q')
    (hq : ∀ D Hf, H1 D = none → Ex H1 Hf → Hf D = some (.lst ((List.range n).map out)) → Q (.ref D) Hf) : tLc wi g tYes te vs σ H Q :=
  hw _ (lc_pure w hz hG hs hgm hq)
theorem dkv_tuples {H : Hp} : ∀ {ts : List Addr} {kvs : List (Key × V)} {ds : List (PyData × PyData)}, Paired (fun (t : Addr) (q : Key × V) => H t = some (.tup [kV q.1, q.2])) ts kvs → DKv H kvs ds → DAll H (ts.map V.ref) (ds.map fun p => .tuple [p.1, p.2])
  | [], [], ds, .nil, h2 => by
    cases h2
    exact .nil
  | _ :: _, (k, v) :: _, ds, .cons h r, h2 => by
    cases h2 with
    | cons hv t =>
      refine .cons (.tup h (.cons ?_ (.cons hv .nil))) (dkv_tuples r t)
      cases k with
      | inl n => exact .int n
      | inr x => exact .str x
theorem bl_same (q : Bool) : (!decide (V.bl q = V.bl q)) = false := by simp
section
variable {P : Program} {w : World} {K : PySem.W.Frag} {mg : Str → Option Value} {base : Heap}
abbrev s_same := top 31
theorem sc_same : FnScope ["found", "due", "x", "y"] ["found", "due"] (defScope s_same) := ⟨rfl, rfl, rfl, by decide +kernel, rfl, by decide +kernel, by decide +kernel⟩
/-- like things are told to be like -/
def spSame : Nat → Sp
  | 0 => fun _ _ _ _ => False
  | k + 1 => fun vs H Q _ => ∃ x y d, vs = [x, y] ∧ D H x d ∧ D H y d ∧ okD k d = true ∧ ∀ H', Ex H H' → Q (.bl true) H'
theorem ok_same {f : Addr} {fd : FuncData} (F : FD K mg "_law_same" "_law_same" s_same f fd) (T : Bl mg) : ∀ k, FnOk P w K mg base CX0 k f fd ["found", "due"] (spSame k)
  | 0 => ⟨fun _ _ _ _ h => h.elim, fun _ _ _ _ _ _ _ _ _ _ _ _ _ h => h.elim⟩
  | k + 1 => by
    have G0 := ok_same F T k
    have b0 : Binds K fd ["found", "due"] [] := F.F.binds fun _ _ _ _ _ _ us hl => match us, hl with | [_, _], _ => rfl
    refine F.F.ok sc_same (fun vs H Q E h => ?_) (fun cdv A outer s H vs Q E hr h => ?_)
    · obtain ⟨x, y, d, rfl, _⟩ := h
      rfl
    · obtain ⟨x, y, d, rfl, hx, hy, hok, kq⟩ := h
      have nd := sc_same.nd
      refine ⟨_, pss_cons (ps_if (pt_val (pe_callB call_isiT (by rfl) T.isinstance (by decide +kernel) (pa_cons (pv 1) (pa_cons (pe_tup (pa_cons (pe_bltn (v := .ty "list") (by rfl) T.list (by decide +kernel) rfl) (pa_cons (pe_bltn (v := .ty "tuple") (by rfl) T.tuple (by decide +kernel) rfl) pa_nil))) pa_nil))))
        (pss_cons (ps_if (PW.pt (pw_or (pt_cmpR op_ne (pe_callB call_isi (by rfl) T.isinstance (by decide +kernel) (pa_cons (pv 0) (pa_cons (pe_bltn (v := .ty "list") (by rfl) T.list (by decide +kernel) rfl) pa_nil))) (pe_callB call_isi (by rfl) T.isinstance (by decide +kernel) (pa_cons (pv 1) (pa_cons (pe_bltn (v := .ty "list") (by rfl) T.list (by decide +kernel) rfl) pa_nil))) (nomark _)) (pw_or1 (pt_cmpR op_ne (pe_callB call_isi (by rfl) T.isinstance (by decide +kernel) (pa_cons (pv 0) (pa_cons (pe_bltn (v := .ty "tuple") (by rfl) T.tuple (by decide +kernel) rfl) pa_nil))) (pe_callB call_isi (by rfl) T.isinstance (by decide +kernel) (pa_cons (pv 1) (pa_cons (pe_bltn (v := .ty "tuple") (by rfl) T.tuple (by decide +kernel) rfl) pa_nil))) (nomark _))))) (pss_one (ps_ret pe_bl)) pss_nil)
        (pss_one (ps_ret (pe_and (pe_cmpR op_eq (pe_callB call_len_seq (by rfl) T.len PySem.boot_len (pa_cons (pv 0) pa_nil)) (pe_callB call_len_seq (by rfl) T.len PySem.boot_len (pa_cons (pv 1) pa_nil)) (nomark _)) (pe_one (pe_callB (cr_all rfl) (by rfl) T.all (by decide +kernel) (pa_cons (pe_lc (own := [("x", 2), ("y", 3)]) (g := gTup K 2 (gCons (gName 2) (gCons (gName 3) gNil))) (tt := tYes) rfl nd (RZ.pi_zipA (by rfl) T.zip (pa_cons (pv 0) (pa_cons (pv 1) pa_nil))) (blkOk_by (N := ["found", "due", "x", "y"]) (sc := defScope s_same) (by decide +kernel))
          (fun _ _ _ _ _ => pg_tup rfl (pgs_cons (pg_name (i := 2) nd rfl (Or.inl rfl)) (pgs_cons (pg_name (i := 3) nd rfl (Or.inl rfl)) pgs_nil))) (fun _ _ _ _ _ => pts_nil) (fun _ _ _ _ _ => (pe_call G0 hr (by rfl) F.g F.F.kp b0 .nil pass0 (pa_cons (pv 2) (pa_cons (pv 3) pa_nil))))) pa_nil))))))) pss_nil)
      (pss_cons (ps_if (pt_val (pe_callB call_isi (by rfl) T.isinstance (by decide +kernel) (pa_cons (pv 1) (pa_cons (pe_bltn (v := .ty "dict") (by rfl) T.dict (by decide +kernel) rfl) pa_nil)))) (pss_one (ps_ret (pe_and (pe_callB call_isi (by rfl) T.isinstance (by decide +kernel) (pa_cons (pv 0) (pa_cons (pe_bltn (v := .ty "dict") (by rfl) T.dict (by decide +kernel) rfl) pa_nil))) (pe_one (pe_call G0 hr (by rfl) F.g F.F.kp b0 .nil pass0 (pa_cons (LiI.pe_listItems rfl (pv 0) (by rfl) T.list PyProof.Rows.boot_list) (pa_cons (LiI.pe_listItems rfl (pv 1) (by rfl) T.list PyProof.Rows.boot_list) pa_nil))))))) pss_nil)
      (pss_cons (ps_if (pt_val (pe_callB call_isi (by rfl) T.isinstance (by decide +kernel) (pa_cons (pv 1) (pa_cons (pe_bltn (v := .ty "int") (by rfl) T.int (by decide +kernel) rfl) pa_nil)))) (pss_one (ps_ret (pe_and (pe_callB call_isi (by rfl) T.isinstance (by decide +kernel) (pa_cons (pv 0) (pa_cons (pe_bltn (v := .ty "int") (by rfl) T.int (by decide +kernel) rfl) pa_nil))) (pe_and (pe_cmpR op_eq (pe_callB call_isi (by rfl) T.isinstance (by decide +kernel) (pa_cons (pv 0) (pa_cons (pe_bltn (v := .ty "bool") (by rfl) T.bool (by decide +kernel) rfl) pa_nil))) (pe_callB call_isi (by rfl) T.isinstance (by decide +kernel) (pa_cons (pv 1) (pa_cons (pe_bltn (v := .ty "bool") (by rfl) T.bool (by decide +kernel) rfl) pa_nil))) (nomark _)) (pe_one (pe_cmpR op_eq (pv 0) (pv 1) (nomark _))))))) pss_nil)
      (pss_one (ps_ret (pe_and (pe_not (pe_callB call_isiT (by rfl) T.isinstance (by decide +kernel) (pa_cons (pv 0) (pa_cons (pe_tup (pa_cons (pe_bltn (v := .ty "int") (by rfl) T.int (by decide +kernel) rfl) (pa_cons (pe_bltn (v := .ty "list") (by rfl) T.list (by decide +kernel) rfl) (pa_cons (pe_bltn (v := .ty "tuple") (by rfl) T.tuple (by decide +kernel) rfl) (pa_cons (pe_bltn (v := .ty "dict") (by rfl) T.dict (by decide +kernel) rfl) pa_nil))))) pa_nil)))) (pe_one (pe_cmpR op_eq (pv 0) (pv 1) (nomark _)))))))), ?_⟩
      refine ⟨_, rfl, by show 2 ≤ sizeLine; decide, fun p np => ⟨_, p, _, _, _, _, rfl, upd_same, .cons (.ty "list") (.cons (.ty "tuple") .nil), (hy.ex (Ex.new np)).ty, kit_row d, _, rfl, ?_⟩⟩
      have ep := Ex.new (o := .tup [.ty "list", .ty "tuple"]) np
      generalize hP : upd H p (.tup [.ty "list", .ty "tuple"]) = Hp at ep
      cases hy with
      | @lst b ys ds hb hys =>
        cases hx with
        | @lst a xs _ ha hxs =>
          cases k with
          | zero => cases hok
          | succ k =>
            obtain ⟨hl, hal⟩ := Bool.and_eq_true_iff.mp (show (decide (ds.length ≤ 90000) && ds.all (okD k)) = true from hok)
            have hl := of_decide_eq_true hl
            refine iteT ?_
            have hxp := (D.lst ha hxs).ex ep
            have hyp := (D.lst hb hys).ex ep
            refine ⟨_, rfl, _, _, _, _, _, rfl, .ty "list", hxp.ty, kit_list _, _, rfl, _, _, _, _, _, rfl, .ty "list", hyp.ty, kit_list _, rfl, _, rfl, ?_⟩
            refine ite_ff (bl_same _) ?_
            refine ⟨_, rfl, _, _, _, _, _, rfl, .ty "tuple", hxp.ty, kit_tuple _, _, rfl, _, _, _, _, _, rfl, .ty "tuple", hyp.ty, kit_tuple _, rfl, _, rfl, ?_⟩
            refine ite_ff (bl_same _) ?_
            refine ⟨_, rfl, a, xs, rfl, .inl (SqL.of (ep _ _ ha)), _, rfl, b, ys, rfl, .inl (SqL.of (ep _ _ hb)), rfl, _, rfl, ?_⟩
            refine ite_tt (by rw [hxs.len, hys.len]; exact decide_eq_true rfl) ?_
            refine tcb1 ?_
            refine lc_any (J := Itz K a b) (H1 := Hp) (out := fun _ => V.bl true) (walk_zip (xs := xs) (ys := ys) (n := ds.length) (by rw [hxs.len, hys.len, Nat.min_self])) (fun R r => ⟨_, rfl, _, rfl, a, b, xs, ys, rfl, Or.inl ⟨SqL.of (ep _ _ ha), SqL.of (ep _ _ hb), r⟩⟩) (Evl.sz_of (by omega)) (fun H' e => ⟨SqL.of (e _ _ (ep _ _ ha)), SqL.of (e _ _ (ep _ _ hb))⟩) (fun i z H1 H2 hi e yy => ?_) (fun z H1 q q' h zz => ?_) (fun Dd Hf hD e hl' => ?_)
            · obtain ⟨Tp, u, v, rfl, nT, rfl, hu, hv⟩ := yy
              have eT := Ex.new (o := .tup [u, v]) nT
              refine ⟨eT, Tp, _, rfl, SqT.of upd_same, rfl, _, _, rfl, _, _, rfl, rfl, rfl, Ex.refl _, fun q hq => ?_⟩
              obtain ⟨du, hdu, Du⟩ := hxs.get hu
              obtain ⟨dv, hdv, Dv⟩ := hys.get hv
              rw [hdu] at hdv
              cases hdv
              have e3 := (ep.trans e).trans eT
              exact ⟨_, rfl, _, rfl, u, v, du, rfl, Du.ex e3, Dv.ex e3, List.all_eq_true.mp hal du (List.mem_of_getElem? hdu), hq⟩
            · obtain ⟨a1, xs1, r1, r2, r3, v1, r4, r5, v2, r7, r8, r9, r10⟩ := zz
              exact ⟨a1, xs1, r1, r2, r3, v1, r4, r5, v2, r7, r8, r9, h _ _ r10⟩
            · refine ⟨Dd, List.replicate ds.length true, rfl, SqL.of ?_, ?_⟩
              · rw [hl', List.map_replicate, List.map_const', List.length_range]
              · have et : (List.replicate ds.length true).all id = true := List.all_eq_true.mpr fun z hz => List.eq_of_mem_replicate hz
                rw [et]
                exact kq _ (ep.trans e)
      | @tup b ys ds hb hys =>
        cases hx with
        | @tup a xs _ ha hxs =>
          cases k with
          | zero => cases hok
          | succ k =>
            obtain ⟨hl, hal⟩ := Bool.and_eq_true_iff.mp (show (decide (ds.length ≤ 90000) && ds.all (okD k)) = true from hok)
            have hl := of_decide_eq_true hl
            refine iteT ?_
            have hxp := (D.tup ha hxs).ex ep
            have hyp := (D.tup hb hys).ex ep
            refine ⟨_, rfl, _, _, _, _, _, rfl, .ty "list", hxp.ty, kit_list _, _, rfl, _, _, _, _, _, rfl, .ty "list", hyp.ty, kit_list _, rfl, _, rfl, ?_⟩
            refine ite_ff (bl_same _) ?_
            refine ⟨_, rfl, _, _, _, _, _, rfl, .ty "tuple", hxp.ty, kit_tuple _, _, rfl, _, _, _, _, _, rfl, .ty "tuple", hyp.ty, kit_tuple _, rfl, _, rfl, ?_⟩
            refine ite_ff (bl_same _) ?_
            refine ⟨_, rfl, a, xs, rfl, .inr (SqT.of (ep _ _ ha)), _, rfl, b, ys, rfl, .inr (SqT.of (ep _ _ hb)), rfl, _, rfl, ?_⟩
            refine ite_tt (by rw [hxs.len, hys.len]; exact decide_eq_true rfl) ?_
            refine tcb1 ?_
            refine lc_any (J := RZ.ItzT K a b) (H1 := Hp) (out := fun _ => V.bl true) (walk_zipT (xs := xs) (ys := ys) (n := ds.length) (by rw [hxs.len, hys.len, Nat.min_self])) (fun R r => ⟨_, rfl, _, rfl, a, b, xs, ys, rfl, Or.inr ⟨SqT.of (ep _ _ ha), SqT.of (ep _ _ hb), r⟩⟩) (Evl.sz_of (by omega)) (fun H' e => ⟨SqT.of (e _ _ (ep _ _ ha)), SqT.of (e _ _ (ep _ _ hb))⟩) (fun i z H1 H2 hi e yy => ?_) (fun z H1 q q' h zz => ?_) (fun Dd Hf hD e hl' => ?_)
            · obtain ⟨Tp, u, v, rfl, nT, rfl, hu, hv⟩ := yy
              have eT := Ex.new (o := .tup [u, v]) nT
              refine ⟨eT, Tp, _, rfl, SqT.of upd_same, rfl, _, _, rfl, _, _, rfl, rfl, rfl, Ex.refl _, fun q hq => ?_⟩
              obtain ⟨du, hdu, Du⟩ := hxs.get hu
              obtain ⟨dv, hdv, Dv⟩ := hys.get hv
              rw [hdu] at hdv
              cases hdv
              have e3 := (ep.trans e).trans eT
              exact ⟨_, rfl, _, rfl, u, v, du, rfl, Du.ex e3, Dv.ex e3, List.all_eq_true.mp hal du (List.mem_of_getElem? hdu), hq⟩
            · obtain ⟨a1, xs1, r1, r2, r3, v1, r4, r5, v2, r7, r8, r9, r10⟩ := zz
              exact ⟨a1, xs1, r1, r2, r3, v1, r4, r5, v2, r7, r8, r9, h _ _ r10⟩
            · refine ⟨Dd, List.replicate ds.length true, rfl, SqL.of ?_, ?_⟩
              · rw [hl', List.map_replicate, List.map_const', List.length_range]
              · have et : (List.replicate ds.length true).all id = true := List.all_eq_true.mpr fun z hz => List.eq_of_mem_replicate hz
                rw [et]
                exact kq _ (ep.trans e)
      | non =>
        cases hx
        refine iteF ?_
        refine ⟨_, rfl, _, _, _, _, _, rfl, .ty "dict", (D.non).ty, kit_dict _, _, rfl, ?_⟩
        refine ite_ff (by show decide ("NoneType" = "dict") = false; decide) ?_
        refine ⟨_, rfl, _, _, _, _, _, rfl, .ty "int", (D.non).ty, kit_ib _, _, rfl, ?_⟩
        refine ite_ff rfl ?_
        refine ⟨_, rfl, by show 4 ≤ sizeLine; decide, fun p2 np2 => ⟨_, p2, _, _, _, _, rfl, upd_same, .cons (.ty "int") (.cons (.ty "list") (.cons (.ty "tuple") (.cons (.ty "dict") .nil))), (D.non).ty, kit_4 _, ?_⟩⟩
        refine ⟨_, rfl, _, rfl, iteT ⟨_, rfl, _, rfl, rfl, ?_⟩⟩
        rw [decide_eq_true rfl]
        exact kq _ (ep.trans (Ex.new np2))
      | bl b =>
        cases hx
        refine iteF ?_
        refine ⟨_, rfl, _, _, _, _, _, rfl, .ty "dict", (D.bl b).ty, kit_dict _, _, rfl, ?_⟩
        refine ite_ff (by show decide ("NoneType" = "dict") = false; decide) ?_
        refine ⟨_, rfl, _, _, _, _, _, rfl, .ty "int", (D.bl b).ty, kit_ib _, _, rfl, ?_⟩
        refine ite_tt rfl ?_
        refine ⟨_, rfl, _, _, _, _, _, rfl, .ty "int", (D.bl b).ty, kit_ib _, _, rfl, iteT ?_⟩
        refine ⟨_, rfl, _, _, _, _, _, rfl, .ty "bool", (D.bl b).ty, kit_b _, _, rfl, _, _, _, _, _, rfl, .ty "bool", (D.bl b).ty, kit_b _, rfl, _, rfl, ?_⟩
        refine ite_tt (decide_eq_true rfl) ⟨_, rfl, _, rfl, rfl, ?_⟩
        rw [decide_eq_true rfl]
        exact kq _ ep
      | int i =>
        cases hx
        refine iteF ?_
        refine ⟨_, rfl, _, _, _, _, _, rfl, .ty "dict", (D.int i).ty, kit_dict _, _, rfl, ?_⟩
        refine ite_ff (by show decide ("NoneType" = "dict") = false; decide) ?_
        refine ⟨_, rfl, _, _, _, _, _, rfl, .ty "int", (D.int i).ty, kit_ib _, _, rfl, ?_⟩
        refine ite_tt rfl ?_
        refine ⟨_, rfl, _, _, _, _, _, rfl, .ty "int", (D.int i).ty, kit_ib _, _, rfl, iteT ?_⟩
        refine ⟨_, rfl, _, _, _, _, _, rfl, .ty "bool", (D.int i).ty, kit_b _, _, rfl, _, _, _, _, _, rfl, .ty "bool", (D.int i).ty, kit_b _, rfl, _, rfl, ?_⟩
        refine ite_tt (decide_eq_true rfl) ⟨_, rfl, _, rfl, rfl, ?_⟩
        rw [decide_eq_true rfl]
        exact kq _ ep
      | str z =>
        cases hx
        refine iteF ?_
        refine ⟨_, rfl, _, _, _, _, _, rfl, .ty "dict", (D.str z).ty, kit_dict _, _, rfl, ?_⟩
        refine ite_ff (by show decide ("NoneType" = "dict") = false; decide) ?_
        refine ⟨_, rfl, _, _, _, _, _, rfl, .ty "int", (D.str z).ty, kit_ib _, _, rfl, ?_⟩
        refine ite_ff rfl ?_
        refine ⟨_, rfl, by show 4 ≤ sizeLine; decide, fun p2 np2 => ⟨_, p2, _, _, _, _, rfl, upd_same, .cons (.ty "int") (.cons (.ty "list") (.cons (.ty "tuple") (.cons (.ty "dict") .nil))), (D.str z).ty, kit_4 _, ?_⟩⟩
        refine ⟨_, rfl, _, rfl, iteT ⟨_, rfl, _, rfl, rfl, ?_⟩⟩
        rw [decide_eq_true rfl]
        exact kq _ (ep.trans (Ex.new np2))
      | @dic b kvs ds hb hkv =>
        cases hx with
        | @dic a kvs2 _ ha hkv2 =>
          cases k with
          | zero => cases hok
          | succ k =>
            obtain ⟨_, hal⟩ := Bool.and_eq_true_iff.mp (show (decide (ds.length ≤ 10) && okD k (.list (ds.map fun p => .tuple [p.1, p.2]))) = true from hok)
            have hxp := (D.dic ha hkv2).ex ep
            have hyp := (D.dic hb hkv).ex ep
            refine iteF ?_
            refine ⟨_, rfl, _, _, _, _, _, rfl, .ty "dict", hyp.ty, kit_dict _, _, rfl, ?_⟩
            refine ite_tt (decide_eq_true rfl) ?_
            refine ⟨_, rfl, _, _, _, _, _, rfl, .ty "dict", hxp.ty, kit_dict _, _, rfl, ?_⟩
            refine ite_tt (decide_eq_true rfl) ?_
            refine ⟨_, rfl, a, kvs2, rfl, ep _ _ ha, fun H1 p1 ts1 e1 np1 _ _ hl1 pr1 => ?_⟩
            refine ⟨_, rfl, b, kvs, rfl, e1 _ _ (ep _ _ hb), fun H2 p2 ts2 e2 np2 _ _ hl2 pr2 => ?_⟩
            have e01 : Ex H H1 := ep.trans e1
            have e02 : Ex H H2 := e01.trans e2
            refine ⟨.ref p1, .ref p2, .list (ds.map fun p => .tuple [p.1, p.2]), rfl, .ex e2 (.lst hl1 (dkv_tuples pr1 (hkv2.ex e01))), .lst hl2 (dkv_tuples pr2 (hkv.ex e02)), hal, fun H3 e3 => kq _ (e02.trans e3)⟩
end
end Ts


set_option Elab.async false
set_option linter.all false
set_option maxRecDepth 100000
set_option maxHeartbeats 4000000
namespace Ts
open PySem PySem.Spec L2
open Evl (Ex)
/-- data that is led loosely: no dicts, short -/
def okL : Nat → PyData → Bool
  | _, .none => true
  | _, .bool _ => true
  | _, .int _ => true
  | _, .str _ => true
  | 0, _ => false
  | _, .dict _ => false
  | k + 1, .list l => decide (l.length ≤ 90) && l.all (okL k)
  | k + 1, .tuple l => decide (l.length ≤ 90) && l.all (okL k)
/-- how many draws at most -/
def dr : Nat → Int
  | 0 => 0
  | k + 1 => 1 + 90 * dr k
theorem dr_pos : ∀ k, 0 ≤ dr k
  | 0 => Int.le_refl 0
  | k + 1 => by
    have := dr_pos k
    show 0 ≤ 1 + 90 * dr k
    omega
mutual
inductive Loo : PyData → PyData → Prop
  | same {d : PyData} : isRow d = false → Loo d d
  | row {d : PyData} (k : Bool) {es : List PyData} : isRow d = true → LooAll (items d) es → Loo d (mk k es)
inductive LooAll : List PyData → List PyData → Prop
  | nil : LooAll [] []
  | cons {d e : PyData} {ds es : List PyData} : Loo d e → LooAll ds es → LooAll (d :: ds) (e :: es)
end
theorem LooAll.snoc : ∀ {ds es : List PyData} {d e : PyData}, LooAll ds es → Loo d e → LooAll (ds ++ [d]) (es ++ [e])
  | _, _, _, _, .nil, h => .cons h .nil
  | _, _, _, _, .cons h r, h2 => .cons h (LooAll.snoc r h2)
theorem okL_row {k : Nat} {d : PyData} (hr : isRow d = true) (h : okL k d = true) : ∃ j, k = j + 1 ∧ (items d).length ≤ 90 ∧ ∀ e ∈ items d, okL j e = true := by
  cases k with
  | zero => cases d <;> first | (cases hr; done) | (cases h; done)
  | succ j =>
    refine ⟨j, rfl, ?_⟩
    cases d <;> first
      | (cases hr; done)
      | (obtain ⟨h1, h2⟩ := Bool.and_eq_true_iff.mp h; exact ⟨of_decide_eq_true h1, fun e he => List.all_eq_true.mp h2 e he⟩)
theorem DAll.snoc {H : Hp} {xs : List V} {ds : List PyData} {x : V} {d : PyData} (h : DAll H xs ds) (hd : D H x d) : DAll H (xs ++ [x]) (ds ++ [d]) := h.app (.cons hd .nil)
/-- a comprehension over the row in slot i, whose elements change what Pv tells -/
theorem lcs_row {K : PySem.W.Frag} {i j : Nat} {te : TE} {vs : List Nat} {σ : L2.St} {H : Hp} {a : Addr} {xs : List V} {Q : VK} (Pv : Addr → Nat → Hp → Prop) (hσ : σ[i]? = some (some (.ref a))) (hr : Row H a xs)
    (hw : ∀ x : V, wipe ((wipe σ vs).set j (some x)) vs = wipe σ vs)
    (h0 : ∀ D, H D = none → Pv D 0 (upd H D (.lst [])))
    (hkeep : ∀ D i H', Pv D i H' → ∀ o, H a = some o → H' a = some o)
    (hs : ∀ D i x H', xs[i]? = some x → Pv D i H' → te ((wipe σ vs).set j (some x)) H' fun y H4 => ∃ acc, H4 D = some (.lst acc) ∧ acc.length < sizeLine ∧ Pv D (i + 1) (upd H4 D (.lst (acc ++ [y]))))
    (hq : ∀ D H', Pv D xs.length H' → Q (.ref D) H') : tLc (iOr (iList K (tVar i)) (iTup K (tVar i))) (gName j) tYes te vs σ H Q := by
  have body : ∀ D i x H', xs[i]? = some x → Pv D i H' → gName j x (wipe σ vs) H' fun σ2 H2 => wipe σ2 vs = wipe σ vs ∧ tYes σ2 H2 fun b H3 =>
      if b = true then te σ2 H3 fun y H4 => ∃ acc, H4 D = some (.lst acc) ∧ acc.length < sizeLine ∧ Pv D (i + 1) (upd H4 D (.lst (acc ++ [y]))) else Pv D (i + 1) H3 := fun D i x H' hx p => by
    refine ⟨hw x, ?_⟩
    unfold tYes
    dsimp only
    rw [if_pos rfl]
    exact hs D i x H' hx p
  rcases hr with h | h
  · refine .inl ⟨_, hσ, a, rfl, ⟨xs, SqL.of h⟩, fun D hD => ?_⟩
    exact lc_it (walk_list (xs := xs)) (Pv D) (h0 D hD) (fun i H' _ p => SqL.of (hkeep D i H' p _ h)) (fun i x H' H'' hi p y => by
      obtain ⟨rfl, hx⟩ := y
      exact body D i x H'' hx p) (fun H' p => hq D H' p)
  · refine .inr ⟨_, hσ, a, rfl, ⟨xs, SqT.of h⟩, fun D hD => ?_⟩
    exact lc_it (walk_tup (xs := xs)) (Pv D) (h0 D hD) (fun i H' _ p => SqT.of (hkeep D i H' p _ h)) (fun i x H' H'' hi p y => by
      obtain ⟨rfl, hx⟩ := y
      exact body D i x H'' hx p) (fun H' p => hq D H' p)
theorem seq1 {t u : TS} {D : Ends} {σ : L2.St} {H : Hp} (h : t { D with nx := u D } σ H) : tSeq t u D σ H := h
theorem asg1 {t : TE} {g : TG} {D : Ends} {σ : L2.St} {H : Hp} (h : t σ H (fun x H1 => g x σ H1 D.nx)) : tAsg t g D σ H := h
theorem next1 {D : Ends} {σ : L2.St} {H : Hp} (h : D.nx σ H) : tNext D σ H := h
theorem off_back {a c l : Addr} {n : Int} {H H' : Hp} (e : Ex (off a c H) (off a c H')) (S : Strm H' a c n) (h : H' l = none) : H l = none := by
  cases q : H l with
  | none => rfl
  | some o =>
    exfalso
    obtain ⟨⟨_, _, _, g1, g2, _⟩, _, _⟩ := S
    by_cases la : l = a
    · rw [la, g1] at h
      cases h
    · by_cases lc : l = c
      · rw [lc, g2] at h
        cases h
      · have z := off_of (e l o ((off_ne la lc).trans q))
        rw [h] at z
        cases z
/-- a region of the heap has grown by what is new -/
structure Reg (a c : Addr) (G G' H H' : Hp) : Prop where
  e : Ex G G'
  i : Ex G' (off a c H')
  f : ∀ b, G' b ≠ none → G b ≠ none ∨ H b = none
section
variable {P : Program} {w : World} {K : PySem.W.Frag} {mg : Str → Option Value} {base : Heap}
abbrev s_loose := top 32
theorem sc_loose : FnScope ["stream", "thing", "found", "part"] ["stream", "thing"] (defScope s_loose) := ⟨rfl, rfl, rfl, by decide +kernel, rfl, by decide +kernel, by decide +kernel⟩
def spLoose : Nat → Sp
  | 0 => fun _ _ _ _ => False
  | k + 1 => fun vs H Q _ => ∃ a c n v d G, vs = [.ref a, v] ∧ Strm H a c n ∧ Ex G (off a c H) ∧ D G v d ∧ okL k d = true ∧ n + dr k ≤ 2 ^ 39 ∧
      ∀ H' v' d' G' n', Ex (off a c H) (off a c H') → Strm H' a c n' → n ≤ n' → n' ≤ n + dr k → Reg a c G G' H H' → D G' v' d' → Loo d d' → Q v' H'
theorem ok_loose {f f1 : Addr} {fd fd1 : FuncData} (F : FD K mg "_law_loose" "_law_loose" s_loose f fd) (F1 : FD K mg "_law_draw" "_law_draw" s_draw f1 fd1) (T : Bl mg) : ∀ k, FnOk P w K mg base CX0 (k + 1) f fd ["stream", "thing"] (spLoose k)
  | 0 => ⟨fun _ _ _ _ h => h.elim, fun _ _ _ _ _ _ _ _ _ _ _ _ _ h => h.elim⟩
  | k + 1 => by
    have G0 := ok_loose F F1 T k
    have G1 : FnOk P w K mg base CX0 1 f1 fd1 ["stream", "many"] spDraw := ok_draw F1 T
    have b0 : Binds K fd ["stream", "thing"] [] := F.F.binds fun _ _ _ _ _ _ us hl => match us, hl with | [_, _], _ => rfl
    refine F.F.ok sc_loose (fun vs H Q E h => ?_) (fun cdv A outer s H vs Q E hr h => ?_)
    · obtain ⟨a, c, n, v, d, G, rfl, _⟩ := h
      rfl
    · obtain ⟨a, c, n, v, d, G, rfl, S, eG, hd, hok, hn, kq⟩ := h
      have nd := sc_loose.nd
      refine ⟨_, pss_cons (ps_if (pt_not (pt_val (pe_callB call_isiT (by rfl) T.isinstance (by decide +kernel) (pa_cons (pv 1) (pa_cons (pe_tup (pa_cons (pe_bltn (v := .ty "list") (by rfl) T.list (by decide +kernel) rfl) (pa_cons (pe_bltn (v := .ty "tuple") (by rfl) T.tuple (by decide +kernel) rfl) pa_nil))) pa_nil))))) (pss_one (ps_ret (pv 1))) pss_nil)
        (pss_cons (ps_setLc (i := 2) (own := [("part", 3)]) (g := gName 3) (tt := tYes) rfl nd rfl rfl (sw_true rfl rfl rfl (by decide +kernel)) (pi_or (pi_list (pv 1)) (pi_tup (pv 1))) (blkOk_by (N := ["stream", "thing", "found", "part"]) (sc := defScope s_loose) (by decide +kernel))
            (fun _ _ _ _ _ => pg_name (i := 3) nd rfl (Or.inl rfl)) (fun _ _ _ _ _ => pts_nil) (fun _ _ _ _ _ => pe_call G0 hr (by rfl) F.g F.F.kp b0 .nil pass0 (pa_cons (pv 0) (pa_cons (pv 3) pa_nil))))
        (pss_one (ps_ret (pe_ifExp (pt_cmpR op_eq (pe_call G1 (hr.mono (by omega)) (by rfl) F1.g F1.F.kp (b_draw F1) .nil pass0 (pa_cons (pv 0) (pa_cons pe_int pa_nil))) pe_int (nomark _)) (pv 2)
            (pe_callTy call_tuple_of (by rfl) T.tuple PyProof.Rows.boot_tuple (pa_cons (pv 2) pa_nil)))))), ?_⟩
      have hdH := hd.ex (eG.trans off_ex)
      refine ⟨_, rfl, by show 2 ≤ sizeLine; decide, fun p np => ⟨_, p, _, _, _, _, rfl, upd_same, .cons (.ty "list") (.cons (.ty "tuple") .nil), (hdH.ex (Ex.new np)).ty, kit_row d, _, rfl, ?_⟩⟩
      have ep := Ex.new (o := .tup [.ty "list", .ty "tuple"]) np
      generalize hP : upd H p (.tup [.ty "list", .ty "tuple"]) = H0 at ep
      have S0 := S.ex ep
      have e0 := Ex.offs (a := a) (c := c) ep
      have dp := dr_pos k
      by_cases hr1 : isRow d = true
      · obtain ⟨j, rfl, hlen, hall⟩ := okL_row hr1 hok
        obtain ⟨a', xs, rfl, hrow, hxs⟩ := hd.row hr1
        have dj := dr_pos j
        have hdr : dr (j + 1) = 1 + 90 * dr j := rfl
        refine ite_ff (by rw [hr1]; rfl) ?_
        have row0 : Row H0 a' xs := ((hrow.ex eG).ex e0).ex off_ex
        refine next1 ?_
        dsimp only
        refine seq1 (asg1 ?_)
        refine lcs_row (fun Dd i H' => ∃ (acc : List V) (G' : Hp) (es : List PyData) (n' : Int), acc.length = i ∧ H' Dd = some (.lst acc) ∧ H0 Dd = none ∧ Strm H' a c n' ∧ n ≤ n' ∧ n' ≤ n + (i : Nat) * dr j ∧ Ex (off a c H0) (off a c H') ∧ Ex G G' ∧ Ex G' (off a c H') ∧ (∀ b, G' b ≠ none → G b ≠ none ∨ (H0 b = none ∧ b ≠ Dd)) ∧ DAll G' acc es ∧ LooAll ((items d).take i) es)
          (by rfl) row0 (fun x => rfl) (fun Dd hD => ?_) (fun Dd i H' p o ho => ?_) (fun Dd i x H' hx p => ?_) (fun Dd H' p => ?_)
        · refine ⟨[], G, [], n, rfl, upd_same, hD, S0.ex (Ex.new hD), Int.le_refl _, by simp, Ex.offs (Ex.new hD), Ex.refl _, (eG.trans e0).trans (Ex.offs (Ex.new hD)), fun b hb => .inl hb, .nil, .nil⟩
        · obtain ⟨acc, G', es, n', h1, h2, h3, h4, h5, h6, h7, h8, h9, h10, h11, h12⟩ := p
          rcases hrow with z | z
          · have q := eG _ _ z
            have q0 := e0 _ _ q
            rw [off_of q0] at ho
            cases ho
            exact off_of (h7 _ _ q0)
          · have q := eG _ _ z
            have q0 := e0 _ _ q
            rw [off_of q0] at ho
            cases ho
            exact off_of (h7 _ _ q0)
        · obtain ⟨acc, G', es, n', h1, h2, h3, h4, h5, h6, h7, h8, h9, h10, h11, h12⟩ := p
          obtain ⟨dx, hdx, Dx⟩ := hxs.get hx
          have hi : i < (items d).length := (List.getElem?_eq_some_iff.mp hdx).1
          have hmul : (i : Int) * dr j + dr j ≤ 90 * dr j := by
            have : ((i : Int) + 1) * dr j ≤ 90 * dr j := Int.mul_le_mul_of_nonneg_right (by omega) dj
            rw [Int.add_mul, Int.one_mul] at this
            exact this
          refine ⟨_, rfl, _, rfl, a, c, n', x, dx, G', rfl, h4, h9, Dx.ex h8, hall dx (List.mem_of_getElem? hdx), by omega, fun H4 y dy G2 n2 k1 k2 k3 k4 k5 k6 k7 => ?_⟩
          have nea := S0.nea h3
          have hD4 : H4 Dd = some (.lst acc) := off_of (k1 _ _ ((off_ne nea.1 nea.2).trans h2))
          have gD : G2 Dd = none := by
            cases e : G2 Dd with
            | none => rfl
            | some o =>
              rcases k5.f Dd (by rw [e]; simp) with z | z
              · rcases h10 Dd z with z | z
                · exfalso
                  cases e' : G Dd with
                  | none => exact z e'
                  | some o' =>
                    have q := off_of (e0 _ _ (eG _ _ e'))
                    rw [h3] at q
                    cases q
                · exact (z.2 rfl).elim
              · rw [h2] at z
                cases z
          refine ⟨acc, hD4, by rw [h1]; exact Evl.sz_lt (by omega), acc ++ [y], G2, es ++ [dy], n2, by rw [List.length_append, h1]; rfl, upd_same, h3, k2.upd nea.1 nea.2, by omega, ?_, ?_, h8.trans k5.e, fun b o hb => ?_, fun b hb => ?_, (h11.ex k5.e).snoc k6, ?_⟩
          · have ec : ((i + 1 : Nat) : Int) * dr j = (i : Int) * dr j + dr j := by
              rw [Int.natCast_add, Int.add_mul]
              simp
            rw [ec]
            omega
          · rw [off_upd_ne nea.1 nea.2]
            exact (h7.trans k1).mut (off_none h3)
          · have nb : b ≠ Dd := fun z => by
              rw [z, gD] at hb
              cases hb
            rw [off_upd_ne nea.1 nea.2, upd_ne nb]
            exact k5.i b o hb
          · rcases k5.f b hb with z | z
            · exact h10 b z
            · refine .inr ⟨?_, fun q => ?_⟩
              · cases e : H0 b with
                | none => rfl
                | some o =>
                  exfalso
                  by_cases ba : b = a
                  · obtain ⟨⟨_, _, _, g1, _⟩, _, _⟩ := h4
                    rw [ba, g1] at z
                    cases z
                  · by_cases bc : b = c
                    · obtain ⟨⟨_, _, _, _, g2, _⟩, _, _⟩ := h4
                      rw [bc, g2] at z
                      cases z
                    · have q := off_of (h7 b o ((off_ne ba bc).trans e))
                      rw [q] at z
                      cases z
              · rw [q, h2] at z
                cases z
          · rw [List.take_add_one, hdx]
            exact h12.snoc k7
        · obtain ⟨acc, G', es, n', h1, h2, h3, h4, h5, h6, h7, h8, h9, h10, h11, h12⟩ := p
          have nea := S0.nea h3
          have hlx := hxs.len
          have h12' : LooAll (items d) es := by
            rw [List.take_of_length_le (by omega)] at h12
            exact h12
          have hmul : (xs.length : Int) * dr j ≤ 90 * dr j := Int.mul_le_mul_of_nonneg_right (by omega) dj
          have gD : G' Dd = none := by
            cases e : G' Dd with
            | none => rfl
            | some o =>
              rcases h10 Dd (by rw [e]; simp) with z | z
              · exfalso
                cases e' : G Dd with
                | none => exact z e'
                | some o' =>
                  have q := off_of (e0 _ _ (eG _ _ e'))
                  rw [h3] at q
                  cases q
              · exact (z.2 rfl).elim
          refine ⟨_, rfl, a, c, n', 3, rfl, h4, by decide, by decide, by omega, fun H5 r e5 S5 r0 r1 => ⟨rfl, _, rfl, ?_⟩⟩
          have hD5 : off a c H5 Dd = some (.lst acc) := e5 _ _ ((off_ne nea.1 nea.2).trans h2)
          have eH := (e0.trans h7).trans e5
          have fr : ∀ b, G' b ≠ none → G b ≠ none ∨ H b = none := fun b hb => (h10 b hb).imp id fun z => Evl.fresh_back ep z.1
          rw [dec_z]
          by_cases hr0 : r = 0
          · rw [decide_eq_true hr0]
            refine iteT ⟨_, rfl, kq H5 (.ref Dd) (.list es) (upd G' Dd (.lst acc)) (n' + 1) eH S5 (by omega) (by omega) ⟨h8.trans (Ex.new gD), fun b o hb => ?_, fun b hb => ?_⟩ (.lst upd_same (h11.ex (Ex.new gD))) (.row true hr1 h12')⟩
            · by_cases z : b = Dd
              · rw [z, upd_same] at hb
                cases hb
                rw [z]
                exact hD5
              · rw [upd_ne z] at hb
                exact e5 _ _ (h9 _ _ hb)
            · by_cases z : b = Dd
              · rw [z]
                exact .inr (Evl.fresh_back ep h3)
              · rw [upd_ne z] at hb
                exact fr b hb
          · rw [decide_eq_false hr0]
            refine iteF ⟨_, rfl, Dd, acc, rfl, .inl ⟨SqL.of (off_of hD5), fun l nl => ?_⟩⟩
            have gl : G' l = none := by
              cases e : G' l with
              | none => rfl
              | some o =>
                have q := off_of (e5 _ _ (h9 _ _ e))
                rw [nl] at q
                cases q
            have nel := S5.nea nl
            have el := Ex.new (o := .tup acc) nl
            refine kq _ (.ref l) (.tuple es) (upd G' l (.tup acc)) (n' + 1) (eH.trans (Ex.offs el)) (S5.ex el) (by omega) (by omega) ⟨h8.trans (Ex.new gl), fun b o hb => ?_, fun b hb => ?_⟩ (.tup upd_same (h11.ex (Ex.new gl))) (.row false hr1 h12')
            · rw [off_upd_ne nel.1 nel.2]
              by_cases z : b = l
              · rw [z, upd_same] at hb ⊢
                exact hb
              · rw [upd_ne z] at hb ⊢
                exact e5 _ _ (h9 _ _ hb)
            · by_cases z : b = l
              · rw [z]
                exact .inr (off_back eH S5 nl)
              · rw [upd_ne z] at hb
                exact fr b hb
      · have hf : isRow d = false := by simpa using hr1
        refine ite_tt (by rw [hf]; rfl) ?_
        exact ⟨_, rfl, kq H0 v d G n e0 S0 (Int.le_refl _) (by omega) ⟨Ex.refl _, eG.trans e0, fun b hb => .inl hb⟩ hd (.same hf)⟩
end
end Ts


set_option Elab.async false
set_option linter.all false
set_option maxRecDepth 100000
set_option maxHeartbeats 4000000
namespace Ts
open PySem PySem.Spec L2
open Evl (Ex)
/-! ## papers as data -/
def papK (k1 k2 : Bool) (b p g : Int) (ns : List Int) : PyData := mk k1 [.int b, .int p, .int g, mk k2 (ns.map .int)]
theorem papD_eq (b p g : Int) (ns : List Int) : papD b p g ns = papK false true b p g ns := rfl
/-- a paper of small numbers -/
structure PS (b p g : Int) (ns : List Int) : Prop where
  b1 : 1 ≤ b
  b2 : b ≤ 100
  p1 : 1 ≤ p
  p2 : p ≤ 100
  g1 : 0 ≤ g
  g2 : g ≤ 100
  len : (ns.length : Int) = b + p
  nn : ∀ z ∈ ns, 0 ≤ z ∧ z ≤ 100
  hd : ns.head? = some 0
theorem PGood.ps {far gains b p g : Int} {ns : List Int} (h : PGood far gains b p g ns) (hf : far ≤ 100) (hg : gains ≤ 100) : PS b p g ns := by
  obtain ⟨b1, b2, p1, p2, g1, g2, len, nn, hd⟩ := h
  exact ⟨b1, by omega, p1, by omega, g1, by omega, len, fun z hz => ⟨(nn z hz).1, by have := (nn z hz).2; omega⟩, hd⟩
theorem all_num {ns : List Int} (h : ∀ z ∈ ns, 0 ≤ z) : (ns.map PyData.int).all isNum = true := by
  rw [List.all_map, List.all_eq_true]
  intro z hz
  exact decide_eq_true (h z hz)
theorem papK_paper {k1 k2 : Bool} {b p g : Int} {ns : List Int} (b1 : 1 ≤ b) (p1 : 1 ≤ p) (g1 : 0 ≤ g) (len : (ns.length : Int) = b + p) (nn : ∀ z ∈ ns, 0 ≤ z) (hd : ns.head? = some 0) : isPaper (papK k1 k2 b p g ns) = true := by
  unfold papK
  rw [isPaper_4 (mk_row _ _) (mk_items _ _)]
  unfold paper4
  have e1 : isNum (.int b) = true := decide_eq_true (by omega)
  have e2 : isNum (.int p) = true := decide_eq_true (by omega)
  have e3 : isNum (.int g) = true := decide_eq_true g1
  have e4 : decide (intOf (.int b) = 0) = false := decide_eq_false (by show ¬ b = 0; omega)
  have e5 : decide (intOf (.int p) = 0) = false := decide_eq_false (by show ¬ p = 0; omega)
  have e6 : isNums (mk k2 (ns.map .int)) = true := by
    unfold isNums
    rw [mk_row, mk_items, all_num nn]
    rfl
  have e7 : decide (((items (mk k2 (ns.map .int))).length : Int) = intOf (.int b) + intOf (.int p)) = true := decide_eq_true (by rw [mk_items, List.length_map]; exact len)
  have e8 : headIs0 (items (mk k2 (ns.map .int))) = true := by
    rw [mk_items]
    cases ns with
    | nil => cases hd
    | cons x r =>
      obtain rfl : x = 0 := Option.some.inj hd
      show decide (intOf (.int 0) = 0) = true
      decide
  rw [e1, e2, e3, e4, e5, e6, e7, e8]
  rfl
theorem PS.paper {k1 k2 : Bool} {b p g : Int} {ns : List Int} (h : PS b p g ns) : isPaper (papK k1 k2 b p g ns) = true := papK_paper h.b1 h.p1 h.g1 h.len (fun z hz => (h.nn z hz).1) h.hd
theorem papK_b (k1 k2 : Bool) (b p g : Int) (ns : List Int) : pB (papK k1 k2 b p g ns) = b := by
  unfold pB papK
  rw [mk_items]
  rfl
theorem papK_p (k1 k2 : Bool) (b p g : Int) (ns : List Int) : pP (papK k1 k2 b p g ns) = p := by
  unfold pP papK
  rw [mk_items]
  rfl
theorem papK_g (k1 k2 : Bool) (b p g : Int) (ns : List Int) : pG (papK k1 k2 b p g ns) = g := by
  unfold pG papK
  rw [mk_items]
  rfl
theorem map_intOf (ns : List Int) : (ns.map PyData.int).map intOf = ns := by
  rw [List.map_map]
  exact List.map_id' ns
theorem papK_n (k1 k2 : Bool) (b p g : Int) (ns : List Int) : pN (papK k1 k2 b p g ns) = ns := by
  unfold pN papK
  rw [mk_items]
  show (items (mk k2 (ns.map .int))).map intOf = ns
  rw [mk_items, map_intOf]
theorem papK_z {k1 k2 : Bool} {b p g : Int} {ns : List Int} (h : ns.length ≤ 100000) : ∀ t ∈ items (papK k1 k2 b p g ns), (items t).length ≤ 100000 := by
  unfold papK
  rw [mk_items]
  intro t ht
  rcases List.mem_cons.mp ht with rfl | ht
  · exact Nat.zero_le _
  · rcases List.mem_cons.mp ht with rfl | ht
    · exact Nat.zero_le _
    · rcases List.mem_cons.mp ht with rfl | ht
      · exact Nat.zero_le _
      · rw [List.mem_singleton] at ht
        rw [ht, mk_items, List.length_map]
        exact h
theorem PS.small {b p g : Int} {ns : List Int} (h : PS b p g ns) : ns.length ≤ 200 := by
  have := h.len
  have := h.b2
  have := h.p2
  omega
theorem PS.sml {k1 k2 : Bool} {b p g : Int} {ns : List Int} (h : PS b p g ns) : Sml (papK k1 k2 b p g ns) :=
  ⟨by rw [papK_b]; have := h.b2; omega, by rw [papK_p]; have := h.p2; omega, by rw [papK_g]; have := h.g2; omega, papK_z (by have := h.small; omega)⟩
theorem PS.ok {b p g : Int} {ns : List Int} (h : PS b p g ns) : PapOk b p g ns :=
  ⟨h.b1, h.p1, h.g1, by have := h.b2; omega, by have := h.p2; omega, by have := h.g2; omega, h.len⟩
theorem D.mk_at {H : Hp} {v : V} {k : Bool} {l : List PyData} (h : D H v (mk k l)) : ∃ a xs, v = .ref a ∧ Row H a xs ∧ DAll H xs l := by
  obtain ⟨a, xs, h1, h2, h3⟩ := h.row (mk_row k l)
  rw [mk_items] at h3
  exact ⟨a, xs, h1, h2, h3⟩
theorem DAll.of_ints {H : Hp} : ∀ {xs : List V} {ns : List Int}, DAll H xs (ns.map PyData.int) → xs = ns.map V.int
  | _, [], h => by
    cases h
    rfl
  | _, n :: r, h => by
    cases h with
    | cons h1 h2 =>
      rw [h1.int_of, h2.of_ints]
      rfl
theorem papK_at {H : Hp} {v : V} {k1 k2 : Bool} {b p g : Int} {ns : List Int} (h : D H v (papK k1 k2 b p g ns)) : PapAt H v b p g ns := by
  obtain ⟨a, xs, rfl, hr, hall⟩ := h.mk_at
  obtain ⟨vb, vp, vg, vt, rfl, hb, hp, hg, ht⟩ := hall.four
  obtain ⟨ta, ts, rfl, tr, tall⟩ := ht.mk_at
  rw [tall.of_ints] at tr
  rw [hb.int_of, hp.int_of, hg.int_of] at hr
  exact ⟨a, ta, rfl, hr, tr⟩
/-! ### what is led loosely -/
theorem Loo.int {i : Int} {d : PyData} (h : Loo (.int i) d) : d = .int i := by
  cases h with
  | same _ => rfl
  | row k hr _ => cases hr
theorem LooAll.ints : ∀ {ns : List Int} {es : List PyData}, LooAll (ns.map PyData.int) es → es = ns.map PyData.int
  | [], _, h => by
    cases h
    rfl
  | n :: r, _, h => by
    cases h with
    | cons h1 h2 =>
      rw [h1.int, h2.ints]
      rfl
theorem Loo.pap {b p g : Int} {ns : List Int} {d : PyData} (h : Loo (papD b p g ns) d) : ∃ k1 k2, d = papK k1 k2 b p g ns := by
  cases h with
  | same h => cases h
  | row k hr hall =>
    cases (show LooAll [.int b, .int p, .int g, .list (ns.map .int)] _ from hall) with
    | cons h1 r =>
      cases r with
      | cons h2 r =>
        cases r with
        | cons h3 r =>
          cases r with
          | cons h4 r =>
            cases r
            rw [h1.int, h2.int, h3.int]
            cases h4 with
            | same h => cases h
            | row k2 _ h5 =>
              have e := (show LooAll (ns.map PyData.int) _ from h5).ints
              rw [e]
              exact ⟨k, k2, rfl⟩
/-! ### repr -/
mutual
theorem D.toDp {K : PySem.W.Frag} {H : Hp} : ∀ {v : V} {d : PyData}, D H v d → d.hasDict = false → Dp K H v d
  | _, _, .non, _ => .non
  | _, _, .bl b, _ => .bl b
  | _, _, .int i, _ => .int i
  | _, _, .str x, _ => .str x
  | _, _, .lst h r, e => .lst (SqL.of h) (DAll.toDp r (by simpa only [PyData.hasDict] using e))
  | _, _, .tup h r, e => .tup (SqT.of h) (DAll.toDp r (by simpa only [PyData.hasDict] using e))
  | _, _, .dic _ _, e => by simp [PyData.hasDict] at e
theorem DAll.toDp {K : PySem.W.Frag} {H : Hp} : ∀ {vs : List V} {ds : List PyData}, DAll H vs ds → PyData.hasDictAll ds = false → DpAll K H vs ds
  | _, _, .nil, _ => .nil
  | _, _, .cons h r, e => by
    simp only [PyData.hasDictAll, Bool.or_eq_false_iff] at e
    exact .cons (D.toDp h e.1) (DAll.toDp r e.2)
end
theorem hasDict_mk (k : Bool) (l : List PyData) : (mk k l).hasDict = PyData.hasDictAll l := by cases k <;> simp only [mk, PyData.hasDict] <;> rfl
theorem showable_mk (k : Bool) (l : List PyData) : (mk k l).showable = PyData.showableAll l := by cases k <;> simp only [mk, PyData.showable] <;> rfl
theorem depth_mk (k : Bool) (l : List PyData) : (mk k l).depth = PyData.depthAll l + 1 := by cases k <;> simp only [mk, PyData.depth] <;> first | rfl | omega
theorem short_mk (B : Nat) (k : Bool) (l : List PyData) : (mk k l).leavesShort B = PyData.leavesShortAll B l := by cases k <;> simp only [mk, PyData.leavesShort] <;> rfl
theorem bulk_mk (k : Bool) (l : List PyData) : (mk k l).bulk = PyData.bulkAll l := by cases k <;> simp only [mk, PyData.bulk] <;> rfl
theorem hasDict_ints : ∀ ns : List Int, PyData.hasDictAll (ns.map .int) = false
  | [] => rfl
  | n :: r => by
    rw [List.map_cons]
    simp only [PyData.hasDictAll, PyData.hasDict, hasDict_ints r]
    rfl
theorem small_show {i : Int} (h0 : 0 ≤ i) (h : i ≤ 1000) : i.natAbs.log2 < 1920 := by
  have e : i.natAbs < 2 ^ 10 := by omega
  have := PySem.Flt.log2_lt_of (by decide) e
  omega
theorem small_short {i : Int} (h0 : 0 ≤ i) (h : i ≤ 1000) : PyData.leavesShort 13 (.int i) = true := by
  simp only [PyData.leavesShort]
  refine decide_eq_true ?_
  have := PySem.int_text_length_le10 (a := i) (k := 5) (by decide) (by omega)
  show (Str.ofString (toString i)).length ≤ 13
  rw [PySem.ofString_length]
  omega
theorem showable_ints : ∀ {ns : List Int}, (∀ z ∈ ns, 0 ≤ z ∧ z ≤ 100) → PyData.showableAll (ns.map .int) = true
  | [], _ => rfl
  | n :: r, h => by
    have h1 := h n List.mem_cons_self
    rw [List.map_cons]
    simp only [PyData.showableAll, PyData.showable, showable_ints (fun z hz => h z (List.mem_cons_of_mem _ hz)), Bool.and_true]
    exact decide_eq_true (small_show h1.1 (by omega))
theorem short_ints : ∀ {ns : List Int}, (∀ z ∈ ns, 0 ≤ z ∧ z ≤ 100) → PyData.leavesShortAll 13 (ns.map .int) = true
  | [], _ => rfl
  | n :: r, h => by
    have h1 := h n List.mem_cons_self
    rw [List.map_cons]
    simp only [PyData.leavesShortAll, short_ints (fun z hz => h z (List.mem_cons_of_mem _ hz)), Bool.and_true]
    exact small_short h1.1 (by omega)
theorem bulk_ints : ∀ ns : List Int, PyData.bulkAll (ns.map .int) = ns.length
  | [] => rfl
  | n :: r => by
    rw [List.map_cons]
    simp only [PyData.bulkAll, PyData.bulk, bulk_ints r, List.length_cons]
    omega
/-- what repr asks of a paper -/
structure Shw (d : PyData) : Prop where
  s : d.showable = true
  n : d.hasDict = false
  dp : d.depth ≤ 60
  z : d.shown.length ≤ sizeLine
theorem PS.shw {k1 k2 : Bool} {b p g : Int} {ns : List Int} (h : PS b p g ns) : Shw (papK k1 k2 b p g ns) := by
  have hb := h.b1
  have hb2 := h.b2
  have hp := h.p1
  have hp2 := h.p2
  have hg := h.g1
  have hg2 := h.g2
  have hs := h.small
  refine ⟨?_, ?_, ?_, PyData.shown_fits_bulk (B := 13) (by decide) (by decide) ?_ ?_⟩
  · unfold papK
    rw [showable_mk]
    simp only [PyData.showableAll, PyData.showable, showable_mk, showable_ints h.nn, Bool.and_true, Bool.and_eq_true]
    exact ⟨decide_eq_true (small_show (by omega) (by omega)), decide_eq_true (small_show (by omega) (by omega)), decide_eq_true (small_show (by omega) (by omega))⟩
  · unfold papK
    rw [hasDict_mk]
    simp only [PyData.hasDictAll, PyData.hasDict, hasDict_mk, hasDict_ints]
    rfl
  · unfold papK
    rw [depth_mk]
    have := depth_ints ns
    simp only [PyData.depthAll, PyData.depth, depth_mk]
    omega
  · unfold papK
    rw [short_mk]
    simp only [PyData.leavesShortAll, short_mk, short_ints h.nn, Bool.and_true, Bool.and_eq_true]
    exact ⟨small_short (by omega) (by omega), small_short (by omega) (by omega), small_short (by omega) (by omega)⟩
  · unfold papK
    rw [bulk_mk]
    simp only [PyData.bulkAll, PyData.bulk, bulk_mk, bulk_ints]
    have : (2 : Nat) ^ 20 = 1048576 := by decide
    omega
end Ts


set_option Elab.async false
set_option linter.all false
set_option maxRecDepth 100000
set_option maxHeartbeats 4000000
namespace Ts
open PySem PySem.Spec L2
open Evl (Ex)
section
variable {P : Program} {w : World} {K : PySem.W.Frag} {mg : Str → Option Value} {base : Heap}
/-- a def's body where no repr is under way -/
theorem okG {x q : Str} {st : Stmt} {f : Addr} {fd : FuncData} {N ps : List Str} {k : Nat} {sp : Sp} (F : Fun K x q st f fd) (S : FnScope N ps (defScope st)) (ln : ∀ vs H Q E, sp vs H Q E → vs.length = ps.length)
    (hb : ∀ (cdv : Value) (A : Around) (outer : List Env) (s : Shared) (H : Hp) (vs : List V) (Q : VK) (E : XK), A.guards = some [] → Room k (A.deeper (PyProof.Rows.envOfC q (defScope st) s.heap.objs.size f cdv)) → sp vs H Q E →
      ∃ t, PSs (cxOf CX0 P w K mg base N q (defScope st) f cdv A outer s H E).nox (defBody st) t ∧ t { nx := fun _ H' => Q .non H', rt := Q } (L2.start N vs) H) :
    GOk P w K mg base CX0 (k + 1) f fd ps sp := by
  obtain ⟨oc, od, kV, doc, pm, an, cdv, ct, osl, hfd, lk, hcd⟩ := F.ex
  subst hfd
  refine ⟨ln, fun A outer s H args us vs Q E hg hr e0 hbi hv hsp => LamX.run_ofS lk hcd S hr e0 hbi hv (ln _ _ _ _ hsp) fun hr' => ?_⟩
  obtain ⟨t, ht, q⟩ := hb cdv A outer s H vs Q E hg hr' hsp
  exact ⟨t, ht.nox, q⟩
end
section
variable {X : Cx} {k : Nat} {f : Addr} {fd : FuncData} {ps : List Str} {sp : Sp} {E : XK} {x : Str} {p pos : Pos} {e : Expr} {es : List Expr} {t : TA}
theorem pe_callG (F : GOk X.prog X.w X.K X.mg X.base CX0 k f fd ps sp) (hA : X.A.guards = some []) (hr : Room k X.A) (hg : Gl X x) (hm : X.mg x = some (.ref f)) (hk : PySem.W.keepIn X.K (.ref f) = true) (hb : Binds X.K fd ps [])
    (ha : PA X (e :: es) t) (hdb : (x == ("__debug__" : Str)) = false := by decide) (he : starEach (e :: es) X.env = (false, eval e X.env) :: starEach es X.env := by rfl) (hpl : (backTo pos (starEach es X.env)).any (·.1) = false := by rfl) :
    PE X (.Call (.Name x p) (e :: es) [] pos) (tCall sp [] E t) := by
  refine ⟨fun pins s σ H Q I h => wpAny_Call_Name_kw (ld_glob I hg hm ?_ hdb)⟩
  refine PySem.W.callWith_K (h₀ := X.base) I.ok.mod.kin hk (thn (ha.run pos pins s σ H _ I h) fun us s1 z => ?_) he hpl
  obtain ⟨vs, H1, I1, r, q⟩ := z
  have q : sp vs H1 Q E := by
    rw [List.append_nil] at q
    exact q
  have hl : (us ++ []).length = ps.length := by rw [List.append_nil, ← r.length]; exact F.ln _ _ _ _ q
  have hbi := hb s1 us I1.kIn hl
  rw [List.append_nil] at hbi
  refine ⟨I1.kIn, wpAny_call (codeAny_mono (F.go X.A X.stack s1 H1 ⟨us, []⟩ us vs Q E hA hr I1.env0 hbi r q) fun res s' hq => ?_)⟩
  rcases res with e | (u | u | u | u) <;> first
    | exact (show False from hq).elim
    | exact I1.after hq
end
/-! ## what stands while a law's def runs -/
structure Stt (a c : Addr) (n : Int) (R H : Hp) : Prop where
  s : Strm H a c n
  r : Ex R (off a c H)
theorem Stt.ex {a c : Addr} {n : Int} {R H H' : Hp} (t : Stt a c n R H) (e : Ex H H') : Stt a c n R H' := ⟨t.s.ex e, t.r.trans (Ex.offs e)⟩
theorem Stt.drawn {a c : Addr} {n n' : Int} {R H H' : Hp} (t : Stt a c n R H) (e : Ex (off a c H) (off a c H')) (s : Strm H' a c n') : Stt a c n' R H' := ⟨s, t.r.trans e⟩
theorem Stt.toH {a c : Addr} {n : Int} {R H : Hp} (t : Stt a c n R H) : Ex R H := t.r.trans off_ex
theorem Stt.no {a c : Addr} {n : Int} {R H : Hp} (t : Stt a c n R H) {z : Addr} (h : H z = none) : R z = none := Evl.fresh_back t.toH h
/-- what no one holds changes -/
theorem Stt.mut {a c z : Addr} {n : Int} {R H : Hp} {o : HO} (t : Stt a c n R H) (hz : R z = none) (h1 : z ≠ a) (h2 : z ≠ c) : Stt a c n R (upd H z o) :=
  ⟨t.s.upd h1 h2, by rw [off_upd_ne h1 h2]; exact t.r.mut hz⟩
/-- one more thing is held -/
theorem Stt.hold {a c z : Addr} {n : Int} {R H : Hp} {o : HO} (t : Stt a c n R H) (hz : H z = some o) (h1 : z ≠ a) (h2 : z ≠ c) : Stt a c n (upd R z o) H :=
  ⟨t.s, fun b u h => by
    by_cases hb : b = z
    · rw [hb, upd_same] at h
      rw [hb, off_ne h1 h2, hz]
      exact h
    · rw [upd_ne hb] at h
      exact t.r b u h⟩
theorem Ex.held {R : Hp} {z : Addr} {o : HO} (h : R z = none) : Ex R (upd R z o) := Ex.new h
/-- what a paper tells of the first numbers -/
def tells (b p g : Int) (ns : List Int) (m : Int) : List Int := (List.range m.toNat).map fun i => tell b p g ns (i : Nat)
theorem below_eq (b p g : Int) (ns : List Int) (m : Int) : below b p g ns m = (tells b p g ns m).map V.int := by
  unfold below tells
  rw [List.map_map]
  rfl
theorem tells_len (b p g : Int) (ns : List Int) (m : Int) : (tells b p g ns m).length = m.toNat := by
  unfold tells
  rw [List.length_map, List.length_range]
theorem d_ints {H : Hp} {a : Addr} {ns : List Int} (h : H a = some (.lst (ns.map V.int))) : D H (.ref a) (.list (ns.map .int)) := .lst h (dall_ints ns)
theorem okD_ints (k : Nat) {ns : List Int} (h : ns.length ≤ 90000) : okD (k + 1) (.list (ns.map .int)) = true := by
  refine Bool.and_eq_true_iff.mpr ⟨decide_eq_true (by rw [List.length_map]; exact h), ?_⟩
  rw [List.all_map, List.all_eq_true]
  intro z hz
  cases k <;> rfl
end Ts


set_option Elab.async false
set_option linter.all false
set_option maxRecDepth 100000
set_option maxHeartbeats 4000000
namespace Ts
open PySem PySem.Spec L2
open Evl (Ex)
/-! ## several except clauses, with and without a name; nothing else may come -/
abbrev Suite := Addr → Value → Option Addr → TS
/-- the ends behind a suite whose name is let go -/
def lets (i : Nat) (D : Ends) : Ends := { nx := fun σ H => D.nx (σ.set i none) H, rt := D.rt, bk := fun σ H => D.bk (σ.set i none) H, ct := fun σ H => D.ct (σ.set i none) H }
def wClauses (K : PySem.W.Frag) (i : Nat) (D : Ends) : List (Value × Bool × Suite) → WX
  | [] => fun _ _ _ _ => False
  | (c, true, ts) :: r => fun cls d σ H => ∃ b, PySem.W.exmOne K cls c = some b ∧ (b = true → ∀ a, H a = none → i < σ.length → ts a cls d (lets i D) (σ.set i (some (.ref a))) H) ∧ (b = false → wClauses K i D r cls d σ H)
  | (c, false, ts) :: r => fun cls d σ H => ∃ b, PySem.W.exmOne K cls c = some b ∧ (b = true → ∀ a, H a = none → ts a cls d D σ H) ∧ (b = false → wClauses K i D r cls d σ H)
def SuiteOk (X : Cx) (st : List Stmt) (ts : Suite) : Prop := ∀ (a : Addr) (oe : Obj) (cls : Value) (d : Option Addr) (pn : List (Addr × Obj)), Zc cls d oe → (∃ vs, oe.data = .fields vs) → PSs (X.suite a ((a, oe) :: pn)) st (ts a cls d)
inductive Clauses (X : Cx) (n : Str) : List ExceptHandler → List (Value × Bool × Suite) → Prop
  | nil : Clauses X n [] []
  | as_ {x : Str} {c : Value} {ts : Suite} {b₀ : Stmt} {st : List Stmt} {np p : Pos} {hds : List ExceptHandler} {l : List (Value × Bool × Suite)} (hc : Names X x c) (hs : SuiteOk X (b₀ :: st) ts) (r : Clauses X n hds l) :
      Clauses X n (.ExceptHandler (some (.Name x np)) (some n) (b₀ :: st) p :: hds) ((c, true, ts) :: l)
  | bare {x : Str} {c : Value} {ts : Suite} {b₀ : Stmt} {st : List Stmt} {np p : Pos} {hds : List ExceptHandler} {l : List (Value × Bool × Suite)} (hc : Names X x c) (hs : SuiteOk X (b₀ :: st) ts) (r : Clauses X n hds l) :
      Clauses X n (.ExceptHandler (some (.Name x np)) none (b₀ :: st) p :: hds) ((c, false, ts) :: l)
section
variable {X : Cx} {n : Str} {i : Nat} {body : List Stmt} {h₀ : ExceptHandler} {hds : List ExceptHandler} {l : List (Value × Bool × Suite)} {pos : Pos} {tb : WX → TS}
theorem ps_clauses (hs : X.stack = X.env :: X.outer) (hf : X.env.frame = some X.env.locals) (hN : X.N.Nodup) (hi : X.N[i]? = some n) (hln : X.env.kindOf n = some .local)
    (hb : ∀ (W : WX) (pn : List (Addr × Obj)) (xe : Value → Shared → Prop), Takes (X.tr pn xe) W → PSs (X.tr pn xe) body (tb W))
    (hh : Clauses X n (h₀ :: hds) l) : L2.PS X (.Try body (h₀ :: hds) [] [] pos) (fun D σ H => tb (wClauses X.K i D l) D σ H) := by
  refine ⟨fun pins s σ H D I h => wpAny_Try_except ?_⟩
  have hfr : X.A.frames = some (X.env :: X.outer) := by rw [I.ok.frames, hs]
  have hloc : Loc X.env.scope n := .inl hln
  let now : Value → Shared → Prop := fun e s1 => wpAny (model X.prog X.w) X.A (noteFrame e X.env) (fun _ s2 => wpAny (model X.prog X.w) X.A (setFlight e none) (fun _ s3 => wpAny (model X.prog X.w) X.A (handleBy e X.env (h₀ :: hds)) (SP X pins D) X.xe s3) X.xe s2) X.xe s1
  have got : Takes (X.tr (X.pn ++ pins) now) (wClauses X.K i D l) := by
    intro u s' xx
    obtain ⟨a, B, sI, pins', σ', H', cls, d, rfl, J', nb, up, sky, na, os, ag, w⟩ := xx
    have J : Inv X pins σ' H' sI := J'.ofTry I.ok
    show wpAny (model X.prog X.w) X.A (noteFrame (.ref a) X.env) _ _ _
    refine Sky.land Zc.steady hfr hf (show Sky B (X.env :: X.outer) a (Zc cls d) X.env.locals s'.heap from hs ▸ sky) fun h3 fl up3 => ?_
    have J3 : Inv X pins σ' H' { s' with heap := h3 } := J.landed nb fl.1 (up.trans up3) os ag
    obtain ⟨oe, vs, he, hz, hd⟩ := fl.there
    have aside : a ∉ frs (X.env :: X.outer) := fun hm => by
      obtain ⟨_, o2, g1, g2⟩ := fl.2.2.1.mem hm
      rw [he] at g1
      cases g1
      exact g2 _ hd
    have nL : a ≠ X.env.locals := fun z => aside (List.mem_filterMap.mpr ⟨X.env, .head _, by rw [hf, z]⟩)
    have nF : a ∉ X.fs := fun hm => by
      obtain ⟨e, q1, q2⟩ := List.mem_filterMap.mp hm
      exact aside (List.mem_filterMap.mpr ⟨e, .tail _ q1, q2⟩)
    have S3 := J3.suite he hd na nL nF
    -- a clause's class, looked up
    have named : ∀ {x : Str} {c : Value} {np : Pos} {Q E : Value → Shared → Prop}, Names X x c → Q c { s' with heap := h3 } → wpAny (model X.prog X.w) (X.A.mark (some (.ref a))) (eval (.Name x np) X.env) Q E { s' with heap := h3 } := by
      intro x c np Q E hc q
      rcases hc with ⟨g, gd, g2 | ⟨g2, g3, g4⟩⟩
      · exact ld_glob (X := X.suite a ((a, oe) :: (X.pn ++ pins))) S3 g g2 q gd
      · exact ld_blt (X := X.suite a ((a, oe) :: (X.pn ++ pins))) S3 g g2 g3 q g4 gd
    have asks : ∀ {c : Value} {b : Bool}, PySem.W.exmOne X.K cls c = some b → _ := fun {c b} hb1 =>
      PySem.W.exm_one (M := model X.prog X.w) J3.kIn (fun A Q E s k q => wpAny_typeOf_ref (k _ _ he) (by rw [hz.1]; exact q)) hb1
    have turn : ∀ {hk : List ExceptHandler} {lk : List (Value × Bool × Suite)}, Clauses X n hk lk → wClauses X.K i D lk cls d σ' H' → wpAny (model X.prog X.w) X.A (handleBy (.ref a) X.env hk) (SP X pins D) X.xe { s' with heap := h3 } := by
      intro hk lk hc
      induction hc with
      | nil => exact fun w => w.elim
      | @as_ x c ts b₀ st np p hds2 l2 hc hsu r ih =>
        rintro ⟨b, hb1, yes, no⟩
        refine wpAny_handleBy_cons (codeAny_handlers_test ?_) (fun q => nomatch q)
        refine named hc ((asks hb1).here ?_)
        cases b with
        | false => exact ih (no rfl)
        | true =>
          refine codeAny_handlers_suite_as (HandSPX.lands_againZ fl fun h4 fl4 up4 => ?_)
          have J4 : Inv X pins σ' H' { s' with heap := h4 } := J.landed nb fl4.1 ((up.trans up3).trans up4) os ag
          obtain ⟨oe4, vs4, he4, hz4, hd4⟩ := fl4.there
          refine store_ok (X := X.suite a ((a, oe4) :: (X.pn ++ pins))) (v := .ref a) (J4.suite he4 hd4 na nL nF) hN hi hloc rfl (fun s5 S5 => ?_) (.inr hln)
          refine wpAny_mono ((hsu a oe4 cls d (X.pn ++ pins) hz4 ⟨_, hd4⟩).run [] s5 _ H' _ S5 (yes rfl a na (by rw [J.len]; exact (List.getElem?_eq_some_iff.mp hi).1))) (fun f s6 hsp => ?_) (fun _ _ z => z.elim)
          have fin : ∀ {σ6 : L2.St} {H6 : Hp} {Q : Shared → Prop}, Inv (X.suite a ((a, oe4) :: (X.pn ++ pins))) [] σ6 H6 s6 → (∀ s7, Inv X pins (σ6.set i none) H6 s7 → Q s7) →
              wpAny (model X.prog X.w) X.A (do bindName X.env n .none; unbindBehindTheSuite X.env n p) (fun _ s7 => Q s7) X.xe s6 := fun S6 hq => gone_ok (S6.unsuite I.ok) hN hi hln hq
          cases f <;> first
            | (obtain ⟨σ6, H6, S6, q6⟩ := hsp; exact fin S6 fun s7 J7 => ⟨_, _, J7, q6⟩)
            | (obtain ⟨v6, σ6, H6, S6, r6, q6⟩ := hsp; exact fin S6 fun s7 J7 => ⟨_, _, _, J7, r6, q6⟩)
      | @bare x c ts b₀ st np p hds2 l2 hc hsu r ih =>
        rintro ⟨b, hb1, yes, no⟩
        refine wpAny_handleBy_cons (codeAny_handlers_test ?_) (fun q => nomatch q)
        refine named hc ((asks hb1).here ?_)
        cases b with
        | false => exact ih (no rfl)
        | true =>
          refine codeAny_handlers_suite (HandSPX.lands_againZ fl fun h4 fl4 up4 => ?_)
          have J4 : Inv X pins σ' H' { s' with heap := h4 } := J.landed nb fl4.1 ((up.trans up3).trans up4) os ag
          obtain ⟨oe4, vs4, he4, hz4, hd4⟩ := fl4.there
          refine wpAny_mono ((hsu a oe4 cls d (X.pn ++ pins) hz4 ⟨_, hd4⟩).run [] _ _ H' _ (J4.suite he4 hd4 na nL nF) (yes rfl a na)) (fun f s6 hsp => ?_) (fun _ _ z => z.elim)
          cases f <;> first
            | (obtain ⟨σ6, H6, S6, q6⟩ := hsp; exact ⟨_, _, S6.unsuite I.ok, q6⟩)
            | (obtain ⟨v6, σ6, H6, S6, r6, q6⟩ := hsp; exact ⟨_, _, _, S6.unsuite I.ok, r6, q6⟩)
    exact turn hh w
  refine wpAny_mono ((hb (wClauses X.K i D l) (X.pn ++ pins) now got).run [] s σ H D (I.toTry _) h) (fun f s1 hsp => ?_) (fun e s1 he => he)
  cases f <;> first
    | (obtain ⟨σ', H', J', q⟩ := hsp; exact wpAny_execs_nil ⟨σ', H', J'.ofTry I.ok, q⟩)
    | (obtain ⟨σ', H', J', q⟩ := hsp; exact ⟨σ', H', J'.ofTry I.ok, q⟩)
    | (obtain ⟨v, σ', H', J', r, q⟩ := hsp; exact ⟨v, σ', H', J'.ofTry I.ok, r, q⟩)
end
end Ts


set_option Elab.async false
set_option linter.all false
set_option maxRecDepth 100000
set_option maxHeartbeats 4000000
namespace Ts
open PySem PySem.Spec L2
open Evl (Ex)
/-! ## what is told, or how it is refused -/
/-- the classes of errors that are met here, apart from one another -/
structure Errs (K : PySem.W.Frag) (mg : Str → Option Value) (CB CP CN CR CH CG gB gP gN gR gH : Addr) : Prop where
  b : XC K mg "BadBook" "thing" CB gB
  p : XC K mg "BadPaper" "thing" CP gP
  n : XC K mg "BadNumber" "thing" CN gN
  r : XC K mg "BadPeriod" "thing" CR gR
  h : XC K mg "BadHeap" "thing" CH gH
  g : mg "Grows" = some (.ref CG)
  pb : PySem.W.exmOne K (.ref CP) (.ref CB) = some false
  nb : PySem.W.exmOne K (.ref CN) (.ref CB) = some false
  rb : PySem.W.exmOne K (.ref CR) (.ref CB) = some false
  hb : PySem.W.exmOne K (.ref CH) (.ref CB) = some false
  pp : PySem.W.exmOne K (.ref CP) (.ref CP) = some true
  np : PySem.W.exmOne K (.ref CN) (.ref CP) = some false
  rp : PySem.W.exmOne K (.ref CR) (.ref CP) = some false
  hp : PySem.W.exmOne K (.ref CH) (.ref CP) = some false
  nn : PySem.W.exmOne K (.ref CN) (.ref CN) = some true
  rn : PySem.W.exmOne K (.ref CR) (.ref CN) = some false
  hn : PySem.W.exmOne K (.ref CH) (.ref CN) = some false
  rr : PySem.W.exmOne K (.ref CR) (.ref CR) = some true
  hr : PySem.W.exmOne K (.ref CH) (.ref CR) = some false
  hh : PySem.W.exmOne K (.ref CH) (.ref CH) = some true
def EM (CP CN CR CH : Addr) (Q : VK) : XK := fun cls d H' => ∃ (C : Addr) (w : Str), ((C = CP ∧ w = "paper") ∨ (C = CN ∧ w = "number") ∨ (C = CR ∧ w = "period") ∨ (C = CH ∧ w = "heap")) ∧ cls = .ref C ∧
  ∃ dd v, d = some dd ∧ H' dd = some (.xd [(("thing" : Str), v)]) ∧ ∀ p, H' p = none → Q (.ref p) (upd H' p (.tup [.str w, v]))
def TMet (CP CN CR CH : Addr) : (XK → Hp → VK → Prop) → Hp → VK → Prop := fun tl H Q => tl (EM CP CN CR CH Q) H fun v H' => 2 ≤ sizeLine ∧ ∀ p, H' p = none → Q (.ref p) (upd H' p (.tup [.str "told", v]))
section
variable {X : Cx} {CB CP CN CR CH CG gB gP gN gR gH : Addr}
abbrev s_met := top 27
theorem sc_met : FnScope ["ask", "e"] ["ask"] (defScope s_met) := ⟨rfl, rfl, rfl, by decide +kernel, rfl, by decide +kernel, by decide +kernel⟩
/-- return (word, e.thing) -/
def tSaid (C : Addr) (w : Str) : Suite := fun a cls d => tRet (tTup (tCons (tC (.str w)) (tCons (tXf a cls d C "thing" (tVar 1)) tNil)))
theorem said {C : Addr} {w : Str} {a dd : Addr} {v : V} {σ : L2.St} {H : Hp} {D : Ends} (hl : 1 < σ.length) (hx : H dd = some (.xd [(("thing" : Str), v)])) (q : ∀ p, H p = none → D.rt (.ref p) (upd H p (.tup [.str w, v]))) :
    tSaid C w a (.ref C) (some dd) (lets 1 D) (σ.set 1 (some (.ref a))) H :=
  ⟨.ref a, List.getElem?_set_self hl, rfl, rfl, dd, _, v, rfl, hx, by simp [List.lookup], by show 2 ≤ sizeLine; decide, q⟩
theorem met_gives (M : Errs X.K X.mg CB CP CN CR CH CG gB gP gN gR gH) {g : Addr} {cdg : Value} {q : Str} :
    LamX.GivesTo X ["ask", "e"] "_law_c_met" (defScope s_met) g cdg (defBody s_met) "ask" q (TMet CP CN CR CH) := by
  intro f c' s H Q tl act hc h
  refine ⟨_, pss_one (ps_clauses (X := (cxOf C8.CX0 X.prog X.w X.K X.mg X.base ["ask", "e"] "_law_c_met" (defScope s_met) g cdg X.A X.stack s H C8.E0).nox) (i := 1) (n := "e")
      (l := [(.ref CB, true, tSaid CB "book"), (.ref CP, true, tSaid CP "paper"), (.ref CN, true, tSaid CN "number"), (.ref CR, true, tSaid CR "period"), (.ref CH, true, tSaid CH "heap"), (.ref CG, false, fun _ _ _ => tRet (tTup (tCons (tC (.str "grows")) (tCons (tC (.int 0)) tNil))))])
      (tb := fun W D σ H => ∃ Ech : XK, (∀ cls d σ' H', Ech cls d H' → W cls d σ' H') ∧ σ[0]? = some (some (.ref f)) ∧ H c' = some (LamX.CodeO c' q) ∧ tl Ech H fun v H1 => 2 ≤ sizeLine ∧ ∀ p, H1 p = none → D.rt (.ref p) (upd H1 p (.tup [.str "told", v])))
      rfl rfl sc_met.nd rfl rfl (fun W pn xe tk => ?_) ?_), ?_⟩
  · refine ⟨fun pins s' σ H' D I h' => ?_⟩
    obtain ⟨Ech, hW, h1, h2, h3⟩ := h'
    have hp := fun p1 p2 => act W pn xe Ech p1 p2 tk hW
    exact (pss_one (ps_ret (pe_tup (pa_cons pe_str (pa_cons (hp _ _) pa_nil))))).run pins s' σ H' D I ⟨h1, h2, h3⟩
  · have sd : ∀ {x : Str} {C gg : Addr}, XC X.K X.mg x "thing" C gg → Gl (cxOf C8.CX0 X.prog X.w X.K X.mg X.base ["ask", "e"] "_law_c_met" (defScope s_met) g cdg X.A X.stack s H C8.E0).nox x → (x == ("__debug__" : Str)) = false → Names (cxOf C8.CX0 X.prog X.w X.K X.mg X.base ["ask", "e"] "_law_c_met" (defScope s_met) g cdg X.A X.stack s H C8.E0).nox x (.ref C) :=
      fun T hg hd => ⟨hg, hd, .inl T.gC⟩
    refine .as_ (sd M.b rfl rfl) (fun a oe cls d pn hz hf => pss_one (ps_ret (pe_tup (pa_cons pe_str (pa_cons (pe_xf M.b.xf M.b.nF hz hf (pv 1)) pa_nil))))) ?_
    refine .as_ (sd M.p rfl rfl) (fun a oe cls d pn hz hf => pss_one (ps_ret (pe_tup (pa_cons pe_str (pa_cons (pe_xf M.p.xf M.p.nF hz hf (pv 1)) pa_nil))))) ?_
    refine .as_ (sd M.n rfl rfl) (fun a oe cls d pn hz hf => pss_one (ps_ret (pe_tup (pa_cons pe_str (pa_cons (pe_xf M.n.xf M.n.nF hz hf (pv 1)) pa_nil))))) ?_
    refine .as_ (sd M.r rfl rfl) (fun a oe cls d pn hz hf => pss_one (ps_ret (pe_tup (pa_cons pe_str (pa_cons (pe_xf M.r.xf M.r.nF hz hf (pv 1)) pa_nil))))) ?_
    refine .as_ (sd M.h rfl rfl) (fun a oe cls d pn hz hf => pss_one (ps_ret (pe_tup (pa_cons pe_str (pa_cons (pe_xf M.h.xf M.h.nF hz hf (pv 1)) pa_nil))))) ?_
    exact .bare ⟨rfl, rfl, .inl M.g⟩ (fun a oe cls d pn hz hf => pss_one (ps_ret (pe_tup (pa_cons pe_str (pa_cons pe_int pa_nil))))) .nil
  · refine ⟨EM CP CN CR CH Q, ?_, rfl, hc, ?_⟩
    · rintro cls d σ' H' ⟨C, w, hw, rfl, dd, v, rfl, hx, k⟩
      rcases hw with ⟨rfl, rfl⟩ | ⟨rfl, rfl⟩ | ⟨rfl, rfl⟩ | ⟨rfl, rfl⟩
      · exact ⟨_, M.pb, fun z => (nomatch z), fun _ => ⟨_, M.pp, fun _ a na hl => said hl hx k, fun z => (nomatch z)⟩⟩
      · exact ⟨_, M.nb, fun z => (nomatch z), fun _ => ⟨_, M.np, fun z => (nomatch z), fun _ => ⟨_, M.nn, fun _ a na hl => said hl hx k, fun z => (nomatch z)⟩⟩⟩
      · exact ⟨_, M.rb, fun z => (nomatch z), fun _ => ⟨_, M.rp, fun z => (nomatch z), fun _ => ⟨_, M.rn, fun z => (nomatch z), fun _ => ⟨_, M.rr, fun _ a na hl => said hl hx k, fun z => (nomatch z)⟩⟩⟩⟩
      · exact ⟨_, M.hb, fun z => (nomatch z), fun _ => ⟨_, M.hp, fun z => (nomatch z), fun _ => ⟨_, M.hn, fun z => (nomatch z), fun _ => ⟨_, M.hr, fun z => (nomatch z), fun _ => ⟨_, M.hh, fun _ a na hl => said hl hx k, fun z => (nomatch z)⟩⟩⟩⟩⟩
    · exact h
end
end Ts


set_option Elab.async false
set_option linter.all false
set_option maxRecDepth 100000
set_option maxHeartbeats 4000000
namespace Ts
open PySem PySem.Spec L2 LamX
open Evl (Ex)
section
variable {P : Program} {w : World} {K : PySem.W.Frag} {mg : Str → Option Value} {base : Heap}
/-- a def whose code object is known -/
theorem okC {x q : Str} {st : Stmt} {f c : Addr} {N ps : List Str} {k : Nat} {sp : Sp} {oc kV doc pm ct : Value} {od an : Option Addr} {osl : Array (Option Value)}
    (lk : K.lookup f = some ⟨oc, od, .func (PySem.W.fnOf x q (defArgs st) (defBody st) (defScope st) .none kV doc pm an (.ref c) ct), osl⟩) (hcd : PySem.W.codeIn K (.ref c) q = true) (S : FnScope N ps (defScope st)) (ln : ∀ vs H Q E, sp vs H Q E → vs.length = ps.length)
    (hb : ∀ (A : Around) (outer : List Env) (s : Shared) (H : Hp) (vs : List V) (Q : VK) (E : XK), Room k (A.deeper (PyProof.Rows.envOfC q (defScope st) s.heap.objs.size f (.ref c))) → sp vs H Q E →
      ∃ t, PSs (cxOf CX0 P w K mg base N q (defScope st) f (.ref c) A outer s H E).nox (defBody st) t ∧ t { nx := fun _ H' => Q .non H', rt := Q } (L2.start N vs) H) :
    FnOk P w K mg base CX0 (k + 1) f (PySem.W.fnOf x q (defArgs st) (defBody st) (defScope st) .none kV doc pm an (.ref c) ct) ps sp :=
  fn_of lk hcd S ln fun A outer s H vs Q E hr hsp => by
    obtain ⟨t, h, q⟩ := hb A outer s H vs Q E hr hsp
    exact ⟨t, h.nox, q⟩
end
section
variable {X : Cx} {CB CP CN CR CH CG gB gP gN gR gH : Addr}
theorem pe_met (M : Errs X.K X.mg CB CP CN CR CH CG gB gP gN gR gH) {g c T : Addr} {fd : FuncData} {k : Nat} {params : Arguments} {body : Expr} {scope : Scope} {t : XK → TE} {p lpos pos : Pos}
    (F : FD X.K X.mg "_law_c_met" "_law_c_met" s_met g fd) (hg : Gl X "_law_c_met") (TB : TabB X.base X.mg c T) (hcode : X.env.code = .ref c) (hr : Room (k + 2) X.A) (L : LamS X.env.scope scope) (hdef : defaultsOf params X.env = ([], []))
    (hbind : ∀ (q : Str) (cl : List (Str × Addr)) (pm cv ctv : Value), bindArgs (PySem.W.kla_fn "<lambda>" q params body scope cl pm cv ctv) ⟨[], []⟩ = pure [])
    (hbody : ∀ (A : Around) (outer : List Env) (s : Shared) (H : Hp) (E : XK) (f c' : Addr), Room k (A.deeper (lamEnv X scope s.heap.objs.size f c')) → PE (lamCx X A outer s H E scope f c') body (t E)) :
    PE X (.Call (.Name "_law_c_met" p) [.Lambda params body scope lpos] [] pos) (tLam [(T, X.env.qual ++ "<lambda>")] (TMet CP CN CR CH) t) := by
  obtain ⟨oc, od, kV, doc, pm, an, cdv, ct, osl, hfd, lk, hcd⟩ := F.F.ex
  subst hfd
  refine pe_lamcall (a := "ask") (Ng := ["ask", "e"]) hg F.g F.F.kp lk hcd (F.F.binds fun _ _ _ _ _ _ us hl => match us, hl with | [_], _ => rfl) sc_met rfl (Or.inl rfl) (met_gives M) TB hcode (.head _) (fun p hp _ => ?_) hr L hdef hbind hbody
  rw [List.mem_singleton] at hp
  rw [hp]
end
/-! ## what stands where tables grow -/
/-- a heap without its tables -/
def nt (H : Hp) : Hp := fun b => match H b with
  | some (.tbl _) => none
  | o => o
theorem nt_of {H : Hp} {b : Addr} {o : HO} (h : nt H b = some o) : H b = some o ∧ ∀ ps, o ≠ .tbl ps := by
  unfold nt at h
  cases e : H b with
  | none =>
    rw [e] at h
    cases h
  | some u =>
    rw [e] at h
    cases u <;> first
      | (cases h; done)
      | (cases h; exact ⟨rfl, fun ps z => by cases z⟩)
theorem nt_at {H : Hp} {b : Addr} {o : HO} (h : H b = some o) (hn : ∀ ps, o ≠ .tbl ps) : nt H b = some o := by
  unfold nt
  rw [h]
  cases o <;> first
    | rfl
    | exact (hn _ rfl).elim
mutual
theorem D.nt {H : Hp} : ∀ {v : V} {d : PyData}, D H v d → D (Ts.nt H) v d
  | _, _, .non => .non
  | _, _, .bl b => .bl b
  | _, _, .int i => .int i
  | _, _, .str x => .str x
  | _, _, .lst h r => .lst (nt_at h fun _ z => by cases z) (DAll.nt r)
  | _, _, .tup h r => .tup (nt_at h fun _ z => by cases z) (DAll.nt r)
  | _, _, .dic h r => .dic (nt_at h fun _ z => by cases z) (DKv.nt r)
theorem DAll.nt {H : Hp} : ∀ {v : List V} {d : List PyData}, DAll H v d → DAll (Ts.nt H) v d
  | _, _, .nil => .nil
  | _, _, .cons h r => .cons (D.nt h) (DAll.nt r)
theorem DKv.nt {H : Hp} : ∀ {v : List (Key × V)} {d : List (PyData × PyData)}, DKv H v d → DKv (Ts.nt H) v d
  | _, _, .nil => .nil
  | _, _, .cons h r => .cons (D.nt h) (DKv.nt r)
end
/-- what a region holds is no table -/
def NoT (R : Hp) : Prop := ∀ b o, R b = some o → ∀ ps, o ≠ .tbl ps
theorem nt_no (H : Hp) : NoT (nt H) := fun _ _ h => (nt_of h).2
/-- a region held, the tables told -/
structure Tst (T : List (Addr × Str)) (R H : Hp) : Prop where
  n : NoT R
  r : Ex R H
  t : Tabs T H
theorem Tst.ex {T : List (Addr × Str)} {R H H' : Hp} (s : Tst T R H) (e : Ex H H') : Tst T R H' := ⟨s.n, s.r.trans e, s.t.ext e⟩
theorem Tst.extN {T : List (Addr × Str)} {R H H' : Hp} (s : Tst T R H) (e : ExtN H H') (t : Tabs T H') : Tst T R H' := ⟨s.n, fun b o h => e b o (s.r b o h) (s.n b o h), t⟩
/-- what is new is held from now on -/
theorem Tst.add {T : List (Addr × Str)} {R H : Hp} {z : Addr} {o : HO} (s : Tst T R H) (hz : H z = some o) (hn : ∀ ps, o ≠ .tbl ps) (hr : R z = none) : Tst T (upd R z o) H :=
  ⟨fun b u h => by
    by_cases hb : b = z
    · rw [hb, upd_same] at h
      cases h
      exact hn
    · rw [upd_ne hb] at h
      exact s.n b u h, fun b u h => by
    by_cases hb : b = z
    · rw [hb, upd_same] at h
      cases h
      rw [hb]
      exact hz
    · rw [upd_ne hb] at h
      exact s.r b u h, s.t⟩
theorem Tst.no {T : List (Addr × Str)} {R H : Hp} (s : Tst T R H) {z : Addr} (h : H z = none) : R z = none := Evl.fresh_back s.r h
/-- an object that is no table and of no region changes -/
theorem Tst.mut {T : List (Addr × Str)} {R H : Hp} {z : Addr} {xs ys : List V} (s : Tst T R H) (hz : H z = some (.lst xs)) (hr : R z = none) : Tst T R (upd H z (.lst ys)) :=
  ⟨s.n, s.r.mut hr, fun p hp => by
    obtain ⟨ps, h1, h2, h3⟩ := s.t p hp
    have n1 : p.1 ≠ z := fun q => by
      rw [q, hz] at h1
      cases h1
    refine ⟨ps, by rw [upd_ne n1]; exact h1, h2, fun po cv hc => ?_⟩
    obtain ⟨cc, e1, e2⟩ := h3 po cv hc
    refine ⟨cc, e1, ?_⟩
    have n2 : cc ≠ z := fun q => by
      rw [q, hz] at e2
      cases e2
    rw [upd_ne n2]
    exact e2⟩
end Ts


set_option Elab.async false
set_option linter.all false
set_option maxRecDepth 100000
set_option maxHeartbeats 4000000
namespace Ts
open PySem PySem.Spec L2
open Evl (Ex)
/-! ## what comes again -/
/-- from B on f comes again after d, by c more -/
def Ag (f : Int → Int) (d c B : Int) : Prop := ∀ n, B ≤ n → f (n + d) = f n + c
theorem Ag.mul {f : Int → Int} {d c B : Int} (h : Ag f d c B) (hd : 0 ≤ d) : ∀ (k : Nat) (n : Int), B ≤ n → f (n + k * d) = f n + k * c
  | 0, n, _ => by simp
  | k + 1, n, hn => by
    have h1 := Ag.mul h hd k n hn
    have h2 := h (n + k * d) (by have := Int.mul_nonneg (Int.natCast_nonneg k) hd; omega)
    have e1 : n + ((k + 1 : Nat) : Int) * d = n + k * d + d := by
      rw [Int.natCast_add, Int.add_mul]
      simp
      omega
    have e2 : ((k + 1 : Nat) : Int) * c = k * c + c := by
      rw [Int.natCast_add, Int.add_mul]
      simp
    rw [e1, h2, h1, e2]
    omega
theorem Ag.up {f : Int → Int} {d c B B' : Int} (h : Ag f d c B) (hb : B ≤ B') : Ag f d c B' := fun n hn => h n (by omega)
/-- what comes again from far on does so from the begin on -/
theorem Ag.back {f : Int → Int} {b p g d c N : Int} (P : Ag f p g b) (hp : 1 ≤ p) (hd : 0 ≤ d) (h : Ag f d c N) : Ag f d c b := fun n hn => by
  have hk : N ≤ n + ((N - n).toNat : Int) * p := by
    have := Int.mul_le_mul_of_nonneg_left hp (Int.natCast_nonneg (N - n).toNat)
    omega
  have h1 := P.mul (by omega) (N - n).toNat n hn
  have h2 := P.mul (by omega) (N - n).toNat (n + d) (by omega)
  have h3 := h _ hk
  have e : n + ((N - n).toNat : Int) * p + d = n + d + ((N - n).toNat : Int) * p := by omega
  rw [e, h2, h1] at h3
  omega
/-- both in the long run -/
theorem Ag.cross {f : Int → Int} {p g d c b : Int} (P : Ag f p g b) (hp : 1 ≤ p) (hd : 1 ≤ d) (h : Ag f d c b) : p * c = d * g := by
  have h1 := P.mul (by omega) d.toNat b (by omega)
  have h2 := h.mul (by omega) p.toNat b (by omega)
  rw [Int.toNat_of_nonneg (by omega)] at h1 h2
  have e : b + d * p = b + p * d := by rw [Int.mul_comm]
  rw [e, h2] at h1
  omega
theorem Ag.pos {f : Int → Int} {p g d c b : Int} (P : Ag f p g b) (hp : 1 ≤ p) (hg : 0 ≤ g) (hd : 1 ≤ d) (h : Ag f d c b) : 0 ≤ c := by
  have e := P.cross hp hd h
  have h1 : 0 ≤ d * g := Int.mul_nonneg (by omega) hg
  rw [← e] at h1
  apply Classical.byContradiction
  intro z
  have : p * c < 0 := Int.mul_neg_of_pos_of_neg (by omega) (by omega)
  omega
/-- one period of it is enough -/
theorem Ag.of_row {f : Int → Int} {b p g d c : Int} (P : Ag f p g b) (hp : 1 ≤ p) (hd : 0 ≤ d) (h : ∀ n, b ≤ n → n < b + p → f (n + d) = f n + c) : Ag f d c b := fun n hn => by
  have r0 : 0 ≤ (n - b) % p := Int.emod_nonneg _ (by omega)
  have r1 : (n - b) % p < p := Int.emod_lt_of_pos _ (by omega)
  have q0 : 0 ≤ (n - b) / p := Int.ediv_nonneg (by omega) (by omega)
  have e : n = b + (n - b) % p + (((n - b) / p).toNat : Int) * p := by
    rw [Int.toNat_of_nonneg q0]
    have := Int.emod_add_mul_ediv (n - b) p
    rw [Int.mul_comm] at this
    omega
  have h1 := h (b + (n - b) % p) (by omega) (by omega)
  have h2 := P.mul (by omega) ((n - b) / p).toNat (b + (n - b) % p) (by omega)
  have h3 := P.mul (by omega) ((n - b) / p).toNat (b + (n - b) % p + d) (by omega)
  have e2 : n + d = b + (n - b) % p + d + (((n - b) / p).toNat : Int) * p := by omega
  rw [e2, h3, h1]
  rw [← e] at h2
  rw [h2]
  omega
/-- the rest of one period by the other is one, too -/
theorem Ag.rest {f : Int → Int} {b p g d c : Int} (P : Ag f p g b) (hp : 1 ≤ p) (hd : 1 ≤ d) (h : Ag f d c b) : Ag f (p % d) (g - p / d * c) b := fun n hn => by
  have r0 : 0 ≤ p % d := Int.emod_nonneg _ (by omega)
  have q0 : 0 ≤ p / d := Int.ediv_nonneg (by omega) (by omega)
  have h1 := h.mul (by omega) (p / d).toNat (n + p % d) (by omega)
  rw [Int.toNat_of_nonneg q0] at h1
  have e : n + p % d + p / d * d = n + p := by
    have := Int.emod_add_mul_ediv p d
    rw [Int.mul_comm d] at this
    omega
  rw [e, P n hn] at h1
  omega
/-- the least period, then the least begin -/
structure Lst (f : Int → Int) (B d c : Int) : Prop where
  b1 : 1 ≤ B
  d1 : 1 ≤ d
  ag : Ag f d c B
  dl : ∀ d' c' N, 0 ≤ N → 1 ≤ d' → Ag f d' c' N → d ≤ d'
  bl : ∀ B', 1 ≤ B' → Ag f d c B' → B ≤ B'
theorem Lst.one {f : Int → Int} {B d c B' d' c' : Int} (h : Lst f B d c) (h' : Lst f B' d' c') : B = B' ∧ d = d' ∧ c = c' := by
  have e1 := h.dl _ _ _ (by have := h'.b1; omega) h'.d1 h'.ag
  have e2 := h'.dl _ _ _ (by have := h.b1; omega) h.d1 h.ag
  have e : d = d' := by omega
  subst e
  have k1 := h.ag (B + B') (by have := h'.b1; omega)
  have k2 := h'.ag (B + B') (by have := h.b1; omega)
  have ec : c = c' := by omega
  subst ec
  have l1 := h.bl _ h'.b1 h'.ag
  have l2 := h'.bl _ h.b1 h.ag
  exact ⟨by omega, rfl, rfl⟩
theorem Ag.ext {f f' : Int → Int} {d c B : Int} (e : ∀ n, 0 ≤ n → f n = f' n) (hB : 0 ≤ B) (hd : 0 ≤ d) (h : Ag f d c B) : Ag f' d c B := fun n hn => by
  rw [← e _ (by omega), ← e _ (by omega)]
  exact h n hn
theorem Lst.ext {f f' : Int → Int} {B d c : Int} (e : ∀ n, 0 ≤ n → f n = f' n) (h : Lst f B d c) : Lst f' B d c :=
  have e' : ∀ n, 0 ≤ n → f' n = f n := fun n hn => (e n hn).symm
  ⟨h.b1, h.d1, h.ag.ext e (by have := h.b1; omega) (by have := h.d1; omega), fun d' c' N hN hd hA => h.dl d' c' N hN hd (hA.ext e' hN (by omega)), fun B' hB hA => h.bl B' hB (hA.ext e' (by omega) (by have := h.d1; omega))⟩
/-- by what is found over one period -/
def Fit (f : Int → Int) (b p d : Int) : Prop := ∃ c, 0 ≤ c ∧ ∀ n, b ≤ n → n ≤ b + p → f (n + d) = f n + c
theorem fit_ag {f : Int → Int} {b p g d : Int} (P : Ag f p g b) (hp : 1 ≤ p) (hd : 1 ≤ d) (h : Fit f b p d) : ∃ c, Ag f d c b := by
  obtain ⟨c, _, h⟩ := h
  exact ⟨c, P.of_row hp (by omega) fun n h1 h2 => h n h1 (by omega)⟩
theorem ag_fit {f : Int → Int} {b p g d c : Int} (P : Ag f p g b) (hp : 1 ≤ p) (hg : 0 ≤ g) (hd : 1 ≤ d) (h : Ag f d c b) : Fit f b p d := ⟨c, P.pos hp hg hd h, fun n h1 _ => h n h1⟩
/-- the least period that fits is the least of all, and it parts the paper's own -/
theorem least_fit {f : Int → Int} {b p g d : Int} (P : Ag f p g b) (hb : 0 ≤ b) (hp : 1 ≤ p) (hg : 0 ≤ g) (hd : 1 ≤ d) (h : Fit f b p d) (hl : ∀ d', 1 ≤ d' → d' < d → ¬ Fit f b p d') : (∀ d' c' N, 0 ≤ N → 1 ≤ d' → Ag f d' c' N → d ≤ d') ∧ p % d = 0 := by
  have ll : ∀ d' c' N, 0 ≤ N → 1 ≤ d' → Ag f d' c' N → d ≤ d' := fun d' c' N hN h1 hA => by
    apply Classical.byContradiction
    intro z
    exact hl d' h1 (by omega) (ag_fit P hp hg h1 (Ag.back P hp (by omega) hA))
  refine ⟨ll, ?_⟩
  obtain ⟨c, hA⟩ := fit_ag P hp hd h
  have r0 : 0 ≤ p % d := Int.emod_nonneg _ (by omega)
  have r1 : p % d < d := Int.emod_lt_of_pos _ (by omega)
  apply Classical.byContradiction
  intro z
  have := ll _ _ b hb (by omega) (P.rest hp hd hA)
  omega
/-- what the program asks of a period -/
theorem fit_iff {f : Int → Int} {b p g d : Int} (P : Ag f p g b) (hp : 1 ≤ p) (hg : 0 ≤ g) (hd : 1 ≤ d) : Fit f b p d ↔ (g * d % p = 0 ∧ ∀ n, b ≤ n → n < b + p → f (n + d) = f n + g * d / p) := by
  constructor
  · intro h
    obtain ⟨c, hA⟩ := fit_ag P hp hd h
    have e := P.cross hp hd hA
    have e' : g * d = c * p := by rw [Int.mul_comm g, ← e, Int.mul_comm]
    rw [e', Int.mul_emod_left, Int.mul_ediv_cancel _ (by omega)]
    exact ⟨rfl, fun n h1 _ => hA n h1⟩
  · rintro ⟨h1, h2⟩
    exact ag_fit P hp hg hd (P.of_row hp (by omega) h2)
theorem ag_gain {f : Int → Int} {b p g d c : Int} (P : Ag f p g b) (hp : 1 ≤ p) (hd : 1 ≤ d) (hA : Ag f d c b) : c = g * d / p := by
  have e := P.cross hp hd hA
  have e' : g * d = c * p := by rw [Int.mul_comm g, ← e, Int.mul_comm]
  rw [e', Int.mul_ediv_cancel _ (by omega)]
/-! ## where two part -/
def Part (f f' : Int → Int) (r : V) : Prop := (∃ n, 0 ≤ n ∧ r = .int n ∧ f n ≠ f' n ∧ ∀ m, 0 ≤ m → m < n → f m = f' m) ∨ (r = .non ∧ ∀ m, 0 ≤ m → f m = f' m)
theorem Part.swap {f f' : Int → Int} {r : V} (h : Part f f' r) : Part f' f r := by
  rcases h with ⟨n, h1, h2, h3, h4⟩ | ⟨h1, h2⟩
  · exact .inl ⟨n, h1, h2, fun e => h3 e.symm, fun m a b => (h4 m a b).symm⟩
  · exact .inr ⟨h1, fun m a => (h2 m a).symm⟩
theorem Part.one {f f' : Int → Int} {r r' : V} (h : Part f f' r) (h' : Part f f' r') : r = r' := by
  rcases h with ⟨n, h1, rfl, h3, h4⟩ | ⟨rfl, h2⟩
  · rcases h' with ⟨n', k1, rfl, k3, k4⟩ | ⟨rfl, k2⟩
    · have a1 : ¬ n < n' := fun z => h3 (k4 n h1 z)
      have a2 : ¬ n' < n := fun z => k3 (h4 n' k1 z)
      have e : n = n' := by omega
      rw [e]
    · exact absurd (k2 n h1) h3
  · rcases h' with ⟨n', k1, rfl, k3, k4⟩ | ⟨rfl, k2⟩
    · exact absurd (h2 n' k1) k3
    · rfl
theorem Part.ext {f f' h h' : Int → Int} {r : V} (e : ∀ n, 0 ≤ n → f n = h n) (e' : ∀ n, 0 ≤ n → f' n = h' n) (x : Part f f' r) : Part h h' r := by
  rcases x with ⟨n, h1, h2, h3, h4⟩ | ⟨h1, h2⟩
  · exact .inl ⟨n, h1, h2, by rw [← e n h1, ← e' n h1]; exact h3, fun m a b => by rw [← e m a, ← e' m a]; exact h4 m a b⟩
  · exact .inr ⟨h1, fun m a => by rw [← e m a, ← e' m a]; exact h2 m a⟩
/-- both alike as far as both periods together: alike for ever -/
theorem alike {f f' : Int → Int} {b p g p' g' : Int} (P : Ag f p g b) (P' : Ag f' p' g' b) (hb : 0 ≤ b) (hp : 1 ≤ p) (hp' : 1 ≤ p') (h : ∀ m, 0 ≤ m → m < b + p + p' → f m = f' m) : ∀ m, 0 ≤ m → f m = f' m := by
  have key : ∀ (k : Nat) (m : Int), 0 ≤ m → m.toNat ≤ k → f m = f' m := by
    intro k
    induction k with
    | zero => exact fun m h0 hk => h m h0 (by omega)
    | succ k ih =>
      intro m h0 hk
      by_cases hm : m < b + p + p'
      · exact h m h0 hm
      · have e1 := P (m - p) (by omega)
        have e2 := P' (m - p') (by omega)
        have e3 := P (m - p - p') (by omega)
        have e4 := P' (m - p - p') (by omega)
        have i1 := ih (m - p) (by omega) (by omega)
        have i2 := ih (m - p') (by omega) (by omega)
        have i3 := ih (m - p - p') (by omega) (by omega)
        have a1 : m - p + p = m := by omega
        have a2 : m - p' + p' = m := by omega
        have a3 : m - p - p' + p = m - p' := by omega
        have a4 : m - p - p' + p' = m - p := by omega
        rw [a1] at e1
        rw [a2] at e2
        rw [a3] at e3
        rw [a4] at e4
        omega
  exact fun m h0 => key m.toNat m h0 (Nat.le_refl _)
/-! ## papers -/
theorem tell_ag {b p g : Int} {ns : List Int} (hp : 1 ≤ p) : Ag (tell b p g ns) p g b := fun n hn => by
  unfold tell
  have e1 : (n + p - b) % p = (n - b) % p := by
    have : n + p - b = n - b + p := by omega
    rw [this, Int.add_emod_right]
  have e2 : (n + p - b) / p = (n - b) / p + 1 := by
    have : n + p - b = n - b + 1 * p := by omega
    rw [this, Int.add_mul_ediv_right _ _ (by omega)]
  rw [if_neg (by omega), if_neg (by omega), e1, e2, Int.add_mul]
  omega
theorem tells_at {b p g : Int} {ns : List Int} {m n : Int} (h0 : 0 ≤ n) (h1 : n < m) : (tells b p g ns m).getD n.toNat 0 = tell b p g ns n := by
  unfold tells
  rw [List.getD_eq_getElem?_getD, List.getElem?_map, List.getElem?_range (by omega)]
  show tell b p g ns ((n.toNat : Nat) : Int) = _
  rw [Int.toNat_of_nonneg h0]
/-- a paper of what another one tells, its period some of the other's -/
theorem led_tell {b p g B d c : Int} {ns : List Int} (hB : 0 ≤ B) (hd : 1 ≤ d) (A : Ag (tell b p g ns) d c B) : ∀ n, 0 ≤ n → tell B d c (tells b p g ns (B + d)) n = tell b p g ns n := by
  intro n hn
  by_cases h : n < B
  · show (if n < B then _ else _) = _
    rw [if_pos h, tells_at hn (by omega)]
  · have r0 : 0 ≤ (n - B) % d := Int.emod_nonneg _ (by omega)
    have r1 : (n - B) % d < d := Int.emod_lt_of_pos _ (by omega)
    have q0 : 0 ≤ (n - B) / d := Int.ediv_nonneg (by omega) (by omega)
    show (if n < B then _ else _) = _
    rw [if_neg h, tells_at (by omega) (by omega)]
    have h2 := A.mul (by omega) ((n - B) / d).toNat (B + (n - B) % d) (by omega)
    rw [Int.toNat_of_nonneg q0] at h2
    have e : B + (n - B) % d + (n - B) / d * d = n := by
      have := Int.emod_add_mul_ediv (n - B) d
      rw [Int.mul_comm] at this
      omega
    rw [e] at h2
    omega
end Ts


set_option Elab.async false
set_option linter.all false
set_option maxRecDepth 100000
set_option maxHeartbeats 4000000
namespace Ts
open PySem PySem.Spec L2
open Evl (Ex)
section
variable {P : Program} {w : World} {K : PySem.W.Frag} {mg : Str → Option Value} {base : Heap}
abbrev s_comes := top 19
abbrev s_lperiod := top 20
theorem sc_comes : FnScope ["paper", "period", "begin", "own", "gain", "_", "more", "at"] ["paper", "period"] (defScope s_comes) := ⟨rfl, rfl, rfl, by decide +kernel, rfl, by decide +kernel, by decide +kernel⟩
theorem sc_lperiod : FnScope ["paper", "own", "period"] ["paper"] (defScope s_lperiod) := ⟨rfl, rfl, rfl, by decide +kernel, rfl, by decide +kernel, by decide +kernel⟩
/-- whether it comes again, as the program asks -/
def caB (b p g : Int) (ns : List Int) (d : Int) : Bool := decide (g * d % p = 0) && (List.range p.toNat).all fun i => decide (tell b p g ns (b + (i : Nat) + d) = tell b p g ns (b + (i : Nat)) + g * d / p)
theorem caB_fit {b p g d : Int} {ns : List Int} (hp : 1 ≤ p) (hg : 0 ≤ g) (hd : 1 ≤ d) : caB b p g ns d = true ↔ Fit (tell b p g ns) b p d := by
  rw [fit_iff (tell_ag hp) hp hg hd]
  unfold caB
  rw [Bool.and_eq_true, decide_eq_true_eq, List.all_eq_true]
  constructor
  · rintro ⟨h1, h2⟩
    refine ⟨h1, fun n n0 n1 => ?_⟩
    have h := of_decide_eq_true (h2 (n - b).toNat (List.mem_range.mpr (by omega)))
    rw [Int.toNat_of_nonneg (by omega)] at h
    have e : b + (n - b) = n := by omega
    rw [e] at h
    exact h
  · rintro ⟨h1, h2⟩
    refine ⟨h1, fun i hi => decide_eq_true (h2 _ (by omega) ?_)⟩
    have := List.mem_range.mp hi
    omega
def spComes : Sp := fun vs H Q _ => ∃ v d b p g ns, vs = [v, .int d] ∧ PapAt H v b p g ns ∧ PapOk b p g ns ∧ 1 ≤ d ∧ d ≤ 10000 ∧ ∀ H', Ex H H' → Q (.bl (caB b p g ns d)) H'
theorem b_comes {f : Addr} {fd : FuncData} (F : FD K mg "comes_again" "comes_again" s_comes f fd) : Binds K fd ["paper", "period"] [] := F.F.binds fun _ _ _ _ _ _ us hl => match us, hl with | [_, _], _ => rfl
theorem ok_comes {f f1 : Addr} {fd fd1 : FuncData} (F : FD K mg "comes_again" "comes_again" s_comes f fd) (F1 : FD K mg "told_of" "told_of" s_told_of f1 fd1) (T : Bl mg) : FnOk P w K mg base CX0 2 f fd ["paper", "period"] spComes := by
  have G1 : FnOk P w K mg base CX0 1 f1 fd1 ["paper", "number"] spTold := ok_told_of F1 T
  refine F.F.ok sc_comes (fun vs H Q E h => ?_) (fun cdv A outer s H vs Q E hr h => ?_)
  · obtain ⟨v, d, b, p, g, ns, rfl, _⟩ := h
    rfl
  · obtain ⟨v, d, b, p, g, ns, rfl, ⟨a, t, rfl, hrow, trow⟩, ok, d1, d2, k⟩ := h
    have nd := sc_comes.nd
    have hb1 := ok.b1
    have hp1 := ok.p1
    have hg0 := ok.g0
    have hbb := ok.bb
    have hgb := ok.gb
    have hpb := ok.pb
    refine ⟨_, pss_cons (ps_asg (pv 0) (pg_or (pg_tup rfl (pgs_cons (pg_name (i := 2) nd rfl (Or.inl rfl)) (pgs_cons (pg_name (i := 3) nd rfl (Or.inl rfl)) (pgs_cons (pg_name (i := 4) nd rfl (Or.inl rfl)) (pgs_cons (pg_name (i := 5) nd rfl (Or.inl rfl)) pgs_nil)))))
          (pg_unl rfl (pgs_cons (pg_name (i := 2) nd rfl (Or.inl rfl)) (pgs_cons (pg_name (i := 3) nd rfl (Or.inl rfl)) (pgs_cons (pg_name (i := 4) nd rfl (Or.inl rfl)) (pgs_cons (pg_name (i := 5) nd rfl (Or.inl rfl)) pgs_nil)))))))
      (pss_cons (ps_if (pt_cmpR op_ne (pe_op op_mod (pe_op op_mul (pv 4) (pv 1)) (pv 3)) pe_int (nomark _)) (pss_one (ps_ret pe_bl)) pss_nil)
      (pss_cons (ps_set (i := 6) nd rfl (Or.inr rfl) (pe_op op_fdivW (pe_op op_mul (pv 4) (pv 1)) (pv 3)))
      (pss_one (ps_ret (pe_callB (cr_all rfl) (by rfl) T.all (by decide +kernel) (pa_cons (pe_lc (own := [("at", 7)]) (g := gName 7) (tt := tYes) rfl nd (pi_range2 (by rfl) T.range (pa_cons (pv 2) (pa_cons (pe_op op_add (pv 2) (pv 3)) pa_nil))) (blkOk_by (N := ["paper", "period", "begin", "own", "gain", "_", "more", "at"]) (sc := defScope s_comes) (by decide +kernel))
        (fun _ _ _ _ _ => pg_name (i := 7) nd rfl (Or.inl rfl)) (fun _ _ _ _ _ => pts_nil)
        (fun _ _ _ _ _ => pe_cmpR op_eq (pe_call G1 (hr.mono (by decide)) (by rfl) F1.g F1.F.kp (b_told_of F1) .nil pass0 (pa_cons (pv 0) (pa_cons (pe_op op_add (pv 7) (pv 1)) pa_nil)))
          (pe_op op_add (pe_call G1 (hr.mono (by decide)) (by rfl) F1.g F1.F.kp (b_told_of F1) .nil pass0 (pa_cons (pv 0) (pa_cons (pv 7) pa_nil))) (pv 6)) (nomark _))) pa_nil)))))), ?_⟩
    refine ⟨_, rfl, g_row hrow rfl ⟨_, _, rfl, _, _, rfl, _, _, rfl, _, _, rfl, rfl, ?_⟩⟩
    have gd0 : 0 ≤ g * d := Int.mul_nonneg (by omega) (by omega)
    have gd1 : g * d ≤ 10000 * 10000 := Int.mul_le_mul hgb d2 (by omega) (by decide)
    refine ⟨_, rfl, _, rfl, _, _, rfl, rfl, .inl ⟨by omega, by omega⟩, _, rfl, _, _, rfl, rfl, (by show 0 < p; omega), rfl, _, rfl, ?_⟩
    by_cases hz : g * d % p = 0
    · refine ite_ff (by show (!decide (V.int (g * d % p) = V.int 0)) = false; rw [dec_z, decide_eq_true hz]; rfl) ?_
      refine ⟨_, rfl, _, rfl, _, _, rfl, rfl, .inl ⟨by omega, by omega⟩, _, rfl, _, _, rfl, rfl, wide_div (b := 64) (by omega) (by omega) (by decide) (by decide), ?_⟩
      unfold gName tRet tCB tCons tNil
      dsimp only
      have en : (b + p - b).toNat = p.toNat := by omega
      refine lc_any (J := Itr b (b + p - b).toNat) (n := (b + p - b).toNat) (out := fun i => .bl (decide (tell b p g ns (b + (i : Nat) + d) = tell b p g ns (b + (i : Nat)) + g * d / p))) walk_range (fun R r => ⟨_, rfl, _, rfl, _, rfl, _, _, rfl, rfl, b, b + p, rfl, by omega, r⟩) (Evl.sz_of (by omega)) (fun _ _ => trivial) (fun i x H1 H2 hi e y => ?_) (fun x H q q' z => g_name_mono z) (fun x Hf hx e hl => ?_)
      · obtain ⟨rfl, rfl⟩ := y
        refine ⟨Ex.refl _, rfl, Ex.refl _, fun q hq => ?_⟩
        have pa : PapAt H2 (.ref a) b p g ns := ⟨a, t, rfl, hrow.ex e, trow.ex e⟩
        refine ⟨_, rfl, _, rfl, _, rfl, _, _, rfl, rfl, .ref a, _, b, p, g, ns, rfl, pa, ok, by omega, by omega, fun H4 e4 => ?_⟩
        refine ⟨_, rfl, _, rfl, .ref a, _, b, p, g, ns, rfl, pa.ex e4, ok, by omega, by omega, fun H5 e5 => ?_⟩
        refine ⟨_, rfl, _, _, rfl, rfl, rfl, ?_⟩
        rw [dec_z]
        exact hq H5 (e4.trans e5)
      · refine ⟨x, (List.range p.toNat).map fun i => decide (tell b p g ns (b + (i : Nat) + d) = tell b p g ns (b + (i : Nat)) + g * d / p), rfl, SqL.of ?_, ?_⟩
        · rw [hl, en, List.map_map]
          rfl
        · rw [all_id]
          have z := k Hf e
          unfold caB at z
          rw [decide_eq_true hz, Bool.true_and] at z
          exact z
    · refine ite_tt (by show (!decide (V.int (g * d % p) = V.int 0)) = true; rw [dec_z, decide_eq_false hz]; rfl) ?_
      have z := k H (Ex.refl H)
      unfold caB at z
      rw [decide_eq_false hz, Bool.false_and] at z
      exact z
def spLper : Sp := fun vs H Q _ => ∃ v b p g ns, vs = [v] ∧ PapAt H v b p g ns ∧ PapOk b p g ns ∧ ∀ d H', Ex H H' → 1 ≤ d → d ≤ p → Fit (tell b p g ns) b p d → (∀ d', 1 ≤ d' → d' < d → ¬ Fit (tell b p g ns) b p d') → Q (.int d) H'
theorem b_lper {f : Addr} {fd : FuncData} (F : FD K mg "least_period" "least_period" s_lperiod f fd) : Binds K fd ["paper"] [] := F.F.binds fun _ _ _ _ _ _ us hl => match us, hl with | [_], _ => rfl
theorem own_fit {b p g : Int} {ns : List Int} (hp : 1 ≤ p) (hg : 0 ≤ g) : Fit (tell b p g ns) b p p := ag_fit (tell_ag hp) hp hg hp (tell_ag hp)
/-- a least one among those that fit -/
theorem fit_least {f : Int → Int} {b p : Int} {d : Nat} (h : Fit f b p d) (hd : 1 ≤ d) : ∃ d0 : Nat, 1 ≤ d0 ∧ d0 ≤ d ∧ Fit f b p d0 ∧ ∀ d' : Int, 1 ≤ d' → d' < d0 → ¬ Fit f b p d' := by
  induction d using Nat.strongRecOn with
  | ind d ih =>
    by_cases z : ∃ e : Nat, 1 ≤ e ∧ e < d ∧ Fit f b p e
    · obtain ⟨e, e1, e2, e3⟩ := z
      obtain ⟨d0, h1, h2, h3, h4⟩ := ih e e2 e3 e1
      exact ⟨d0, h1, by omega, h3, h4⟩
    · refine ⟨d, hd, Nat.le_refl _, h, fun d' h1 h2 hf => z ⟨d'.toNat, by omega, by omega, ?_⟩⟩
      rw [Int.toNat_of_nonneg (by omega)]
      exact hf
/-- the least one parts the paper's own period -/
theorem least_part {b p g d : Int} {ns : List Int} (hb : 0 ≤ b) (hp : 1 ≤ p) (hg : 0 ≤ g) (hd : 1 ≤ d) (h : Fit (tell b p g ns) b p d) (hl : ∀ d', 1 ≤ d' → d' < d → ¬ Fit (tell b p g ns) b p d') : p % d = 0 := (least_fit (tell_ag hp) hb hp hg hd h hl).2
theorem ok_lper {f f1 : Addr} {fd fd1 : FuncData} (F : FD K mg "least_period" "least_period" s_lperiod f fd) (F1 : FD K mg "comes_again" "comes_again" s_comes f1 fd1) (G1 : FnOk P w K mg base CX0 2 f1 fd1 ["paper", "period"] spComes) (T : Bl mg) : FnOk P w K mg base CX0 3 f fd ["paper"] spLper := by
  refine F.F.ok sc_lperiod (fun vs H Q E h => ?_) (fun cdv A outer s H vs Q E hr h => ?_)
  · obtain ⟨v, b, p, g, ns, rfl, _⟩ := h
    rfl
  · obtain ⟨v, b, p, g, ns, rfl, ⟨a, t, rfl, hrow, trow⟩, ok, k⟩ := h
    have nd := sc_lperiod.nd
    have hb1 := ok.b1
    have hp1 := ok.p1
    have hg0 := ok.g0
    have hpb := ok.pb
    refine ⟨_, pss_cons (ps_set (i := 1) nd rfl (Or.inl rfl) (pe_ix ix_seq (pv 0) pe_int (fun _ _ => rfl)))
      (pss_cons (ps_for PassesOwn.never rfl (pi_range2 (by rfl) T.range (pa_cons pe_int (pa_cons (pv 1) pa_nil))) (pg_name (i := 2) nd rfl (Or.inl rfl))
        (pss_one (ps_if (PW.pt (pw_and (pt_cmpR op_eq (pe_op op_mod (pv 1) (pv 2)) pe_int (nomark _)) (pw_and1 (pt_val (pe_call G1 hr (by rfl) F1.g F1.F.kp (b_comes F1) .nil pass0 (pa_cons (pv 0) (pa_cons (pv 2) pa_nil))))))) (pss_one (ps_ret (pv 2))) pss_nil)))
      (pss_one (ps_ret (pv 1)))), ?_⟩
    refine ⟨_, rfl, ix_row hrow (atI_nat (j := 1) rfl) ⟨_, rfl, _, _, rfl, by omega, ?_⟩⟩
    have en : (p - 1).toNat = (p - 1).toNat := rfl
    -- none below fits
    let Low : Int → Prop := fun m => ∀ d', 1 ≤ d' → d' < m → p % d' = 0 → ¬ Fit (tell b p g ns) b p d'
    have low_all : ∀ m, m ≤ p → Low m → ∀ d', 1 ≤ d' → d' < m → ¬ Fit (tell b p g ns) b p d' := by
      intro m hm hL d' h1 h2 hf
      obtain ⟨d0, k1, k2, k3, k4⟩ := fit_least (d := d'.toNat) (by rw [Int.toNat_of_nonneg (by omega)]; exact hf) (by omega)
      exact hL d0 (by omega) (by omega) (least_part (by omega) hp1 hg0 (by omega) k3 k4) k3
    refine for_range (lo := 1) (n := (p - 1).toNat) (fun i σ H' => ∃ v2, σ = [some (.ref a), some (.int p), v2] ∧ Ex H H' ∧ Low (1 + (i : Nat))) ⟨none, rfl, Ex.refl _, fun d' h1 h2 => by omega⟩ (fun i σ H' hi q => ?_) (fun σ H' q => ?_)
    · obtain ⟨v2, rfl, e, hL⟩ := q
      refine ⟨_, rfl, _, rfl, _, _, rfl, rfl, (by show 0 < 1 + (i : Int); omega), rfl, _, rfl, ?_⟩
      rw [dec_z]
      by_cases hz : p % (1 + (i : Nat)) = 0
      · refine ite_tt (decide_eq_true hz) ?_
        refine ⟨_, rfl, _, rfl, .ref a, _, b, p, g, ns, rfl, ⟨a, t, rfl, hrow.ex e, trow.ex e⟩, ok, by omega, by omega, fun H1 e1 => ⟨_, rfl, ?_⟩⟩
        by_cases hc : caB b p g ns (1 + (i : Nat)) = true
        · refine ite_tt hc ?_
          have hf := (caB_fit hp1 hg0 (by omega)).mp hc
          exact ⟨_, rfl, k _ _ (e.trans e1) (by omega) (by omega) hf (low_all _ (by omega) hL)⟩
        · refine ite_ff (by simpa using hc) ?_
          refine ⟨_, rfl, e.trans e1, fun d' h1 h2 h3 h4 => ?_⟩
          by_cases q : d' < 1 + (i : Int)
          · exact hL d' h1 q h3 h4
          · have : d' = 1 + (i : Int) := by omega
            subst this
            exact hc ((caB_fit hp1 hg0 (by omega)).mpr h4)
      · refine ite_ff (decide_eq_false hz) ?_
        refine ⟨_, rfl, e, fun d' h1 h2 h3 h4 => ?_⟩
        by_cases q : d' < 1 + (i : Int)
        · exact hL d' h1 q h3 h4
        · have : d' = 1 + (i : Int) := by omega
          subst this
          exact hz h3
    · obtain ⟨v2, rfl, e, hL⟩ := q
      exact ⟨_, rfl, k p _ e hp1 (Int.le_refl _) (own_fit hp1 hg0) (low_all p (Int.le_refl _) fun d' h1 h2 => hL d' h1 (by omega))⟩
end
end Ts


set_option Elab.async false
set_option linter.all false
set_option maxRecDepth 100000
set_option maxHeartbeats 4000000
namespace Ts
open PySem PySem.Spec L2
open Evl (Ex)
section
variable {P : Program} {w : World} {K : PySem.W.Frag} {mg : Str → Option Value} {base : Heap}
abbrev s_least := top 21
abbrev s_part := top 22
theorem sc_least : FnScope ["paper", "period", "more", "begin"] ["paper"] (defScope s_least) := ⟨rfl, rfl, rfl, by decide +kernel, rfl, by decide +kernel, by decide +kernel⟩
theorem sc_part : FnScope ["paper", "other", "end", "number"] ["paper", "other"] (defScope s_part) := ⟨rfl, rfl, rfl, by decide +kernel, rfl, by decide +kernel, by decide +kernel⟩
/-- the least paper as it is told: a new tuple with a new list -/
def Lsd (H H' : Hp) (z : Addr) (b p g : Int) (ns : List Int) (B d c : Int) : Prop :=
  Ex H H' ∧ H z = none ∧ ∃ y, H y = none ∧ H' z = some (.tup [.int B, .int d, .int c, .ref y]) ∧ H' y = some (.lst (below b p g ns (B + d)))
def spLeast (CP : Addr) : Sp := fun vs H Q E => ∃ x dx, vs = [x] ∧ D H x dx ∧ (∀ t ∈ items dx, (items t).length ≤ 100000) ∧ (isPaper dx = false → ∀ H', Ex H H' → Raised H' "thing" x CP E) ∧
  (isPaper dx = true → Sml dx ∧ ∀ z H' B d c, Lsd H H' z (pB dx) (pP dx) (pG dx) (pN dx) B d c → Lst (tell (pB dx) (pP dx) (pG dx) (pN dx)) B d c → B ≤ pB dx → d ≤ pP dx → Q (.ref z) H')
def spPart (CP : Addr) : Sp := fun vs H Q E => ∃ x x' dx dy, vs = [x, x'] ∧ D H x dx ∧ D H x' dy ∧ (∀ t ∈ items dx, (items t).length ≤ 100000) ∧ (∀ t ∈ items dy, (items t).length ≤ 100000) ∧ (isPaper dx = false → ∀ H', Ex H H' → Raised H' "thing" x CP E) ∧
  (isPaper dx = true → isPaper dy = false → ∀ H', Ex H H' → Raised H' "thing" x' CP E) ∧
  (isPaper dx = true → isPaper dy = true → Sml dx ∧ Sml dy ∧ ∀ r H', Ex H H' → Part (tell (pB dx) (pP dx) (pG dx) (pN dx)) (tell (pB dy) (pP dy) (pG dy) (pN dy)) r → Q r H')
theorem ok_least {f f1 f2 f3 f4 CP : Addr} {fd fd1 fd2 fd3 fd4 : FuncData} (F : FD K mg "least_paper" "least_paper" s_least f fd) (F1 : FD K mg "need_paper" "need_paper" s_need_paper f1 fd1) (G1 : FnOk P w K mg base (L2.CX P w) 6 f1 fd1 ["thing"] (spNeedP CP))
    (F2 : FD K mg "least_period" "least_period" s_lperiod f2 fd2) (G2 : FnOk P w K mg base CX0 3 f2 fd2 ["paper"] spLper) (F3 : FD K mg "told_of" "told_of" s_told_of f3 fd3) (F4 : FD K mg "told_below" "told_below" s_told_below f4 fd4) (G4 : FnOk P w K mg base CX0 2 f4 fd4 ["paper", "end"] spBelow) (T : Bl mg) :
    FnOk P w K mg base (L2.CX P w) 7 f fd ["paper"] (spLeast CP) := by
  have G3 : FnOk P w K mg base CX0 1 f3 fd3 ["paper", "number"] spTold := ok_told_of F3 T
  have b1 : Binds K fd1 ["thing"] [] := F1.F.binds fun _ _ _ _ _ _ us hl => match us, hl with | [_], _ => rfl
  refine F.F.okX sc_least (fun vs H Q E h => ?_) (fun cdv A outer s H vs Q E hr h => ?_)
  · obtain ⟨x, dx, rfl, _⟩ := h
    rfl
  · obtain ⟨x, dx, rfl, hx, hz, k1, k2⟩ := h
    have nd := sc_least.nd
    refine ⟨_, pss_cons (ps_expr (pe_call G1 hr (by rfl) F1.g F1.F.kp b1 .nil (passes_call (takes_of rfl rfl rfl rfl) (fun _ _ _ _ h => h)) (pa_cons (pv 0) pa_nil)))
      (pss_cons (ps_set (i := 1) nd rfl (Or.inl rfl) (pe_call G2 (hr.mono (by decide)) (by rfl) F2.g F2.F.kp (b_lper F2) .nil pass0 (pa_cons (pv 0) pa_nil)))
      (pss_cons (ps_set (i := 2) nd rfl (Or.inl rfl) (pe_op op_fdivW (pe_op op_mul (pe_ix ix_seq (pv 0) pe_int (fun _ _ => rfl)) (pv 1)) (pe_ix ix_seq (pv 0) pe_int (fun _ _ => rfl))))
      (pss_cons (ps_set (i := 3) nd rfl (Or.inl rfl) (pe_ix ix_seq (pv 0) pe_int (fun _ _ => rfl)))
      (pss_cons (ps_while (passes_of rfl) (PW.pt (pw_and (pt_cmpR op_gt (pv 3) pe_int (nomark _)) (pw_and1 (pt_cmpR op_eq
            (pe_call G3 (hr.mono (by decide)) (by rfl) F3.g F3.F.kp (b_told_of F3) .nil pass0 (pa_cons (pv 0) (pa_cons (pe_op op_add (pe_op op_sub (pv 3) pe_int) (pv 1)) pa_nil)))
            (pe_op op_add (pe_call G3 (hr.mono (by decide)) (by rfl) F3.g F3.F.kp (b_told_of F3) .nil pass0 (pa_cons (pv 0) (pa_cons (pe_op op_sub (pv 3) pe_int) pa_nil))) (pv 2)) (nomark _)))))
          (pss_one (ps_aug (i := 3) nd rfl (Or.inl rfl) pe_int ip_sub)))
      (pss_one (ps_ret (pe_tup (pa_cons (pv 3) (pa_cons (pv 1) (pa_cons (pv 2) (pa_cons (pe_call G4 (hr.mono (by decide)) (by rfl) F4.g F4.F.kp (b_told_below F4) .nil pass0 (pa_cons (pv 0) (pa_cons (pe_op op_add (pv 3) (pv 1)) pa_nil))) pa_nil))))))))))), ?_⟩
    refine ⟨_, rfl, x, dx, rfl, hx, hz, fun hp H1 e1 => ?_, k1⟩
    obtain ⟨sm, k2⟩ := k2 hp
    have ip := isPap_of hp
    have ok := ip.ok sm
    have pa := ip.at hx
    obtain ⟨a, t, rfl, hrow, trow⟩ := pa.open4
    generalize pB dx = b at ok pa hrow k2
    generalize pP dx = p at ok pa hrow k2
    generalize pG dx = g at ok pa hrow k2
    generalize pN dx = ns at ok pa trow k2
    have hb1 := ok.b1
    have hp1 := ok.p1
    have hg0 := ok.g0
    have hbb := ok.bb
    have hgb := ok.gb
    have hpb := ok.pb
    refine ⟨_, rfl, .ref a, b, p, g, ns, rfl, pa.ex e1, ok, fun d H2 e2 d1 d2 hf hl => ?_⟩
    have e12 := e1.trans e2
    have gd0 : 0 ≤ g * d := Int.mul_nonneg (by omega) (by omega)
    have gd1 : g * d ≤ 10000 * 10000 := Int.mul_le_mul hgb (by omega) (by omega) (by decide)
    obtain ⟨c, hA⟩ := fit_ag (tell_ag hp1) hp1 d1 hf
    have ec : g * d / p = c := (ag_gain (tell_ag hp1) hp1 d1 hA).symm
    obtain ⟨dl, _⟩ := least_fit (tell_ag hp1) (by omega) hp1 hg0 d1 hf hl
    refine ⟨_, rfl, ix_row (hrow.ex e12) (atI_nat (j := 2) rfl) ⟨_, rfl, _, _, rfl, rfl, .inl ⟨by omega, by omega⟩, _, rfl, ix_row (hrow.ex e12) (atI_nat (j := 1) rfl) ⟨_, _, rfl, rfl, wide_div (b := 64) (by omega) (by omega) (by decide) (by decide), ?_⟩⟩⟩
    refine ⟨_, rfl, ix_row (hrow.ex e12) (atI_nat (j := 0) rfl) ?_⟩
    clear gd0 gd1
    unfold gName
    dsimp only
    rw [ec]
    let Pv : L2.St → Hp → Prop := fun σ H' => ∃ B, σ = [some (.ref a), some (.int d), some (.int c), some (.int B)] ∧ Ex H H' ∧ 1 ≤ B ∧ B ≤ b ∧ Ag (tell b p g ns) d c B
    let Pn : L2.St → Hp → Prop := fun σ H' => ∃ B, σ = [some (.ref a), some (.int d), some (.int c), some (.int B)] ∧ Ex H H' ∧ 1 ≤ B ∧ B ≤ b ∧ Ag (tell b p g ns) d c B ∧ (B = 1 ∨ tell b p g ns (B - 1 + d) ≠ tell b p g ns (B - 1) + c)
    refine while_then Pv Pn (fun σ _ => match σ with | [_, _, _, some (.int B)] => B.toNat | _ => 0) ⟨b, rfl, e12, hb1, Int.le_refl _, hA⟩ ?_ ?_ ?_
    · rintro σ H3 q q' hq ⟨v1, a1, i1, j1, a2, a3, b1, a4, z⟩
      refine ⟨v1, a1, i1, j1, a2, a3, b1, a4, ?_⟩
      cases b1 with
      | false => exact iteF (hq _ _ (by simpa using z))
      | true =>
        rw [if_pos rfl] at z
        obtain ⟨v2, c1, v3, c2, i2, j2, c3, c4, v4, c5, i3, j3, c6, c7, u1, n1, x1, x2, x3, x4, c8, c9, c10, c11, c12, z⟩ := z
        refine iteT ⟨v2, c1, v3, c2, i2, j2, c3, c4, v4, c5, i3, j3, c6, c7, u1, n1, x1, x2, x3, x4, c8, c9, c10, c11, c12, fun H4 e4 => ?_⟩
        obtain ⟨v5, d1, v6, d2, i4, j4, d3, d4, u2, n2, y1, y2, y3, y4, d5, d6, d7, d8, d9, z⟩ := z H4 e4
        refine ⟨v5, d1, v6, d2, i4, j4, d3, d4, u2, n2, y1, y2, y3, y4, d5, d6, d7, d8, d9, fun H5 e5 => ?_⟩
        obtain ⟨v7, f1, i5, j5, f2, f3, f4, b2, f5, z⟩ := z H5 e5
        exact ⟨v7, f1, i5, j5, f2, f3, f4, b2, f5, hq _ _ z⟩
    · rintro σ H3 ⟨B, rfl, e3, B1, B2, AB⟩
      refine ⟨_, rfl, _, _, rfl, rfl, _, rfl, ?_⟩
      by_cases c1 : B > 1
      · refine ite_tt (decide_eq_true c1) ?_
        have e3' := e3
        refine ⟨_, rfl, _, rfl, _, _, rfl, rfl, _, rfl, _, _, rfl, rfl, .ref a, _, b, p, g, ns, rfl, pa.ex e3, ok, by omega, by omega, fun H4 e4 => ?_⟩
        refine ⟨_, rfl, _, rfl, _, _, rfl, rfl, .ref a, _, b, p, g, ns, rfl, pa.ex (e3.trans e4), ok, by omega, by omega, fun H5 e5 => ?_⟩
        refine ⟨_, rfl, _, _, rfl, rfl, rfl, _, rfl, ?_⟩
        rw [dec_z]
        by_cases c2 : tell b p g ns (B - 1 + d) = tell b p g ns (B - 1) + c
        · rw [decide_eq_true c2]
          refine iteT ?_
          have step : Ag (tell b p g ns) d c (B - 1) := fun n hn => by
            by_cases q : n = B - 1
            · rw [q]
              exact c2
            · exact AB n (by omega)
          have h3 := (e3.trans e4).trans e5
          exact ⟨_, rfl, _, _, rfl, rfl, ⟨⟨B - 1, rfl, h3, by omega, by omega, step⟩, by show (B - 1).toNat < B.toNat; omega⟩⟩
        · rw [decide_eq_false c2]
          exact iteF ⟨B, rfl, (e3.trans e4).trans e5, B1, B2, AB, .inr c2⟩
      · refine ite_ff (decide_eq_false c1) ?_
        exact ⟨B, rfl, e3, B1, B2, AB, .inl (by omega)⟩
    · rintro σ H3 ⟨B, rfl, e3, B1, B2, AB, stop⟩
      refine ⟨_, rfl, _, rfl, _, rfl, _, rfl, _, rfl, _, rfl, _, _, rfl, rfl, .ref a, B + d, b, p, g, ns, rfl, pa.ex e3, ok, by omega, by omega, fun y H4 ny e4 hy => ⟨by show 4 ≤ sizeLine; decide, fun z nz => ?_⟩⟩
      have e5 := Ex.new (o := .tup [.int B, .int d, .int c, .ref y]) nz
      refine k2 z _ B d c ⟨(e3.trans e4).trans e5, Evl.fresh_back (e3.trans e4) nz, y, Evl.fresh_back e3 ny, upd_same, e5 _ _ hy⟩ ⟨B1, d1, AB, dl, fun B' h1 hA' => ?_⟩ B2 d2
      apply Classical.byContradiction
      intro lt
      rcases stop with z | z
      · omega
      · exact z (hA' (B - 1) (by omega))
theorem ok_part {f f1 f3 CP : Addr} {fd fd1 fd3 : FuncData} (F : FD K mg "papers_part" "papers_part" s_part f fd) (F1 : FD K mg "need_paper" "need_paper" s_need_paper f1 fd1) (G1 : FnOk P w K mg base (L2.CX P w) 6 f1 fd1 ["thing"] (spNeedP CP))
    (F3 : FD K mg "told_of" "told_of" s_told_of f3 fd3) (T : Bl mg) (hmax : mg "max" = none) : FnOk P w K mg base (L2.CX P w) 7 f fd ["paper", "other"] (spPart CP) := by
  have G3 : FnOk P w K mg base CX0 1 f3 fd3 ["paper", "number"] spTold := ok_told_of F3 T
  have b1 : Binds K fd1 ["thing"] [] := F1.F.binds fun _ _ _ _ _ _ us hl => match us, hl with | [_], _ => rfl
  refine F.F.okX sc_part (fun vs H Q E h => ?_) (fun cdv A outer s H vs Q E hr h => ?_)
  · obtain ⟨x, x', dx, dy, rfl, _⟩ := h
    rfl
  · obtain ⟨x, x', dx, dy, rfl, hx, hy, hz, hz', k1, k2, k3⟩ := h
    have nd := sc_part.nd
    refine ⟨_, pss_cons (ps_expr (pe_call G1 hr (by rfl) F1.g F1.F.kp b1 .nil (passes_call (takes_of rfl rfl rfl rfl) (fun _ _ _ _ h => h)) (pa_cons (pv 0) pa_nil)))
      (pss_cons (ps_expr (pe_call G1 hr (by rfl) F1.g F1.F.kp b1 .nil (passes_call (takes_of rfl rfl rfl rfl) (fun _ _ _ _ h => h)) (pa_cons (pv 1) pa_nil)))
      (pss_cons (ps_set (i := 2) nd rfl (Or.inl rfl) (pe_op op_add (pe_op op_add (pe_callB (call_max2 rfl) (by rfl) hmax (by decide +kernel) (pa_cons (pe_ix ix_seq (pv 0) pe_int (fun _ _ => rfl)) (pa_cons (pe_ix ix_seq (pv 1) pe_int (fun _ _ => rfl)) pa_nil))) (pe_ix ix_seq (pv 0) pe_int (fun _ _ => rfl))) (pe_ix ix_seq (pv 1) pe_int (fun _ _ => rfl))))
      (pss_cons (ps_for (passes_of rfl) rfl (pi_range1 (by rfl) T.range (pa_cons (pe_op op_add (pv 2) pe_int) pa_nil)) (pg_name (i := 3) nd rfl (Or.inl rfl))
        (pss_one (ps_if (pt_cmpR op_ne (pe_call G3 (hr.mono (by decide)) (by rfl) F3.g F3.F.kp (b_told_of F3) .nil pass0 (pa_cons (pv 0) (pa_cons (pv 3) pa_nil))) (pe_call G3 (hr.mono (by decide)) (by rfl) F3.g F3.F.kp (b_told_of F3) .nil pass0 (pa_cons (pv 1) (pa_cons (pv 3) pa_nil))) (nomark _)) (pss_one (ps_ret (pv 3))) pss_nil)))
      (pss_one (ps_ret pe_non))))), ?_⟩
    refine ⟨_, rfl, x, dx, rfl, hx, hz, fun hp H1 e1 => ⟨_, rfl, x', dy, rfl, hy.ex e1, hz', fun hp' H2 e2 => ?_, fun hf H2 e2 => k2 hp hf H2 (e1.trans e2)⟩, k1⟩
    obtain ⟨sm, sm', k3⟩ := k3 hp hp'
    have e12 := e1.trans e2
    have ip := isPap_of hp
    have ok := ip.ok sm
    have pa := ip.at hx
    have ip' := isPap_of hp'
    have ok' := ip'.ok sm'
    have pa' := ip'.at hy
    obtain ⟨a, t, rfl, hrow, trow⟩ := pa.open4
    obtain ⟨a', t', rfl, hrow', trow'⟩ := pa'.open4
    generalize pB dx = b at ok pa hrow k3
    generalize pP dx = p at ok pa hrow k3
    generalize pG dx = g at ok pa hrow k3
    generalize pN dx = ns at ok pa trow k3
    generalize pB dy = b' at ok' pa' hrow' k3
    generalize pP dy = p' at ok' pa' hrow' k3
    generalize pG dy = g' at ok' pa' hrow' k3
    generalize pN dy = ns' at ok' pa' trow' k3
    have hb1 := ok.b1
    have hp1 := ok.p1
    have hbb := ok.bb
    have hpb := ok.pb
    have hb1' := ok'.b1
    have hp1' := ok'.p1
    have hbb' := ok'.bb
    have hpb' := ok'.pb
    refine ⟨_, rfl, ix_row (hrow.ex e12) (atI_nat (j := 0) rfl) ⟨_, rfl, ix_row (hrow'.ex e12) (atI_nat (j := 0) rfl) ⟨b, b', rfl, _, rfl, ix_row (hrow.ex e12) (atI_nat (j := 1) rfl) ⟨_, _, rfl, rfl, _, rfl, ix_row (hrow'.ex e12) (atI_nat (j := 1) rfl) ⟨_, _, rfl, rfl, ?_⟩⟩⟩⟩⟩
    obtain ⟨M, hM, m1, m2, m3⟩ : ∃ M : Int, (if b' > b then b' else b) = M ∧ b ≤ M ∧ b' ≤ M ∧ M ≤ 10000 := by
      by_cases c : b' > b
      · exact ⟨b', if_pos c, by omega, by omega, by omega⟩
      · exact ⟨b, if_neg c, by omega, by omega, by omega⟩
    dsimp only
    rw [hM]
    refine ⟨_, rfl, _, _, rfl, rfl, _, rfl, by omega, by omega, ?_⟩
    refine for_range (lo := 0) (n := (M + p + p' + 1).toNat) (fun i σ H' => ∃ v3, σ = [some (.ref a), some (.ref a'), some (.int (M + p + p')), v3] ∧ Ex H H' ∧ ∀ m : Int, 0 ≤ m → m < (i : Nat) → tell b p g ns m = tell b' p' g' ns' m) ⟨none, rfl, e12, fun m h1 h2 => by omega⟩ (fun i σ H' hi q => ?_) (fun σ H' q => ?_)
    · obtain ⟨v3, rfl, e, hL⟩ := q
      refine ⟨_, rfl, _, rfl, .ref a, _, b, p, g, ns, rfl, pa.ex e, ok, by omega, by omega, fun H4 e4 => ?_⟩
      refine ⟨_, rfl, _, rfl, .ref a', _, b', p', g', ns', rfl, pa'.ex (e.trans e4), ok', by omega, by omega, fun H5 e5 => ?_⟩
      refine ⟨rfl, _, rfl, ?_⟩
      have e6 := (e.trans e4).trans e5
      by_cases c : tell b p g ns (0 + (i : Nat)) = tell b' p' g' ns' (0 + (i : Nat))
      · refine ite_ff (by rw [dec_z, decide_eq_true c]; rfl) ?_
        refine ⟨_, rfl, e6, fun m h1 h2 => ?_⟩
        by_cases q : m < (i : Int)
        · exact hL m h1 q
        · have : m = 0 + (i : Int) := by omega
          rw [this]
          exact c
      · refine ite_tt (by rw [dec_z, decide_eq_false c]; rfl) ?_
        exact ⟨_, rfl, k3 _ _ e6 (.inl ⟨_, by omega, rfl, c, fun m h1 h2 => hL m h1 (by omega)⟩)⟩
    · obtain ⟨v3, rfl, e, hL⟩ := q
      refine k3 _ _ e (.inr ⟨rfl, alike ((tell_ag hp1).up m1) ((tell_ag hp1').up m2) (by omega) hp1 hp1' fun m h1 h2 => hL m h1 (by omega)⟩)
end
end Ts


set_option Elab.async false
set_option linter.all false
set_option maxRecDepth 100000
set_option maxHeartbeats 4000000
namespace Ts
open PySem PySem.Spec L2
open Evl (Ex)
section
variable {P : Program} {w : World} {K : PySem.W.Frag} {mg : Str → Option Value} {base : Heap}
abbrev s_pick := top 30
abbrev s_led := top 33
abbrev s_isfrom := top 35
abbrev s_lpart := top 36
theorem sc_pick : FnScope ["stream", "some"] ["stream", "some"] (defScope s_pick) := ⟨rfl, rfl, rfl, by decide +kernel, rfl, by decide +kernel, by decide +kernel⟩
theorem sc_led : FnScope ["stream", "paper", "begin", "many", "values", "number"] ["stream", "paper"] (defScope s_led) := ⟨rfl, rfl, rfl, by decide +kernel, rfl, by decide +kernel, by decide +kernel⟩
theorem sc_isfrom : FnScope ["told", "paper", "begin", "period", "gain", "number"] ["told", "paper", "begin", "period", "gain"] (defScope s_isfrom) := ⟨rfl, rfl, rfl, by decide +kernel, rfl, by decide +kernel, by decide +kernel⟩
theorem sc_lpart : FnScope ["one", "two", "number"] ["one", "two"] (defScope s_lpart) := ⟨rfl, rfl, rfl, by decide +kernel, rfl, by decide +kernel, by decide +kernel⟩
def spPick : Sp := fun vs H Q _ => ∃ a c n s xs, vs = [.ref a, .ref s] ∧ Strm H a c n ∧ off a c H s = some (.lst xs) ∧ 1 ≤ xs.length ∧ xs.length ≤ 1000 ∧ n < 2 ^ 39 ∧ ∀ H' (r : Nat) x, Ex (off a c H) (off a c H') → Strm H' a c (n + 1) → xs[r]? = some x → Q x H'
theorem ok_pick {f f1 : Addr} {fd fd1 : FuncData} (F : FD K mg "_law_pick" "_law_pick" s_pick f fd) (F1 : FD K mg "_law_draw" "_law_draw" s_draw f1 fd1) (T : Bl mg) : FnOk P w K mg base CX0 2 f fd ["stream", "some"] spPick := by
  have G1 : FnOk P w K mg base CX0 1 f1 fd1 ["stream", "many"] spDraw := ok_draw F1 T
  refine F.F.ok sc_pick (fun vs H Q E h => ?_) (fun cdv A outer s H vs Q E hr h => ?_)
  · obtain ⟨a, c, n, s, xs, rfl, _⟩ := h
    rfl
  · obtain ⟨a, c, n, sx, xs, rfl, S, hs, l1, l2, n1, k⟩ := h
    refine ⟨_, pss_one (ps_ret (pe_ix ix_seq (pv 1) (pe_call G1 hr (by rfl) F1.g F1.F.kp (b_draw F1) .nil pass0 (pa_cons (pv 0) (pa_cons (pe_callB call_len_seq (by rfl) T.len PySem.boot_len (pa_cons (pv 1) pa_nil)) pa_nil))) (fun _ _ => rfl))), ?_⟩
    refine ⟨_, rfl, _, rfl, _, rfl, sx, xs, rfl, .inl (SqL.of (off_of hs)), a, c, n, _, rfl, S, by omega, by omega, by omega, fun H' r e S' r0 r1 => ?_⟩
    have hr' : (r.toNat) < xs.length := by omega
    exact ix_row (.inl (off_of (e _ _ hs))) (atI_int r0 (List.getElem?_eq_getElem hr')) (k H' r.toNat _ e S' (List.getElem?_eq_getElem hr'))
/-- a led paper: as the law makes it -/
def spLawLed : Sp := fun vs H Q _ => ∃ a c n v b p g ns G, vs = [.ref a, v] ∧ Strm H a c n ∧ n < 2 ^ 39 ∧ Ex G (off a c H) ∧ D G v (papD b p g ns) ∧ PS b p g ns ∧ ∀ H' z n' j m G', Ex (off a c H) (off a c H') → Strm H' a c n' → n ≤ n' → n' ≤ n + 2 → 0 ≤ j → j < 6 → 1 ≤ m → m ≤ 4 → Reg a c G G' H H' →
  D G' (.ref z) (papD (b + j) (m * p) (m * g) (tells b p g ns (b + j + m * p))) → Q (.ref z) H'
theorem b_told {f : Addr} {fd : FuncData} (F : FD K mg "_law_a_told" "_law_a_told" s_a_told f fd) : Binds K fd ["paper", "number"] [] := F.F.binds fun _ _ _ _ _ _ us hl => match us, hl with | [_, _], _ => rfl
theorem ok_law_led {f f1 f2 : Addr} {fd fd1 fd2 : FuncData} (F : FD K mg "_law_led" "_law_led" s_led f fd) (F1 : FD K mg "_law_draw" "_law_draw" s_draw f1 fd1) (F2 : FD K mg "_law_a_told" "_law_a_told" s_a_told f2 fd2) (T : Bl mg) : FnOk P w K mg base CX0 2 f fd ["stream", "paper"] spLawLed := by
  have G1 : FnOk P w K mg base CX0 1 f1 fd1 ["stream", "many"] spDraw := ok_draw F1 T
  have G2 : FnOk P w K mg base CX0 1 f2 fd2 ["paper", "number"] spTold := ok_a_told F2 T
  refine F.F.ok sc_led (fun vs H Q E h => ?_) (fun cdv A outer s H vs Q E hr h => ?_)
  · obtain ⟨a, c, n, v, b, p, g, ns, G, rfl, _⟩ := h
    rfl
  · obtain ⟨a, c, n, v, b, p, g, ns, G, rfl, S, n1, eG, hdG, ps, k⟩ := h
    have nd := sc_led.nd
    have hd := hdG.ex eG
    refine ⟨_, pss_cons (ps_par (i := 2) (j := 3) (by rfl) nd rfl rfl (by decide) rfl rfl (pa_cons (pe_op op_add (pe_ix ix_seq (pv 1) pe_int (fun _ _ => rfl)) (pe_call G1 hr (by rfl) F1.g F1.F.kp (b_draw F1) .nil pass0 (pa_cons (pv 0) (pa_cons pe_int pa_nil)))) (pa_cons (pe_op op_add pe_int (pe_call G1 hr (by rfl) F1.g F1.F.kp (b_draw F1) .nil pass0 (pa_cons (pv 0) (pa_cons pe_int pa_nil)))) pa_nil)) (by rfl))
      (pss_cons (ps_setLc (i := 4) (own := [("number", 5)]) (g := gName 5) (tt := tYes) rfl nd rfl rfl (sw_true rfl rfl rfl (by decide +kernel)) (pi_range1 (by rfl) T.range (pa_cons (pe_op op_add (pv 2) (pe_op op_mul (pv 3) (pe_ix ix_seq (pv 1) pe_int (fun _ _ => rfl)))) pa_nil)) (blkOk_by (N := ["stream", "paper", "begin", "many", "values", "number"]) (sc := defScope s_led) (by decide +kernel))
          (fun _ _ _ _ _ => pg_name (i := 5) nd rfl (Or.inl rfl)) (fun _ _ _ _ _ => pts_nil) (fun _ _ _ _ _ => pe_call G2 hr (by rfl) F2.g F2.F.kp (b_told F2) .nil pass0 (pa_cons (pv 1) (pa_cons (pv 5) pa_nil))))
      (pss_one (ps_ret (pe_tup (pa_cons (pv 2) (pa_cons (pe_op op_mul (pv 3) (pe_ix ix_seq (pv 1) pe_int (fun _ _ => rfl))) (pa_cons (pe_op op_mul (pv 3) (pe_ix ix_seq (pv 1) pe_int (fun _ _ => rfl))) (pa_cons (pv 4) pa_nil)))))))), ?_⟩
    have b1 := ps.b1
    have b2 := ps.b2
    have p1 := ps.p1
    have p2 := ps.p2
    have g1 := ps.g1
    have g2 := ps.g2
    obtain ⟨pa, pt, rfl, prow, ptrow⟩ := papK_at (k1 := false) (k2 := true) hd
    refine ⟨_, rfl, ix_row (prow.ex off_ex) (atI_nat (j := 0) rfl) ⟨_, rfl, a, c, n, 6, rfl, S, by decide, by decide, by omega, fun H1 r1 e1 S1 r10 r11 => ?_⟩⟩
    refine ⟨_, _, rfl, rfl, _, rfl, a, c, n + 1, 4, rfl, S1, by decide, by decide, by omega, fun H2 r2 e2 S2 r20 r21 => ⟨_, _, rfl, rfl, _, _, rfl, ?_⟩⟩
    have e12 := e1.trans e2
    have prow2 := (prow.ex e12).ex off_ex
    have ptrow2 := (ptrow.ex e12).ex off_ex
    have hM : (1 + r2) * p ≤ 400 := Int.le_trans (Int.mul_le_mul_of_nonneg_left p2 (by omega)) (by omega)
    have hM0 : 0 < (1 + r2) * p := Int.mul_pos (by omega) (by omega)
    unfold gName
    dsimp only
    refine seq1 (asg1 ?_)
    refine lc_any (J := Itr 0 (b + r1 + (1 + r2) * p).toNat) (n := (b + r1 + (1 + r2) * p).toNat) (out := fun i => .int (tell b p g ns (i : Nat))) walk_range
      (fun R r => ⟨_, rfl, _, rfl, _, rfl, ix_row prow2 (atI_nat (j := 1) rfl) ⟨_, _, rfl, rfl, .inl ⟨by omega, by omega⟩, _, _, rfl, rfl, b + r1 + (1 + r2) * p, rfl, by omega, by omega, r⟩⟩) (Evl.sz_of (by omega)) (fun _ _ => trivial) (fun i x Hx Hy hi e y => ?_) (fun x H q q' z => g_name_mono z) (fun vq Hd nvq ed hvq => ?_)
    · obtain ⟨rfl, rfl⟩ := y
      refine ⟨Ex.refl _, rfl, Ex.refl _, fun q hq => ?_⟩
      refine ⟨_, rfl, _, rfl, .ref pa, _, b, p, g, ns, rfl, ⟨pa, pt, rfl, prow2.ex e, ptrow2.ex e⟩, ps.ok, by omega, by omega, fun H4 e4 => ?_⟩
      have z := hq H4 e4
      rw [Int.zero_add]
      exact z
    have hvq : Hd vq = some (.lst ((tells b p g ns (b + r1 + (1 + r2) * p)).map V.int)) := by
      rw [← below_eq]
      exact hvq
    refine ⟨_, rfl, _, rfl, _, rfl, ix_row (prow2.ex ed) (atI_nat (j := 1) rfl) ⟨_, _, rfl, rfl, .inl ⟨by omega, by omega⟩, ?_⟩⟩
    refine ⟨_, rfl, _, rfl, ix_row (prow2.ex ed) (atI_nat (j := 2) rfl) ⟨_, _, rfl, rfl, .inl ⟨by omega, by omega⟩, _, rfl, by show 4 ≤ sizeLine; decide, fun z nz => ?_⟩⟩
    have et := Ex.new (o := .tup [.int (b + r1), .int ((1 + r2) * p), .int ((1 + r2) * g), .ref vq]) nz
    have Sd := S2.ex ed
    have zz := Sd.nea nz
    have vv := S2.nea nvq
    have e1d : Ex (off a c H) (off a c Hd) := e12.trans (Ex.offs ed)
    have nG : ∀ q, Hd q = none → G q = none := fun q hq => Evl.fresh_back (eG.trans (e1d.trans off_ex)) hq
    have gv : G vq = none := Evl.fresh_back (eG.trans (e12.trans off_ex)) nvq
    have nzv : z ≠ vq := fun q => by
      rw [q, hvq] at nz
      cases nz
    have hz0 : H z = none ∨ z = a ∨ z = c := by
      by_cases q : z = a ∨ z = c
      · exact .inr q
      · left
        have := Evl.fresh_back (e1d.trans off_ex) nz
        rw [off_ne (fun w => q (.inl w)) (fun w => q (.inr w))] at this
        exact this
    have hz1 : H z = none := by
      rcases hz0 with q | q | q
      · exact q
      · exact absurd q zz.1
      · exact absurd q zz.2
    have hv1 : H vq = none := by
      have := Evl.fresh_back (e12.trans off_ex) nvq
      rw [off_ne vv.1 vv.2] at this
      exact this
    have eg1 : Ex G (upd G vq (.lst ((tells b p g ns (b + r1 + (1 + r2) * p)).map V.int))) := Ex.new gv
    have gz : upd G vq (.lst ((tells b p g ns (b + r1 + (1 + r2) * p)).map V.int)) z = none := by
      rw [upd_ne nzv]
      exact nG z nz
    have eg2 := Ex.new (o := .tup [.int (b + r1), .int ((1 + r2) * p), .int ((1 + r2) * g), .ref vq]) gz
    refine k _ z _ r1 (1 + r2) (upd (upd G vq (.lst ((tells b p g ns (b + r1 + (1 + r2) * p)).map V.int))) z (.tup [.int (b + r1), .int ((1 + r2) * p), .int ((1 + r2) * g), .ref vq])) (e1d.trans (Ex.offs et)) (Sd.ex et) (by omega) (by omega) r10 r11 (by omega) (by omega) ⟨eg1.trans eg2, fun q o hq => ?_, fun q hq => ?_⟩
      (.tup (xs := [.int (b + r1), .int ((1 + r2) * p), .int ((1 + r2) * g), .ref vq]) upd_same (.cons (.int _) (.cons (.int _) (.cons (.int _) (.cons (d_ints (eg2 _ _ upd_same)) .nil)))))
    · by_cases c1 : q = z
      · rw [c1, upd_same] at hq
        cases hq
        rw [c1, off_ne zz.1 zz.2]
        exact upd_same
      · rw [upd_ne c1] at hq
        by_cases c2 : q = vq
        · rw [c2, upd_same] at hq
          cases hq
          rw [c2]
          exact Ex.offs et _ _ ((off_ne vv.1 vv.2).trans hvq)
        · rw [upd_ne c2] at hq
          exact Ex.offs et _ _ (e1d _ _ (eG _ _ hq))
    · by_cases c1 : q = z
      · rw [c1]
        exact .inr hz1
      · rw [upd_ne c1] at hq
        by_cases c2 : q = vq
        · rw [c2]
          exact .inr hv1
        · rw [upd_ne c2] at hq
          exact .inl hq
/-- whether values go on from a begin on -/
def isF (b p g : Int) (ns : List Int) (B d c : Int) : Bool := (List.range (b + p - B).toNat).all fun i => decide (tell b p g ns (B + (i : Nat) + d) = tell b p g ns (B + (i : Nat)) + c)
theorem isF_ag {b p g B d c : Int} {ns : List Int} (hp : 1 ≤ p) (hA : Ag (tell b p g ns) d c b) : isF b p g ns B d c = true ↔ Ag (tell b p g ns) d c B := by
  unfold isF
  rw [List.all_eq_true]
  constructor
  · intro h n hn
    by_cases q : b ≤ n
    · exact hA n q
    · have z := of_decide_eq_true (h (n - B).toNat (List.mem_range.mpr (by omega)))
      rw [Int.toNat_of_nonneg (by omega)] at z
      have e : B + (n - B) = n := by omega
      rw [e] at z
      exact z
  · intro h i hi
    exact decide_eq_true (h _ (by have := Int.natCast_nonneg i; omega))
def spIsF : Sp := fun vs H Q _ => ∃ t v b p g ns m B d c, vs = [.ref t, v, .int B, .int d, .int c] ∧ H t = some (.lst ((tells b p g ns m).map V.int)) ∧ PapAt H v b p g ns ∧ PapOk b p g ns ∧ 1 ≤ B ∧ B ≤ b ∧ 1 ≤ d ∧ d ≤ p ∧ m = b + 3 * p + 2 ∧ ∀ H', Ex H H' → Q (.bl (isF b p g ns B d c)) H'
theorem tells_get {b p g m n : Int} {ns : List Int} (h0 : 0 ≤ n) (h1 : n < m) : ((tells b p g ns m).map V.int)[n.toNat]? = some (.int (tell b p g ns n)) := by
  rw [get_map (by rw [tells_len]; omega), tells_at h0 h1]
theorem ok_isf {f : Addr} {fd : FuncData} (F : FD K mg "_law_is_from" "_law_is_from" s_isfrom f fd) (T : Bl mg) : FnOk P w K mg base CX0 1 f fd ["told", "paper", "begin", "period", "gain"] spIsF := by
  refine F.F.ok sc_isfrom (fun vs H Q E h => ?_) (fun cdv A outer s H vs Q E hr h => ?_)
  · obtain ⟨t, v, b, p, g, ns, m, B, d, c, rfl, _⟩ := h
    rfl
  · obtain ⟨t, v, b, p, g, ns, m, B, d, c, rfl, ht, ⟨a, t2, rfl, hrow, trow⟩, ok, B1, B2, d1, d2, rfl, k⟩ := h
    have nd := sc_isfrom.nd
    have hb1 := ok.b1
    have hp1 := ok.p1
    have hbb := ok.bb
    have hpb := ok.pb
    refine ⟨_, pss_one (ps_ret (pe_callB (cr_all rfl) (by rfl) T.all (by decide +kernel) (pa_cons (pe_lc (own := [("number", 5)]) (g := gName 5) (tt := tYes) rfl nd (pi_range2 (by rfl) T.range (pa_cons (pv 2) (pa_cons (pe_op op_add (pe_ix ix_seq (pv 1) pe_int (fun _ _ => rfl)) (pe_ix ix_seq (pv 1) pe_int (fun _ _ => rfl))) pa_nil))) (blkOk_by (N := ["told", "paper", "begin", "period", "gain", "number"]) (sc := defScope s_isfrom) (by decide +kernel))
        (fun _ _ _ _ _ => pg_name (i := 5) nd rfl (Or.inl rfl)) (fun _ _ _ _ _ => pts_nil)
        (fun _ _ _ _ _ => pe_cmpR op_eq (pe_ix (r := rIx K) ix_seq (pv 0) (pe_op op_add (pv 5) (pv 3)) (fun _ _ => rfl)) (pe_op op_add (pe_ix (r := rIx K) ix_seq (pv 0) (pv 5) (fun _ _ => rfl)) (pv 4)) (nomark _))) pa_nil))), ?_⟩
    unfold tRet tCB tCons tNil
    dsimp only
    refine lc_any (J := Itr B (b + p - B).toNat) (n := (b + p - B).toNat) (out := fun i => .bl (decide (tell b p g ns (B + (i : Nat) + d) = tell b p g ns (B + (i : Nat)) + c))) walk_range (fun R r => ⟨_, rfl, _, rfl, ix_row hrow (atI_nat (j := 0) rfl) ⟨_, rfl, ix_row hrow (atI_nat (j := 1) rfl) ⟨_, _, rfl, rfl, B, b + p, rfl, by omega, r⟩⟩⟩) (Evl.sz_of (by omega)) (fun _ _ => trivial) (fun i x H1 H2 hi e y => ?_) (fun x H q q' z => g_name_mono z) (fun x Hf hx e hl => ?_)
    · obtain ⟨rfl, rfl⟩ := y
      refine ⟨Ex.refl _, rfl, Ex.refl _, fun q hq => ?_⟩
      have r2 : Row H2 t ((tells b p g ns (b + 3 * p + 2)).map V.int) := .inl (e _ _ ht)
      refine ⟨_, rfl, _, rfl, _, rfl, _, _, rfl, rfl, ix_row r2 (atI_int (by omega) (tells_get (by omega) (by omega))) ?_⟩
      refine ⟨_, rfl, _, rfl, ix_row r2 (atI_int (by omega) (tells_get (by omega) (by omega))) ?_⟩
      refine ⟨_, rfl, _, _, rfl, rfl, rfl, ?_⟩
      rw [dec_z]
      exact hq _ (Ex.refl _)
    · refine ⟨x, (List.range (b + p - B).toNat).map fun i => decide (tell b p g ns (B + (i : Nat) + d) = tell b p g ns (B + (i : Nat)) + c), rfl, SqL.of ?_, ?_⟩
      · rw [hl, List.map_map]
        rfl
      · rw [all_id]
        exact k Hf e
def spLpart : Sp := fun vs H Q _ => ∃ v b p g ns v' b' p' g' ns', vs = [v, v'] ∧ PapAt H v b p g ns ∧ PapOk b p g ns ∧ PapAt H v' b' p' g' ns' ∧ PapOk b' p' g' ns' ∧ ∀ r H', Ex H H' → Part (tell b p g ns) (tell b' p' g' ns') r → Q r H'
theorem ok_lpart {f f3 : Addr} {fd fd3 : FuncData} (F : FD K mg "_law_part" "_law_part" s_lpart f fd) (F3 : FD K mg "_law_a_told" "_law_a_told" s_a_told f3 fd3) (T : Bl mg) (hmax : mg "max" = none) : FnOk P w K mg base CX0 2 f fd ["one", "two"] spLpart := by
  have G3 : FnOk P w K mg base CX0 1 f3 fd3 ["paper", "number"] spTold := ok_a_told F3 T
  refine F.F.ok sc_lpart (fun vs H Q E h => ?_) (fun cdv A outer s H vs Q E hr h => ?_)
  · obtain ⟨v, b, p, g, ns, v', b', p', g', ns', rfl, _⟩ := h
    rfl
  · obtain ⟨v, b, p, g, ns, v', b', p', g', ns', rfl, pa, ok, pa', ok', k⟩ := h
    have nd := sc_lpart.nd
    obtain ⟨a, t, rfl, hrow, trow⟩ := pa.open4
    obtain ⟨a', t', rfl, hrow', trow'⟩ := pa'.open4
    have hb1 := ok.b1
    have hp1 := ok.p1
    have hbb := ok.bb
    have hpb := ok.pb
    have hb1' := ok'.b1
    have hp1' := ok'.p1
    have hbb' := ok'.bb
    have hpb' := ok'.pb
    refine ⟨_, pss_cons (ps_for PassesOwn.never rfl (pi_range1 (by rfl) T.range (pa_cons (pe_op op_add (pe_callB (call_max2 rfl) (by rfl) hmax (by decide +kernel) (pa_cons (pe_ix ix_seq (pv 0) pe_int (fun _ _ => rfl)) (pa_cons (pe_ix ix_seq (pv 1) pe_int (fun _ _ => rfl)) pa_nil))) (pe_op op_mul (pe_op op_mul pe_int (pe_ix ix_seq (pv 0) pe_int (fun _ _ => rfl))) (pe_ix ix_seq (pv 1) pe_int (fun _ _ => rfl)))) pa_nil)) (pg_name (i := 2) nd rfl (Or.inl rfl))
        (pss_one (ps_if (pt_cmpR op_ne (pe_call G3 hr (by rfl) F3.g F3.F.kp (b_told F3) .nil pass0 (pa_cons (pv 0) (pa_cons (pv 2) pa_nil))) (pe_call G3 hr (by rfl) F3.g F3.F.kp (b_told F3) .nil pass0 (pa_cons (pv 1) (pa_cons (pv 2) pa_nil))) (nomark _)) (pss_one (ps_ret (pv 2))) pss_nil)))
      (pss_one (ps_ret pe_non)), ?_⟩
    obtain ⟨M, hM, m1, m2, m3⟩ : ∃ M : Int, (if b' > b then b' else b) = M ∧ b ≤ M ∧ b' ≤ M ∧ M ≤ 10000 := by
      by_cases c : b' > b
      · exact ⟨b', if_pos c, by omega, by omega, by omega⟩
      · exact ⟨b, if_neg c, by omega, by omega, by omega⟩
    have q1 : p + p' ≤ 2 * p * p' := by
      have z := Int.mul_nonneg (show 0 ≤ p - 1 by omega) (show 0 ≤ p' - 1 by omega)
      have z2 := Int.mul_le_mul_of_nonneg_left (show 1 ≤ p' by omega) (show 0 ≤ p by omega)
      rw [Int.sub_mul, Int.mul_sub, Int.one_mul, Int.mul_one] at z
      rw [Int.mul_assoc]
      omega
    have q2 : 2 * p * p' ≤ 20000 * 10000 := Int.mul_le_mul (by omega) hpb' (by omega) (by decide)
    refine ⟨_, rfl, ix_row hrow (atI_nat (j := 0) rfl) ⟨_, rfl, ix_row hrow' (atI_nat (j := 0) rfl) ⟨b, b', rfl, _, rfl, ix_row hrow (atI_nat (j := 1) rfl) ⟨_, _, rfl, rfl, .inl ⟨by omega, by omega⟩, _, rfl, ix_row hrow' (atI_nat (j := 1) rfl) ⟨_, _, rfl, rfl, .inl ⟨by omega, by omega⟩, _, _, rfl, rfl, M + 2 * p * p', by rw [← hM], by omega, by omega, ?_⟩⟩⟩⟩⟩
    refine for_range (lo := 0) (n := (M + 2 * p * p').toNat) (fun i σ H' => ∃ v3, σ = [some (.ref a), some (.ref a'), v3] ∧ Ex H H' ∧ ∀ m : Int, 0 ≤ m → m < (i : Nat) → tell b p g ns m = tell b' p' g' ns' m) ⟨none, rfl, Ex.refl _, fun m h1 h2 => by omega⟩ (fun i σ H' hi q => ?_) (fun σ H' q => ?_)
    · obtain ⟨v3, rfl, e, hL⟩ := q
      refine ⟨_, rfl, _, rfl, .ref a, _, b, p, g, ns, rfl, pa.ex e, ok, by omega, by omega, fun H4 e4 => ?_⟩
      refine ⟨_, rfl, _, rfl, .ref a', _, b', p', g', ns', rfl, pa'.ex (e.trans e4), ok', by omega, by omega, fun H5 e5 => ?_⟩
      refine ⟨rfl, _, rfl, ?_⟩
      have e6 := (e.trans e4).trans e5
      by_cases c : tell b p g ns (0 + (i : Nat)) = tell b' p' g' ns' (0 + (i : Nat))
      · refine ite_ff (by rw [dec_z, decide_eq_true c]; rfl) ?_
        refine ⟨_, rfl, e6, fun m h1 h2 => ?_⟩
        by_cases q : m < (i : Int)
        · exact hL m h1 q
        · have : m = 0 + (i : Int) := by omega
          rw [this]
          exact c
      · refine ite_tt (by rw [dec_z, decide_eq_false c]; rfl) ?_
        exact ⟨_, rfl, k _ _ e6 (.inl ⟨_, by omega, rfl, c, fun m h1 h2 => hL m h1 (by omega)⟩)⟩
    · obtain ⟨v3, rfl, e, hL⟩ := q
      refine k _ _ e (.inr ⟨rfl, alike ((tell_ag hp1).up m1) ((tell_ag hp1').up m2) (by omega) hp1 hp1' fun m h1 h2 => hL m h1 (by omega)⟩)
end
end Ts


set_option Elab.async false
set_option linter.all false
set_option maxRecDepth 100000
set_option maxHeartbeats 4000000
namespace Ts
open PySem PySem.Spec L2
open Evl (Ex)
theorem eqvAll_ints : ∀ xs ys : List Int, PyData.eqvAll (xs.map .int) (ys.map .int) = decide (xs = ys)
  | [], [] => by simp [PyData.eqvAll]
  | [], y :: ys => by simp [PyData.eqvAll]
  | x :: xs, [] => by simp [PyData.eqvAll]
  | x :: xs, y :: ys => by
    rw [List.map_cons, List.map_cons, PyData.eqvAll, eqvAll_ints xs ys]
    by_cases h : x = y <;> by_cases h2 : xs = ys <;> simp [PyData.eqv, h, h2]
theorem eqv_ints (xs ys : List Int) : PyData.eqv (.list (xs.map .int)) (.list (ys.map .int)) = decide (xs = ys) := by
  rw [← eqvAll_ints]
  simp [PyData.eqv]
theorem flat_rep {x : Int} : ∀ n : Nat, (List.replicate n [x]).flatten = List.replicate n x
  | 0 => rfl
  | n + 1 => by
    rw [List.replicate_succ, List.flatten_cons, flat_rep n, List.replicate_succ]
    rfl
/-- all are as the first one -/
theorem rep_eq {x : Int} {r : List Int} : (x :: r = (List.replicate (x :: r).length ((x :: r).take 1)).flatten) ↔ ∀ y ∈ x :: r, y = x := by
  have e : (x :: r).take 1 = [x] := by simp
  rw [e, flat_rep, List.eq_replicate_iff]
  exact ⟨fun h => h.2, fun h => ⟨rfl, h⟩⟩
theorem flat_map : ∀ (n : Nat) (l : List Int), (List.replicate n (l.map V.int)).flatten = ((List.replicate n l).flatten).map V.int
  | 0, l => rfl
  | n + 1, l => by
    rw [List.replicate_succ, List.flatten_cons, flat_map n l, List.replicate_succ, List.flatten_cons, List.map_append]
theorem cut1 (l : List Int) : cutV (l.map V.int) none (some 1) = (l.take 1).map V.int := by
  unfold cutV
  rw [HT.sIx_none]
  have e : HT.sIx (l.map V.int).length (l.map V.int).length (some 1) = min 1 l.length := by
    have := HT.sIx_nat (l.map V.int).length (l.map V.int).length 1
    rw [List.length_map] at this ⊢
    exact this
  rw [e, List.drop_zero, Nat.sub_zero, List.map_take]
  cases l <;> simp
theorem tells_take {b p g m k : Int} {ns : List Int} (h : k ≤ m) : (tells b p g ns m).take k.toNat = tells b p g ns k := by
  unfold tells
  rw [← List.map_take, List.take_range, Nat.min_eq_left (by omega)]
theorem cut_tells {b p g m k : Int} {ns : List Int} (h0 : 0 ≤ k) (h : k ≤ m) : cutV ((tells b p g ns m).map V.int) none (some k) = (tells b p g ns k).map V.int := by
  unfold cutV
  rw [HT.sIx_none]
  have e : HT.sIx ((tells b p g ns m).map V.int).length ((tells b p g ns m).map V.int).length (some k) = k.toNat := by
    have := HT.sIx_nat ((tells b p g ns m).map V.int).length ((tells b p g ns m).map V.int).length k.toNat
    rw [Int.toNat_of_nonneg h0] at this
    rw [this, List.length_map, tells_len, Nat.min_eq_left (by omega)]
  rw [e, List.drop_zero, Nat.sub_zero, ← List.map_take, tells_take h]
section
variable {P : Program} {w : World} {K : PySem.W.Frag} {mg : Str → Option Value} {base : Heap}
abbrev s_lleast := top 34
theorem sc_lleast : FnScope ["paper", "told", "period", "gains", "begins", "number", "begin"] ["paper"] (defScope s_lleast) := ⟨rfl, rfl, rfl, by decide +kernel, rfl, by decide +kernel, by decide +kernel⟩
theorem b_isf {f : Addr} {fd : FuncData} (F : FD K mg "_law_is_from" "_law_is_from" s_isfrom f fd) : Binds K fd ["told", "paper", "begin", "period", "gain"] [] := F.F.binds fun _ _ _ _ _ _ us hl => match us, hl with | [_, _, _, _, _], _ => rfl
def spLawLeast : Sp := fun vs H Q _ => ∃ v b p g ns, vs = [v] ∧ PapAt H v b p g ns ∧ PapOk b p g ns ∧ ∀ z H' B d c, Lsd H H' z b p g ns B d c → Lst (tell b p g ns) B d c → B ≤ b → d ≤ p → 0 ≤ c → c ≤ g → Q (.ref z) H'
/-- how much more each number tells -/
def gainsOf (b p g : Int) (ns : List Int) (d : Int) : List Int := (List.range (p + 1).toNat).map fun i => tell b p g ns (b + (i : Nat) + d) - tell b p g ns (b + (i : Nat))
theorem gains_cons {b p g d : Int} {ns : List Int} (hp : 1 ≤ p) : ∃ r, gainsOf b p g ns d = (tell b p g ns (b + d) - tell b p g ns b) :: r := by
  have e : (p + 1).toNat = p.toNat + 1 := by omega
  unfold gainsOf
  rw [e, List.range_succ_eq_map, List.map_cons]
  have e2 : b + ((0 : Nat) : Int) = b := by simp
  rw [e2]
  exact ⟨_, rfl⟩
theorem gains_fit {b p g d : Int} {ns : List Int} (hp : 1 ≤ p) : (∀ y ∈ gainsOf b p g ns d, y = tell b p g ns (b + d) - tell b p g ns b) ∧ tell b p g ns (b + d) - tell b p g ns b ≥ 0 ↔ Fit (tell b p g ns) b p d := by
  constructor
  · rintro ⟨h1, h2⟩
    refine ⟨_, h2, fun n n1 n2 => ?_⟩
    have z := h1 (tell b p g ns (n + d) - tell b p g ns n) (List.mem_map.mpr ⟨(n - b).toNat, List.mem_range.mpr (by omega), by
      rw [Int.toNat_of_nonneg (by omega)]
      have e : b + (n - b) = n := by omega
      rw [e]⟩)
    omega
  · rintro ⟨c, h1, h2⟩
    have e0 := h2 b (Int.le_refl _) (by omega)
    refine ⟨fun y hy => ?_, by omega⟩
    obtain ⟨i, hi, rfl⟩ := List.mem_map.mp hy
    have := List.mem_range.mp hi
    have := h2 (b + (i : Nat)) (by omega) (by omega)
    omega
theorem ok_lleast {f f1 f2 : Addr} {fd fd1 fd2 : FuncData} (F : FD K mg "_law_least" "_law_least" s_lleast f fd) (F_told : FD K mg "_law_a_told" "_law_a_told" s_a_told f1 fd1) (F_isf : FD K mg "_law_is_from" "_law_is_from" s_isfrom f2 fd2) (T : Bl mg) : FnOk P w K mg base CX0 2 f fd ["paper"] spLawLeast := by
  have G_told : FnOk P w K mg base CX0 1 f1 fd1 ["paper", "number"] spTold := ok_a_told F_told T
  have G_isf : FnOk P w K mg base CX0 1 f2 fd2 ["told", "paper", "begin", "period", "gain"] spIsF := ok_isf F_isf T
  refine F.F.ok sc_lleast (fun vs H Q E h => ?_) (fun cdv A outer s H vs Q E hr h => ?_)
  · obtain ⟨v, b, p, g, ns, rfl, _⟩ := h
    rfl
  · obtain ⟨v, b, p, g, ns, rfl, ⟨a, t, rfl, hrow, trow⟩, ok, k⟩ := h
    have nd := sc_lleast.nd
    have hb1 := ok.b1
    have hp1 := ok.p1
    have hg0 := ok.g0
    have hbb := ok.bb
    have hpb := ok.pb
    have hgb := ok.gb
    refine ⟨_, (pss_cons (ps_set (i := 1) nd rfl (Or.inr rfl) (pe_lc (own := [("number", 5)]) (g := gName 5) (tt := tYes) rfl nd (pi_range1 (by rfl) T.range (pa_cons (pe_op op_add (pe_op op_add (pe_ix ix_seq (pv 0) pe_int (fun _ _ => rfl)) (pe_op op_mul pe_int (pe_ix ix_seq (pv 0) pe_int (fun _ _ => rfl)))) pe_int) pa_nil)) (blkOk_by (N := ["paper", "told", "period", "gains", "begins", "number", "begin"]) (sc := defScope s_lleast) (by decide +kernel)) (fun _ _ _ _ _ => pg_name (i := 5) nd rfl (Or.inl rfl)) (fun _ _ _ _ _ => pts_nil) (fun _ _ _ _ _ => (pe_call G_told (hr.mono (by decide)) (by rfl) F_told.g F_told.F.kp (b_told F_told) .nil pass0 (pa_cons (pv 0) (pa_cons (pv 5) pa_nil))))))
      (pss_cons (ps_for PassesOwn.never rfl (pi_range2 (by rfl) T.range (pa_cons pe_int (pa_cons (pe_op op_add (pe_ix ix_seq (pv 0) pe_int (fun _ _ => rfl)) pe_int) pa_nil))) (pg_name (i := 2) nd rfl (Or.inr rfl)) (pss_cons (ps_set (i := 3) nd rfl (Or.inr rfl) (pe_lc (own := [("number", 5)]) (g := gName 5) (tt := tYes) rfl nd (pi_range2 (by rfl) T.range (pa_cons (pe_ix ix_seq (pv 0) pe_int (fun _ _ => rfl)) (pa_cons (pe_op op_add (pe_op op_add (pe_ix ix_seq (pv 0) pe_int (fun _ _ => rfl)) (pe_ix ix_seq (pv 0) pe_int (fun _ _ => rfl))) pe_int) pa_nil))) (blkOk_by (N := ["paper", "told", "period", "gains", "begins", "number", "begin"]) (sc := defScope s_lleast) (by decide +kernel)) (fun _ _ _ _ _ => pg_name (i := 5) nd rfl (Or.inl rfl)) (fun _ _ _ _ _ => pts_nil) (fun _ _ _ _ _ => (pe_op op_sub (pe_ix (r := rIx K) ix_seq (pv 1) (pe_op op_add (pv 5) (pv 2)) (fun _ _ => rfl)) (pe_ix (r := rIx K) ix_seq (pv 1) (pv 5) (fun _ _ => rfl))))))
      (pss_one (ps_if (PW.pt (pw_and (pt_cmpR (op_eqD hr.units) (pv 3) (pe_op op_rep (pe_slice sl_list (pv 3) po_none (po_some pe_int)) (pe_callB call_len_seq (by rfl) T.len PySem.boot_len (pa_cons (pv 3) pa_nil))) (nomark _)) (pw_and1 (pt_cmpR op_ge (pe_ix ix_seq (pv 3) pe_int (fun _ _ => rfl)) pe_int (nomark _))))) (pss_cons (ps_setLc (i := 4) (own := [("begin", 6)]) (g := gName 6) rfl nd rfl rfl (sw_true rfl rfl rfl (by decide +kernel)) (pi_range2 (by rfl) T.range (pa_cons pe_int (pa_cons (pe_op op_add (pe_ix ix_seq (pv 0) pe_int (fun _ _ => rfl)) pe_int) pa_nil))) (blkOk_by (N := ["paper", "told", "period", "gains", "begins", "number", "begin"]) (sc := defScope s_lleast) (by decide +kernel)) (fun _ _ _ _ _ => pg_name (i := 6) nd rfl (Or.inl rfl)) (fun _ _ _ _ _ => pts_one (pt_val (pe_call G_isf (hr.mono (by decide)) (by rfl) F_isf.g F_isf.F.kp (b_isf F_isf) .nil pass0 (pa_cons (pv 1) (pa_cons (pv 0) (pa_cons (pv 6) (pa_cons (pv 2) (pa_cons (pe_ix (r := rIx K) ix_seq (pv 3) pe_int (fun _ _ => rfl)) pa_nil)))))))) (fun _ _ _ _ _ => pv 6))
      (pss_one (ps_ret (pe_tup (pa_cons (pe_ix ix_seq (pv 4) pe_int (fun _ _ => rfl)) (pa_cons (pv 2) (pa_cons (pe_ix ix_seq (pv 3) pe_int (fun _ _ => rfl)) (pa_cons (pe_slice sl_list (pv 1) po_none (po_some (pe_op op_add (pe_ix ix_seq (pv 4) pe_int (fun _ _ => rfl)) (pv 2)))) pa_nil)))))))) pss_nil))))
      (pss_one (ps_ret (pv 0))))), ?_⟩
    refine seq1 (asg1 ?_)
    refine lc_any (J := Itr 0 (b + 3 * p + 2).toNat) (n := (b + 3 * p + 2).toNat) (out := fun i => .int (tell b p g ns (i : Nat))) walk_range
      (fun R r => ⟨_, rfl, ix_row hrow (atI_nat (j := 0) rfl) ⟨_, rfl, ix_row hrow (atI_nat (j := 1) rfl) ⟨_, _, rfl, rfl, .inl ⟨by omega, by omega⟩, _, _, rfl, rfl, _, _, rfl, rfl, b + 3 * p + 2, rfl, by omega, by omega, r⟩⟩⟩) (Evl.sz_of (by omega)) (fun _ _ => trivial) (fun i x Hx Hy hi e y => ?_) (fun x H q q' z => g_name_mono z) (fun tq Hd ntq ed htq => ?_)
    · obtain ⟨rfl, rfl⟩ := y
      refine ⟨Ex.refl _, rfl, Ex.refl _, fun q hq => ?_⟩
      refine ⟨_, rfl, _, rfl, .ref a, _, b, p, g, ns, rfl, ⟨a, t, rfl, hrow.ex e, trow.ex e⟩, ok, by omega, by omega, fun H4 e4 => ?_⟩
      have z := hq H4 e4
      rw [Int.zero_add]
      exact z
    have htq : Hd tq = some (.lst ((tells b p g ns (b + 3 * p + 2)).map V.int)) := by
      rw [← below_eq]
      exact htq
    refine ⟨_, rfl, ix_row (hrow.ex ed) (atI_nat (j := 1) rfl) ⟨_, _, rfl, rfl, 1, p + 1, rfl, by omega, ?_⟩⟩
    refine for_range (lo := 1) (n := (p + 1 - 1).toNat) (fun i σ H' => ∃ v2 v3, σ = [some (.ref a), some (.ref tq), v2, v3, none, none, none] ∧ Ex Hd H' ∧ ∀ d', 1 ≤ d' → d' < 1 + ((i : Nat) : Int) → ¬ Fit (tell b p g ns) b p d') ⟨none, none, rfl, Ex.refl _, fun d' h1 h2 => by omega⟩ (fun i σ H' hi q => ?_) (fun σ H' q => ?_)
    · obtain ⟨v2, v3, rfl, e, hL⟩ := q
      have e2 := ed.trans e
      have hd0 : 1 ≤ 1 + (i : Int) := by omega
      have hdp : 1 + (i : Int) ≤ p := by omega
      have hnx : ∀ v2' v3' Hz, Ex Hd Hz → ¬ Fit (tell b p g ns) b p (1 + (i : Int)) → ∃ v2 v3, [some (V.ref a), some (.ref tq), v2', v3', none, none, none] = [some (.ref a), some (.ref tq), v2, v3, none, none, none] ∧ Ex Hd Hz ∧ ∀ d', 1 ≤ d' → d' < 1 + ((i + 1 : Nat) : Int) → ¬ Fit (tell b p g ns) b p d' := fun v2' v3' Hz ez hf => ⟨v2', v3', rfl, ez, fun d' h1 h2 => by
        by_cases q : d' < 1 + (i : Int)
        · exact hL d' h1 q
        · have : d' = 1 + (i : Int) := by omega
          rw [this]
          exact hf⟩
      generalize 1 + (i : Int) = d at hL hd0 hdp hnx
      have prow := hrow.ex e2
      have pa : PapAt H' (.ref a) b p g ns := ⟨a, t, rfl, prow, trow.ex e2⟩
      have tr : Row H' tq ((tells b p g ns (b + 3 * p + 2)).map V.int) := .inl (e _ _ htq)
      refine seq1 (asg1 ?_)
      refine lc_any (J := Itr b (b + p + 1 - b).toNat) (n := (b + p + 1 - b).toNat) (out := fun i => .int (tell b p g ns (b + (i : Nat) + d) - tell b p g ns (b + (i : Nat)))) walk_range
        (fun R r => ⟨_, rfl, ix_row prow (atI_nat (j := 0) rfl) ⟨_, rfl, ix_row prow (atI_nat (j := 0) rfl) ⟨_, rfl, ix_row prow (atI_nat (j := 1) rfl) ⟨_, _, rfl, rfl, _, _, rfl, rfl, b, b + p + 1, rfl, by omega, r⟩⟩⟩⟩) (Evl.sz_of (by omega)) (fun _ _ => trivial) (fun i x Hx Hy hi e y => ?_) (fun x H q q' z => g_name_mono z) (fun gq He ngq ee hgq => ?_)
      · obtain ⟨rfl, rfl⟩ := y
        refine ⟨Ex.refl _, rfl, Ex.refl _, fun q hq => ?_⟩
        have tr2 := tr.ex e
        exact ⟨_, rfl, _, rfl, _, rfl, _, _, rfl, rfl, ix_row tr2 (atI_int (by omega) (tells_get (by omega) (by omega))) ⟨_, rfl, _, rfl, ix_row tr2 (atI_int (by omega) (tells_get (by omega) (by omega))) ⟨_, _, rfl, rfl, hq _ (Ex.refl _)⟩⟩⟩
      have hgq : He gq = some (.lst ((gainsOf b p g ns d).map V.int)) := by
        have en : (b + p + 1 - b).toNat = (p + 1).toNat := by omega
        rw [hgq, en]
        unfold gainsOf
        rw [List.map_map]
        rfl
      have hgl : (gainsOf b p g ns d).length = (p + 1).toNat := by
        unfold gainsOf
        rw [List.length_map, List.length_range]
      obtain ⟨rest, hgc⟩ := gains_cons (b := b) (p := p) (g := g) (ns := ns) (d := d) hp1
      refine ⟨_, rfl, _, rfl, 1, rfl, gq, _, rfl, SqL.of hgq, fun s1 ns1 => ?_⟩
      have es1 := Ex.new (o := .lst (cutV ((gainsOf b p g ns d).map V.int) none (some 1))) ns1
      refine ⟨_, rfl, gq, _, rfl, .inl (SqL.of (es1 _ _ hgq)), s1, _, _, rfl, rfl, upd_same, by omega, ?_, ?_, fun s2 ns2 => ?_⟩
      · rw [List.length_map, hgl]
        omega
      · rw [cut1, List.length_map, List.length_map, List.length_take, hgl]
        refine Evl.sz_of ?_
        have : min 1 (p + 1).toNat = 1 := by omega
        rw [this]
        simp
        omega
      have es2 := Ex.new (o := .lst (List.replicate (((((gainsOf b p g ns d).map V.int).length : Nat) : Int)).toNat (cutV ((gainsOf b p g ns d).map V.int) none (some 1))).flatten) ns2
      have hs2 : upd (upd He s1 (.lst (cutV ((gainsOf b p g ns d).map V.int) none (some 1)))) s2 (.lst (List.replicate (((((gainsOf b p g ns d).map V.int).length : Nat) : Int)).toNat (cutV ((gainsOf b p g ns d).map V.int) none (some 1))).flatten) s2 = some (.lst ((List.replicate (gainsOf b p g ns d).length ((gainsOf b p g ns d).take 1)).flatten.map V.int)) := by
        rw [upd_same, cut1, flat_map, List.length_map, Int.toNat_natCast]
      generalize upd (upd He s1 (.lst (cutV ((gainsOf b p g ns d).map V.int) none (some 1)))) s2 (.lst (List.replicate (((((gainsOf b p g ns d).map V.int).length : Nat) : Int)).toNat (cutV ((gainsOf b p g ns d).map V.int) none (some 1))).flatten) = Hf at es2 hs2
      have eef := (ee.trans es1).trans es2
      have hgf := es2 _ _ (es1 _ _ hgq)
      refine ⟨_, _, .lst (SqL.of hgf) (dp_ints _), .lst (SqL.of hs2) (dp_ints _), shaped_ints _, shaped_ints _, _, rfl, ?_⟩
      rw [eqv_ints]
      by_cases c1 : gainsOf b p g ns d = (List.replicate (gainsOf b p g ns d).length ((gainsOf b p g ns d).take 1)).flatten
      · refine ite_tt (decide_eq_true c1) ?_
        have grow : Row Hf gq ((gainsOf b p g ns d).map V.int) := .inl hgf
        have g0 : atI ((gainsOf b p g ns d).map V.int) 0 = some (.int (tell b p g ns (b + d) - tell b p g ns b)) := by
          rw [hgc]
          exact atI_nat (j := 0) rfl
        refine ⟨_, rfl, ix_row grow g0 ⟨_, _, rfl, rfl, _, rfl, ?_⟩⟩
        have c1' : ∀ y ∈ gainsOf b p g ns d, y = tell b p g ns (b + d) - tell b p g ns b := by
          rw [hgc] at c1 ⊢
          exact rep_eq.mp c1
        by_cases c2 : tell b p g ns (b + d) - tell b p g ns b ≥ 0
        · refine ite_tt (decide_eq_true c2) ?_
          have hf := (gains_fit (d := d) hp1).mp ⟨c1', c2⟩
          obtain ⟨c, hA⟩ := fit_ag (tell_ag hp1) hp1 hd0 hf
          have ec : tell b p g ns (b + d) - tell b p g ns b = c := by
            have := hA b (Int.le_refl _)
            omega
          rw [ec] at g0 c2
          have dl := (least_fit (tell_ag hp1) (by omega) hp1 hg0 hd0 hf hL).1
          have cg : c ≤ g := by
            have z := (tell_ag (b := b) (p := p) (g := g) (ns := ns) hp1).cross hp1 hd0 hA
            have z2 : d * g ≤ p * g := Int.mul_le_mul_of_nonneg_right hdp hg0
            rw [← z] at z2
            exact Int.le_of_mul_le_mul_left z2 (by omega)
          have prow3 := prow.ex eef
          have pa3 := pa.ex eef
          have htf := eef _ _ (e _ _ htq)
          refine seq1 (asg1 ?_)
          refine ⟨_, rfl, ix_row prow3 (atI_nat (j := 0) rfl) ⟨_, _, rfl, rfl, 1, b + 1, rfl, by omega, fun Dd hD => ?_⟩⟩
          refine lc_it (walk_range (lo := 1) (n := (b + 1 - 1).toNat)) (Pv := fun i H' => ∃ l : List Int, Ex Hf H' ∧ H' Dd = some (.lst (l.map V.int)) ∧ l.length ≤ i ∧ ((l = [] ∧ ∀ B', 1 ≤ B' → B' < 1 + ((i : Nat) : Int) → ¬ Ag (tell b p g ns) d c B') ∨ ∃ B r, l = B :: r ∧ 1 ≤ B ∧ B ≤ b ∧ Ag (tell b p g ns) d c B ∧ ∀ B', 1 ≤ B' → B' < B → ¬ Ag (tell b p g ns) d c B'))
            ⟨[], Ex.new hD, upd_same, Nat.le_refl _, .inl ⟨rfl, fun B' h1 h2 => by omega⟩⟩ (fun _ _ _ _ => trivial) ?_ ?_
          · rintro j x Ha Hb hj ⟨l, e4, hl, hlen, hl2⟩ ⟨rfl, rfl⟩
            refine ⟨rfl, ?_⟩
            have grow4 := grow.ex e4
            refine ⟨_, rfl, _, rfl, _, rfl, _, rfl, _, rfl, ix_row grow4 g0 ⟨tq, .ref a, b, p, g, ns, _, 1 + (j : Int), d, c, rfl, e4 _ _ htf, pa3.ex e4, ok, by omega, by omega, hd0, hdp, rfl, fun H5 e5 => ⟨_, rfl, ?_⟩⟩⟩
            by_cases c3 : isF b p g ns (1 + (j : Int)) d c = true
            · refine ite_tt c3 ?_
              have hA3 := (isF_ag hp1 hA).mp c3
              refine ⟨_, rfl, _, e5 _ _ hl, by rw [List.length_map]; exact Evl.sz_lt (by omega), l ++ [1 + (j : Int)], (e4.trans e5).mut hD, by rw [upd_same, List.map_append]; rfl, by rw [List.length_append]; show l.length + 1 ≤ j + 1; omega, .inr ?_⟩
              rcases hl2 with ⟨rfl, hn⟩ | ⟨B, r, rfl, h1, h2, h3, h4⟩
              · exact ⟨_, [], rfl, by omega, by omega, hA3, fun B' q1 q2 => hn B' q1 q2⟩
              · exact ⟨B, r ++ [1 + (j : Int)], rfl, h1, h2, h3, h4⟩
            · refine ite_ff (by simpa using c3) ?_
              refine ⟨l, e4.trans e5, e5 _ _ hl, by omega, ?_⟩
              rcases hl2 with ⟨rfl, hn⟩ | h
              · refine .inl ⟨rfl, fun B' q1 q2 => ?_⟩
                by_cases q : B' < 1 + (j : Int)
                · exact hn B' q1 q
                · have : B' = 1 + (j : Int) := by omega
                  rw [this]
                  exact fun z => c3 ((isF_ag hp1 hA).mpr z)
              · exact .inr h
          · rintro Hg ⟨l, e4, hl, hlen, hl2⟩
            obtain ⟨B, r, rfl, B1, B2, B3, B4⟩ : ∃ B r, l = B :: r ∧ 1 ≤ B ∧ B ≤ b ∧ Ag (tell b p g ns) d c B ∧ ∀ B', 1 ≤ B' → B' < B → ¬ Ag (tell b p g ns) d c B' := by
              rcases hl2 with ⟨_, hn⟩ | h
              · exact absurd hA (hn b hb1 (by omega))
              · exact h
            have brow : Row Hg Dd (V.int B :: r.map V.int) := .inl hl
            have grow4 := grow.ex e4
            have ht4 := e4 _ _ htf
            refine ⟨_, rfl, ix_row brow (atI_nat (j := 0) rfl) ⟨_, rfl, _, rfl, ix_row grow4 g0 ⟨_, rfl, ?_⟩⟩⟩
            refine ⟨_, rfl, ix_row brow (atI_nat (j := 0) rfl) ⟨_, rfl, _, _, rfl, rfl, B + d, rfl, tq, _, rfl, SqL.of ht4, fun y ny => ⟨by show 4 ≤ sizeLine; decide, fun z nz => ?_⟩⟩⟩
            rw [cut_tells (by omega) (by omega)] at nz ⊢
            have ey := Ex.new (o := .lst ((tells b p g ns (B + d)).map V.int)) ny
            have ez := Ex.new (o := .tup [.int B, .int d, .int c, .ref y]) nz
            have etot := ((e2.trans eef).trans e4)
            refine k z _ B d c ⟨(etot.trans ey).trans ez, Evl.fresh_back (etot.trans ey) nz, y, Evl.fresh_back etot ny, upd_same, ?_⟩ ⟨B1, hd0, B3, dl, fun B' q1 q2 => Int.not_lt.mp fun z => B4 B' q1 z q2⟩ B2 hdp c2 cg
            rw [below_eq]
            exact ez _ _ upd_same
        · refine ite_ff (decide_eq_false c2) ?_
          exact hnx _ _ _ ((e.trans ee).trans (es1.trans es2)) fun hf => c2 ((gains_fit hp1).mpr hf).2
      · refine ite_ff (decide_eq_false c1) ?_
        refine hnx _ _ _ ((e.trans ee).trans (es1.trans es2)) fun hf => c1 ?_
        have z := ((gains_fit hp1).mpr hf).1
        rw [hgc] at z ⊢
        exact rep_eq.mpr z
    · obtain ⟨v2, v3, rfl, e, hL⟩ := q
      exact absurd (own_fit hp1 hg0) (hL p hp1 (by omega))
end
end Ts


set_option Elab.async false
set_option linter.all false
set_option maxRecDepth 100000
set_option maxHeartbeats 4000000
namespace Ts
open PySem PySem.Spec L2
open Evl (Ex)
/-- a paper that tells what f tells -/
def Lk (R : Hp) (f : Int → Int) (x : V) : Prop := ∃ b p g ns, D R x (papD b p g ns) ∧ PS b p g ns ∧ ns.length ≤ 60 ∧ g ≤ 10 ∧ (∀ z ∈ ns, z ≤ 60) ∧ ∀ n, 0 ≤ n → tell b p g ns n = f n
/-- a paper of small numbers -/
def Pp (R : Hp) (x : V) : Prop := ∃ b p g ns, D R x (papD b p g ns) ∧ PS b p g ns ∧ ns.length ≤ 90
theorem Lk.pp {R : Hp} {f : Int → Int} {x : V} (h : Lk R f x) : Pp R x := by
  obtain ⟨b, p, g, ns, h1, h2, h3, _⟩ := h
  exact ⟨b, p, g, ns, h1, h2, by omega⟩
theorem Lk.ex {R R' : Hp} {f : Int → Int} {x : V} (e : Ex R R') (h : Lk R f x) : Lk R' f x := by
  obtain ⟨b, p, g, ns, h1, h2⟩ := h
  exact ⟨b, p, g, ns, h1.ex e, h2⟩
theorem Pp.ex {R R' : Hp} {x : V} (e : Ex R R') (h : Pp R x) : Pp R' x := by
  obtain ⟨b, p, g, ns, h1, h2⟩ := h
  exact ⟨b, p, g, ns, h1.ex e, h2⟩
/-- how much a drawn paper tells at most -/
theorem tell_le {far b p g : Int} {ns : List Int} (h : PGood far 2 b p g ns) {n : Int} (hn : 0 ≤ n) : 0 ≤ tell b p g ns n ∧ tell b p g ns n ≤ 10 + n := by
  have b1 := h.b1
  have p1 := h.p1
  have g1 := h.g1
  have g2 := h.g2
  have gd : ∀ i : Nat, 0 ≤ ns.getD i 0 ∧ ns.getD i 0 ≤ 10 := fun i => by
    by_cases q : i < ns.length
    · rw [List.getD_eq_getElem?_getD, List.getElem?_eq_getElem q]
      exact h.nn _ (List.getElem_mem q)
    · rw [List.getD_eq_getElem?_getD, List.getElem?_eq_none (by omega)]
      exact ⟨by decide, by decide⟩
  unfold tell
  by_cases c : n < b
  · rw [if_pos c]
    have := gd n.toNat
    omega
  · rw [if_neg c]
    have z := gd (b + (n - b) % p).toNat
    have q0 : 0 ≤ (n - b) / p := Int.ediv_nonneg (by omega) (by omega)
    have q1 : (n - b) / p ≤ n - b := Int.ediv_le_self _ (by omega)
    have m0 : 0 ≤ (n - b) / p * g := Int.mul_nonneg q0 g1
    have m1 : (n - b) / p * g ≤ (n - b) / p * 1 := Int.mul_le_mul_of_nonneg_left (by omega) q0
    omega
theorem tells_mem {b p g m z : Int} {ns : List Int} (h : z ∈ tells b p g ns m) : ∃ n : Int, 0 ≤ n ∧ n < m ∧ z = tell b p g ns n := by
  unfold tells at h
  obtain ⟨i, hi, rfl⟩ := List.mem_map.mp h
  have := List.mem_range.mp hi
  exact ⟨i, by omega, by omega, rfl⟩
theorem tells_head {b p g m : Int} {ns : List Int} (hm : 1 ≤ m) (hb : 1 ≤ b) (hd : ns.head? = some 0) : (tells b p g ns m).head? = some 0 := by
  have e : m.toNat = (m.toNat - 1) + 1 := by omega
  unfold tells
  rw [e, List.range_succ_eq_map, List.map_cons, List.head?_cons]
  have : tell b p g ns ((0 : Nat) : Int) = 0 := by
    unfold tell
    rw [if_pos (by show (0 : Int) < b; omega)]
    cases ns with
    | nil => cases hd
    | cons x r =>
      obtain rfl : x = 0 := Option.some.inj hd
      rfl
  rw [this]
/-- what is told of a drawn paper, as a paper -/
theorem ps_tells {far b p g B d c : Int} {ns : List Int} (h : PGood far 2 b p g ns) (hB : 1 ≤ B) (hB2 : B ≤ 15) (hd : 1 ≤ d) (hd2 : d ≤ 30) (hc : 0 ≤ c) (hc2 : c ≤ 10) :
    PS B d c (tells b p g ns (B + d)) ∧ (tells b p g ns (B + d)).length ≤ 60 ∧ ∀ z ∈ tells b p g ns (B + d), z ≤ 60 := by
  have le : ∀ z ∈ tells b p g ns (B + d), 0 ≤ z ∧ z ≤ 60 := fun z hz => by
    obtain ⟨n, n0, n1, rfl⟩ := tells_mem hz
    have := tell_le h n0
    omega
  refine ⟨⟨hB, by omega, hd, by omega, hc, by omega, by rw [tells_len]; omega, fun z hz => ?_, tells_head (by omega) h.b1 h.hd⟩, by rw [tells_len]; omega, fun z hz => (le z hz).2⟩
  have := le z hz
  omega
theorem below_ext {b p g b' p' g' m : Int} {ns ns' : List Int} (h : ∀ n, 0 ≤ n → tell b p g ns n = tell b' p' g' ns' n) : below b p g ns m = below b' p' g' ns' m := by
  unfold below
  refine List.map_congr_left fun i _ => ?_
  rw [h _ (Int.natCast_nonneg i)]
theorem lk_led {R : Hp} {z : V} {far b p g j m : Int} {ns : List Int} (h : PGood far 2 b p g ns) (hf : far ≤ 7) (j0 : 0 ≤ j) (j1 : j < 6) (m1 : 1 ≤ m) (m2 : m ≤ 4) (hd : D R z (papD (b + j) (m * p) (m * g) (tells b p g ns (b + j + m * p)))) : Lk R (tell b p g ns) z := by
  have b1 := h.b1
  have b2 := h.b2
  have p1 := h.p1
  have p2 := h.p2
  have g1 := h.g1
  have g2 := h.g2
  have mp : m * p ≤ 4 * 7 := Int.mul_le_mul m2 (by omega) (by omega) (by decide)
  have mp0 : 0 < m * p := Int.mul_pos (by omega) (by omega)
  have mg : m * g ≤ 4 * 1 := Int.mul_le_mul m2 (by omega) g1 (by decide)
  have mg0 : 0 ≤ m * g := Int.mul_nonneg (by omega) g1
  obtain ⟨q1, q2, q3⟩ := ps_tells (B := b + j) (d := m * p) (c := m * g) h (by omega) (by omega) (by omega) (by omega) mg0 (by omega)
  refine ⟨_, _, _, _, hd, q1, q2, by omega, q3, led_tell (by omega) (by omega) fun n hn => ?_⟩
  have z := (tell_ag (b := b) (g := g) (ns := ns) p1).mul (by omega) m.toNat n (by omega)
  rw [Int.toNat_of_nonneg (by omega)] at z
  exact z
/-- one value is one more -/
theorem PS.bump {b p g : Int} {ns : List Int} {at' : Nat} (h : PS b p g ns) (hl : ∀ z ∈ ns, z ≤ 60) (h1 : 1 ≤ at') (h2 : at' < ns.length) : PS b p g (ns.take at' ++ [ns.getD at' 0 + 1] ++ ns.drop (at' + 1)) := by
  obtain ⟨b1, b2, p1, p2, g1, g2, len, nn, hd⟩ := h
  refine ⟨b1, b2, p1, p2, g1, g2, ?_, fun z hz => ?_, ?_⟩
  · rw [List.length_append, List.length_append, List.length_take, List.length_drop, ← len]
    show ((min at' ns.length + 1 + (ns.length - (at' + 1)) : Nat) : Int) = _
    omega
  · rcases List.mem_append.mp hz with hz | hz
    · rcases List.mem_append.mp hz with hz | hz
      · exact nn z (List.mem_of_mem_take hz)
      · rw [List.mem_singleton] at hz
        rw [List.getD_eq_getElem?_getD, List.getElem?_eq_getElem h2] at hz
        have m := List.getElem_mem h2
        have q1 := hl _ m
        have q2 := nn _ m
        have hz : z = ns[at'] + 1 := hz
        omega
    · exact nn z (List.mem_of_mem_drop hz)
  · cases ns with
    | nil => cases hd
    | cons x r =>
      obtain ⟨k, rfl⟩ : ∃ k, at' = k + 1 := ⟨at' - 1, by omega⟩
      rw [List.take_succ_cons]
      exact hd
theorem PS.more {b p g : Int} {ns : List Int} (h : PS b p g ns) (hg : g ≤ 10) : PS b p (g + 1) ns := by
  obtain ⟨b1, b2, p1, p2, g1, g2, len, nn, hd⟩ := h
  exact ⟨b1, b2, p1, p2, by omega, by omega, len, nn, hd⟩
theorem cut_to {l : List Int} {k : Int} (h0 : 0 ≤ k) (h : k ≤ l.length) : cutV (l.map V.int) none (some k) = (l.take k.toNat).map V.int := by
  unfold cutV
  rw [HT.sIx_none]
  have e : HT.sIx (l.map V.int).length (l.map V.int).length (some k) = k.toNat := by
    have := HT.sIx_nat (l.map V.int).length (l.map V.int).length k.toNat
    rw [Int.toNat_of_nonneg h0] at this
    rw [this, List.length_map, Nat.min_eq_left (by omega)]
  rw [e, List.drop_zero, Nat.sub_zero, List.map_take]
theorem cut_from {l : List Int} {k : Int} (h0 : 0 ≤ k) (h : k ≤ l.length) : cutV (l.map V.int) (some k) none = (l.drop k.toNat).map V.int := by
  unfold cutV
  rw [HT.sIx_none]
  have e : HT.sIx (l.map V.int).length 0 (some k) = k.toNat := by
    have := HT.sIx_nat (l.map V.int).length 0 k.toNat
    rw [Int.toNat_of_nonneg h0] at this
    rw [this, List.length_map, Nat.min_eq_left (by omega)]
  rw [e, List.map_drop, List.take_of_length_le (by rw [List.length_drop]; exact Nat.le_refl _)]
theorem dall_inv {H : Hp} : ∀ {ns : List Int} {vs : List V}, DAll H vs (ns.map PyData.int) → vs = ns.map V.int
  | [], _, h => by
    cases h
    rfl
  | n :: r, _, h => by
    rw [List.map_cons] at h
    cases h with
    | cons h1 h2 =>
      cases h1
      rw [dall_inv h2]
      rfl
/-- where a drawn paper stands -/
theorem papD_at {H : Hp} {x : V} {b p g : Int} {ns : List Int} (h : D H x (papD b p g ns)) : ∃ q t, x = .ref q ∧ H q = some (.tup [.int b, .int p, .int g, .ref t]) ∧ H t = some (.lst (ns.map V.int)) := by
  unfold papD at h
  cases h with
  | tup h0 h1 =>
    cases h1 with
    | cons a1 h1 =>
      cases h1 with
      | cons a2 h1 =>
        cases h1 with
        | cons a3 h1 =>
          cases h1 with
          | cons a4 h1 =>
            cases h1
            cases a1
            cases a2
            cases a3
            cases a4 with
            | lst y0 y1 =>
              rw [dall_inv y1] at y0
              exact ⟨_, _, rfl, h0, y0⟩
/-- what papers_part tells, as data -/
theorem Part.data {f f' : Int → Int} {r : V} (h : Part f f' r) : ∃ d : PyData, (∀ R : Hp, D R r d) ∧ okD 4 d = true := by
  rcases h with ⟨n, _, rfl, _⟩ | ⟨rfl, _⟩
  · exact ⟨.int n, fun R => .int n, rfl⟩
  · exact ⟨.none, fun R => .non, rfl⟩
theorem okl_pap {b p g : Int} {ns : List Int} (hns : ns.length ≤ 90) : okL 2 (papD b p g ns) = true := by
  refine Bool.and_eq_true_iff.mpr ⟨decide_eq_true (by show 4 ≤ 90; decide), ?_⟩
  show (okL 1 (.int b) && (okL 1 (.int p) && (okL 1 (.int g) && (okL 1 (.list (ns.map .int)) && true)))) = true
  have e : okL 1 (.list (ns.map .int)) = true := by
    refine Bool.and_eq_true_iff.mpr ⟨decide_eq_true ?_, ?_⟩
    · rw [List.length_map]
      exact hns
    · rw [List.all_map, List.all_eq_true]
      intro z hz
      rfl
  rw [e]
  rfl
theorem okd_pap {k : Nat} {b p g : Int} {ns : List Int} (hns : ns.length ≤ 90000) : okD (k + 2) (papD b p g ns) = true := by
  refine Bool.and_eq_true_iff.mpr ⟨decide_eq_true (by show 4 ≤ 90000; decide), ?_⟩
  show (okD (k + 1) _ && (okD (k + 1) _ && (okD (k + 1) _ && (okD (k + 1) _ && true)))) = true
  rw [okD_ints k hns]
  rfl
end Ts


set_option Elab.async false
set_option linter.all false
set_option maxRecDepth 100000
set_option maxHeartbeats 8000000
namespace Ts
open PySem PySem.Spec L2
open Evl (Ex)
section
variable {P : Program} {w : World} {K : PySem.W.Frag} {mg : Str → Option Value} {base : Heap}
abbrev s_right := top 37
theorem sc_right : FnScope ["stream", "paper", "due", "led", "one", "passed", "was", "again", "found", "others", "begin", "period", "gain", "values", "at", "other", "k"] ["stream", "paper"] (defScope s_right) := ⟨rfl, rfl, rfl, by decide +kernel, rfl, by decide +kernel, by decide +kernel⟩
def spRight : Sp := fun vs H Q _ => ∃ a c n v b p g ns, vs = [.ref a, v] ∧ Strm H a c n ∧ D (off a c H) v (papD b p g ns) ∧ PGood 7 2 b p g ns ∧ n < 2 ^ 38 ∧ ∀ H' n', Ex (off a c H) (off a c H') → Strm H' a c n' → n ≤ n' → n' ≤ n + 3000 → Q (.bl true) H'
theorem ok_right {f f1 f2 f3 f4 f5 f6 f7 f8 f9 f10 CP : Addr} {fd fd1 fd2 fd3 fd4 fd5 fd6 fd7 fd8 fd9 fd10 : FuncData} (F : FD K mg "_law_right" "_law_right" s_right f fd)
    (F_lleast : FD K mg "_law_least" "_law_least" s_lleast f1 fd1) (G_lleast : FnOk P w K mg base CX0 2 f1 fd1 ["paper"] spLawLeast)
    (F_lled : FD K mg "_law_led" "_law_led" s_led f2 fd2) (G_lled : FnOk P w K mg base CX0 2 f2 fd2 ["stream", "paper"] spLawLed)
    (F_loose : FD K mg "_law_loose" "_law_loose" s_loose f3 fd3) (G_loose : FnOk P w K mg base CX0 4 f3 fd3 ["stream", "thing"] (spLoose 3))
    (F_least : FD K mg "least_paper" "least_paper" s_least f4 fd4) (G_least : FnOk P w K mg base (L2.CX P w) 7 f4 fd4 ["paper"] (spLeast CP))
    (F_same : FD K mg "_law_same" "_law_same" s_same f5 fd5) (G_same : FnOk P w K mg base CX0 6 f5 fd5 ["found", "due"] (spSame 6))
    (F_cp : FD K mg "_law_c_paper" "_law_c_paper" s_c_paper f6 fd6) (G_cp : FnOk P w K mg base CX0 2 f6 fd6 ["stream", "far", "gains"] spCPaper)
    (F_pick : FD K mg "_law_pick" "_law_pick" s_pick f7 fd7) (G_pick : FnOk P w K mg base CX0 2 f7 fd7 ["stream", "some"] spPick)
    (F_draw : FD K mg "_law_draw" "_law_draw" s_draw f8 fd8) (G_draw : FnOk P w K mg base CX0 1 f8 fd8 ["stream", "many"] spDraw)
    (F_part : FD K mg "papers_part" "papers_part" s_part f9 fd9) (G_part : FnOk P w K mg base (L2.CX P w) 7 f9 fd9 ["paper", "other"] (spPart CP))
    (F_lpart : FD K mg "_law_part" "_law_part" s_lpart f10 fd10) (G_lpart : FnOk P w K mg base CX0 2 f10 fd10 ["one", "two"] spLpart) (T : Bl mg) :
    GOk P w K mg base CX0 8 f fd ["stream", "paper"] spRight := by
  have b_lleast : Binds K fd1 ["paper"] [] := F_lleast.F.binds fun _ _ _ _ _ _ us hl => match us, hl with | [_], _ => rfl
  have b_lled : Binds K fd2 ["stream", "paper"] [] := F_lled.F.binds fun _ _ _ _ _ _ us hl => match us, hl with | [_, _], _ => rfl
  have b_loose : Binds K fd3 ["stream", "thing"] [] := F_loose.F.binds fun _ _ _ _ _ _ us hl => match us, hl with | [_, _], _ => rfl
  have b_least : Binds K fd4 ["paper"] [] := F_least.F.binds fun _ _ _ _ _ _ us hl => match us, hl with | [_], _ => rfl
  have b_same : Binds K fd5 ["found", "due"] [] := F_same.F.binds fun _ _ _ _ _ _ us hl => match us, hl with | [_, _], _ => rfl
  have b_cp : Binds K fd6 ["stream", "far", "gains"] [] := F_cp.F.binds fun _ _ _ _ _ _ us hl => match us, hl with | [_, _, _], _ => rfl
  have b_pick : Binds K fd7 ["stream", "some"] [] := F_pick.F.binds fun _ _ _ _ _ _ us hl => match us, hl with | [_, _], _ => rfl
  have b_draw : Binds K fd8 ["stream", "many"] [] := b_draw F_draw
  have b_part : Binds K fd9 ["paper", "other"] [] := F_part.F.binds fun _ _ _ _ _ _ us hl => match us, hl with | [_, _], _ => rfl
  have b_lpart : Binds K fd10 ["one", "two"] [] := F_lpart.F.binds fun _ _ _ _ _ _ us hl => match us, hl with | [_, _], _ => rfl
  refine okG F.F sc_right (fun vs H Q E h => ?_) (fun cdv A outer s H vs Q E hA hr h => ?_)
  · obtain ⟨a, c, n, v, b, p, g, ns, rfl, _⟩ := h
    rfl
  · obtain ⟨a, c, n, v, b, p, g, ns, rfl, S, hd, pg, hn, kq⟩ := h
    have nd := sc_right.nd
    have hu := hr.units
    refine ⟨_, (pss_cons (ps_par (i := 2) (j := 3) (by rfl) nd rfl rfl (by decide) rfl rfl (pa_cons (pe_call G_lleast (hr.mono (by decide)) (by rfl) F_lleast.g F_lleast.F.kp b_lleast .nil pass0 (pa_cons (pv 1) pa_nil)) (pa_cons (pe_op op_cat (pe_lst (pa_cons (pv 1) pa_nil)) (pe_lc (own := [("k", 16)]) (g := gName 16) (tt := tYes) rfl nd (pi_range1 (by rfl) T.range (pa_cons pe_int pa_nil)) (blkOk_by (N := ["stream", "paper", "due", "led", "one", "passed", "was", "again", "found", "others", "begin", "period", "gain", "values", "at", "other", "k"]) (sc := defScope s_right) (by decide +kernel)) (fun _ _ _ _ _ => pg_name (i := 16) nd rfl (Or.inl rfl)) (fun _ _ _ _ _ => pts_nil) (fun _ _ _ _ _ => (pe_call G_lled (hr.mono (by decide)) (by rfl) F_lled.g F_lled.F.kp b_lled .nil pass0 (pa_cons (pv 0) (pa_cons (pv 1) pa_nil)))))) pa_nil)) (by rfl))
      (pss_cons (ps_for PassesOwn.never rfl (pi_list (pv 3)) (pg_name (i := 4) nd rfl (Or.inl rfl)) (pss_cons (ps_set (i := 5) nd rfl (Or.inl rfl) (pe_call G_loose (hr.mono (by decide)) (by rfl) F_loose.g F_loose.F.kp b_loose .nil pass0 (pa_cons (pv 0) (pa_cons (pv 4) pa_nil))))
      (pss_cons (ps_set (i := 6) nd rfl (Or.inl rfl) (pe_callB (call_show hA hu) (by rfl) T.repr (by decide +kernel) (pa_cons (pv 5) pa_nil)))
      (pss_one (ps_for PassesOwn.never rfl (pi_range1 (by rfl) T.range (pa_cons pe_int pa_nil)) (pg_name (i := 7) nd rfl (Or.inl rfl)) (pss_cons (ps_set (i := 8) nd rfl (Or.inl rfl) (pe_call G_least (hr.mono (by decide)) (by rfl) F_least.g F_least.F.kp b_least .nil (passF rfl rfl) (pa_cons (pv 5) pa_nil)))
      (pss_cons (ps_if (PW.pt (pw_or (pt_not (pt_val (pe_call G_same (hr.mono (by decide)) (by rfl) F_same.g F_same.F.kp b_same .nil pass0 (pa_cons (pv 8) (pa_cons (pv 2) pa_nil))))) (pw_or1 (pt_cmpR op_ne (pe_callB (call_show hA hu) (by rfl) T.repr (by decide +kernel) (pa_cons (pv 5) pa_nil)) (pv 6) (nomark _))))) (pss_one (ps_ret pe_bl)) pss_nil)
      (pss_one (ps_expr (pe_bm PySem.F.plainAttrs_list PySem.F.slot_list_append PySem.F.type_list_append mt_append (pe_ix ix_seq (pv 8) pe_int (fun _ _ => rfl)) (pa_cons pe_str pa_nil)))))))))))
      (pss_cons (ps_set (i := 9) nd rfl (Or.inl rfl) (pe_op op_cat (pv 3) (pe_lst (pa_cons (pe_call G_cp (hr.mono (by decide)) (by rfl) F_cp.g F_cp.F.kp b_cp .nil pass0 (pa_cons (pv 0) (pa_cons pe_int (pa_cons pe_int pa_nil)))) (pa_cons (pv 2) pa_nil)))))
      (pss_cons (ps_asg (pe_call G_pick (hr.mono (by decide)) (by rfl) F_pick.g F_pick.F.kp b_pick .nil pass0 (pa_cons (pv 0) (pa_cons (pv 3) pa_nil))) (pg_or (pg_tup rfl (pgs_cons (pg_name (i := 10) nd rfl (Or.inl rfl)) (pgs_cons (pg_name (i := 11) nd rfl (Or.inl rfl)) (pgs_cons (pg_name (i := 12) nd rfl (Or.inl rfl)) (pgs_cons (pg_name (i := 13) nd rfl (Or.inl rfl)) pgs_nil))))) (pg_unl rfl (pgs_cons (pg_name (i := 10) nd rfl (Or.inl rfl)) (pgs_cons (pg_name (i := 11) nd rfl (Or.inl rfl)) (pgs_cons (pg_name (i := 12) nd rfl (Or.inl rfl)) (pgs_cons (pg_name (i := 13) nd rfl (Or.inl rfl)) pgs_nil)))))))
      (pss_cons (ps_set (i := 14) nd rfl (Or.inl rfl) (pe_op op_add pe_int (pe_call G_draw (hr.mono (by decide)) (by rfl) F_draw.g F_draw.F.kp b_draw .nil pass0 (pa_cons (pv 0) (pa_cons (pe_op op_sub (pe_op op_add (pv 10) (pv 11)) pe_int) pa_nil)))))
      (pss_cons (ps_expr (pe_bm PySem.F.plainAttrs_list PySem.F.slot_list_append PySem.F.type_list_append mt_append (pv 9) (pa_cons (pe_tup (pa_cons (pv 10) (pa_cons (pv 11) (pa_cons (pv 12) (pa_cons (pe_op op_cat (pe_op op_cat (pe_slice sl_list (pv 13) po_none (po_some (pv 14))) (pe_lst (pa_cons (pe_op op_add (pe_ix ix_seq (pv 13) (pv 14) (fun _ _ => rfl)) pe_int) pa_nil))) (pe_slice sl_list (pv 13) (po_some (pe_op op_add (pv 14) pe_int)) po_none)) pa_nil))))) pa_nil)))
      (pss_cons (ps_expr (pe_bm PySem.F.plainAttrs_list PySem.F.slot_list_append PySem.F.type_list_append mt_append (pv 9) (pa_cons (pe_tup (pa_cons (pv 10) (pa_cons (pv 11) (pa_cons (pe_op op_add (pv 12) pe_int) (pa_cons (pv 13) pa_nil))))) pa_nil)))
      (pss_cons (ps_for PassesOwn.never rfl (pi_list (pv 9)) (pg_name (i := 15) nd rfl (Or.inl rfl)) (pss_cons (ps_set (i := 4) nd rfl (Or.inl rfl) (pe_call G_pick (hr.mono (by decide)) (by rfl) F_pick.g F_pick.F.kp b_pick .nil pass0 (pa_cons (pv 0) (pa_cons (pv 3) pa_nil))))
      (pss_cons (ps_set (i := 5) nd rfl (Or.inl rfl) (pe_lst (pa_cons (pe_call G_loose (hr.mono (by decide)) (by rfl) F_loose.g F_loose.F.kp b_loose .nil pass0 (pa_cons (pv 0) (pa_cons (pv 4) pa_nil))) (pa_cons (pe_call G_loose (hr.mono (by decide)) (by rfl) F_loose.g F_loose.F.kp b_loose .nil pass0 (pa_cons (pv 0) (pa_cons (pv 15) pa_nil))) pa_nil))))
      (pss_cons (ps_set (i := 8) nd rfl (Or.inl rfl) (pe_lst (pa_cons (pe_call G_part (hr.mono (by decide)) (by rfl) F_part.g F_part.F.kp b_part .nil (passF rfl rfl) (pa_cons (pe_ix ix_seq (pv 5) pe_int (fun _ _ => rfl)) (pa_cons (pe_ix ix_seq (pv 5) pe_int (fun _ _ => rfl)) pa_nil))) (pa_cons (pe_call G_part (hr.mono (by decide)) (by rfl) F_part.g F_part.F.kp b_part .nil (passF rfl rfl) (pa_cons (pe_ix ix_seq (pv 5) pe_int (fun _ _ => rfl)) (pa_cons (pe_ix ix_seq (pv 5) pe_int (fun _ _ => rfl)) pa_nil))) pa_nil))))
      (pss_one (ps_if (pt_not (pt_val (pe_call G_same (hr.mono (by decide)) (by rfl) F_same.g F_same.F.kp b_same .nil pass0 (pa_cons (pv 8) (pa_cons (pe_op op_rep (pe_lst (pa_cons (pe_call G_lpart (hr.mono (by decide)) (by rfl) F_lpart.g F_lpart.F.kp b_lpart .nil pass0 (pa_cons (pv 4) (pa_cons (pv 15) pa_nil))) pa_nil)) pe_int) pa_nil))))) (pss_one (ps_ret pe_bl)) pss_nil))))))
      (pss_one (ps_ret pe_bl)))))))))), ?_⟩
    have ps := pg.ps (by decide) (by decide)
    have b1 := pg.b1
    have b2 := pg.b2
    have p1 := pg.p1
    have p2 := pg.p2
    have g1 := pg.g1
    have g2 := pg.g2
    have pv0 : PapAt H v b p g ns := (papK_at (k1 := false) (k2 := true) hd).ex off_ex
    -- due
    refine ⟨_, rfl, v, b, p, g, ns, rfl, pv0, ps.ok, fun dq H1 B d c0 lsd lst hB hdp hc0 hcg => ?_⟩
    obtain ⟨e1, ndq, dy, ndy, hdq, hdy⟩ := lsd
    obtain ⟨psd, lend, ledd⟩ := ps_tells (B := B) (d := d) (c := c0) pg lst.b1 (by omega) lst.d1 (by omega) hc0 (by omega)
    have S1 := S.ex e1
    have dq_ne := S.nea ndq
    have dy_ne := S.nea ndy
    have hdue : D (off a c H1) (.ref dq) (papD B d c0 (tells b p g ns (B + d))) := .tup ((off_ne dq_ne.1 dq_ne.2).trans hdq) (.cons (.int _) (.cons (.int _) (.cons (.int _) (.cons (d_ints ((off_ne dy_ne.1 dy_ne.2).trans (by rw [← below_eq]; exact hdy))) .nil))))
    have hd1 := hd.ex (Ex.offs (a := a) (c := c) e1)
    -- [paper] + led ones
    refine ⟨_, rfl, by show 1 ≤ sizeLine; decide, fun l0 nl0 => ?_⟩
    have e2 := Ex.new (o := .lst [v]) nl0
    have hl0 : upd H1 l0 (.lst [v]) l0 = some (.lst [v]) := upd_same
    generalize upd H1 l0 (.lst [v]) = H2 at e2 hl0
    have S2 := S1.ex e2
    have hd2 := hd1.ex (Ex.offs (a := a) (c := c) e2)
    have hdue2 := hdue.ex (Ex.offs (a := a) (c := c) e2)
    have lkv : Lk (off a c H2) (tell b p g ns) v := ⟨b, p, g, ns, hd2, ps, by have := pg.len; omega, by omega, fun z hz => by have := (pg.nn z hz).2; omega, fun _ _ => rfl⟩
    refine ⟨3, rfl, by decide, by decide, fun Dd hD => ?_⟩
    have Dn := S2.nea hD
    refine lc_it (walk_range (lo := 0) (n := 3)) (Pv := fun i H' => ∃ (l : List V) (G : Hp) (n' : Int), l.length = i ∧ H' Dd = some (.lst l) ∧ Strm H' a c n' ∧ n ≤ n' ∧ n' ≤ n + 2 * (i : Nat) ∧ Ex (off a c H2) G ∧ Ex G (off a c H') ∧ G Dd = none ∧ ∀ x ∈ l, Lk G (tell b p g ns) x)
      ⟨[], off a c H2, n, rfl, upd_same, S2.ex (Ex.new hD), Int.le_refl _, by simp, Ex.refl _, Ex.offs (Ex.new hD), off_none hD, fun x hx => by cases hx⟩ (fun _ _ _ _ => trivial) ?_ ?_
    · rintro i x Ha Hb hi ⟨l, G, n', hl, hDl, Sa, m1, m2, eG, iG, gD, hk⟩ ⟨rfl, rfl⟩
      refine ⟨rfl, ?_⟩
      unfold tYes
      dsimp only
      rw [if_pos rfl]
      refine ⟨_, rfl, _, rfl, a, c, n', v, b, p, g, ns, G, rfl, Sa, by omega, iG, hd2.ex eG, ps, fun H5 z n5 j m G' e5 S5 k1 k2 j0 j1 m1' m2' reg hz => ?_⟩
      have hD5 : H5 Dd = some (.lst l) := off_of (e5 Dd _ ((off_ne Dn.1 Dn.2).trans hDl))
      have gD' : G' Dd = none := by
        cases q : G' Dd with
        | none => rfl
        | some o =>
          exfalso
          rcases reg.f Dd (by rw [q]; simp) with w | w
          · exact w gD
          · rw [hDl] at w
            cases w
      refine ⟨_, hD5, by rw [hl]; exact Evl.sz_lt (by omega), l ++ [.ref z], G', n5, by rw [List.length_append, hl]; rfl, upd_same, S5.upd Dn.1 Dn.2, by omega, by omega, eG.trans reg.e, ?_, gD', fun x hx => ?_⟩
      · rw [off_upd_ne Dn.1 Dn.2]
        exact reg.i.mut gD'
      · rcases List.mem_append.mp hx with hx | hx
        · exact (hk x hx).ex reg.e
        · rw [List.mem_singleton] at hx
          rw [hx]
          exact lk_led pg (by decide) j0 j1 m1' m2' hz
    · rintro Hc ⟨l, G, n', hl, hDl, Sc, m1, m2, eG, iG, gD, hk⟩
      have ec : Ex (off a c H2) (off a c Hc) := eG.trans iG
      have l0n := S1.nea nl0
      have hl0c : Hc l0 = some (.lst [v]) := off_of (ec _ _ ((off_ne l0n.1 l0n.2).trans hl0))
      refine ⟨l0, Dd, [v], l, rfl, rfl, hl0c, hDl, by rw [hl]; exact Evl.sz_of (by show 1 + 3 ≤ 100000; decide), fun L nL => ⟨_, _, rfl, ?_⟩⟩
      have e3 := Ex.new (o := .lst ([v] ++ l)) nL
      have Ln := Sc.nea nL
      have hL : off a c (upd Hc L (.lst ([v] ++ l))) L = some (.lst ([v] ++ l)) := (off_ne Ln.1 Ln.2).trans upd_same
      have S3 := Sc.ex e3
      have eo : Ex (off a c H2) (off a c (upd Hc L (.lst ([v] ++ l)))) := ec.trans (Ex.offs e3)
      have lks : ∀ x ∈ [v] ++ l, Lk (off a c (upd Hc L (.lst ([v] ++ l)))) (tell b p g ns) x := fun x hx => by
        rcases List.mem_append.mp hx with hx | hx
        · rw [List.mem_singleton] at hx
          rw [hx]
          exact lkv.ex eo
        · exact (hk x hx).ex (iG.trans (Ex.offs e3))
      have hdue3 := hdue2.ex eo
      have eH : Ex (off a c H) (off a c (upd Hc L (.lst ([v] ++ l)))) := ((Ex.offs (e1.trans e2)).trans eo)
      have llen : ([v] ++ l).length = 4 := by rw [List.length_append, hl]; rfl
      generalize upd Hc L (.lst ([v] ++ l)) = H3 at hL S3 lks hdue3 eH
      generalize [v] ++ l = xs at hL lks llen
      generalize hR : off a c H3 = R at hL lks hdue3 eH
      have st3 : Stt a c n' R H3 := ⟨S3, by rw [hR]; exact Ex.refl _⟩
      have hR' := hR
      clear hR
      -- for one in led
      refine ⟨_, rfl, ⟨L, rfl, ⟨_, SqL.of (st3.toH _ _ hL)⟩, for_list (K := K) (a := L) (xs := xs) (fun i σ H' => ∃ v4 v5 v6 v7 v8 m, σ = [some (.ref a), some v, some (.ref dq), some (.ref L), v4, v5, v6, v7, v8, none, none, none, none, none, none, none, none] ∧ Stt a c m R H' ∧ n ≤ m ∧ m ≤ n + 6 + 100 * (i : Nat))
        ⟨none, none, none, none, none, n', rfl, st3, m1, by simpa using m2⟩ (fun i σ H' _ q => ?_) (fun i x σ H' hx q => ?_) (fun σ H' q => ?_)⟩⟩
      · obtain ⟨v4, v5, v6, v7, v8, m, _, st, _⟩ := q
        exact SqL.of (st.toH _ _ hL)
      · obtain ⟨v4, v5, v6, v7, v8, m, rfl, st, q1, q2⟩ := q
        have hi4 : i < 4 := by
          have := (List.getElem?_eq_some_iff.mp hx).1
          omega
        obtain ⟨b', p', g', ns', hdx, psx, lenx, gx, nsx, tex⟩ := lks x (List.mem_of_getElem? hx)
        refine ⟨_, rfl, _, rfl, a, c, m, x, papD b' p' g' ns', R, rfl, st.s, st.r, hdx, okl_pap (by omega), by show m + (1 + 90 * (1 + 90 * 0)) ≤ 2 ^ 39; omega, fun H4 v' d' G1 n4 e4 S4 n41 n42 reg hdl loo => ?_⟩
        have n42 : n4 ≤ m + 91 := n42
        obtain ⟨k1, k2, rfl⟩ := loo.pap
        have st4 : Stt a c n4 G1 H4 := ⟨S4, reg.i⟩
        have shw := psx.shw (k1 := k1) (k2 := k2)
        obtain ⟨a', xs', rfl, _, _⟩ := hdl.mk_at
        have hpt : isPaper (papK k1 k2 b' p' g' ns') = true := psx.paper
        have zk := papK_z (k1 := k1) (k2 := k2) (b := b') (p := p') (g := g') (ns := ns') (by omega)
        refine ⟨_, rfl, a', _, rfl, (hdl.ex st4.toH).toDp shw.n, shw.s, shw.n, shw.dp, shw.z, ?_⟩
        refine ⟨2, rfl, by decide, by decide, for_range (lo := 0) (n := 2) (fun j σ H' => ∃ v7 v8, σ = [some (.ref a), some v, some (.ref dq), some (.ref L), some x, some (.ref a'), some (.str (papK k1 k2 b' p' g' ns').shown), v7, v8, none, none, none, none, none, none, none, none] ∧ Stt a c n4 G1 H')
          ⟨v7, v8, rfl, st4⟩ (fun j σ H' _ q => ?_) (fun σ H' q => ?_)⟩
        · obtain ⟨v7, v8, rfl, st⟩ := q
          refine ⟨_, rfl, .ref a', papK k1 k2 b' p' g' ns', rfl, hdl.ex st.toH, zk, fun z => (by rw [hpt] at z; cases z), fun _ => ⟨psx.sml, fun z H5 B5 d5 c5 lsd5 lst5 hB5 hd5 => ?_⟩⟩
          rw [papK_b, papK_p, papK_g, papK_n] at lsd5 lst5
          obtain ⟨rfl, rfl, rfl⟩ := (lst5.ext tex).one lst
          obtain ⟨e5, nz, y, ny, hz, hy⟩ := lsd5
          rw [below_ext tex, below_eq] at hy
          have st5 := st.ex e5
          have yn := st.s.nea ny
          have Gy := st.no ny
          refine ⟨_, rfl, _, rfl, .ref z, .ref dq, papD B5 d5 c5 (tells b p g ns (B5 + d5)), rfl, .tup hz (.cons (.int _) (.cons (.int _) (.cons (.int _) (.cons (d_ints hy) .nil)))), (hdue3.ex reg.e).ex st5.toH, okd_pap (by omega), fun H6 e6 => ⟨_, rfl, iteF ?_⟩⟩
          have st6 := st5.ex e6
          refine ⟨_, rfl, a', _, rfl, (hdl.ex st6.toH).toDp shw.n, shw.s, shw.n, shw.dp, shw.z, _, rfl, rfl, _, rfl, ?_⟩
          refine ite_ff (by rw [decide_eq_true rfl]; rfl) ?_
          have hz6 := e6 _ _ hz
          have hy6 := e6 _ _ hy
          refine ⟨_, rfl, .inr (.inl ⟨z, _, 3, .ref y, rfl, rfl, SqT.of hz6, atI_nat (j := 3) rfl, ?_⟩)⟩
          refine ⟨.inl ⟨rfl, _, SqL.of hy6⟩, y, _, _, rfl, rfl, hy6, ?_, ?_⟩
          · rw [List.length_map]
            exact Evl.sz_lt (by omega)
          exact ⟨_, _, rfl, st6.mut Gy yn.1 yn.2⟩
        · obtain ⟨v7, v8, rfl, st⟩ := q
          exact ⟨_, _, _, _, _, n4, rfl, ⟨st.s, reg.e.trans st.r⟩, by omega, by omega⟩
      · obtain ⟨v4, v5, v6, v7, v8, m, rfl, st, q1, q2⟩ := q
        have q2 : m ≤ n + 6 + 400 := by
          have : ((xs.length : Nat) : Int) = 4 := by omega
          omega
        clear st3 S3 hR'
        -- others
        refine ⟨_, rfl, _, rfl, a, c, m, 8, 3, rfl, st.s, by omega, by decide, by decide, by decide, by decide, fun H4 z b2' p2' g2' ns2 n4 e4 S4 n41 n42 hd2' pg2 => ?_⟩
        have st4 := st.drawn e4 S4
        have ps2 := pg2.ps (by decide) (by decide)
        have len2 : ns2.length ≤ 90 := by
          have := pg2.len
          have := pg2.b2
          have := pg2.p2
          omega
        refine ⟨_, rfl, by show 2 ≤ sizeLine; decide, fun l5 nl5 => ?_⟩
        have e5 := Ex.new (o := .lst [.ref z, .ref dq]) nl5
        have hl5 : upd H4 l5 (.lst [.ref z, .ref dq]) l5 = some (.lst [.ref z, .ref dq]) := upd_same
        have hd5 := hd2'.ex (Ex.offs (a := a) (c := c) e5)
        have st5 := st4.ex e5
        generalize upd H4 l5 (.lst [.ref z, .ref dq]) = H5 at e5 hl5 hd5 st5
        refine ⟨L, l5, xs, [.ref z, .ref dq], rfl, rfl, st5.toH _ _ hL, hl5, Evl.sz_of (by rw [llen]; show 4 + 2 ≤ 100000; decide), fun O nO => ?_⟩
        have On := st5.s.nea nO
        have e6 := Ex.new (o := .lst (xs ++ [.ref z, .ref dq])) nO
        have hO : upd H5 O (.lst (xs ++ [.ref z, .ref dq])) O = some (.lst (xs ++ [.ref z, .ref dq])) := upd_same
        have eR : Ex R (off a c H5) := st5.r
        have st6 : Stt a c n4 (off a c H5) (upd H5 O (.lst (xs ++ [.ref z, .ref dq]))) := ⟨st5.s.ex e6, Ex.offs e6⟩
        have R2O : off a c H5 O = none := off_none nO
        have lks2 : ∀ x ∈ xs, Lk (off a c H5) (tell b p g ns) x := fun x hx => (lks x hx).ex eR
        have pps : ∀ x ∈ xs ++ [.ref z, .ref dq], Pp (off a c H5) x := fun x hx => by
          rcases List.mem_append.mp hx with hx | hx
          · exact (lks2 x hx).pp
          · simp only [List.mem_cons, List.not_mem_nil, or_false] at hx
            rcases hx with rfl | rfl
            · exact ⟨_, _, _, _, hd5, ps2, len2⟩
            · exact ⟨_, _, _, _, hdue3.ex eR, psd, by omega⟩
        have hL2 := eR _ _ hL
        have ylen : (xs ++ [V.ref z, .ref dq]).length = 6 := by rw [List.length_append, llen]; rfl
        generalize xs ++ [V.ref z, .ref dq] = ys at hO st6 pps ylen
        generalize upd H5 O (.lst ys) = H6 at hO st6
        generalize off a c H5 = R2 at eR st6 R2O lks2 pps hL2
        refine ⟨_, rfl, _, rfl, a, c, n4, L, xs, rfl, st6.s, st6.r _ _ hL2, by omega, by omega, by omega, fun H7 rx x e7 S7 hx => ?_⟩
        have st7 := st6.drawn e7 S7
        obtain ⟨b', p', g', ns', hdx, psx, lenx, gx, nsx, tex⟩ := lks2 x (List.mem_of_getElem? hx)
        obtain ⟨q, t, rfl, hq, ht⟩ := papD_at hdx
        refine g_row (K := K) (.inr (st7.toH _ _ hq)) rfl ⟨_, _, rfl, _, _, rfl, _, _, rfl, _, _, rfl, rfl, ?_⟩
        have b1' := psx.b1
        have b2' := psx.b2
        have p1' := psx.p1
        have p2' := psx.p2
        have lnx := psx.len
        -- at
        refine ⟨_, rfl, _, rfl, _, rfl, _, _, rfl, rfl, _, _, rfl, rfl, a, c, n4 + 1, b' + p' - 1, rfl, S7, by omega, by omega, by omega, fun H8 r1 e8 S8 r10 r11 => ⟨_, _, rfl, rfl, ?_⟩⟩
        have st8 := st7.drawn e8 S8
        have hO8 : H8 O = some (.lst ys) := off_of (e8 _ _ ((off_ne On.1 On.2).trans (off_of (e7 _ _ ((off_ne On.1 On.2).trans hO)))))
        have at1 : 1 ≤ (1 + r1) := by omega
        have at2 : (1 + r1) < ns'.length := by omega
        have ht8 : H8 t = some (.lst (ns'.map V.int)) := st8.toH _ _ ht
        -- others.append(..): the one with one value more
        refine ⟨_, rfl, .inl ⟨rfl, _, SqL.of hO8⟩, _, rfl, _, rfl, _, rfl, _, rfl, _, rfl, (1 + r1), rfl, t, _, rfl, SqL.of ht8, fun s1 ns1 => ?_⟩
        rw [cut_to (by omega) (by omega)]
        have f1 := Ex.new (o := .lst ((ns'.take (1 + r1).toNat).map V.int)) ns1
        have hs1 : upd H8 s1 (.lst ((ns'.take (1 + r1).toNat).map V.int)) s1 = some (.lst ((ns'.take (1 + r1).toNat).map V.int)) := upd_same
        generalize upd H8 s1 (.lst ((ns'.take (1 + r1).toNat).map V.int)) = Ha at f1 hs1
        refine ⟨_, rfl, _, rfl, ix_row (.inl (f1 _ _ ht8)) (atI_int (by omega) (get_map (by omega))) ⟨_, _, rfl, rfl, by show 1 ≤ sizeLine; decide, fun s2 ns2 => ?_⟩⟩
        have f2 := Ex.new (o := .lst [.int (ns'.getD (1 + r1).toNat 0 + 1)]) ns2
        have hs2 : upd Ha s2 (.lst [.int (ns'.getD (1 + r1).toNat 0 + 1)]) s2 = some (.lst [.int (ns'.getD (1 + r1).toNat 0 + 1)]) := upd_same
        generalize upd Ha s2 (.lst [.int (ns'.getD (1 + r1).toNat 0 + 1)]) = Hb at f2 hs2
        refine ⟨s1, s2, _, _, rfl, rfl, f2 _ _ hs1, hs2, Evl.sz_of (by rw [List.length_map, List.length_take]; show min _ _ + 1 ≤ 100000; omega), fun s3 ns3 => ?_⟩
        have f3 := Ex.new (o := .lst ((ns'.take (1 + r1).toNat).map V.int ++ [.int (ns'.getD (1 + r1).toNat 0 + 1)])) ns3
        have hs3 : upd Hb s3 (.lst ((ns'.take (1 + r1).toNat).map V.int ++ [.int (ns'.getD (1 + r1).toNat 0 + 1)])) s3 = some (.lst ((ns'.take (1 + r1).toNat).map V.int ++ [.int (ns'.getD (1 + r1).toNat 0 + 1)])) := upd_same
        generalize upd Hb s3 (.lst ((ns'.take (1 + r1).toNat).map V.int ++ [.int (ns'.getD (1 + r1).toNat 0 + 1)])) = Hc at f3 hs3
        have f13 := (f1.trans f2).trans f3
        refine ⟨_, rfl, _, rfl, _, _, rfl, rfl, (1 + r1) + 1, rfl, t, _, rfl, SqL.of (f13 _ _ ht8), fun s4 ns4 => ?_⟩
        rw [cut_from (by omega) (by omega)]
        have f4 := Ex.new (o := .lst ((ns'.drop ((1 + r1) + 1).toNat).map V.int)) ns4
        have hs4 : upd Hc s4 (.lst ((ns'.drop ((1 + r1) + 1).toNat).map V.int)) s4 = some (.lst ((ns'.drop ((1 + r1) + 1).toNat).map V.int)) := upd_same
        generalize upd Hc s4 (.lst ((ns'.drop ((1 + r1) + 1).toNat).map V.int)) = Hd at f4 hs4
        refine ⟨s3, s4, _, _, rfl, rfl, f4 _ _ hs3, hs4, Evl.sz_of (by rw [List.length_append, List.length_map, List.length_take, List.length_map, List.length_drop]; show min _ _ + 1 + _ ≤ 100000; omega), fun s5 ns5 => ?_⟩
        have enew : (ns'.take (1 + r1).toNat).map V.int ++ [.int (ns'.getD (1 + r1).toNat 0 + 1)] ++ (ns'.drop ((1 + r1) + 1).toNat).map V.int = (ns'.take (1 + r1).toNat ++ [ns'.getD (1 + r1).toNat 0 + 1] ++ ns'.drop ((1 + r1).toNat + 1)).map V.int := by
          have : ((1 + r1) + 1).toNat = (1 + r1).toNat + 1 := by omega
          rw [this, List.map_append, List.map_append]
          rfl
        rw [enew]
        have psn := psx.bump (at' := (1 + r1).toNat) nsx (by omega) (by omega)
        have lenn : (ns'.take (1 + r1).toNat ++ [ns'.getD (1 + r1).toNat 0 + 1] ++ ns'.drop ((1 + r1).toNat + 1)).length ≤ 90 := by
          have := psn.len
          omega
        generalize ns'.take (1 + r1).toNat ++ [ns'.getD (1 + r1).toNat 0 + 1] ++ ns'.drop ((1 + r1).toNat + 1) = ms at psn lenn
        have f5 := Ex.new (o := .lst (ms.map V.int)) ns5
        have hs5 : upd Hd s5 (.lst (ms.map V.int)) s5 = some (.lst (ms.map V.int)) := upd_same
        generalize upd Hd s5 (.lst (ms.map V.int)) = He at f5 hs5
        refine ⟨by show 4 ≤ sizeLine; decide, fun t1 nt1 => ?_⟩
        have f6 := Ex.new (o := .tup [.int b', .int p', .int g', .ref s5]) nt1
        have ht1 : upd He t1 (.tup [.int b', .int p', .int g', .ref s5]) t1 = some (.tup [.int b', .int p', .int g', .ref s5]) := upd_same
        generalize upd He t1 (.tup [.int b', .int p', .int g', .ref s5]) = Hf at f6 ht1
        have f14 := (f13.trans f4)
        have f16 := (f14.trans f5).trans f6
        have stf := st8.ex f16
        have s5n := (st8.ex f14).s.nea ns5
        have t1n := (st8.ex (f14.trans f5)).s.nea nt1
        have R2s5 := (st8.ex f14).no ns5
        have R2t1 := (st8.ex (f14.trans f5)).no nt1
        have ne51 : t1 ≠ s5 := fun w => by
          rw [w, hs5] at nt1
          cases nt1
        have Os5 : O ≠ s5 := fun w => by
          rw [← w, f14 _ _ hO8] at ns5
          cases ns5
        have Ot1 : O ≠ t1 := fun w => by
          rw [← w, f5 _ _ (f14 _ _ hO8)] at nt1
          cases nt1
        have hOf := f16 _ _ hO8
        have eA := Ex.held (o := .lst (ms.map V.int)) R2s5
        have sth := stf.hold (f6 _ _ hs5) s5n.1 s5n.2
        have R2t1' : upd R2 s5 (.lst (ms.map V.int)) t1 = none := (upd_ne ne51).trans R2t1
        have eB := Ex.held (o := .tup [.int b', .int p', .int g', .ref s5]) R2t1'
        have sth2 := sth.hold ht1 t1n.1 t1n.2
        have new1 : Pp (upd (upd R2 s5 (.lst (ms.map V.int))) t1 (.tup [.int b', .int p', .int g', .ref s5])) (.ref t1) := ⟨b', p', g', ms, .tup upd_same (.cons (.int _) (.cons (.int _) (.cons (.int _) (.cons (d_ints (eB _ _ upd_same)) .nil)))), psn, lenn⟩
        have RO' : upd (upd R2 s5 (.lst (ms.map V.int))) t1 (.tup [.int b', .int p', .int g', .ref s5]) O = none := (upd_ne Ot1).trans ((upd_ne Os5).trans R2O)
        have eAB := eA.trans eB
        generalize upd (upd R2 s5 (.lst (ms.map V.int))) t1 (.tup [.int b', .int p', .int g', .ref s5]) = R3 at sth2 new1 RO' eAB
        refine ⟨O, _, _, rfl, rfl, hOf, by rw [ylen]; exact Evl.sz_lt (by decide), ?_⟩
        have sto := sth2.mut (o := .lst (ys ++ [.ref t1])) RO' On.1 On.2
        have hOg : upd Hf O (.lst (ys ++ [.ref t1])) O = some (.lst (ys ++ [.ref t1])) := upd_same
        generalize upd Hf O (.lst (ys ++ [.ref t1])) = Hg at sto hOg
        -- the one with a greater gain
        refine ⟨_, rfl, .inl ⟨rfl, _, SqL.of hOg⟩, _, rfl, _, rfl, _, rfl, _, _, rfl, rfl, _, rfl, by show 4 ≤ sizeLine; decide, fun t2 nt2 => ?_⟩
        have f7 := Ex.new (o := .tup [.int b', .int p', .int (g' + 1), .ref t]) nt2
        have ht2 : upd Hg t2 (.tup [.int b', .int p', .int (g' + 1), .ref t]) t2 = some (.tup [.int b', .int p', .int (g' + 1), .ref t]) := upd_same
        have hOh := f7 _ _ hOg
        have t2n := sto.s.nea nt2
        have R3t2 := sto.no nt2
        have Ot2 : O ≠ t2 := fun w => by
          rw [← w, hOg] at nt2
          cases nt2
        have eC := Ex.held (o := .tup [.int b', .int p', .int (g' + 1), .ref t]) R3t2
        have stp := (sto.ex f7).hold ht2 t2n.1 t2n.2
        generalize upd Hg t2 (.tup [.int b', .int p', .int (g' + 1), .ref t]) = Hh at ht2 hOh stp
        have new2 : Pp (upd R3 t2 (.tup [.int b', .int p', .int (g' + 1), .ref t])) (.ref t2) := ⟨b', p', g' + 1, ns', .tup upd_same (.cons (.int _) (.cons (.int _) (.cons (.int _) (.cons (d_ints (eC _ _ (eAB _ _ ht))) .nil)))), psx.more gx, by omega⟩
        have RO'' : upd R3 t2 (.tup [.int b', .int p', .int (g' + 1), .ref t]) O = none := (upd_ne Ot2).trans RO'
        have eABC := eAB.trans eC
        generalize upd R3 t2 (.tup [.int b', .int p', .int (g' + 1), .ref t]) = R4 at stp new2 RO'' eABC eC
        refine ⟨O, _, _, rfl, rfl, hOh, by rw [List.length_append, ylen]; exact Evl.sz_lt (by show 6 + 1 < 100000; decide), ?_⟩
        have stq := stp.mut (o := .lst (ys ++ [.ref t1] ++ [.ref t2])) RO'' On.1 On.2
        have hOi : upd Hh O (.lst (ys ++ [.ref t1] ++ [.ref t2])) O = some (.lst (ys ++ [.ref t1] ++ [.ref t2])) := upd_same
        generalize upd Hh O (.lst (ys ++ [.ref t1] ++ [.ref t2])) = Hi at stq hOi
        have ppz : ∀ x ∈ ys ++ [V.ref t1] ++ [V.ref t2], Pp R4 x := fun x hx => by
          rcases List.mem_append.mp hx with hx | hx
          · rcases List.mem_append.mp hx with hx | hx
            · exact (pps x hx).ex eABC
            · rw [List.mem_singleton] at hx
              rw [hx]
              exact new1.ex eC
          · rw [List.mem_singleton] at hx
            rw [hx]
            exact new2
        have zlen : (ys ++ [V.ref t1] ++ [V.ref t2]).length = 8 := by rw [List.length_append, List.length_append, ylen]; rfl
        generalize ys ++ [V.ref t1] ++ [V.ref t2] = zs at hOi ppz zlen
        have str := stq.hold hOi On.1 On.2
        have eD := Ex.held (o := .lst zs) RO''
        have hOR : upd R4 O (.lst zs) O = some (.lst zs) := upd_same
        have eRR := eABC.trans eD
        have ppw : ∀ x ∈ zs, Pp (upd R4 O (.lst zs)) x := fun x hx => (ppz x hx).ex eD
        have lks5 : ∀ x ∈ xs, Lk (upd R4 O (.lst zs)) (tell b p g ns) x := fun x hx => (lks2 x hx).ex eRR
        have hL5 := eRR _ _ hL2
        have eFin : Ex (off a c H) (upd R4 O (.lst zs)) := (eH.trans eR).trans eRR
        generalize upd R4 O (.lst zs) = R5 at str hOR ppw lks5 hL5 eFin
        clear ppz lks2 pps new1 new2 stq stp sto sth2 sth stf
        refine ⟨_, rfl, ⟨O, rfl, ⟨_, SqL.of hOi⟩, for_list (K := K) (a := O) (xs := zs) (fun i σ H' => ∃ w4 w5 w6 w7 w8 w15 m', σ = [some (.ref a), some v, some (.ref dq), some (.ref L), w4, w5, w6, w7, w8, some (.ref O), some (.int b'), some (.int p'), some (.int g'), some (.ref t), some (.int (1 + r1)), w15, none] ∧ Stt a c m' R5 H' ∧ n ≤ m' ∧ m' ≤ n + 900 + 200 * (i : Nat))
          ⟨v4, v5, v6, v7, v8, none, _, rfl, str, by omega, by simp; omega⟩ (fun i σ H' _ q => ?_) (fun i x σ H' hx q => ?_) (fun σ H' q => ?_)⟩⟩
        · obtain ⟨w4, w5, w6, w7, w8, w15, m', _, st, _⟩ := q
          exact SqL.of (st.toH _ _ hOR)
        · obtain ⟨w4, w5, w6, w7, w8, w15, m', rfl, st, z1, z2⟩ := q
          have hi8 : i < 8 := by
            have := (List.getElem?_eq_some_iff.mp hx).1
            omega
          obtain ⟨bx, px, gx', nsx', hdo, pso, leno⟩ := ppw x (List.mem_of_getElem? hx)
          refine ⟨_, rfl, _, rfl, a, c, m', L, xs, rfl, st.s, st.r _ _ hL5, by omega, by omega, by omega, fun Ha ry y ea Sa hy => ?_⟩
          have sta := st.drawn ea Sa
          obtain ⟨bb, pp, gg, nn, hdy', psy, leny, _, _, tey⟩ := lks5 y (List.mem_of_getElem? hy)
          refine ⟨_, rfl, _, rfl, a, c, m' + 1, y, papD bb pp gg nn, R5, rfl, sta.s, sta.r, hdy', okl_pap (by omega), by show m' + 1 + (1 + 90 * (1 + 90 * 0)) ≤ 2 ^ 39; omega, fun Hb v1 d1 G1 nb eb Sb nb1 nb2 reg1 hd1' loo1 => ?_⟩
          have nb2 : nb ≤ m' + 1 + 91 := nb2
          obtain ⟨k1, k2, rfl⟩ := loo1.pap
          refine ⟨_, rfl, _, rfl, a, c, nb, x, papD bx px gx' nsx', G1, rfl, Sb, reg1.i, hdo.ex reg1.e, okl_pap (by omega), by show nb + (1 + 90 * (1 + 90 * 0)) ≤ 2 ^ 39; omega, fun Hc v2 d2 G2 nc ec' Sc' nc1 nc2 reg2 hd2'' loo2 => ?_⟩
          have nc2 : nc ≤ nb + 91 := nc2
          obtain ⟨k3, k4, rfl⟩ := loo2.pap
          refine ⟨by show 2 ≤ sizeLine; decide, fun pl npl => ?_⟩
          have stc : Stt a c nc G2 Hc := ⟨Sc', reg2.i⟩
          have f1 := Ex.new (o := .lst [v1, v2]) npl
          have hpl : upd Hc pl (.lst [v1, v2]) pl = some (.lst [v1, v2]) := upd_same
          have std := stc.ex f1
          generalize upd Hc pl (.lst [v1, v2]) = Hd at f1 hpl std
          have D1 : D G2 v1 (papK k1 k2 bb pp gg nn) := hd1'.ex reg2.e
          have hp1' : isPaper (papK k1 k2 bb pp gg nn) = true := psy.paper
          have hp2' : isPaper (papK k3 k4 bx px gx' nsx') = true := pso.paper
          have zk1 := papK_z (k1 := k1) (k2 := k2) (b := bb) (p := pp) (g := gg) (ns := nn) (by omega)
          have zk2 := papK_z (k1 := k3) (k2 := k4) (b := bx) (p := px) (g := gx') (ns := nsx') (by omega)
          have row : Row Hd pl [v1, v2] := .inl hpl
          refine ⟨_, rfl, ix_row row (atI_nat (j := 0) rfl) ⟨_, rfl, ix_row row (atI_nat (j := 1) rfl) ⟨v1, v2, _, _, rfl, D1.ex std.toH, hd2''.ex std.toH, zk1, zk2, fun z => (by rw [hp1'] at z; cases z), fun _ z => (by rw [hp2'] at z; cases z), fun _ _ => ⟨psy.sml, pso.sml, fun r He ee part1 => ?_⟩⟩⟩⟩
          rw [papK_b, papK_p, papK_g, papK_n, papK_b, papK_p, papK_g, papK_n] at part1
          have ste := std.ex ee
          have row2 : Row He pl [v1, v2] := .inl (ee _ _ hpl)
          refine ⟨_, rfl, ix_row row2 (atI_nat (j := 1) rfl) ⟨_, rfl, ix_row row2 (atI_nat (j := 0) rfl) ⟨v2, v1, _, _, rfl, hd2''.ex ste.toH, D1.ex ste.toH, zk2, zk1, fun z => (by rw [hp2'] at z; cases z), fun _ z => (by rw [hp1'] at z; cases z), fun _ _ => ⟨pso.sml, psy.sml, fun r' Hf ef part2 => ?_⟩⟩⟩⟩
          rw [papK_b, papK_p, papK_g, papK_n, papK_b, papK_p, papK_g, papK_n] at part2
          obtain rfl : r = r' := part1.one part2.swap
          have stf := ste.ex ef
          refine ⟨by show 2 ≤ sizeLine; decide, fun fl nfl => ?_⟩
          have f2 := Ex.new (o := .lst [r, r]) nfl
          have hfl : upd Hf fl (.lst [r, r]) fl = some (.lst [r, r]) := upd_same
          have stg := stf.ex f2
          generalize upd Hf fl (.lst [r, r]) = Hg at f2 hfl stg
          have eR5 : Ex R5 G2 := reg1.e.trans reg2.e
          have pa1 : PapAt Hg y bb pp gg nn := papK_at (k1 := false) (k2 := true) ((hdy'.ex eR5).ex stg.toH)
          have pa2 : PapAt Hg x bx px gx' nsx' := papK_at (k1 := false) (k2 := true) ((hdo.ex eR5).ex stg.toH)
          refine ⟨_, rfl, _, rfl, _, rfl, y, bb, pp, gg, nn, x, bx, px, gx', nsx', rfl, pa1, psy.ok, pa2, pso.ok, fun r3 Hh eh part3 => ?_⟩
          obtain rfl : r = r3 := part1.one part3
          have sth := stg.ex eh
          refine ⟨by show 1 ≤ sizeLine; decide, fun ql nql => ?_⟩
          have f3 := Ex.new (o := .lst [r]) nql
          refine ⟨ql, 2, [r], rfl, rfl, upd_same, by decide, by decide, by show 1 * 2 ≤ sizeLine; decide, fun q2 nq2 => ?_⟩
          have f4 := Ex.new (o := .lst (List.replicate (2 : Int).toNat [r]).flatten) nq2
          have hq2 : upd (upd Hh ql (.lst [r])) q2 (.lst (List.replicate (2 : Int).toNat [r]).flatten) q2 = some (.lst [r, r]) := upd_same
          have sti := (sth.ex f3).ex f4
          obtain ⟨dd, hdd, okd⟩ := part1.data
          refine ⟨.ref fl, .ref q2, .list [dd, dd], rfl, .lst (f4 _ _ (f3 _ _ (eh _ _ hfl))) (.cons (hdd _) (.cons (hdd _) .nil)), .lst hq2 (.cons (hdd _) (.cons (hdd _) .nil)), ?_, fun Hj ej => ⟨_, rfl, iteF ?_⟩⟩
          · refine Bool.and_eq_true_iff.mpr ⟨decide_eq_true (by show 2 ≤ 90000; decide), ?_⟩
            show (okD 4 dd && (okD 4 dd && true)) = true
            rw [okd]
            rfl
          have stj := sti.ex ej
          exact ⟨_, _, _, _, _, _, nc, rfl, ⟨stj.s, eR5.trans stj.r⟩, by omega, by omega⟩
        · obtain ⟨w4, w5, w6, w7, w8, w15, m', rfl, st, z1, z2⟩ := q
          exact kq _ m' (eFin.trans st.r) st.s z1 (by
            have : ((zs.length : Nat) : Int) = 8 := by omega
            omega)
end
end Ts


set_option Elab.async false
set_option linter.all false
set_option maxRecDepth 100000
set_option maxHeartbeats 8000000
namespace Ts
open PySem PySem.Spec L2 LamX
open Evl (Ex)
theorem Tst.weak {T : List (Addr × Str)} {R R' H : Hp} (s : Tst T R H) (e : Ex R' R) : Tst T R' H := ⟨fun b o h => s.n b o (e b o h), e.trans s.r, s.t⟩
theorem met_ref {CP CN CR CH C : Addr} {w : Str} {x : V} {T : List (Addr × Str)} {R H : Hp} {Q : VK} {tt : XK → TE} {σ : L2.St} (t : Tst T R H) (hw : (C = CP ∧ w = "paper") ∨ (C = CN ∧ w = "number") ∨ (C = CR ∧ w = "period") ∨ (C = CH ∧ w = "heap"))
    (hc : ∀ (H2 : Hp) (E : XK) (q : VK), Tst T R H2 → (∀ Hc, Ex H2 Hc → Raised Hc "thing" x C E) → tt E σ H2 q)
    (k : ∀ H' p, Tst T (upd R p (.tup [.str w, x])) H' → R p = none → Q (.ref p) H') : tLam T (TMet CP CN CR CH) tt σ H Q :=
  ⟨t.t, fun H2 eN t2 => hc H2 _ _ (t.extN eN t2) fun Hc ec d H3 e3 nd hd => ⟨C, w, hw, rfl, d, x, rfl, hd, fun p np =>
    have t3 : Tst T R H3 := (t.extN eN t2).ex (ec.trans e3)
    k _ p ((t3.ex (Ex.new np)).add upd_same (fun _ z => by cases z) (t3.no np)) (t3.no np)⟩⟩
theorem d_pair {H : Hp} {p : Addr} {w : Str} {x : V} {d : PyData} (h : H p = some (.tup [.str w, x])) (hx : D H x d) : D H (.ref p) (.tuple [.str w, d]) := .tup h (.cons (.str w) (.cons hx .nil))
theorem ok_pair {w : Str} {d : PyData} (h : okD 3 d = true) : okD 4 (.tuple [.str w, d]) = true := by
  refine Bool.and_eq_true_iff.mpr ⟨decide_eq_true (by show 2 ≤ 90000; decide), ?_⟩
  show (true && (okD 3 d && true)) = true
  rw [h]
  rfl
theorem odd_no : ∀ d ∈ oddD, isPaper d = false := by
  have h : oddD.all (fun d => !isPaper d) = true := by decide +kernel
  intro d hd
  have := List.all_eq_true.mp h d hd
  simpa using this
theorem odd_z : ∀ d ∈ oddD, ∀ t ∈ items d, (items t).length ≤ 100000 := by
  have h : oddD.all (fun d => (items d).all fun t => decide ((items t).length ≤ 100)) = true := by decide +kernel
  intro d hd t ht
  have := of_decide_eq_true (List.all_eq_true.mp (List.all_eq_true.mp h d hd) t ht)
  omega
theorem odd_ok : ∀ d ∈ oddD, okD 3 d = true := by
  have h : oddD.all (fun d => okD 3 d) = true := by decide +kernel
  exact fun d hd => List.all_eq_true.mp h d hd
theorem Strm.exN {H H' : Hp} {a c : Addr} {n : Int} (e : ExtN H H') (h : Strm H a c n) : Strm H' a c n := by
  obtain ⟨⟨cells, s1, s3, h1, h2, r⟩, ne, n0⟩ := h
  exact ⟨⟨cells, s1, s3, e _ _ h1 (fun _ z => by cases z), e _ _ h2 (fun _ z => by cases z), r⟩, ne, n0⟩
theorem tabs_off {T : List (Addr × Str)} {H : Hp} {a c : Addr} {n : Int} (S : Strm H a c n) (t : Tabs T H) : Tabs T (off a c H) := fun p hp => by
  obtain ⟨ps, h1, h2, h3⟩ := t p hp
  obtain ⟨⟨cells, s1, s3, g1, g2, _⟩, _, _⟩ := S
  have k : ∀ (z : Addr) (o : HO), H z = some o → (∀ xs, o ≠ .lst xs) → off a c H z = some o := fun z o hz ho => by
    have n1 : z ≠ a := fun q => by
      rw [q, g1] at hz
      cases hz
      exact ho _ rfl
    have n2 : z ≠ c := fun q => by
      rw [q, g2] at hz
      cases hz
      exact ho _ rfl
    rw [off_ne n1 n2]
    exact hz
  refine ⟨ps, k _ _ h1 (fun _ z => by cases z), h2, fun pos cv hc => ?_⟩
  obtain ⟨cc, e1, e2⟩ := h3 pos cv hc
  exact ⟨cc, e1, k _ _ e2 (fun _ z => by unfold CodeO at z; cases z)⟩
theorem tabs_drawn {T : List (Addr × Str)} {H H' : Hp} {a c : Addr} {n : Int} (S : Strm H a c n) (t : Tabs T H) (e : Ex (off a c H) (off a c H')) : Tabs T H' := (tabs_off S t).ext fun b o h => off_of (e b o h)
theorem psA : PS 1 1 0 [0, 0] := ⟨by decide, by decide, by decide, by decide, by decide, by decide, by decide, by decide, by decide⟩
theorem psB : PS 1 1 1 [0, 0] := ⟨by decide, by decide, by decide, by decide, by decide, by decide, by decide, by decide, by decide⟩
theorem psC : PS 4 6 0 [0, 1, 2, 1, 2, 1, 2, 1, 2, 1] := ⟨by decide, by decide, by decide, by decide, by decide, by decide, by decide, by decide, by decide⟩
theorem lstC : Lst (tell 4 6 0 [0, 1, 2, 1, 2, 1, 2, 1, 2, 1]) 1 2 0 := by
  have P : Ag (tell 4 6 0 [0, 1, 2, 1, 2, 1, 2, 1, 2, 1]) 6 0 4 := tell_ag (by decide)
  have row : ∀ i : Nat, i < 9 → tell 4 6 0 [0, 1, 2, 1, 2, 1, 2, 1, 2, 1] (1 + (i : Nat) + 2) = tell 4 6 0 [0, 1, 2, 1, 2, 1, 2, 1, 2, 1] (1 + (i : Nat)) := by decide +kernel
  have at_ : ∀ n : Int, 1 ≤ n → n < 10 → tell 4 6 0 [0, 1, 2, 1, 2, 1, 2, 1, 2, 1] (n + 2) = tell 4 6 0 [0, 1, 2, 1, 2, 1, 2, 1, 2, 1] n + 0 := fun n h1 h2 => by
    have z := row (n - 1).toNat (by omega)
    rw [Int.toNat_of_nonneg (by omega)] at z
    have e : 1 + (n - 1) = n := by omega
    rw [e] at z
    omega
  have A4 : Ag (tell 4 6 0 [0, 1, 2, 1, 2, 1, 2, 1, 2, 1]) 2 0 4 := P.of_row (by decide) (by decide) fun n h1 h2 => at_ n (by omega) (by omega)
  have A1 : Ag (tell 4 6 0 [0, 1, 2, 1, 2, 1, 2, 1, 2, 1]) 2 0 1 := fun n hn => by
    by_cases q : 4 ≤ n
    · exact A4 n q
    · exact at_ n hn (by omega)
  refine ⟨by decide, by decide, A1, fun d' c' N hN h1 hA => ?_, fun B' hB _ => hB⟩
  apply Classical.byContradiction
  intro z
  have e : d' = 1 := by omega
  subst e
  have hb := Ag.back P (by decide) (by decide) hA
  have z1 := hb 4 (by decide)
  have z2 := hb 5 (by decide)
  have t4 : tell 4 6 0 [0, 1, 2, 1, 2, 1, 2, 1, 2, 1] 4 = 2 := by decide +kernel
  have t5 : tell 4 6 0 [0, 1, 2, 1, 2, 1, 2, 1, 2, 1] (4 + 1) = 1 := by decide +kernel
  have t5' : tell 4 6 0 [0, 1, 2, 1, 2, 1, 2, 1, 2, 1] 5 = 1 := by decide +kernel
  have t6 : tell 4 6 0 [0, 1, 2, 1, 2, 1, 2, 1, 2, 1] (5 + 1) = 2 := by decide +kernel
  rw [t4, t5] at z1
  rw [t5', t6] at z2
  omega
theorem tellsC : tells 4 6 0 [0, 1, 2, 1, 2, 1, 2, 1, 2, 1] (1 + 2) = [0, 1, 2] := by decide +kernel
theorem partAB : Part (tell 1 1 0 [0, 0]) (tell 1 1 1 [0, 0]) (.int 2) := by
  refine .inl ⟨2, by decide, rfl, by decide +kernel, fun m h1 h2 => ?_⟩
  have : m = 0 ∨ m = 1 := by omega
  rcases this with rfl | rfl <;> decide +kernel
section
variable {P : Program} {w : World} {K : PySem.W.Frag} {mg : Str → Option Value} {base : Heap}
/-- a def whose code object is known, where no repr is under way -/
theorem okCG {x q : Str} {st : Stmt} {f c : Addr} {N ps : List Str} {k : Nat} {sp : Sp} {oc kV doc pm ct : Value} {od an : Option Addr} {osl : Array (Option Value)}
    (lk : K.lookup f = some ⟨oc, od, .func (PySem.W.fnOf x q (defArgs st) (defBody st) (defScope st) .none kV doc pm an (.ref c) ct), osl⟩) (hcd : PySem.W.codeIn K (.ref c) q = true) (S : FnScope N ps (defScope st)) (ln : ∀ vs H Q E, sp vs H Q E → vs.length = ps.length)
    (hb : ∀ (A : Around) (outer : List Env) (s : Shared) (H : Hp) (vs : List V) (Q : VK) (E : XK), A.guards = some [] → Room k (A.deeper (PyProof.Rows.envOfC q (defScope st) s.heap.objs.size f (.ref c))) → sp vs H Q E →
      ∃ t, PSs (cxOf CX0 P w K mg base N q (defScope st) f (.ref c) A outer s H E).nox (defBody st) t ∧ t { nx := fun _ H' => Q .non H', rt := Q } (L2.start N vs) H) :
    GOk P w K mg base CX0 (k + 1) f (PySem.W.fnOf x q (defArgs st) (defBody st) (defScope st) .none kV doc pm an (.ref c) ct) ps sp :=
  ⟨ln, fun A outer s H args us vs Q E hg hr e0 hbi hv hsp => LamX.run_ofS lk hcd S hr e0 hbi hv (ln _ _ _ _ hsp) fun hr' => by
    obtain ⟨t, ht, q⟩ := hb A outer s H vs Q E hg hr' hsp
    exact ⟨t, ht.nox, q⟩⟩
abbrev s_law := top 38
theorem sc_law : FnScope ["script", "stream", "turn", "found", "odd", "paper"] ["script"] (defScope s_law) := ⟨rfl, rfl, rfl, by decide +kernel, rfl, by decide +kernel, by decide +kernel⟩
def lamQ : Str := (PyProof.Rows.envOfC "law" (defScope s_law) 0 0 .none).qual ++ "<lambda>"
def spLaw (K : PySem.W.Frag) (tab : Addr) : Sp := fun vs H Q _ => ∃ (s : Addr) (ns : List Int), vs = [.ref s] ∧ SqL K H s (ns.map V.int) ∧ Tabs [(tab, lamQ)] H ∧ ∀ H', Q (.bl true) H'
theorem ok_law {tab f c f1 f2 f3 f4 f5 f6 f7 f8 CB CP CN CR CH CG gB gP gN gR gH : Addr} {fd1 fd2 fd3 fd4 fd5 fd6 fd7 fd8 : FuncData} {oc kV doc pm ct : Value} {od an : Option Addr} {osl : Array (Option Value)}
    (lk : K.lookup f = some ⟨oc, od, .func (PySem.W.fnOf "law" "law" (defArgs s_law) (defBody s_law) (defScope s_law) .none kV doc pm an (.ref c) ct), osl⟩) (hcd : PySem.W.codeIn K (.ref c) "law" = true)
    (M : Errs K mg CB CP CN CR CH CG gB gP gN gR gH) (TB : TabB base mg c tab)
    (F_start : FD K mg "_law_start" "_law_start" s_start f1 fd1) (G_start : FnOk P w K mg base CX0 1 f1 fd1 ["script"] (spStart K))
    (F_cp : FD K mg "_law_c_paper" "_law_c_paper" s_c_paper f2 fd2) (G_cp : FnOk P w K mg base CX0 2 f2 fd2 ["stream", "far", "gains"] spCPaper)
    (F_right : FD K mg "_law_right" "_law_right" s_right f3 fd3) (G_right : GOk P w K mg base CX0 8 f3 fd3 ["stream", "paper"] spRight)
    (F_odd : FD K mg "_law_c_odd" "_law_c_odd" s_c_odd f4 fd4) (G_odd : FnOk P w K mg base CX0 1 f4 fd4 [] spOdd)
    (F_met : FD K mg "_law_c_met" "_law_c_met" s_met f5 fd5)
    (F_least : FD K mg "least_paper" "least_paper" s_least f6 fd6) (G_least : FnOk P w K mg base (L2.CX P w) 7 f6 fd6 ["paper"] (spLeast CP))
    (F_part : FD K mg "papers_part" "papers_part" s_part f7 fd7) (G_part : FnOk P w K mg base (L2.CX P w) 7 f7 fd7 ["paper", "other"] (spPart CP))
    (F_same : FD K mg "_law_same" "_law_same" s_same f8 fd8) (G_same : FnOk P w K mg base CX0 6 f8 fd8 ["found", "due"] (spSame 6)) (T : Bl mg) :
    GOk P w K mg base CX0 11 f (PySem.W.fnOf "law" "law" (defArgs s_law) (defBody s_law) (defScope s_law) .none kV doc pm an (.ref c) ct) ["script"] (spLaw K tab) := by
  have b_start : Binds K fd1 ["script"] [] := F_start.F.binds fun _ _ _ _ _ _ us hl => match us, hl with | [_], _ => rfl
  have b_cp : Binds K fd2 ["stream", "far", "gains"] [] := F_cp.F.binds fun _ _ _ _ _ _ us hl => match us, hl with | [_, _, _], _ => rfl
  have b_right : Binds K fd3 ["stream", "paper"] [] := F_right.F.binds fun _ _ _ _ _ _ us hl => match us, hl with | [_, _], _ => rfl
  have b_odd : Binds K fd4 [] [] := F_odd.F.binds fun _ _ _ _ _ _ us hl => match us, hl with | [], _ => rfl
  have b_least : Binds K fd6 ["paper"] [] := F_least.F.binds fun _ _ _ _ _ _ us hl => match us, hl with | [_], _ => rfl
  have b_part : Binds K fd7 ["paper", "other"] [] := F_part.F.binds fun _ _ _ _ _ _ us hl => match us, hl with | [_, _], _ => rfl
  have b_same : Binds K fd8 ["found", "due"] [] := F_same.F.binds fun _ _ _ _ _ _ us hl => match us, hl with | [_, _], _ => rfl
  refine okCG lk hcd sc_law (fun vs H Q E h => ?_) (fun A outer s H vs Q E hA hr h => ?_)
  · obtain ⟨s, ns, rfl, _⟩ := h
    rfl
  · obtain ⟨sa, zs, rfl, hs, hT, kq⟩ := h
    have nd := sc_law.nd
    have hr8 : Room (7 + 2) _ := hr.mono (by decide)
    refine ⟨_, (pss_cons (ps_set (i := 1) nd rfl (Or.inl rfl) (pe_call G_start (hr.mono (by decide)) (by rfl) F_start.g F_start.F.kp b_start .nil pass0 (pa_cons (pv 0) pa_nil)))
      (pss_cons (ps_for PassesOwn.never rfl (pi_range1 (by rfl) T.range (pa_cons pe_int pa_nil)) (pg_name (i := 2) nd rfl (Or.inl rfl)) (pss_one (ps_if (pt_not (pt_val (pe_callG (E := fun _ _ _ => False) G_right hA (hr.mono (by decide)) (by rfl) F_right.g F_right.F.kp b_right (pa_cons (pv 1) (pa_cons (pe_call G_cp (hr.mono (by decide)) (by rfl) F_cp.g F_cp.F.kp b_cp .nil pass0 (pa_cons (pv 1) (pa_cons pe_int (pa_cons pe_int pa_nil)))) pa_nil))))) (pss_one (ps_ret pe_bl)) pss_nil)))
      (pss_cons (ps_set (i := 5) nd rfl (Or.inr rfl) (pe_tup (pa_cons pe_int (pa_cons pe_int (pa_cons pe_int (pa_cons (pe_lst (pa_cons pe_int (pa_cons pe_int pa_nil))) pa_nil))))))
      (pss_cons (ps_for PassesOwn.never rfl (pi_list (pe_call0 G_odd (hr.mono (by decide)) (by rfl) F_odd.g F_odd.F.kp b_odd .nil pass0)) (pg_name (i := 4) nd rfl (Or.inr rfl)) (pss_cons (ps_set (i := 3) nd rfl (Or.inl rfl) (pe_lst (pa_cons (pe_met M F_met (by rfl) TB rfl hr8 (lamS_by (by show lamSB (defScope s_law) _ = true; decide +kernel)) rfl (fun _ _ _ _ _ => rfl) (fun A outer s H E f c' hr2 => (pe_call G_least hr2 (by rfl) F_least.g F_least.F.kp b_least .nil (passes_call (takes_of rfl rfl rfl rfl) (fun _ _ _ _ h => h)) (pa_cons (pv 4) pa_nil)))) pa_nil)))
      (pss_cons (ps_expr (pe_bm PySem.F.plainAttrs_list PySem.F.slot_list_append PySem.F.type_list_append mt_append (pv 3) (pa_cons (pe_met M F_met (by rfl) TB rfl hr8 (lamS_by (by show lamSB (defScope s_law) _ = true; decide +kernel)) rfl (fun _ _ _ _ _ => rfl) (fun A outer s H E f c' hr2 => (pe_call G_part hr2 (by rfl) F_part.g F_part.F.kp b_part .nil (passes_call (takes_of rfl rfl rfl rfl) (fun _ _ _ _ h => h)) (pa_cons (pv 4) (pa_cons pe_non pa_nil))))) pa_nil)))
      (pss_cons (ps_expr (pe_bm PySem.F.plainAttrs_list PySem.F.slot_list_append PySem.F.type_list_append mt_append (pv 3) (pa_cons (pe_met M F_met (by rfl) TB rfl hr8 (lamS_by (by show lamSB (defScope s_law) _ = true; decide +kernel)) rfl (fun _ _ _ _ _ => rfl) (fun A outer s H E f c' hr2 => (pe_call G_part hr2 (by rfl) F_part.g F_part.F.kp b_part .nil (passes_call (takes_of rfl rfl rfl rfl) (fun _ _ _ _ h => h)) (pa_cons (pv 5) (pa_cons (pv 4) pa_nil))))) pa_nil)))
      (pss_one (ps_if (pt_not (pt_val (pe_call G_same (hr.mono (by decide)) (by rfl) F_same.g F_same.F.kp b_same .nil pass0 (pa_cons (pv 3) (pa_cons (pe_op op_rep (pe_lst (pa_cons (pe_tup (pa_cons pe_str (pa_cons (pv 4) pa_nil))) pa_nil)) pe_int) pa_nil))))) (pss_one (ps_ret pe_bl)) pss_nil))))))
      (pss_cons (ps_set (i := 3) nd rfl (Or.inl rfl) (pe_lst (pa_cons (pe_call G_least (hr.mono (by decide)) (by rfl) F_least.g F_least.F.kp b_least .nil (passF rfl rfl) (pa_cons (pe_tup (pa_cons pe_int (pa_cons pe_int (pa_cons pe_int (pa_cons (pe_lst (pa_cons pe_int (pa_cons pe_int (pa_cons pe_int (pa_cons pe_int (pa_cons pe_int (pa_cons pe_int (pa_cons pe_int (pa_cons pe_int (pa_cons pe_int (pa_cons pe_int pa_nil))))))))))) pa_nil))))) pa_nil)) (pa_cons (pe_call G_part (hr.mono (by decide)) (by rfl) F_part.g F_part.F.kp b_part .nil (passF rfl rfl) (pa_cons (pv 5) (pa_cons (pe_tup (pa_cons pe_int (pa_cons pe_int (pa_cons pe_int (pa_cons (pe_lst (pa_cons pe_int (pa_cons pe_int pa_nil))) pa_nil))))) pa_nil))) pa_nil))))
      (pss_one (ps_ret (pe_call G_same (hr.mono (by decide)) (by rfl) F_same.g F_same.F.kp b_same .nil pass0 (pa_cons (pv 3) (pa_cons (pe_lst (pa_cons (pe_tup (pa_cons pe_int (pa_cons pe_int (pa_cons pe_int (pa_cons (pe_lst (pa_cons pe_int (pa_cons pe_int (pa_cons pe_int pa_nil)))) pa_nil))))) (pa_cons pe_int pa_nil))) pa_nil)))))))))), ?_⟩
    refine ⟨_, rfl, sa, zs, rfl, hs, fun a cc H1 na nc S1 e1 => ?_⟩
    refine ⟨8, rfl, by decide, by decide, for_range (lo := 0) (n := 8) (fun i σ H' => ∃ tv m, σ = [some (.ref sa), some (.ref a), tv, none, none, none] ∧ Strm H' a cc m ∧ m ≤ 3300 * (i : Nat) ∧ Tabs [(tab, lamQ)] H')
      ⟨none, 0, rfl, S1, by decide, hT.ext e1⟩ (fun i σ H' hi p => ?_) (fun σ H' p => ?_)⟩
    · obtain ⟨tv, m, rfl, S, hm, t⟩ := p
      refine ⟨_, rfl, _, rfl, a, cc, m, 7, 2, rfl, S, by omega, by decide, by decide, by decide, by decide, fun H2 z b p g ns n' e2 S2 n1 n2 hd pg => ?_⟩
      have t2 := tabs_drawn S t e2
      refine ⟨a, cc, n', .ref z, b, p, g, ns, rfl, S2, hd, pg, by omega, fun H3 n3 e3 S3 n4 n5 => ⟨_, rfl, iteF ?_⟩⟩
      exact ⟨_, n3, rfl, S3, by omega, tabs_drawn S2 t2 e3⟩
    · obtain ⟨tv, m, rfl, S, hm, t⟩ := p
      clear S hm hT
      -- paper
      refine ⟨by show 2 ≤ sizeLine; decide, fun l1 nl1 => ?_⟩
      have e2 := Ex.new (o := .lst [.int 0, .int 0]) nl1
      have hl1 : upd H' l1 (.lst [.int 0, .int 0]) l1 = some (.lst [.int 0, .int 0]) := upd_same
      generalize upd H' l1 (.lst [.int 0, .int 0]) = H2 at e2 hl1
      refine ⟨by show 4 ≤ sizeLine; decide, fun pq npq => ?_⟩
      have e3 := Ex.new (o := .tup [.int 1, .int 1, .int 0, .ref l1]) npq
      have hpq : upd H2 pq (.tup [.int 1, .int 1, .int 0, .ref l1]) pq = some (.tup [.int 1, .int 1, .int 0, .ref l1]) := upd_same
      generalize upd H2 pq (.tup [.int 1, .int 1, .int 0, .ref l1]) = H3 at e3 hpq
      have dpap : D H3 (.ref pq) (papK false true 1 1 0 [0, 0]) := .tup hpq (.cons (.int _) (.cons (.int _) (.cons (.int _) (.cons (d_ints (ns := [0, 0]) (e3 _ _ hl1)) .nil))))
      have hpf : isPaper (papK false true 1 1 0 [0, 0]) = true := psA.paper
      have zf := papK_z (k1 := false) (k2 := true) (b := 1) (p := 1) (g := 0) (ns := [0, 0]) (by decide)
      have t3 := (t.ext e2).ext e3
      -- for odd in _law_c_odd()
      refine ⟨rfl, fun L H4 nL e4 dL => ?_⟩
      obtain ⟨xs, hL, dxs⟩ : ∃ xs, H4 L = some (.lst xs) ∧ DAll H4 xs oddD := by
        cases dL with
        | lst h r => exact ⟨_, h, r⟩
      have t1 : Tst [(tab, lamQ)] (nt H4) H4 := ⟨nt_no H4, fun b o h => (nt_of h).1, t3.ext e4⟩
      have dv := (dpap.ex e4).nt
      have LR : nt H4 L = some (.lst xs) := nt_at hL fun _ z => by cases z
      have dxs := dxs.nt
      clear hL dL t t3
      generalize nt H4 = R1 at *
      refine ⟨L, rfl, ⟨xs, SqL.of (t1.r _ _ LR)⟩, for_list (K := K) (a := L) (xs := xs) (fun i σ H' => ∃ ov fv, σ = [some (.ref sa), some (.ref a), tv, fv, ov, some (.ref pq)] ∧ Tst [(tab, lamQ)] R1 H') ⟨none, none, rfl, t1⟩ (fun i σ H' _ q => ?_) (fun i x σ H' hx q => ?_) (fun σ H' q => ?_)⟩
      · obtain ⟨ov, fv, rfl, t⟩ := q
        exact SqL.of (t.r _ _ LR)
      · obtain ⟨ov, fv, rfl, t⟩ := q
        obtain ⟨dx, hdx, Dx⟩ := dxs.get hx
        have mem := List.mem_of_getElem? hdx
        have np := odd_no dx mem
        have no : ∀ {A : Prop}, isPaper dx = true → A := fun {A} z => by
          rw [np] at z
          cases z
        refine met_ref t (.inl ⟨rfl, rfl⟩) (fun H2 E q t2 hr => ⟨_, rfl, x, dx, rfl, Dx.ex t2.r, odd_z dx mem, fun _ => hr, fun z => no z⟩) (fun H3 p1 t3 n1 => ?_)
        have eRa : Ex R1 (upd R1 p1 (.tup [.str "paper", x])) := Ex.new n1
        have a1 : upd R1 p1 (.tup [.str "paper", x]) p1 = some (.tup [.str "paper", x]) := upd_same
        generalize upd R1 p1 (.tup [.str "paper", x]) = Ra at t3 eRa a1
        refine ⟨by show 1 ≤ sizeLine; decide, fun fl nfl => ?_⟩
        have Rfl := t3.no nfl
        have t4 := (t3.ex (Ex.new (o := .lst [.ref p1]) nfl)).add upd_same (fun _ z => by cases z) Rfl
        have b1 : upd Ra fl (.lst [.ref p1]) fl = some (.lst [.ref p1]) := upd_same
        have eRb : Ex Ra (upd Ra fl (.lst [.ref p1])) := Ex.new Rfl
        generalize hRb : upd Ra fl (.lst [.ref p1]) = Rb at t4 b1 eRb
        generalize upd H3 fl (.lst [.ref p1]) = H4 at t4
        -- found.append(..)
        refine ⟨_, rfl, .inl ⟨rfl, _, SqL.of (t4.r _ _ b1)⟩, ?_⟩
        refine met_ref t4 (.inl ⟨rfl, rfl⟩) (fun H2 E q t2 hr => ⟨_, rfl, x, .non, dx, .none, rfl, ((Dx.ex eRa).ex eRb).ex t2.r, .non, odd_z dx mem, (fun t ht => by cases ht), fun _ => hr, fun z => no z, fun z => no z⟩) (fun H5 p2 t5 n2 => ?_)
        have n2fl : fl ≠ p2 := fun z => by
          rw [← z, b1] at n2
          cases n2
        have Ra2n : Ra p2 = none := Evl.fresh_back eRb n2
        have f5 : H5 fl = some (.lst [.ref p1]) := t5.r _ _ ((upd_ne n2fl).trans b1)
        refine ⟨fl, _, _, rfl, rfl, f5, by show 1 < sizeLine; decide, ?_⟩
        have t6 : Tst [(tab, lamQ)] (upd Ra p2 (.tup [.str "paper", x])) (upd H5 fl (.lst ([.ref p1] ++ [.ref p2]))) := by
          refine (t5.weak fun b o h => ?_).mut f5 ((upd_ne n2fl).trans Rfl)
          by_cases hb : b = p2
          · rw [hb, upd_same] at h ⊢
            exact h
          · rw [upd_ne hb] at h ⊢
            exact eRb _ _ h
        have f6 : upd H5 fl (.lst ([.ref p1] ++ [.ref p2])) fl = some (.lst ([.ref p1] ++ [.ref p2])) := upd_same
        generalize upd H5 fl (.lst ([.ref p1] ++ [.ref p2])) = H6 at t6 f6
        have eRc : Ex Ra (upd Ra p2 (.tup [.str "paper", x])) := Ex.new Ra2n
        have a2 : upd Ra p2 (.tup [.str "paper", x]) p2 = some (.tup [.str "paper", x]) := upd_same
        have Rfl2 : upd Ra p2 (.tup [.str "paper", x]) fl = none := (upd_ne n2fl).trans Rfl
        generalize upd Ra p2 (.tup [.str "paper", x]) = Rc at t6 eRc a2 Rfl2
        have t7 := t6.add f6 (fun _ z => by cases z) Rfl2
        have b2 : upd Rc fl (.lst ([.ref p1] ++ [.ref p2])) fl = some (.lst ([.ref p1] ++ [.ref p2])) := upd_same
        have eRd : Ex Rc (upd Rc fl (.lst ([.ref p1] ++ [.ref p2]))) := Ex.new Rfl2
        generalize upd Rc fl (.lst ([.ref p1] ++ [.ref p2])) = Rd at t7 b2 eRd
        refine ⟨_, rfl, .inl ⟨rfl, _, SqL.of (t7.r _ _ b2)⟩, ?_⟩
        refine met_ref t7 (.inl ⟨rfl, rfl⟩) (fun H2 E q t2 hr => ⟨_, rfl, _, rfl, .ref pq, x, papK false true 1 1 0 [0, 0], dx, rfl, (((dv.ex eRa).ex eRc).ex eRd).ex t2.r, (((Dx.ex eRa).ex eRc).ex eRd).ex t2.r, zf, odd_z dx mem, fun z => (by rw [hpf] at z; cases z), fun _ _ => hr, fun _ z => no z⟩) (fun H7 p3 t8 n3 => ?_)
        have n3fl : fl ≠ p3 := fun z => by
          rw [← z, b2] at n3
          cases n3
        have f7 : H7 fl = some (.lst ([.ref p1] ++ [.ref p2])) := t8.r _ _ ((upd_ne n3fl).trans b2)
        refine ⟨fl, _, _, rfl, rfl, f7, by show 2 < sizeLine; decide, ?_⟩
        have t9 : Tst [(tab, lamQ)] (upd Rc p3 (.tup [.str "paper", x])) (upd H7 fl (.lst (([.ref p1] ++ [.ref p2]) ++ [.ref p3]))) := by
          refine (t8.weak fun b o h => ?_).mut f7 ((upd_ne n3fl).trans Rfl2)
          by_cases hb : b = p3
          · rw [hb, upd_same] at h ⊢
            exact h
          · rw [upd_ne hb] at h ⊢
            exact eRd _ _ h
        have f9 : upd H7 fl (.lst (([.ref p1] ++ [.ref p2]) ++ [.ref p3])) fl = some (.lst [.ref p1, .ref p2, .ref p3]) := upd_same
        generalize upd H7 fl (.lst (([.ref p1] ++ [.ref p2]) ++ [.ref p3])) = H9 at t9 f9
        have eRe : Ex Rc (upd Rc p3 (.tup [.str "paper", x])) := Ex.new (Evl.fresh_back eRd n3)
        have a3 : upd Rc p3 (.tup [.str "paper", x]) p3 = some (.tup [.str "paper", x]) := upd_same
        generalize upd Rc p3 (.tup [.str "paper", x]) = Re at t9 eRe a3
        have eR1e : Ex R1 Re := (eRa.trans eRc).trans eRe
        have DxE := Dx.ex eR1e
        -- found against [('paper', odd)] * 3
        refine ⟨_, rfl, _, rfl, by show 2 ≤ sizeLine; decide, fun w1 nw1 => ⟨by show 1 ≤ sizeLine; decide, fun l3 nl3 => ?_⟩⟩
        have e13 := Ex.new (o := .tup [.str "paper", x]) nw1
        have h13 : upd H9 w1 (.tup [.str "paper", x]) w1 = some (.tup [.str "paper", x]) := upd_same
        generalize upd H9 w1 (.tup [.str "paper", x]) = H13 at e13 h13 nl3
        have e14 := Ex.new (o := .lst [.ref w1]) nl3
        have h14 : upd H13 l3 (.lst [.ref w1]) l3 = some (.lst [.ref w1]) := upd_same
        generalize upd H13 l3 (.lst [.ref w1]) = H14 at e14 h14
        refine ⟨l3, 3, _, rfl, rfl, h14, by decide, by decide, by show 3 ≤ sizeLine; decide, fun l4 nl4 => ?_⟩
        have e15 := Ex.new (o := .lst (List.replicate (3 : Int).toNat [V.ref w1]).flatten) nl4
        have h15 : upd H14 l4 (.lst (List.replicate (3 : Int).toNat [V.ref w1]).flatten) l4 = some (.lst [.ref w1, .ref w1, .ref w1]) := upd_same
        generalize upd H14 l4 (.lst (List.replicate (3 : Int).toNat [V.ref w1]).flatten) = H15 at e15 h15
        have e27 : Ex H9 H15 := (e13.trans e14).trans e15
        have t17 := t9.ex e27
        have hw17 := e15 _ _ (e14 _ _ h13)
        have p1_ := d_pair (t17.r _ _ (eRe _ _ (eRc _ _ a1))) (DxE.ex t17.r)
        have p2_ := d_pair (t17.r _ _ (eRe _ _ a2)) (DxE.ex t17.r)
        have p3_ := d_pair (t17.r _ _ a3) (DxE.ex t17.r)
        have p4_ := d_pair hw17 (DxE.ex t17.r)
        have ok5 : okD 5 (.list [.tuple [.str "paper", dx], .tuple [.str "paper", dx], .tuple [.str "paper", dx]]) = true := by
          have o4 : okD 4 (.tuple [.str "paper", dx]) = true := ok_pair (odd_ok dx mem)
          refine Bool.and_eq_true_iff.mpr ⟨decide_eq_true (by show 3 ≤ 90000; decide), ?_⟩
          show (okD 4 _ && (okD 4 _ && (okD 4 _ && true))) = true
          rw [o4]
          rfl
        refine ⟨.ref fl, .ref l4, .list [.tuple [.str "paper", dx], .tuple [.str "paper", dx], .tuple [.str "paper", dx]], rfl, .lst (e27 _ _ f9) (.cons p1_ (.cons p2_ (.cons p3_ .nil))), .lst h15 (.cons p4_ (.cons p4_ (.cons p4_ .nil))), ok5, fun Hf ef => ⟨_, rfl, iteF ?_⟩⟩
        have tf := t17.ex ef
        exact ⟨_, _, rfl, tf.weak eR1e⟩
      · obtain ⟨ov, fv, rfl, t⟩ := q
        have dA := dv.ex t.r
        refine ⟨by show 10 ≤ sizeLine; decide, fun s1 ns1 => ?_⟩
        have f1 := Ex.new (o := .lst [.int 0, .int 1, .int 2, .int 1, .int 2, .int 1, .int 2, .int 1, .int 2, .int 1]) ns1
        have hs1 : upd H' s1 (.lst [.int 0, .int 1, .int 2, .int 1, .int 2, .int 1, .int 2, .int 1, .int 2, .int 1]) s1 = some (.lst [.int 0, .int 1, .int 2, .int 1, .int 2, .int 1, .int 2, .int 1, .int 2, .int 1]) := upd_same
        generalize upd H' s1 (.lst [.int 0, .int 1, .int 2, .int 1, .int 2, .int 1, .int 2, .int 1, .int 2, .int 1]) = Ha at f1 hs1
        refine ⟨by show 4 ≤ sizeLine; decide, fun q1 nq1 => ?_⟩
        have f2 := Ex.new (o := .tup [.int 4, .int 6, .int 0, .ref s1]) nq1
        have hq1 : upd Ha q1 (.tup [.int 4, .int 6, .int 0, .ref s1]) q1 = some (.tup [.int 4, .int 6, .int 0, .ref s1]) := upd_same
        generalize upd Ha q1 (.tup [.int 4, .int 6, .int 0, .ref s1]) = Hb at f2 hq1
        have dC : D Hb (.ref q1) (papK false true 4 6 0 [0, 1, 2, 1, 2, 1, 2, 1, 2, 1]) := .tup hq1 (.cons (.int _) (.cons (.int _) (.cons (.int _) (.cons (d_ints (ns := [0, 1, 2, 1, 2, 1, 2, 1, 2, 1]) (f2 _ _ hs1)) .nil))))
        have zC := papK_z (k1 := false) (k2 := true) (b := 4) (p := 6) (g := 0) (ns := [0, 1, 2, 1, 2, 1, 2, 1, 2, 1]) (by decide)
        have hC : isPaper (papK false true 4 6 0 [0, 1, 2, 1, 2, 1, 2, 1, 2, 1]) = true := psC.paper
        refine ⟨.ref q1, _, rfl, dC, zC, fun z => (by rw [hC] at z; cases z), fun _ => ⟨psC.sml, fun z Hc B d c5 lsd lst hB hd => ?_⟩⟩
        rw [papK_b, papK_p, papK_g, papK_n] at lsd lst
        obtain ⟨rfl, rfl, rfl⟩ := lst.one lstC
        obtain ⟨f3, nz, y, ny, hz, hy⟩ := lsd
        rw [below_eq, tellsC] at hy
        refine ⟨_, rfl, by show 2 ≤ sizeLine; decide, fun s2 ns2 => ?_⟩
        have f4 := Ex.new (o := .lst [.int 0, .int 0]) ns2
        have hs2 : upd Hc s2 (.lst [.int 0, .int 0]) s2 = some (.lst [.int 0, .int 0]) := upd_same
        generalize upd Hc s2 (.lst [.int 0, .int 0]) = Hd at f4 hs2
        refine ⟨by show 4 ≤ sizeLine; decide, fun q2 nq2 => ?_⟩
        have f5 := Ex.new (o := .tup [.int 1, .int 1, .int 1, .ref s2]) nq2
        have hq2 : upd Hd q2 (.tup [.int 1, .int 1, .int 1, .ref s2]) q2 = some (.tup [.int 1, .int 1, .int 1, .ref s2]) := upd_same
        generalize upd Hd q2 (.tup [.int 1, .int 1, .int 1, .ref s2]) = He at f5 hq2
        have dB : D He (.ref q2) (papK false true 1 1 1 [0, 0]) := .tup hq2 (.cons (.int _) (.cons (.int _) (.cons (.int _) (.cons (d_ints (ns := [0, 0]) (f5 _ _ hs2)) .nil))))
        have zB := papK_z (k1 := false) (k2 := true) (b := 1) (p := 1) (g := 1) (ns := [0, 0]) (by decide)
        have hB' : isPaper (papK false true 1 1 1 [0, 0]) = true := psB.paper
        refine ⟨.ref pq, .ref q2, _, _, rfl, dA.ex ((((f1.trans f2).trans f3).trans f4).trans f5), dB, zf, zB, fun z => (by rw [hpf] at z; cases z), fun _ z => (by rw [hB'] at z; cases z), fun _ _ => ⟨psA.sml, psB.sml, fun r Hf f6 part => ?_⟩⟩
        rw [papK_b, papK_p, papK_g, papK_n, papK_b, papK_p, papK_g, papK_n] at part
        obtain rfl := part.one partAB
        refine ⟨by show 2 ≤ sizeLine; decide, fun fl nfl => ?_⟩
        have f7 := Ex.new (o := .lst [.ref z, .int 2]) nfl
        have hfl : upd Hf fl (.lst [.ref z, .int 2]) fl = some (.lst [.ref z, .int 2]) := upd_same
        generalize upd Hf fl (.lst [.ref z, .int 2]) = Hg at f7 hfl
        have ez := ((f4.trans f5).trans f6).trans f7
        have hz2 := ez _ _ hz
        have hy2 := ez _ _ hy
        refine ⟨_, rfl, by show 3 ≤ sizeLine; decide, fun s3 ns3 => ?_⟩
        have f8 := Ex.new (o := .lst [.int 0, .int 1, .int 2]) ns3
        have hs3 : upd Hg s3 (.lst [.int 0, .int 1, .int 2]) s3 = some (.lst [.int 0, .int 1, .int 2]) := upd_same
        generalize upd Hg s3 (.lst [.int 0, .int 1, .int 2]) = Hh at f8 hs3
        refine ⟨by show 4 ≤ sizeLine; decide, fun q3 nq3 => ?_⟩
        have f9 := Ex.new (o := .tup [.int 1, .int 2, .int 0, .ref s3]) nq3
        have hq3 : upd Hh q3 (.tup [.int 1, .int 2, .int 0, .ref s3]) q3 = some (.tup [.int 1, .int 2, .int 0, .ref s3]) := upd_same
        generalize upd Hh q3 (.tup [.int 1, .int 2, .int 0, .ref s3]) = Hi at f9 hq3
        refine ⟨by show 2 ≤ sizeLine; decide, fun q4 nq4 => ?_⟩
        have f10 := Ex.new (o := .lst [.ref q3, .int 2]) nq4
        have e89 := (f8.trans f9).trans f10
        refine ⟨.ref fl, .ref q4, .list [papD 1 2 0 [0, 1, 2], .int 2], rfl,
          .lst (e89 _ _ hfl) (.cons (.tup (e89 _ _ hz2) (.cons (.int _) (.cons (.int _) (.cons (.int _) (.cons (d_ints (ns := [0, 1, 2]) (e89 _ _ hy2)) .nil))))) (.cons (.int _) .nil)),
          .lst upd_same (.cons (.tup (f10 _ _ hq3) (.cons (.int _) (.cons (.int _) (.cons (.int _) (.cons (d_ints (ns := [0, 1, 2]) (f10 _ _ (f9 _ _ hs3))) .nil))))) (.cons (.int _) .nil)), by decide +kernel, fun Hj ej => ?_⟩
        exact kq Hj
end
end Ts


set_option Elab.async false
set_option linter.all false
set_option maxRecDepth 100000
set_option maxHeartbeats 4000000
namespace Ts
open PySem PySem.Spec PyProof.Rows L2 LamX
open Evl (Ex)
/-! ## the law's call, its table told -/
/-- what is told when the law starts: its table, and perhaps its script -/
structure Beg (H : Hp) (tab a : Addr) : Prop where
  t : H tab = some (.tbl #[])
  only : ∀ b u, H b = some u → b = tab ∨ (b = a ∧ ∃ o xs, u = .frz o (.lst xs))
section
variable {P : Program} {w : World} {K : PySem.W.Frag} {mg mb : Str → Option Value} {k : Nat} {fa a c tab : Addr} {fd : FuncData} {x : Str} {sp : Sp} {st : Shared} {us : List Value} {zs : List Int}
/-- the ground that a law's call stands on -/
structure Grd (K : PySem.W.Frag) (mg mb : Str → Option Value) (c tab a : Addr) (us : List Value) (st : Shared) : Prop where
  k : K.In st.heap
  m : st.heap.Ns mainGlobals mg
  b : st.heap.Ns builtinsNs mb
  bb : ∀ y : Str, y ≠ "__name__" → mb y = bootBuiltins y
  lim : st.heap.NoLimit
  ng : st.gens = #[]
  t : st.heap.get? tab = some { cls := .none, data := .fields #[] }
  kt : K.lookup tab = none
  cd : PySem.W.CodeHd st.heap c tab
  bm : ∃ (q : Addr) (oq : Obj), mg "__builtins__" = some (.ref q) ∧ q ≠ builtinsNs ∧ st.heap.get? q = some oq ∧ oq.cls = .type "module" ∧ oq.dict = some builtinsNs ∧ oq.data = .plain
  a : st.heap.get? a = some { cls := .type "list", data := .seq us.toArray }
theorem Grd.free {H : Hp} (g : Grd K mg mb c tab a us st) (B : Beg H tab a) {b : Addr} {o : Obj} (h : st.heap.get? b = some o) (n1 : o.data ≠ .fields #[]) (n2 : ∀ vs n, o.data ≠ .seq vs n) : H b = none := by
  cases e : H b with
  | none => rfl
  | some u =>
    exfalso
    rcases B.only b u e with z | ⟨z, _⟩
    · rw [z, g.t] at h
      cases h
      exact n1 rfl
    · rw [z, g.a] at h
      cases h
      exact n2 _ _ rfl
theorem Grd.ns {H : Hp} (g : Grd K mg mb c tab a us st) (B : Beg H tab a) {b : Addr} {m : Str → Option Value} (h : st.heap.Ns b m) : (hidT st.heap H).Ns b m := by
  obtain ⟨o, es, ep, h1, h2, h3⟩ := h
  have f := g.free B h1 (fun z => by rw [h2] at z; cases z) (fun vs n z => by rw [h2] at z; cases z)
  exact ⟨o, es, ep, hidT_get h1 f, h2, h3⟩
theorem Grd.kin {H : Hp} (g : Grd K mg mb c tab a us st) (B : Beg H tab a) (fr : H a ≠ none → K.lookup a = none) : K.In (hidT st.heap H) := fun b o h => by
  refine hidT_get (g.k b o h) ?_
  cases e : H b with
  | none => rfl
  | some u =>
    exfalso
    rcases B.only b u e with z | ⟨z, _⟩
    · rw [z, g.kt] at h
      cases h
    · rw [z] at h e
      rw [fr (by rw [e]; simp)] at h
      cases h
theorem Grd.tabB {H : Hp} (g : Grd K mg mb c tab a us st) (B : Beg H tab a) : TabB (hidT st.heap H) mg c tab := by
  refine ⟨?_, ?_, fun z => ?_⟩
  · obtain ⟨o, ws, fl, tf, gs, tg, ib, tx, tt, h1, h2, h3, h4, h5, h6, h7, h8, h9, h10⟩ := g.cd
    have f : H c = none := g.free B h1
      (fun z => by
        rw [h3] at z
        cases z
        simp at h4)
      (fun vs n z => by
        rw [h3] at z
        cases z)
    exact ⟨o, ws, fl, tf, gs, tg, ib, tx, tt, hidT_get h1 f, h2, h3, h4, h5, h6, h7, h8, h9, h10⟩
  · obtain ⟨q, oq, h1, h2, h3, h4, h5, h6⟩ := g.bm
    have f : H q = none := g.free B h3 (fun z => by rw [h6] at z; cases z) (fun vs n z => by rw [h6] at z; cases z)
    refine ⟨q, oq, h1, h2, fun z => ?_, fun z => ?_, hidT_get h3 f, h4, h5, h6⟩
    · obtain ⟨o, es, ep, d1, d2, _⟩ := g.m
      rw [z, d1] at h3
      cases h3
      rw [d2] at h6
      cases h6
    · rw [z, g.t] at h3
      cases h3
      cases h6
  · obtain ⟨o, es, ep, d1, d2, _⟩ := g.m
    rw [z, g.t] at d1
    cases d1
    cases d2
/-- the call, from a heap that tells the table and perhaps the script -/
theorem Grd.call {H : Hp} (g : Grd K mg mb c tab a us st) (B : Beg H tab a) (fr : H a ≠ none → K.lookup a = none) (hk : HOk P w H st.heap) (rm : Room k callerA)
    (G : ∀ base : Heap, K.In base → base.Ns mainGlobals mg → TabB base mg c tab → GOk P w K mg base CX0 k fa fd [x] sp) (bi : ∀ (s : Shared) (u : Value), BindsTo s fd ⟨[u], []⟩ [(x, u)]) (hsp : sp [.ref a] H (fun v _ => v = .bl true) fun _ _ _ => False) :
    codeAny (model P w) callerA (.call (.ref fa) ⟨[.ref a], []⟩) (fun r s' => r = .ok (.ret (.bool true)) ∧ OldK st.heap s'.heap ∧ s'.os = st.os ∧ AllBare s'.gens) st := by
  have kb := g.kin B fr
  have M : L2.Mod K mg (hidT st.heap H) := by
    obtain ⟨mc, l1, l2⟩ := g.lim
    exact ⟨kb, g.ns B g.m, ⟨mb, g.ns B g.b, g.bb⟩, mc, g.ns B l1, l2⟩
  have e0 : Env0 P w K mg (hidT st.heap H) callerA [] st H := {
    frames := rfl
    mod := M
    bs := fun b o e => of_hidT e
    bsz := by rw [hidT_size]; exact Nat.le_refl _
    funs := trivial
    frf := fun b hb => by cases hb
    hok := hk
    bare := .of_eq g.ng }
  have run := (G _ kb (g.ns B g.m) (g.tabB B)).go callerA [] st H ⟨[.ref a], []⟩ [.ref a] [.ref a] _ _ rfl rm e0 (bi st (.ref a)) (.cons rfl .nil) hsp
  refine codeAny_mono run fun r s' h => ?_
  rcases r with e | (_ | _ | _ | u) <;> first
    | exact (show False from h).elim
    | skip
  obtain ⟨v, H', ho, hb, un, hk', rv, rfl⟩ := h
  obtain rfl : u = Value.bool true := rv
  have tk : ∃ more : Array Value, s'.heap.get? tab = some { cls := .none, data := .fields more } := by
    obtain ⟨more, z⟩ := un.tbls tab #[] B.t
    exact ⟨_, hk' tab _ z⟩
  have kp : ∀ b o, b ≠ tab → st.heap.get? b = some o → s'.heap.get? b = some o := fun b o nb e => by
    cases q : H b with
    | none => exact un.keep b o e q (fun z => by cases z) (fun z => by cases z)
    | some u =>
      rcases B.only b u q with z | ⟨_, ob, xs, rfl⟩
      · exact absurd z nb
      · have h1 := (hk b _ q).1
        rw [e] at h1
        cases h1
        exact (hk' b _ (un.frzs b _ _ q)).1
  refine ⟨rfl, ⟨fun b o e => ?_, fun b o e => ?_⟩, ho, hb⟩
  · by_cases z : b = tab
    · obtain ⟨more, hm⟩ := tk
      rw [z, g.t] at e
      cases e
      rw [z]
      exact .inr (.inl ⟨(g.cd.tab g.t).isCodeTable, rfl, #[], more, rfl, by rw [Array.empty_append]; exact hm⟩)
    · exact .inl (kp b o z e)
  · by_cases z : b = tab
    · rw [z]
      exact tk.elim fun m q => ⟨_, q⟩
    · exact ⟨o, kp b o z e⟩
/-- the call of a law whose table is told -/
theorem Grd.law (g : Grd K mg mb c tab a us st) (hi : IntsAre us zs) (hl : zs.length ≤ sizeLine) (rm : Room k callerA)
    (G : ∀ base : Heap, K.In base → base.Ns mainGlobals mg → TabB base mg c tab → GOk P w K mg base CX0 k fa fd [x] sp) (bi : ∀ (s : Shared) (u : Value), BindsTo s fd ⟨[u], []⟩ [(x, u)])
    (hsp : ∀ H : Hp, H tab = some (.tbl #[]) → SqL K H a (zs.map V.int) → sp [.ref a] H (fun v _ => v = .bl true) fun _ _ _ => False) :
    codeAny (model P w) callerA (.call (.ref fa) ⟨[.ref a], []⟩) (fun r s' => r = .ok (.ret (.bool true)) ∧ OldK st.heap s'.heap ∧ s'.os = st.os ∧ AllBare s'.gens) st := by
  have rv := vals_ints hi
  have hu := hi.length
  have na : a ≠ tab := fun z => by
    have q := g.a
    rw [z, g.t] at q
    cases q
  let H0 : Hp := upd (fun _ => none) tab (.tbl #[])
  have h0 : H0 tab = some (.tbl #[]) := upd_same
  have h0n : ∀ b, b ≠ tab → H0 b = none := fun b nb => upd_ne nb
  cases lk : K.lookup a with
  | some o =>
    have e := g.k a o lk
    rw [g.a] at e
    cases e
    have B : Beg H0 tab a := ⟨h0, fun b u h => by
      by_cases z : b = tab
      · exact .inl z
      · rw [h0n b z] at h
        cases h⟩
    refine g.call B (fun z => absurd (h0n a na) z) (fun b u h => ?_) rm G bi (hsp H0 h0 (.inr ⟨_, us.toArray, _, lk, rfl, rfl, rfl, by rw [List.size_toArray, hu]; exact hl, by simpa using rv⟩))
    by_cases z : b = tab
    · rw [z, h0] at h
      cases h
      rw [z]
      exact g.t
    · rw [h0n b z] at h
      cases h
  | none =>
    let ob : Obj := { cls := .type "list", data := .seq us.toArray }
    let H1 : Hp := upd H0 a (.frz ob (.lst (zs.map V.int)))
    have h1 : H1 a = some (.frz ob (.lst (zs.map V.int))) := upd_same
    have h1t : H1 tab = some (.tbl #[]) := (upd_ne (Ne.symm na)).trans h0
    have B : Beg H1 tab a := ⟨h1t, fun b u h => by
      by_cases z : b = a
      · rw [z, h1] at h
        cases h
        exact .inr ⟨z, _, _, rfl⟩
      · have h' : H0 b = some u := (upd_ne z).symm.trans h
        by_cases z2 : b = tab
        · exact .inl z2
        · rw [h0n b z2] at h'
          cases h'⟩
    refine g.call B (fun _ => lk) (fun b u h => ?_) rm G bi (hsp H1 h1t (.inl (.inr ⟨ob, h1⟩)))
    by_cases z : b = a
    · rw [z, h1] at h
      cases h
      rw [z]
      exact ⟨g.a, by rw [List.length_map]; exact hl, us, _, rv, g.a⟩
    · have h' : H0 b = some u := (upd_ne z).symm.trans h
      by_cases z2 : b = tab
      · rw [z2, h0] at h'
        cases h'
        rw [z2]
        exact g.t
      · rw [h0n b z2] at h'
        cases h'
end
end Ts


set_option Elab.async false
set_option linter.all false
set_option maxRecDepth 100000
set_option maxHeartbeats 4000000
namespace Ts
open PySem PySem.Spec PyProof.Rows L2 LamX
open Evl (Ex)
section
variable {P : Program} {w : World} {K : PySem.W.Frag} {mg : Str → Option Value} {h : Heap}
theorem fd_mk (X : K.In h) (G : h.Ns mainGlobals mg) {x q : Str} {st : Stmt} {f : Addr} {oc : Value} {od an : Option Addr} {sl : Array (Option Value)} {kV doc pm cd ct : Value} (a : PySem.W.nsIn K mainGlobals x = some (some (.ref f)))
    (l : K.lookup f = some ⟨oc, od, .func (PySem.W.fnOf x q (defArgs st) (defBody st) (defScope st) .none kV doc pm an cd ct), sl⟩) (c : PySem.W.codeIn K cd q = true) (k : PySem.W.keepIn K (.ref f) = true) :
    ∃ f fd, FD K mg x q st f fd := ⟨_, _, fun_mk l c k, PySem.W.mg_of X G a⟩
theorem xc_mk (X : K.In h) (G : h.Ns mainGlobals mg) {x : Str} {C g : Addr} {nm q : Str} {N : Addr} {bs bm : List Value} {sn : List Str} {sub : List Value} {ab : Bool} {col : Option Bool} {dd : Option Addr} {m0 m1 m2 m3 m5 : Option Value}
    (a : PySem.W.nsIn K mainGlobals x = some (some (.ref C))) (l : K.lookup C = some (excClassObj nm q C N bs bm true sn sub ab col dd m0 m1 m2 m3 m5 "ValueError.__new__")) (rv : PySem.HandSPX.refsVE bm = true)
    (sa : PySem.W.findIn K (.ref C) "__setattr__" = some (some (.builtin "object.__setattr__"))) (eC : PySem.W.subIn K (.ref C) (.type "BaseException") = some true) (tC : PySem.W.typeIn K (.ref C) = some (.type "type")) (kC : PySem.W.keepIn K (.ref C) = true)
    (iC : PySem.W.findIn K (.ref C) "__init__" = some (some (.ref g))) (tI : PySem.W.typeIn K (.ref g) = some (.type "function")) (nF : PySem.W.findIn K (.ref C) "thing" = some none)
    (ga : PySem.W.findIn K (.ref C) "__getattribute__" = some (some (.builtin "BaseException.__getattribute__"))) (gg : PySem.W.findIn K (.ref C) "__getattr__" = some none) (hC : PySem.W.hasDictIn K C = true) : XC K mg x "thing" C g :=
  ⟨⟨⟨_, _, _, _, _, _, _, _, _, _, _, _, _, _, _, l, rv⟩, sa, eC, tC, kC⟩, PySem.W.mg_of X G a, iC, tI, nF, ⟨ga, gg, eC, hC⟩⟩
theorem bi_mk {q : Str} {i : Nat} {g : Addr} {oc : Value} {od an : Option Addr} {sl : Array (Option Value)} {kV doc pm cd ct : Value} (l : K.lookup g = some ⟨oc, od, .func (PySem.W.fnOf "__init__" q (defArgs (i_thing i)) (defBody (i_thing i)) (defScope (i_thing i)) .none kV doc pm an cd ct), sl⟩)
    (c : PySem.W.codeIn K cd q = true) (k : PySem.W.keepIn K (.ref g) = true) : ∃ fd, Fun K "__init__" q (i_thing i) g fd := ⟨_, fun_mk l c k⟩
/-- one class met by another -/
theorem exm_mk {C : Value} {S : Addr} {b : Bool} (h1 : PySem.W.subIn K (.ref S) (.type "BaseException") = some true) (h2 : PySem.W.isClsIn K S = true) (h3 : PySem.W.typeIn K (.ref S) = some (.type "type")) (h4 : PySem.W.subIn K C (.ref S) = some b) : PySem.W.exmOne K C (.ref S) = some b := by
  unfold PySem.W.exmOne
  rw [h1]
  refine (if_pos (by rfl)).trans ?_
  have e : ((PySem.W.clsIn K S).isSome && PySem.W.typeIn K (.ref S) == some (.type "type")) = true := by
    have h2 : (PySem.W.clsIn K S).isSome = true := h2
    rw [h2, h3]
    rfl
  show (if ((PySem.W.clsIn K S).isSome && PySem.W.typeIn K (.ref S) == some (.type "type")) = true then PySem.W.subIn K C (.ref S) else none) = some b
  rw [if_pos e]
  exact h4
/-- what the law's call needs -/
def Ready (l : PySem.W.OpenLaw) (w : World) (K : PySem.W.Frag) (k : Nat) (x : Str) (mg : Str → Option Value) (fa : Addr) (h : Heap) : Prop :=
  ∃ (fd : FuncData) (c tab : Addr), h.get? tab = some { cls := .none, data := .fields #[] } ∧ K.lookup tab = none ∧ PySem.W.CodeHd h c tab ∧ (∀ (s : Shared) (u : Value), BindsTo s fd ⟨[u], []⟩ [(x, u)]) ∧
    ∀ base : Heap, K.In base → base.Ns mainGlobals mg → TabB base mg c tab → GOk l.prog w K mg base CX0 k fa fd [x] (spLaw K tab)
theorem walk_tab {l : PySem.W.OpenLaw} {n k : Nat} {p : Program} {loose : List Str} {XP : (Str → Option Value) → Heap → Prop} {YP : World → Heap → Prop} {d : DefRec} {F : Params → PySem.W.Frag} {x : Str}
    (hn : l.most = some n) (hz : n ≤ sizeLine) (hdf : d.params.defaults = []) (hr : Room k callerA) (hY : ∀ (w : World) (h : Heap), YP w h → (F w.params).In h)
    (hF : ∀ (w : World) (mg : Str → Option Value) (fa : Addr) (h : Heap), YP w h → (F w.params).In h → h.Ns mainGlobals mg → mg d.name = some (.ref fa) → Ready l w (F w.params) k x mg fa h) :
    PySem.W.WalkO p loose XP YP l.row.toRowW d [] (fun f vs => PySem.call f vs) := by
  refine Att.attach_callB hn hdf fun w sh st mg mb fa o pm cd doc a us zs g y _ _ _ hm hl hi hlen _ ng => ?_
  obtain ⟨fd, c, tab, ht, kt, hc, bi, G⟩ := hF w mg fa _ y (hY w _ y) g.T.g hm
  refine Grd.law (mb := mb) ⟨hY w _ y, g.T.g, g.T.b, g.T.builtins, g.T.nolimit, ng, ht, kt, hc, g.T.bmain, hl⟩ hi (Nat.le_trans hlen hz) hr G bi fun H h1 h2 => ⟨a, zs, rfl, h2, fun p hp => ?_, fun H' => rfl⟩
  rw [List.mem_singleton] at hp
  rw [hp]
  exact TabS.nil h1

theorem ready {l : PySem.W.OpenLaw} {w : World} {fa c tab CB CH CN CP CR CG gB gH gN gP gR : Addr} (X : K.In h) (G : h.Ns mainGlobals mg) (hfa : mg "law" = some (.ref fa)) (T : Bl mg) (hmax : mg "max" = none)
    (F_is_row : ∃ f fd, FD K mg "is_row" "is_row" s_is_row f fd)
    (F_is_integer : ∃ f fd, FD K mg "is_integer" "is_integer" s_is_integer f fd)
    (F_is_number : ∃ f fd, FD K mg "is_number" "is_number" s_is_number f fd)
    (F_is_numbers : ∃ f fd, FD K mg "is_numbers" "is_numbers" s_is_numbers f fd)
    (F_numf : ∃ f fd, FD K mg "numbers_fault" "numbers_fault" s_numf f fd) (z_enumerate : mg "enumerate" = none)
    (F_is_paper : ∃ f fd, FD K mg "is_paper" "is_paper" s_is_paper f fd)
    (F_need_paper : ∃ f fd, FD K mg "need_paper" "need_paper" s_need_paper f fd)
    (F_told_of : ∃ f fd, FD K mg "told_of" "told_of" s_told_of f fd)
    (F_told_below : ∃ f fd, FD K mg "told_below" "told_below" s_told_below f fd)
    (F_comes : ∃ f fd, FD K mg "comes_again" "comes_again" s_comes f fd)
    (F_lper : ∃ f fd, FD K mg "least_period" "least_period" s_lperiod f fd)
    (F_least : ∃ f fd, FD K mg "least_paper" "least_paper" s_least f fd)
    (F_part : ∃ f fd, FD K mg "papers_part" "papers_part" s_part f fd)
    (F_a_told : ∃ f fd, FD K mg "_law_a_told" "_law_a_told" s_a_told f fd)
    (F_c_paper : ∃ f fd, FD K mg "_law_c_paper" "_law_c_paper" s_c_paper f fd)
    (F_c_odd : ∃ f fd, FD K mg "_law_c_odd" "_law_c_odd" s_c_odd f fd)
    (F_c_met : ∃ f fd, FD K mg "_law_c_met" "_law_c_met" s_met f fd)
    (F_start : ∃ f fd, FD K mg "_law_start" "_law_start" s_start f fd)
    (F_draw : ∃ f fd, FD K mg "_law_draw" "_law_draw" s_draw f fd)
    (F_pick : ∃ f fd, FD K mg "_law_pick" "_law_pick" s_pick f fd)
    (F_same : ∃ f fd, FD K mg "_law_same" "_law_same" s_same f fd)
    (F_loose : ∃ f fd, FD K mg "_law_loose" "_law_loose" s_loose f fd)
    (F_lled : ∃ f fd, FD K mg "_law_led" "_law_led" s_led f fd)
    (F_lleast : ∃ f fd, FD K mg "_law_least" "_law_least" s_lleast f fd)
    (F_isf : ∃ f fd, FD K mg "_law_is_from" "_law_is_from" s_isfrom f fd)
    (F_lpart : ∃ f fd, FD K mg "_law_part" "_law_part" s_lpart f fd)
    (F_right : ∃ f fd, FD K mg "_law_right" "_law_right" s_right f fd)
    (XB : XC K mg "BadBook" "thing" CB gB) (IB : ∃ fd, Fun K "__init__" "BadBook.__init__" (i_thing 2) gB fd)
    (XH : XC K mg "BadHeap" "thing" CH gH) (IH : ∃ fd, Fun K "__init__" "BadHeap.__init__" (i_thing 3) gH fd)
    (XN : XC K mg "BadNumber" "thing" CN gN) (IN : ∃ fd, Fun K "__init__" "BadNumber.__init__" (i_thing 4) gN fd)
    (XP : XC K mg "BadPaper" "thing" CP gP) (IP : ∃ fd, Fun K "__init__" "BadPaper.__init__" (i_thing 5) gP fd)
    (XR : XC K mg "BadPeriod" "thing" CR gR) (IR : ∃ fd, Fun K "__init__" "BadPeriod.__init__" (i_thing 6) gR fd)
    (gG : mg "Grows" = some (.ref CG))
(epb : PySem.W.exmOne K (.ref CP) (.ref CB) = some false)
    (enb : PySem.W.exmOne K (.ref CN) (.ref CB) = some false)
    (erb : PySem.W.exmOne K (.ref CR) (.ref CB) = some false)
    (ehb : PySem.W.exmOne K (.ref CH) (.ref CB) = some false)
    (epp : PySem.W.exmOne K (.ref CP) (.ref CP) = some true)
    (enp : PySem.W.exmOne K (.ref CN) (.ref CP) = some false)
    (erp : PySem.W.exmOne K (.ref CR) (.ref CP) = some false)
    (ehp : PySem.W.exmOne K (.ref CH) (.ref CP) = some false)
    (enn : PySem.W.exmOne K (.ref CN) (.ref CN) = some true)
    (ern : PySem.W.exmOne K (.ref CR) (.ref CN) = some false)
    (ehn : PySem.W.exmOne K (.ref CH) (.ref CN) = some false)
    (err : PySem.W.exmOne K (.ref CR) (.ref CR) = some true)
    (ehr : PySem.W.exmOne K (.ref CH) (.ref CR) = some false)
    (ehh : PySem.W.exmOne K (.ref CH) (.ref CH) = some true)
    {fr : Addr} {oc kV doc pm ct : Value} {od an : Option Addr} {sl : Array (Option Value)} (ar : PySem.W.nsIn K mainGlobals "law" = some (some (.ref fr)))
    (lr : K.lookup fr = some ⟨oc, od, .func (PySem.W.fnOf "law" "law" (defArgs s_law) (defBody s_law) (defScope s_law) .none kV doc pm an (.ref c) ct), sl⟩) (cr : PySem.W.codeIn K (.ref c) "law" = true) (kr : PySem.W.keepIn K (.ref fr) = true)
    (ht : h.get? tab = some { cls := .none, data := .fields #[] }) (kt : K.lookup tab = none) (hc : PySem.W.codeHdIn K c tab = true) : Ready l w K 11 "script" mg fa h := by
  obtain ⟨f_is_row, d_is_row, F_is_row⟩ := F_is_row
  obtain ⟨f_is_integer, d_is_integer, F_is_integer⟩ := F_is_integer
  obtain ⟨f_is_number, d_is_number, F_is_number⟩ := F_is_number
  obtain ⟨f_is_numbers, d_is_numbers, F_is_numbers⟩ := F_is_numbers
  obtain ⟨f_numf, d_numf, F_numf⟩ := F_numf
  obtain ⟨f_is_paper, d_is_paper, F_is_paper⟩ := F_is_paper
  obtain ⟨f_need_paper, d_need_paper, F_need_paper⟩ := F_need_paper
  obtain ⟨f_told_of, d_told_of, F_told_of⟩ := F_told_of
  obtain ⟨f_told_below, d_told_below, F_told_below⟩ := F_told_below
  obtain ⟨f_comes, d_comes, F_comes⟩ := F_comes
  obtain ⟨f_lper, d_lper, F_lper⟩ := F_lper
  obtain ⟨f_least, d_least, F_least⟩ := F_least
  obtain ⟨f_part, d_part, F_part⟩ := F_part
  obtain ⟨f_a_told, d_a_told, F_a_told⟩ := F_a_told
  obtain ⟨f_c_paper, d_c_paper, F_c_paper⟩ := F_c_paper
  obtain ⟨f_c_odd, d_c_odd, F_c_odd⟩ := F_c_odd
  obtain ⟨f_c_met, d_c_met, F_c_met⟩ := F_c_met
  obtain ⟨f_start, d_start, F_start⟩ := F_start
  obtain ⟨f_draw, d_draw, F_draw⟩ := F_draw
  obtain ⟨f_pick, d_pick, F_pick⟩ := F_pick
  obtain ⟨f_same, d_same, F_same⟩ := F_same
  obtain ⟨f_loose, d_loose, F_loose⟩ := F_loose
  obtain ⟨f_lled, d_lled, F_lled⟩ := F_lled
  obtain ⟨f_lleast, d_lleast, F_lleast⟩ := F_lleast
  obtain ⟨f_isf, d_isf, F_isf⟩ := F_isf
  obtain ⟨f_lpart, d_lpart, F_lpart⟩ := F_lpart
  obtain ⟨f_right, d_right, F_right⟩ := F_right
  obtain ⟨d_B, IB⟩ := IB
  have bB : Binds K d_B ["self", "thing"] [] := IB.binds fun _ _ _ _ _ _ us hl => match us, hl with | [_, _], _ => rfl
  obtain ⟨d_H, IH⟩ := IH
  have bH : Binds K d_H ["self", "thing"] [] := IH.binds fun _ _ _ _ _ _ us hl => match us, hl with | [_, _], _ => rfl
  obtain ⟨d_N, IN⟩ := IN
  have bN : Binds K d_N ["self", "thing"] [] := IN.binds fun _ _ _ _ _ _ us hl => match us, hl with | [_, _], _ => rfl
  obtain ⟨d_P, IP⟩ := IP
  have bP : Binds K d_P ["self", "thing"] [] := IP.binds fun _ _ _ _ _ _ us hl => match us, hl with | [_, _], _ => rfl
  obtain ⟨d_R, IR⟩ := IR
  have bR : Binds K d_R ["self", "thing"] [] := IR.binds fun _ _ _ _ _ _ us hl => match us, hl with | [_, _], _ => rfl
  have M : Errs K mg CB CP CN CR CH CG gB gP gN gR gH := ⟨XB, XP, XN, XR, XH, gG, epb, enb, erb, ehb, epp, enp, erp, ehp, enn, ern, ehn, err, ehr, ehh⟩
  have e := hfa.symm.trans (PySem.W.mg_of X G ar)
  cases e
  refine ⟨PySem.W.fnOf "law" "law" (defArgs s_law) (defBody s_law) (defScope s_law) .none kV doc pm an (.ref c) ct, c, tab, ht, kt, PySem.W.codeHd_of_K X hc, fun s u => .of_eq rfl, fun base KB NB TB => ?_⟩
  have G_row := ok_is_row (P := l.prog) (w := w) (base := base) F_is_row T
  have G_num := ok_is_number (P := l.prog) (w := w) (base := base) F_is_number F_is_integer T
  have G_nums := ok_is_numbers (P := l.prog) (w := w) (base := base) F_is_numbers F_is_row F_is_number F_is_integer F_numf T z_enumerate
  have G_ip := ok_is_paper F_is_paper F_is_row F_is_number F_is_numbers G_row G_num G_nums T
  have J_P := ok_ini (P := l.prog) (w := w) (base := base) 5 (by decide) IP XP
  have G_np := ok_need_paper F_need_paper F_is_paper G_ip XP J_P bP
  have G_tb := ok_told_below (P := l.prog) (w := w) (base := base) F_told_below F_told_of T
  have G_comes := ok_comes (P := l.prog) (w := w) (base := base) F_comes F_told_of T
  have G_lper := ok_lper F_lper F_comes G_comes T
  have G_least := ok_least F_least F_need_paper G_np F_lper G_lper F_told_of F_told_below G_tb T
  have G_part := ok_part F_part F_need_paper G_np F_told_of T hmax
  have G_draw := ok_draw (P := l.prog) (w := w) (base := base) F_draw T
  have G_start := ok_start (P := l.prog) (w := w) (base := base) F_start T
  have G_paper := ok_c_paper (P := l.prog) (w := w) (base := base) F_c_paper F_draw T
  have G_odd := ok_c_odd (P := l.prog) (w := w) (base := base) F_c_odd
  have G_same := ok_same (P := l.prog) (w := w) (base := base) F_same T 6
  have G_loose := ok_loose (P := l.prog) (w := w) (base := base) F_loose F_draw T 3
  have G_pick := ok_pick (P := l.prog) (w := w) (base := base) F_pick F_draw T
  have G_lled := ok_law_led (P := l.prog) (w := w) (base := base) F_lled F_draw F_a_told T
  have G_lleast := ok_lleast (P := l.prog) (w := w) (base := base) F_lleast F_a_told F_isf T
  have G_lpart := ok_lpart (P := l.prog) (w := w) (base := base) F_lpart F_a_told T hmax
  have G_right := ok_right F_right F_lleast G_lleast F_lled G_lled F_loose G_loose F_least G_least F_same G_same F_c_paper G_paper F_pick G_pick F_draw G_draw F_part G_part F_lpart G_lpart T
  exact ok_law lr cr M TB F_start G_start F_c_paper G_paper F_right G_right F_c_odd G_odd F_c_met F_least G_least F_part G_part F_same G_same T
end
end Ts


set_option Elab.async false
open PySem PySem.W PyProof.Rows in
set_option maxRecDepth 100000 in
set_option maxHeartbeats 0 in
theorem PySem.Challenge.cw_takeandsplit_k19_whole_least_papers_holds : PySem.Challenge.rw_takeandsplit_k19_whole_least_papers.Holds := by
  w_on; o_law; k_head; (case hw => w_witness2)
  k_fill
  refine Ts.walk_tab (l := PySem.Challenge.rw_takeandsplit_k19_whole_least_papers) (n := 63) (k := 11) (x := "script") rfl (by decide) rfl ⟨rfl, by decide, by decide⟩ (fun w h Y => PySem.W.km_in_of Y) ?F
  case F =>
    intro w mg fa h Y KX G hmg
    refine' Ts.ready (tab := 307) KX G hmg ?T ?hmax ?F_is_row ?F_is_integer ?F_is_number ?F_is_numbers ?F_numf ?z_enumerate ?F_is_paper ?F_need_paper ?F_told_of ?F_told_below ?F_comes ?F_lper ?F_least ?F_part ?F_a_told ?F_c_paper ?F_c_odd ?F_c_met ?F_start ?F_draw ?F_pick ?F_same ?F_loose ?F_lled ?F_lleast ?F_isf ?F_lpart ?F_right ?XB ?IB ?XH ?IH ?XN ?IN ?XP ?IP ?XR ?IR ?gG ?epb ?enb ?erb ?ehb ?epp ?enp ?erp ?ehp ?enn ?ern ?ehn ?err ?ehr ?ehh ?z_ar ?z_lr ?z_cr ?z_kr ?z_ht ?z_kt ?z_hc
    case T =>
      refine' ⟨PySem.W.mg_none_of KX G ?b0, PySem.W.mg_none_of KX G ?b1, PySem.W.mg_none_of KX G ?b2, PySem.W.mg_none_of KX G ?b3, PySem.W.mg_none_of KX G ?b4, PySem.W.mg_none_of KX G ?b5, PySem.W.mg_none_of KX G ?b6, PySem.W.mg_none_of KX G ?b7, PySem.W.mg_none_of KX G ?b8, PySem.W.mg_none_of KX G ?b9, PySem.W.mg_none_of KX G ?b10, PySem.W.mg_none_of KX G ?b11⟩
      (case b0 => k_is); (case b1 => k_is); (case b2 => k_is); (case b3 => k_is); (case b4 => k_is); (case b5 => k_is); (case b6 => k_is); (case b7 => k_is); (case b8 => k_is); (case b9 => k_is); (case b10 => k_is); (case b11 => k_is)
    case hmax =>
      refine' PySem.W.mg_none_of KX G ?a
      (case a => k_is)
    case F_is_row =>
      refine' Ts.fd_mk KX G ?a ?l ?c ?k
      (case a => k_is); (case l => k_is); (case c => k_is); (case k => k_is)
    case F_is_integer =>
      refine' Ts.fd_mk KX G ?a ?l ?c ?k
      (case a => k_is); (case l => k_is); (case c => k_is); (case k => k_is)
    case F_is_number =>
      refine' Ts.fd_mk KX G ?a ?l ?c ?k
      (case a => k_is); (case l => k_is); (case c => k_is); (case k => k_is)
    case F_is_numbers =>
      refine' Ts.fd_mk KX G ?a ?l ?c ?k
      (case a => k_is); (case l => k_is); (case c => k_is); (case k => k_is)
    case F_numf =>
      refine' Ts.fd_mk KX G ?a ?l ?c ?k
      (case a => k_is); (case l => k_is); (case c => k_is); (case k => k_is)
    case z_enumerate =>
      refine' PySem.W.mg_none_of KX G ?a
      (case a => k_is)
    case F_is_paper =>
      refine' Ts.fd_mk KX G ?a ?l ?c ?k
      (case a => k_is); (case l => k_is); (case c => k_is); (case k => k_is)
    case F_need_paper =>
      refine' Ts.fd_mk KX G ?a ?l ?c ?k
      (case a => k_is); (case l => k_is); (case c => k_is); (case k => k_is)
    case F_told_of =>
      refine' Ts.fd_mk KX G ?a ?l ?c ?k
      (case a => k_is); (case l => k_is); (case c => k_is); (case k => k_is)
    case F_told_below =>
      refine' Ts.fd_mk KX G ?a ?l ?c ?k
      (case a => k_is); (case l => k_is); (case c => k_is); (case k => k_is)
    case F_comes =>
      refine' Ts.fd_mk KX G ?a ?l ?c ?k
      (case a => k_is); (case l => k_is); (case c => k_is); (case k => k_is)
    case F_lper =>
      refine' Ts.fd_mk KX G ?a ?l ?c ?k
      (case a => k_is); (case l => k_is); (case c => k_is); (case k => k_is)
    case F_least =>
      refine' Ts.fd_mk KX G ?a ?l ?c ?k
      (case a => k_is); (case l => k_is); (case c => k_is); (case k => k_is)
    case F_part =>
      refine' Ts.fd_mk KX G ?a ?l ?c ?k
      (case a => k_is); (case l => k_is); (case c => k_is); (case k => k_is)
    case F_a_told =>
      refine' Ts.fd_mk KX G ?a ?l ?c ?k
      (case a => k_is); (case l => k_is); (case c => k_is); (case k => k_is)
    case F_c_paper =>
      refine' Ts.fd_mk KX G ?a ?l ?c ?k
      (case a => k_is); (case l => k_is); (case c => k_is); (case k => k_is)
    case F_c_odd =>
      refine' Ts.fd_mk KX G ?a ?l ?c ?k
      (case a => k_is); (case l => k_is); (case c => k_is); (case k => k_is)
    case F_c_met =>
      refine' Ts.fd_mk KX G ?a ?l ?c ?k
      (case a => k_is); (case l => k_is); (case c => k_is); (case k => k_is)
    case F_start =>
      refine' Ts.fd_mk KX G ?a ?l ?c ?k
      (case a => k_is); (case l => k_is); (case c => k_is); (case k => k_is)
    case F_draw =>
      refine' Ts.fd_mk KX G ?a ?l ?c ?k
      (case a => k_is); (case l => k_is); (case c => k_is); (case k => k_is)
    case F_pick =>
      refine' Ts.fd_mk KX G ?a ?l ?c ?k
      (case a => k_is); (case l => k_is); (case c => k_is); (case k => k_is)
    case F_same =>
      refine' Ts.fd_mk KX G ?a ?l ?c ?k
      (case a => k_is); (case l => k_is); (case c => k_is); (case k => k_is)
    case F_loose =>
      refine' Ts.fd_mk KX G ?a ?l ?c ?k
      (case a => k_is); (case l => k_is); (case c => k_is); (case k => k_is)
    case F_lled =>
      refine' Ts.fd_mk KX G ?a ?l ?c ?k
      (case a => k_is); (case l => k_is); (case c => k_is); (case k => k_is)
    case F_lleast =>
      refine' Ts.fd_mk KX G ?a ?l ?c ?k
      (case a => k_is); (case l => k_is); (case c => k_is); (case k => k_is)
    case F_isf =>
      refine' Ts.fd_mk KX G ?a ?l ?c ?k
      (case a => k_is); (case l => k_is); (case c => k_is); (case k => k_is)
    case F_lpart =>
      refine' Ts.fd_mk KX G ?a ?l ?c ?k
      (case a => k_is); (case l => k_is); (case c => k_is); (case k => k_is)
    case F_right =>
      refine' Ts.fd_mk KX G ?a ?l ?c ?k
      (case a => k_is); (case l => k_is); (case c => k_is); (case k => k_is)
    case XB =>
      refine' Ts.xc_mk KX G ?a ?l ?rv ?sa ?eC ?tC ?kC ?iC ?tI ?nF ?ga ?gg ?hC
      (case a => k_is); (case l => k_is); (case rv => decide +kernel); (case sa => k_is); (case eC => k_is); (case tC => k_is); (case kC => k_is)
      (case iC => k_is); (case tI => k_is); (case nF => k_is); (case ga => k_is); (case gg => k_is); (case hC => k_is)
    case IB =>
      refine' Ts.bi_mk ?l ?c ?k
      (case l => k_is); (case c => k_is); (case k => k_is)
    case XH =>
      refine' Ts.xc_mk KX G ?a ?l ?rv ?sa ?eC ?tC ?kC ?iC ?tI ?nF ?ga ?gg ?hC
      (case a => k_is); (case l => k_is); (case rv => decide +kernel); (case sa => k_is); (case eC => k_is); (case tC => k_is); (case kC => k_is)
      (case iC => k_is); (case tI => k_is); (case nF => k_is); (case ga => k_is); (case gg => k_is); (case hC => k_is)
    case IH =>
      refine' Ts.bi_mk ?l ?c ?k
      (case l => k_is); (case c => k_is); (case k => k_is)
    case XN =>
      refine' Ts.xc_mk KX G ?a ?l ?rv ?sa ?eC ?tC ?kC ?iC ?tI ?nF ?ga ?gg ?hC
      (case a => k_is); (case l => k_is); (case rv => decide +kernel); (case sa => k_is); (case eC => k_is); (case tC => k_is); (case kC => k_is)
      (case iC => k_is); (case tI => k_is); (case nF => k_is); (case ga => k_is); (case gg => k_is); (case hC => k_is)
    case IN =>
      refine' Ts.bi_mk ?l ?c ?k
      (case l => k_is); (case c => k_is); (case k => k_is)
    case XP =>
      refine' Ts.xc_mk KX G ?a ?l ?rv ?sa ?eC ?tC ?kC ?iC ?tI ?nF ?ga ?gg ?hC
      (case a => k_is); (case l => k_is); (case rv => decide +kernel); (case sa => k_is); (case eC => k_is); (case tC => k_is); (case kC => k_is)
      (case iC => k_is); (case tI => k_is); (case nF => k_is); (case ga => k_is); (case gg => k_is); (case hC => k_is)
    case IP =>
      refine' Ts.bi_mk ?l ?c ?k
      (case l => k_is); (case c => k_is); (case k => k_is)
    case XR =>
      refine' Ts.xc_mk KX G ?a ?l ?rv ?sa ?eC ?tC ?kC ?iC ?tI ?nF ?ga ?gg ?hC
      (case a => k_is); (case l => k_is); (case rv => decide +kernel); (case sa => k_is); (case eC => k_is); (case tC => k_is); (case kC => k_is)
      (case iC => k_is); (case tI => k_is); (case nF => k_is); (case ga => k_is); (case gg => k_is); (case hC => k_is)
    case IR =>
      refine' Ts.bi_mk ?l ?c ?k
      (case l => k_is); (case c => k_is); (case k => k_is)
    case gG =>
      refine' PySem.W.mg_of KX G ?a
      (case a => k_is)
    case epb =>
      refine' Ts.exm_mk ?h1 ?h2 ?h3 ?h4
      (case h1 => k_is); (case h2 => k_is); (case h3 => k_is); (case h4 => first | rfl | k_is)
    case enb =>
      refine' Ts.exm_mk ?h1 ?h2 ?h3 ?h4
      (case h1 => k_is); (case h2 => k_is); (case h3 => k_is); (case h4 => first | rfl | k_is)
    case erb =>
      refine' Ts.exm_mk ?h1 ?h2 ?h3 ?h4
      (case h1 => k_is); (case h2 => k_is); (case h3 => k_is); (case h4 => first | rfl | k_is)
    case ehb =>
      refine' Ts.exm_mk ?h1 ?h2 ?h3 ?h4
      (case h1 => k_is); (case h2 => k_is); (case h3 => k_is); (case h4 => first | rfl | k_is)
    case epp =>
      refine' Ts.exm_mk ?h1 ?h2 ?h3 ?h4
      (case h1 => k_is); (case h2 => k_is); (case h3 => k_is); (case h4 => first | rfl | k_is)
    case enp =>
      refine' Ts.exm_mk ?h1 ?h2 ?h3 ?h4
      (case h1 => k_is); (case h2 => k_is); (case h3 => k_is); (case h4 => first | rfl | k_is)
    case erp =>
      refine' Ts.exm_mk ?h1 ?h2 ?h3 ?h4
      (case h1 => k_is); (case h2 => k_is); (case h3 => k_is); (case h4 => first | rfl | k_is)
    case ehp =>
      refine' Ts.exm_mk ?h1 ?h2 ?h3 ?h4
      (case h1 => k_is); (case h2 => k_is); (case h3 => k_is); (case h4 => first | rfl | k_is)
    case enn =>
      refine' Ts.exm_mk ?h1 ?h2 ?h3 ?h4
      (case h1 => k_is); (case h2 => k_is); (case h3 => k_is); (case h4 => first | rfl | k_is)
    case ern =>
      refine' Ts.exm_mk ?h1 ?h2 ?h3 ?h4
      (case h1 => k_is); (case h2 => k_is); (case h3 => k_is); (case h4 => first | rfl | k_is)
    case ehn =>
      refine' Ts.exm_mk ?h1 ?h2 ?h3 ?h4
      (case h1 => k_is); (case h2 => k_is); (case h3 => k_is); (case h4 => first | rfl | k_is)
    case err =>
      refine' Ts.exm_mk ?h1 ?h2 ?h3 ?h4
      (case h1 => k_is); (case h2 => k_is); (case h3 => k_is); (case h4 => first | rfl | k_is)
    case ehr =>
      refine' Ts.exm_mk ?h1 ?h2 ?h3 ?h4
      (case h1 => k_is); (case h2 => k_is); (case h3 => k_is); (case h4 => first | rfl | k_is)
    case ehh =>
      refine' Ts.exm_mk ?h1 ?h2 ?h3 ?h4
      (case h1 => k_is); (case h2 => k_is); (case h3 => k_is); (case h4 => first | rfl | k_is)
    case z_ar =>
      k_is
    case z_lr =>
      k_is
    case z_cr =>
      k_is
    case z_kr =>
      k_is
    case z_ht =>
      exact PySem.W.km_tabs_of Y 307 (by k_mem)
    case z_kt =>
      kernel_rfl
    case z_hc =>
      kernel_rfl

