import PyProof.Rows.All
import Wide.All
import OpenK.AllK
import Wide.FinOn
import PyProof.EqAt
import PyProof.EqKinds
import PyProof.TupleCall
import PyProof.DictTable
import Open.SpecLaws
import KE.OsGo
import HandS.ForSpec
import HandS.TryMany
import HandS.Comp
import HandS.Iter
import HandS.Wide
import HandS.More
import HandS.Evl
import HandS.Walk
import PyWideLaws
import KE.BitLaws
import PySem.Challenge.RW_deterrence_s01_answers
set_option Elab.async false
set_option linter.all false
set_option maxRecDepth 100000
set_option maxHeartbeats 2000000
namespace Dt
open PySem PySem.Spec PyProof.Rows L2

/-! ### a def known by its name -/
structure Has (P : Program) (w : World) (K : PySem.W.Frag) (mg : Str → Option Value) (base : Heap) (CX : CXT) (k : Nat) (x : Str) (ps : List Str) (sp : Sp) : Prop where
  ex : ∃ f fd, mg x = some (.ref f) ∧ PySem.W.keepIn K (.ref f) = true ∧ Binds K fd ps [] ∧ FnOk P w K mg base CX k f fd ps sp
theorem Has.mono {P : Program} {w : World} {K : PySem.W.Frag} {mg : Str → Option Value} {base : Heap} {CX : CXT} {j k : Nat} {x : Str} {ps : List Str} {sp : Sp} (h : Has P w K mg base CX j x ps sp) (e : j ≤ k) : Has P w K mg base CX k x ps sp := by
  obtain ⟨f, fd, a, b, c, F⟩ := h.ex
  exact ⟨f, fd, a, b, c, F.mono e⟩
section
variable {X : Cx} {CX : CXT} {k j : Nat} {x : Str} {ps : List Str} {sp : Sp} {E : XK} {p pos : Pos} {e : Expr} {es : List Expr} {t : TA}
def tCallH (sp : Sp) (E : XK) (t : TA) : TE := fun σ H Q => t σ H fun vs H1 => sp vs H1 Q E
theorem pe_h (F : Has X.prog X.w X.K X.mg X.base CX k x ps sp) (hr : Room j X.A) (hk : k ≤ j) (hx : Passes CX X E) (ha : PA X (e :: es) t) (hg : Gl X x := by rfl)
    (hdb : (x == ("__debug__" : Str)) = false := by decide) (he : starEach (e :: es) X.env = (false, eval e X.env) :: starEach es X.env := by rfl) (hpl : (backTo pos (starEach es X.env)).any (·.1) = false := by rfl) :
    PE X (.Call (.Name x p) (e :: es) [] pos) (tCallH sp E t) := by
  obtain ⟨f, fd, hm, kp, hb, F⟩ := F.ex
  have q := pe_call F (hr.mono hk) hg hm kp hb .nil hx ha hdb he hpl (p := p)
  have e0 : tCall sp [] E t = tCallH sp E t := by
    funext σ H Q
    show t σ H (fun vs H1 => sp (vs ++ []) H1 Q E) = t σ H (fun vs H1 => sp vs H1 Q E)
    refine congrArg (t σ H) ?_
    funext vs H1
    rw [List.append_nil]
  rw [← e0]
  exact q
theorem pe_h0 (F : Has X.prog X.w X.K X.mg X.base CX k x ps sp) (hr : Room j X.A) (hk : k ≤ j) (hx : Passes CX X E) (hg : Gl X x := by rfl)
    (hdb : (x == ("__debug__" : Str)) = false := by decide) : PE X (.Call (.Name x p) [] [] pos) (tCallH sp E tNil) := by
  obtain ⟨f, fd, hm, kp, hb, F⟩ := F.ex
  have q := pe_call0 F (hr.mono hk) hg hm kp hb .nil hx hdb (p := p) (pos := pos)
  have e0 : tCall sp [] E tNil = tCallH sp E tNil := by
    funext σ H Q
    show tNil σ H (fun vs H1 => sp (vs ++ []) H1 Q E) = tNil σ H (fun vs H1 => sp vs H1 Q E)
    refine congrArg (tNil σ H) ?_
    funext vs H1
    rw [List.append_nil]
  rw [← e0]
  exact q
/-- what a raising callee lets out of a def that lets the same out -/
theorem passU {X : Cx} {E : XK} (tk : Takes X (fun cls d _ H => E cls d H)) : Passes (L2.CX X.prog X.w) X E := passes_call tk (fun _ _ _ _ h => h)

/-! ### a call of what an expression gives: one of several defs -/
structure HeldX (P : Program) (w : World) (K : PySem.W.Frag) (mg : Str → Option Value) (base : Heap) (CX : CXT) (k : Nat) (f : Addr) (sp : Sp) : Prop where
  ex : ∃ (fd : FuncData) (ps : List Str), FnOk P w K mg base CX k f fd ps sp ∧ PySem.W.keepIn K (.ref f) = true ∧ Binds K fd ps []
theorem Has.held {P : Program} {w : World} {K : PySem.W.Frag} {mg : Str → Option Value} {base : Heap} {x : Str} {f : Addr} (h : Has P w K mg base CX k x ps sp) (e : mg x = some (.ref f)) : HeldX P w K mg base CX k f sp := by
  obtain ⟨f', fd, a, b, c, F⟩ := h.ex
  rw [a] at e
  cases e
  exact ⟨fd, ps, F, b, c⟩
def tCallX (Sx : Addr → Sp → Prop) (E : XK) (tf : TE) (t : TA) : TE := fun σ H Q => tf σ H fun y H1 => ∃ f sp, y = V.ref f ∧ Sx f sp ∧ t σ H1 fun vs H2 => sp vs H2 Q E
theorem pe_callX {Sx : Addr → Sp → Prop} {fe : Expr} {tf : TE} (hf : PE X fe tf) (A : ∀ f sp, Sx f sp → HeldX X.prog X.w X.K X.mg X.base CX k f sp) (hr : Room j X.A) (hk : k ≤ j) (hx : Passes CX X E) (ha : PA X (e :: es) t)
    (ht : eval (.Call fe (e :: es) [] pos) X.env = (do callWith pos (← eval fe X.env) [] (backTo pos (starEach (e :: es) X.env)) (backToKw pos (keywordEach [] X.env))) := by rfl)
    (he : starEach (e :: es) X.env = (false, eval e X.env) :: starEach es X.env := by rfl) (hpl : (backTo pos (starEach es X.env)).any (·.1) = false := by rfl) : PE X (.Call fe (e :: es) [] pos) (tCallX Sx E tf t) := by
  refine ⟨fun pins s σ H Q I h => ?_⟩
  refine Call_ (thn (hf.run pins s σ H _ I h) fun u s1 ⟨y, H1, I1, ry, f, sp, ey, hS, q⟩ => ?_) ht
  subst ey
  obtain rfl : u = Value.ref f := ry
  obtain ⟨fd, ps, F, hk2, hb⟩ := (A f sp hS).ex
  refine PySem.W.callWith_K (h₀ := X.base) I.ok.mod.kin hk2 (thn (ha.run pos pins s1 σ H1 _ I1 q) fun us s2 ⟨vs, H2, I2, r, q2⟩ => ⟨I2.kIn, ?_⟩) he hpl
  refine run_fn (dvs := []) F (hr.mono hk) hb .nil hx I2 r ?_
  rw [List.append_nil]
  exact q2
end

/-! ### d[k] of a written dict whose keys are whole numbers -/
def KeysInt : List DictEntry → Prop
  | [] => True
  | e :: r => (∃ x t, e.key = .int x t ∧ e.hash = hashInt x) ∧ KeysInt r
theorem KeysInt.all : ∀ {l : List DictEntry}, KeysInt l → ∀ e ∈ l, ∃ x t, e.key = .int x t ∧ e.hash = hashInt x
  | _ :: _, ⟨h, _⟩, _, .head _ => h
  | _ :: _, ⟨_, r⟩, _, .tail _ m => r.all _ m
def KDi (K : PySem.W.Frag) (a : Addr) (i : Int) (v : V) : Prop :=
  ∃ es n u, K.lookup a = some ⟨.type "dict", none, .dict es n, #[]⟩ ∧ KeysInt es.toList ∧ findBy Value.isInt es i = some u ∧ RelV v u
def rIxDi (K : PySem.W.Frag) : R2 := fun x y H Q => ∃ p z v, x = .ref p ∧ y = .int z ∧ KDi K p z v ∧ Q v H
theorem mapOf_Ki {prog : Program} {w : World} {K : PySem.W.Frag} {h : Heap} {a : Addr} {es : Array DictEntry} {n : Nat} (X : K.In h) (hl : K.lookup a = some ⟨.type "dict", none, .dict es n, #[]⟩) (hk : KeysInt es.toList) : h.MapOf (intKind prog w) a (fun k => findBy Value.isInt es k) :=
  ⟨_, es, n, X _ _ hl, ⟨rfl, rfl, rfl⟩, rfl, fun e he => by
    obtain ⟨x, t, e1, e2⟩ := hk.all e (Array.mem_toList_iff.mpr he)
    refine ⟨x, ?_, e2⟩
    rw [e1]
    show (x == x) = true
    exact beq_self_eq_true x, fun _ => rfl⟩
theorem ix_kdi {X : Cx} : IxR X (rIxDi X.K) := by
  intro value slice pins s σ H x y v u Q I rx ry h hs
  obtain ⟨p, z, r, rfl, rfl, ⟨es, n, u0, hl, hk, e, ru⟩, q⟩ := h
  obtain rfl : v = Value.ref p := rx
  obtain ⟨t, rfl⟩ := (show ∃ t, u = Value.int z t from ry)
  have hm := mapOf_Ki (prog := X.prog) (w := X.w) I.kIn hl hk
  exact tail_any hm.typeIs slot_dict_getitem.lookup (wpAny_getItem_of (k := z) (show (z == z) = true from beq_self_eq_true z) hm e ⟨r, H, I.tok _, ru, q⟩) hs

/-! ### raise X(), X an own class of errors without __init__ -/
theorem pmk_own0 {X : Cx} {C : Addr} {bmB : List Value} {B newId initId : String} {x : Str} {p pos : Pos} (F : ExcBaseFacts B newId initId bmB) (q : PySem.W.excIn X.K C bmB newId = true) (gC : X.mg x = some (.ref C)) (kC : PySem.W.keepIn X.K (.ref C) = true) (r : Raises X (.ref C)) (hg : Gl X x)
    (hdb : (x == ("__debug__" : Str)) = false := by decide) : PMk X (.Call (.Name x p) [] [] pos) (fun _ H Q => Q (.ref C) none H) := by
  intro pins s σ H Q I h
  refine wpAny_Call_Name_kw (ld_glob I hg gC ?_ hdb)
  refine PySem.W.callWith_K0 I.kIn kC ?_
  show wpAny _ _ (call (.ref C) []) _ _ _
  obtain ⟨bm, N, nm, qn, bs, hdct, sn, sub, ab, col, dd, k0, k1, k2, k3, k5, mN, hC, hN, hni, T⟩ := exc_obj I.kIn q
  refine wpAny_call_exc_subT F T hC hN hni (fun h' e hm => ?_) (by show 0 ≤ sizeLine; exact Nat.zero_le _)
  exact mk_of I hm r h (I.hok.gone hm.new)
end Dt

set_option Elab.async false
set_option linter.all false
set_option maxRecDepth 100000
set_option maxHeartbeats 2000000
namespace Dt
open PySem PySem.Spec PyProof.Rows L2 Evl

/-! ### sizes of whole numbers -/
def Bd (n : Nat) (i : Int) : Prop := i.natAbs < 2 ^ n
theorem Bd.mono {m n : Nat} {i : Int} (h : Bd m i) (e : m ≤ n) : Bd n i := Nat.lt_of_lt_of_le h (Nat.pow_le_pow_right (by decide) e)
theorem bd_mul {a b : Nat} {i j : Int} (h : Bd a i) (k : Bd b j) : Bd (a + b) (i * j) := by
  show (i * j).natAbs < 2 ^ (a + b)
  rw [Int.natAbs_mul, Nat.pow_add]
  by_cases hj : j.natAbs = 0
  · rw [hj, Nat.mul_zero]
    exact Nat.mul_pos (Nat.two_pow_pos a) (Nat.two_pow_pos b)
  · exact Nat.mul_lt_mul_of_lt_of_le h (Nat.le_of_lt k) (Nat.two_pow_pos b)
theorem bd_add {a b : Nat} {i j : Int} (h : Bd a i) (k : Bd b j) : Bd (a + b + 1) (i + j) := by
  have h1 := h.mono (Nat.le_add_right a b)
  have h2 := k.mono (Nat.le_add_left b a)
  show (i + j).natAbs < 2 ^ (a + b + 1)
  rw [Nat.pow_succ]
  have h1' : i.natAbs < 2 ^ (a + b) := h1
  have h2' : j.natAbs < 2 ^ (a + b) := h2
  omega
theorem bd_sub {a b : Nat} {i j : Int} (h : Bd a i) (k : Bd b j) : Bd (a + b + 1) (i - j) := by
  have h1 := h.mono (Nat.le_add_right a b)
  have h2 := k.mono (Nat.le_add_left b a)
  show (i - j).natAbs < 2 ^ (a + b + 1)
  rw [Nat.pow_succ]
  have h1' : i.natAbs < 2 ^ (a + b) := h1
  have h2' : j.natAbs < 2 ^ (a + b) := h2
  omega
theorem bd_neg {a : Nat} {i : Int} (h : Bd a i) : Bd a (-i) := by
  show (-i).natAbs < 2 ^ a
  rw [Int.natAbs_neg]
  exact h
theorem bd_of {n : Nat} {i : Int} (h0 : 0 ≤ i) (h : i < 2 ^ n) : Bd n i := by
  show i.natAbs < 2 ^ n
  have : (i.natAbs : Int) = i := by omega
  have e : ((2 ^ n : Nat) : Int) = 2 ^ n := by simp
  omega
theorem log2_lt {n a : Nat} (h : n < 2 ^ a) (h0 : 0 < a) : n.log2 < a := PySem.Flt.log2_lt_of h0 h
theorem bd_cmul {a b : Nat} {i j : Int} (h : Bd a i) (k : Bd b j) (e : a + b + 2 ≤ 1000000 := by decide) : CMulW i j := by
  have h1 := log2_lt (h.mono (Nat.le_succ a)) (Nat.succ_pos a)
  have h2 := log2_lt (k.mono (Nat.le_succ b)) (Nat.succ_pos b)
  show i.natAbs.log2 + j.natAbs.log2 < 1000000
  omega
theorem bd_cdiv {b : Nat} {i j : Int} (h : 0 < j) (k : Bd b j) (e : b + 1 ≤ 9000 := by decide) : CDivW i j :=
  ⟨h, Nat.lt_of_lt_of_le (log2_lt (k.mono (Nat.le_succ b)) (Nat.succ_pos b)) e⟩

/-! ### further evaluations -/
section
variable {K : PySem.W.Frag} {σ : L2.St} {H H' : Hp} {ta tb te tx : TE} {t u : TT} {x y z v : V} {r : R2} {a C dx : Addr} {fs : List (Str × V)} {f : Str}
theorem ev_fld (h : Ev ta σ H (.ref a)) (ho : H a = some (.ins C dx fs)) (hc : Cls K C) (hn : NoAttr K C f) (hl : fs.lookup f = some v) : Ev (tFld K ta f) σ H v := fun H1 e Q q =>
  h H1 e _ fun H2 e2 => ⟨a, C, dx, fs, v, rfl, (e.trans e2) a _ ho, hc, hn, hl, q H2 e2⟩
theorem ev_sum {p : Addr} {ns : List Int} (h : Ev ta σ H (.ref p)) (hs : SqL K H p (ns.map V.int)) : Ev (tCB (rSum K) (tCons ta tNil)) σ H (.int ns.sum) := fun H1 e Q q =>
  h H1 e _ fun H2 e2 => ⟨p, ns, rfl, ex_l (e.trans e2) hs, q H2 e2⟩
theorem ev_sumN {ns : List Int} (h : EvL ta σ H (ns.map V.int)) : Ev (tCB (rSum K) (tCons ta tNil)) σ H (.int ns.sum) := fun H1 e Q q =>
  h H1 e _ fun p H2 _ e2 hp => ⟨p, ns, rfl, sq_of hp, q H2 e2⟩
theorem ev_maxL {p : Addr} {ns : List Int} {m : Int} (h : Ev ta σ H (.ref p)) (hs : SqL K H p (ns.map V.int)) (hm : m ∈ ns) (hx : ∀ y, y ∈ ns → y ≤ m) : Ev (tCB (rMax K) (tCons ta tNil)) σ H (.int m) := fun H1 e Q q =>
  h H1 e _ fun H2 e2 => ⟨p, ns, rfl, ex_l (e.trans e2) hs, List.length_pos_of_mem hm, fun m' h1 h2 => by
    have : m' = m := Int.le_antisymm (hx m' h1) (h2 m hm)
    rw [this]
    exact q H2 e2⟩
theorem ev_abs {i : Int} (h : Ev ta σ H (.int i)) : Ev (tCB (fun xs H Q => ∃ i, xs = [V.int i] ∧ Q (.int (if i < 0 then -i else i)) H) (tCons ta tNil)) σ H (.int (if i < 0 then -i else i)) := fun H1 e Q q =>
  h H1 e _ fun H2 e2 => ⟨i, rfl, q H2 e2⟩
theorem el_cat {xs ys : List V} (ha : EvL ta σ H xs) (hb : EvL tb σ H ys) (hl : xs.length + ys.length ≤ 100000) : EvL (tOp rCat ta tb) σ H (xs ++ ys) := fun H1 e Q k =>
  ha H1 e _ fun p H2 hp0 e2 hp => hb H2 (e.trans e2) _ fun q H3 _ e3 hq => ⟨p, q, xs, ys, rfl, rfl, e3 p _ hp, hq, sz_of hl, fun l hl' =>
    k l _ (fresh_back (e2.trans e3) hl') ((e2.trans e3).trans (Ex.new hl')) upd_same⟩
/-- a new list + one that stands -/
theorem el_catR {xs ys : List V} {q : Addr} (ha : EvL ta σ H xs) (hb : Ev tb σ H (.ref q)) (hq : H q = some (.lst ys)) (hl : xs.length + ys.length ≤ 100000) : EvL (tOp rCat ta tb) σ H (xs ++ ys) := fun H1 e Q k =>
  ha H1 e _ fun p H2 hp0 e2 hp => hb H2 (e.trans e2) _ fun H3 e3 => ⟨p, q, xs, ys, rfl, rfl, e3 p _ hp, ((e.trans e2).trans e3) q _ hq, sz_of hl, fun l hl' =>
    k l _ (fresh_back (e2.trans e3) hl') ((e2.trans e3).trans (Ex.new hl')) upd_same⟩
theorem el_rep {xs : List V} {n : Int} (ha : EvL ta σ H xs) (hb : Ev tb σ H (.int n)) (h0 : -(2 ^ 63) ≤ n ∧ n < 2 ^ 63) (hl : xs.length * n.toNat ≤ 100000) : EvL (tOp rRep ta tb) σ H (List.replicate n.toNat xs).flatten := fun H1 e Q k =>
  ha H1 e _ fun p H2 hp0 e2 hp => hb H2 (e.trans e2) _ fun H3 e3 => ⟨p, n, xs, rfl, rfl, e3 p _ hp, h0.1, h0.2, sz_of hl, fun l hl' =>
    k l _ (fresh_back (e2.trans e3) hl') ((e2.trans e3).trans (Ex.new hl')) upd_same⟩
theorem ev_callH {sp : Sp} {vs : List V} {E : XK} {tr : TA} (h : EvA tr σ H vs) (hs : SpV sp vs H z) : Ev (tCallH sp E tr) σ H z := fun H1 e Q q =>
  h H1 e _ fun H2 e2 => hs H2 (e.trans e2) Q (fun H3 e3 => q H3 (e2.trans e3)) E
theorem el_callH {sp : Sp} {vs xs : List V} {E : XK} {tr : TA} (h : EvA tr σ H vs) (hs : SpL sp vs H xs) : EvL (tCallH sp E tr) σ H xs := fun H1 e Q q =>
  h H1 e _ fun H2 e2 => hs H2 (e.trans e2) Q (fun p H3 hp e3 h3 => q p H3 (fresh_back e2 hp) (e2.trans e3) h3) E
/-- f(.., a new list) as the only argument behind values -/
theorem el_callN {sp : Sp} {xs ys : List V} {E : XK} (h : EvL te σ H ys) (ha : Ev ta σ H x) (hs : ∀ p H1, Ex H H1 → H1 p = some (.lst ys) → SpL sp [x, .ref p] H1 xs) : EvL (tCallH sp E (tCons ta (tCons te tNil))) σ H xs := fun H1 e Q q =>
  ha H1 e _ fun H2 e2 => h H2 (e.trans e2) _ fun p H3 hp e3 h3 => hs p H3 ((e.trans e2).trans e3) h3 H3 (Ex.refl H3) Q (fun p' H4 hp' e4 h4 => q p' H4 (fresh_back (e2.trans e3) hp') ((e2.trans e3).trans e4) h4) E
theorem et_yes : EvT tYes σ H true := fun H1 _ _ q => q H1 (Ex.refl H1)
/-- the promise of a def that gives a value, a new list -/
def spVal (P : List V → Hp → V → Prop) : Sp := fun vs H Q _ => ∃ H0 z, Ex H0 H ∧ P vs H0 z ∧ RetV z H Q
def spLst (P : List V → Hp → List V → Prop) : Sp := fun vs H Q _ => ∃ H0 xs, Ex H0 H ∧ P vs H0 xs ∧ RetL xs H Q
theorem sv_of {P : List V → Hp → V → Prop} {vs : List V} (h : P vs H z) : SpV (spVal P) vs H z := fun H1 e Q q _ => ⟨H, z, e, h, q⟩
theorem sl_of {P : List V → Hp → List V → Prop} {vs xs : List V} (h : P vs H xs) : SpL (spLst P) vs H xs := fun H1 e Q q _ => ⟨H, xs, e, h, q⟩
end
section
variable {X : Cx} {pos : Pos} {x : Str}
/-- a module's whole number -/
theorem pe_gint {i : Int} (hm : ∃ t, X.mg x = some (.int i t)) (hg : Gl X x := by rfl) (hdb : (x == ("__debug__" : Str)) = false := by decide) : PE X (.Name x pos) (tC (.int i)) := by
  obtain ⟨t, hm⟩ := hm
  exact pe_glob hg hm ⟨t, rfl⟩ (hd := hdb)
end
end Dt

set_option Elab.async false
set_option linter.all false
set_option maxRecDepth 100000
set_option maxHeartbeats 2000000
namespace Dt
open PySem PySem.Spec PyProof.Rows L2 Evl

/-! ### methods and the making of objects, by what is known of the class -/
structure HasM (P : Program) (w : World) (K : PySem.W.Frag) (mg : Str → Option Value) (base : Heap) (CX : CXT) (k : Nat) (C : Addr) (m : Str) (ps : List Str) (sp : Sp) : Prop where
  ex : ∃ f fd, Meth K C m f ∧ Binds K fd ps [] ∧ FnOk P w K mg base CX k f fd ps sp
structure HasI (P : Program) (w : World) (K : PySem.W.Frag) (mg : Str → Option Value) (base : Heap) (CX : CXT) (k : Nat) (x : Str) (C : Addr) (ps : List Str) (sp : Sp) : Prop where
  ex : ∃ f fd, mg x = some (.ref C) ∧ Mk K C f ∧ Binds K fd ps [] ∧ FnOk P w K mg base CX k f fd ps sp
section
variable {X : Cx} {CX : CXT} {k j : Nat} {C : Addr} {x m : Str} {ps : List Str} {sp : Sp} {p pos apos : Pos} {e o : Expr} {es : List Expr} {ta : TE} {t : TA}
/-- o.m(e, ..): what is raised is wished for at the slots -/
def tMethH (C : Addr) (m : Str) (sp : Sp) (E : L2.St → XK) (ta : TE) (t : TA) : TE := fun σ H Q => ta σ H fun x H1 =>
  ∃ a dx fs, x = V.ref a ∧ H1 a = some (.ins C dx fs) ∧ fs.lookup m = none ∧ t σ H1 fun vs H2 => sp (V.ref a :: vs) H2 Q (E σ)
theorem pe_hm {E : L2.St → XK} {pl : Sem Bool} (he : PE X o ta) (c : Cls X.K C) (F : HasM X.prog X.w X.K X.mg X.base CX k C m ps sp) (hr : Room j X.A) (hk : k ≤ j)
    (hx : ∀ σ, PassesAt CX X σ (E σ)) (ha : PA X (e :: es) t)
    (hst : starEach (e :: es) X.env = (false, eval e X.env) :: starEach es X.env := by rfl) (hpl : (backTo pos (starEach es X.env)).any (·.1) = false := by rfl)
    (ht : eval (.Call (.Attribute o m apos) (e :: es) [] pos) X.env = (do
      let recv ← eval o X.env
      standAt apos.atName
      let (g, ahead) ← holding [recv] (getMethod recv m pl)
      callWith pos g ahead (backTo pos (starEach (e :: es) X.env)) (backToKw pos (keywordEach [] X.env))) := by rfl) :
    PE X (.Call (.Attribute o m apos) (e :: es) [] pos) (tMethH C m sp E ta t) := by
  obtain ⟨f, fd, hm, hb, F⟩ := F.ex
  refine ⟨fun pins s σ H Q I h => ?_⟩
  refine PySem.W.methodCall_KW (pl := pl) (thn (he.run pins s σ H _ I h) fun u s1 ⟨y, H1, I1, ry, a, dx, fs, ey, ea, l, q⟩ => ?_) ht
  subst ey
  have eu : u = Value.ref a := ry
  subst eu
  refine getmeth_ok I1 ea c hm l ?_
  refine PySem.W.callWith_K (first := [.ref a]) (h₀ := X.base) I.ok.mod.kin hm.kp ?_ hst hpl
  refine thn (ha.run pos pins s1 σ H1 _ I1 q) fun us s2 hh => ?_
  obtain ⟨vs, H2, I2, r, q2⟩ := hh
  exact ⟨I2.kIn, run_fnS (us := .ref a :: us) (vs := .ref a :: vs) F (hr.mono hk) hb (hx σ) I2 (.cons rfl r) q2⟩
def tMakeH (C : Addr) (sp : Sp) (E : XK) (t : TA) : TE := fun σ H Q => t σ H fun vs H1 => ∀ x dx, H1 x = none → H1 dx = none → dx ≠ x → sp (.ref x :: vs) (upd (upd H1 dx (.own x)) x (.ins C dx [])) (fun v H2 => v = .non ∧ Q (.ref x) H2) E
theorem tMake_eq {E : XK} : tMake C sp [] E t = tMakeH C sp E t := by
  funext σ H Q
  unfold tMake tMakeH
  refine congrArg (t σ H) ?_
  funext vs H1
  simp only [List.append_nil]
theorem pe_mk {E : XK} (F : HasI X.prog X.w X.K X.mg X.base CX k x C ps sp) (hr : Room j X.A) (hk : k + 1 ≤ j) (hx : Passes CX X E) (ha : PA X (e :: es) t) (hg : Gl X x := by rfl)
    (hdb : (x == ("__debug__" : Str)) = false := by decide) (he : starEach (e :: es) X.env = (false, eval e X.env) :: starEach es X.env := by rfl) (hpl : (backTo pos (starEach es X.env)).any (·.1) = false := by rfl) :
    PE X (.Call (.Name x p) (e :: es) [] pos) (tMakeH C sp E t) := by
  obtain ⟨f, fd, hm, M, hb, F⟩ := F.ex
  rw [← tMake_eq]
  exact pe_make M F (hr.mono hk) hg hm hb .nil hx ha hdb he hpl
theorem pe_mk0 {E : XK} (F : HasI X.prog X.w X.K X.mg X.base CX k x C ps sp) (hr : Room j X.A) (hk : k + 1 ≤ j) (hx : Passes CX X E) (hg : Gl X x := by rfl)
    (hdb : (x == ("__debug__" : Str)) = false := by decide) : PE X (.Call (.Name x p) [] [] pos) (tMakeH C sp E tNil) := by
  obtain ⟨f, fd, hm, M, hb, F⟩ := F.ex
  rw [← tMake_eq]
  exact pe_make0 M F (hr.mono hk) hg hm hb .nil hx hdb
end
section
variable {P : Program} {w : World} {K : PySem.W.Frag} {mg : Str → Option Value} {base : Heap} {CX : CXT} {k : Nat} {sp : Sp}
/-- where a def of the module stands -/
structure At (K : PySem.W.Frag) (mg : Str → Option Value) (x : Str) (st : Stmt) (ps : List Str) : Prop where
  ex : ∃ f fd, mg x = some (.ref f) ∧ Fun K x x st f fd ∧ Binds K fd ps []
theorem At.has {x : Str} {st : Stmt} {ps : List Str} (h : At K mg x st ps) (F : ∀ f fd, Fun K x x st f fd → FnOk P w K mg base CX k f fd ps sp) : Has P w K mg base CX k x ps sp := by
  obtain ⟨f, fd, a, b, c⟩ := h.ex
  exact ⟨f, fd, a, b.kp, c, F f fd b⟩
structure AtM (K : PySem.W.Frag) (C : Addr) (m q : Str) (st : Stmt) (ps : List Str) : Prop where
  ex : ∃ f fd, Meth K C m f ∧ Fun K m q st f fd ∧ Binds K fd ps []
theorem AtM.has {C : Addr} {m q : Str} {st : Stmt} {ps : List Str} (h : AtM K C m q st ps) (F : ∀ f fd, Fun K m q st f fd → FnOk P w K mg base CX k f fd ps sp) : HasM P w K mg base CX k C m ps sp := by
  obtain ⟨f, fd, a, b, c⟩ := h.ex
  exact ⟨f, fd, a, c, F f fd b⟩
structure AtI (K : PySem.W.Frag) (mg : Str → Option Value) (x : Str) (C : Addr) (q : Str) (st : Stmt) (ps : List Str) : Prop where
  ex : ∃ f fd, mg x = some (.ref C) ∧ Mk K C f ∧ Fun K "__init__" q st f fd ∧ Binds K fd ps []
theorem AtI.has {x : Str} {C : Addr} {q : Str} {st : Stmt} {ps : List Str} (h : AtI K mg x C q st ps) (F : ∀ f fd, Fun K "__init__" q st f fd → FnOk P w K mg base CX k f fd ps sp) : HasI P w K mg base CX k x C ps sp := by
  obtain ⟨f, fd, a, b, c, d⟩ := h.ex
  exact ⟨f, fd, a, b, d, F f fd c⟩
/-- an error of the class at S beside a clause that names the class at S' -/
theorem exm_by {S S' : Addr} {b : Bool} (h1 : PySem.W.subIn K (.ref S) (.type "BaseException") = some true) (h2 : PySem.W.isClsIn K S' = true) (h3 : PySem.W.typeIn K (.ref S') = some (.type "type")) (h4 : PySem.W.subIn K (.ref S) (.ref S') = some b)
    (h5 : PySem.W.subIn K (.ref S') (.type "BaseException") = some true) : PySem.W.exmOne K (.ref S) (.ref S') = some b := by
  have h2' : (PySem.W.clsIn K S').isSome = true := h2
  unfold PySem.W.exmOne
  rw [if_pos (by rw [h5]; exact beq_self_eq_true _)]
  show (if ((PySem.W.clsIn K S').isSome && PySem.W.typeIn K (.ref S') == some (.type "type")) = true then PySem.W.subIn K (.ref S) (.ref S') else none) = some b
  rw [if_pos (by rw [h2', h3]; exact beq_self_eq_true _)]
  exact h4
end
end Dt

set_option Elab.async false
set_option linter.all false
set_option maxRecDepth 100000
set_option maxHeartbeats 2000000
namespace Dt
open PySem PySem.Spec PyProof.Rows L2 Evl
/-! ### the rules that name the written part, told with it by name -/
section
variable {X : Cx} {K : PySem.W.Frag} {a b e o value : Expr} {f : Str} {ta tb tv te : TE} {pos pos' p2 : Pos} {lo hi : Option Expr} {tl th : TO}
theorem pe_fldK (he : PE X e ta) (hb : attributeBase e f X.env (eval e X.env) = eval e X.env := by rfl) (hK : X.K = K := by rfl) : PE X (.Attribute e f pos) (tFld K ta f) := by
  rw [← hK]
  exact pe_fld he hb
theorem ps_fldK (ha : PE X o ta) (hv : PE X value tv) (hs : swapsWith value (some (.Attribute o f pos')) pos.line X.env = pure false := by rfl) (hK : X.K = K := by rfl) : PS X (.Assign [.Attribute o f pos'] value pos) (sFld K ta tv f) := by
  rw [← hK]
  exact ps_fld ha hv hs
theorem pe_ixK (ha : PE X a ta) (hb : PE X b tb) (hs : PlainIx b := by exact fun _ _ => rfl) (hK : X.K = K := by rfl) : PE X (.Subscript a b pos) (tOp (rIxL K) ta tb) := by
  rw [← hK]
  exact pe_ix ix_list ha hb hs
theorem pe_ixD (ha : PE X a ta) (hb : PE X b tb) (hs : PlainIx b := by exact fun _ _ => rfl) (hK : X.K = K := by rfl) : PE X (.Subscript a b pos) (tOp (rIxDi K) ta tb) := by
  rw [← hK]
  exact pe_ix ix_kdi ha hb hs
theorem pe_slK (he : PE X e te) (hl : PO X lo tl) (hu : PO X hi th) (hK : X.K = K := by rfl) : PE X (.Subscript e (.Slice lo hi none p2) pos) (tSl (rSlL K) te tl th) := by
  rw [← hK]
  exact pe_slice sl_list he hl hu
theorem cr_sumK (hc : X.calm = true := by rfl) (hK : X.K = K := by rfl) : CallR X (.builtin "sum") (rSum K) := by
  rw [← hK]
  exact cr_sum hc
theorem cr_maxK (hc : X.calm = true := by rfl) (hK : X.K = K := by rfl) : CallR X (.builtin "max") (rMax K) := by
  rw [← hK]
  exact cr_max hc
theorem cr_minK (hc : X.calm = true := by rfl) (hK : X.K = K := by rfl) : CallR X (.builtin "min") (rMin K) := by
  rw [← hK]
  exact cr_min hc
theorem cr_lenK (hK : X.K = K := by rfl) : CallR X (.builtin "len") (rLenS K) := by
  rw [← hK]
  exact call_len_seq
theorem cr_listK (hK : X.K = K := by rfl) : CallR X (.type "list") (rListS K) := by
  rw [← hK]
  exact call_list_of
theorem pi_listK {tg l : Expr} {tl : TE} (hl : PE X l tl) (hK : X.K = K := by rfl) : PI X tg l (iList K tl) := by
  rw [← hK]
  exact pi_list hl
theorem pe_bmK {es : List Expr} {to : TE} {t : TA} {name : Str} {apos cpos : Pos} {T id : String} {r : V → List V → Hp → VK → Prop} (pa : PlainAttrs T) (slot : Slot T name id) (hty : typeOf (.builtin id) = pure (.type "method_descriptor")) (hm : MtR X id r) (ho : PE X o to) (ha : PA X (e :: es) t)
    (hbase : attributeBase o name X.env (eval o X.env) = eval o X.env := by rfl)
    (hfew : ((backTo cpos (starEach (e :: es) X.env)).all (fun x => !x.1) && (backToKw cpos (keywordEach [] X.env)).all (fun x => x.1.isSome)
      && decide ((e :: es).length + ([] : List Keyword).length + (if ([] : List Keyword).isEmpty then 0 else 1) < 30)) = true := by rfl)
    (hline : (apos.endLine == cpos.line) = true := by rfl) (hs : starEach (e :: es) X.env = (false, eval e X.env) :: starEach es X.env := by rfl) (hplain : (backTo cpos (starEach es X.env)).any (·.1) = false := by rfl)
    (hK : X.K = K := by rfl) : PE X (.Call (.Attribute o name apos) (e :: es) [] cpos) (tBM K T r to t) := by
  rw [← hK]
  exact pe_bm pa slot hty hm ho ha hbase hfew hline hs hplain
theorem mt_appendK : MtM X "list.append" rAppend := mt_append
def rAbs : List V → Hp → VK → Prop := fun xs H Q => ∃ i, xs = [V.int i] ∧ Q (.int (if i < 0 then -i else i)) H
theorem cr_abs : CallR X (.builtin "abs") rAbs := call_abs
def rGtB : R2 := rI0 fun i j => .bl (decide (j < i))
def rLtB : R2 := rI0 fun i j => .bl (decide (i < j))
def rGeB : R2 := rI0 fun i j => .bl (decide (j ≤ i))
def rLeB : R2 := rI0 fun i j => .bl (decide (i ≤ j))
def rAddI : R2 := rI0 fun i j => .int (i + j)
def rSubI : R2 := rI0 fun i j => .int (i - j)
def rMulI : R2 := rI CMulW fun i j => .int (i * j)
def rDivI : R2 := rI CDivW fun i j => .int (i / j)
def rModI : R2 := rI (fun _ j => j ≠ 0) fun i j => .int (i.fmod j)
def rShlI : R2 := rI CPow fun i j => .int (i * 2 ^ j.toNat)
def rShrI : R2 := rI (fun _ j => 0 ≤ j) fun i j => .int (i / 2 ^ j.toNat)
def rAndI : R2 := rI0 fun i j => .int (Builtin.bitAnd i j)
theorem o_gt : OpR X (compareOp .Gt) rGtB := op_gt
theorem o_lt : OpR X (compareOp .Lt) rLtB := op_lt
theorem o_ge : OpR X (compareOp .GtE) rGeB := op_ge
theorem o_le : OpR X (compareOp .LtE) rLeB := op_le
theorem o_add : OpR X (binaryOp .Add) rAddI := op_add
theorem o_sub : OpR X (binaryOp .Sub) rSubI := op_sub
theorem o_mul : OpR X (binaryOp .Mult) rMulI := op_mulW
theorem o_div : OpR X (binaryOp .FloorDiv) rDivI := op_fdivW
theorem o_mod : OpR X (binaryOp .Mod) rModI := op_modN
theorem o_shl : OpR X (binaryOp .LShift) rShlI := op_shl
theorem o_shr : OpR X (binaryOp .RShift) rShrI := op_shr
theorem o_and : OpR X (binaryOp .BitAnd) rAndI := op_and
def rIsN : R2 := fun x y H Q => y = .non ∧ Q (.bl (decide (x = .non))) H
def rNotN : R2 := fun x y H Q => y = .non ∧ Q (.bl (!decide (x = .non))) H
theorem o_isN : OpR X (compareOp .Is) rIsN := op_isN
theorem o_notN : OpR X (compareOp .IsNot) rNotN := op_notN
end
section
variable {σ : L2.St} {H : Hp} {ta tb : TE} {i j : Int} {x : V}
theorem ev_gt (ha : Ev ta σ H (.int i)) (hb : Ev tb σ H (.int j)) : Ev (tOp rGtB ta tb) σ H (.bl (decide (j < i))) := ev_op ha hb rv_I0
theorem ev_lt (ha : Ev ta σ H (.int i)) (hb : Ev tb σ H (.int j)) : Ev (tOp rLtB ta tb) σ H (.bl (decide (i < j))) := ev_op ha hb rv_I0
theorem ev_ge (ha : Ev ta σ H (.int i)) (hb : Ev tb σ H (.int j)) : Ev (tOp rGeB ta tb) σ H (.bl (decide (j ≤ i))) := ev_op ha hb rv_I0
theorem ev_le (ha : Ev ta σ H (.int i)) (hb : Ev tb σ H (.int j)) : Ev (tOp rLeB ta tb) σ H (.bl (decide (i ≤ j))) := ev_op ha hb rv_I0
theorem ev_eqI (ha : Ev ta σ H (.int i)) (hb : Ev tb σ H (.int j)) : Ev (tOp rEq ta tb) σ H (.bl (decide (i = j))) := by
  have e : decide (V.int i = V.int j) = decide (i = j) := decide_eq_decide.mpr ⟨fun h => V.int.inj h, fun h => congrArg V.int h⟩
  rw [← e]
  exact ev_op ha hb (rv_eq rfl)
theorem ev_neI (ha : Ev ta σ H (.int i)) (hb : Ev tb σ H (.int j)) : Ev (tOp rNe ta tb) σ H (.bl (!decide (i = j))) := by
  have e : decide (V.int i = V.int j) = decide (i = j) := decide_eq_decide.mpr ⟨fun h => V.int.inj h, fun h => congrArg V.int h⟩
  rw [← e]
  exact ev_op ha hb (rv_ne rfl)
theorem ev_add (ha : Ev ta σ H (.int i)) (hb : Ev tb σ H (.int j)) : Ev (tOp rAddI ta tb) σ H (.int (i + j)) := ev_op ha hb rv_I0
theorem ev_sub (ha : Ev ta σ H (.int i)) (hb : Ev tb σ H (.int j)) : Ev (tOp rSubI ta tb) σ H (.int (i - j)) := ev_op ha hb rv_I0
theorem ev_mul (ha : Ev ta σ H (.int i)) (hb : Ev tb σ H (.int j)) (hc : CMulW i j) : Ev (tOp rMulI ta tb) σ H (.int (i * j)) := ev_op ha hb (rv_I hc)
theorem ev_div (ha : Ev ta σ H (.int i)) (hb : Ev tb σ H (.int j)) (hc : CDivW i j) : Ev (tOp rDivI ta tb) σ H (.int (i / j)) := ev_op ha hb (rv_I hc)
theorem ev_mod (ha : Ev ta σ H (.int i)) (hb : Ev tb σ H (.int j)) (hc : j ≠ 0) : Ev (tOp rModI ta tb) σ H (.int (i.fmod j)) := ev_op ha hb (rv_I hc)
theorem ev_and (ha : Ev ta σ H (.int i)) (hb : Ev tb σ H (.int j)) : Ev (tOp rAndI ta tb) σ H (.int (Builtin.bitAnd i j)) := ev_op ha hb rv_I0
theorem ev_shl (ha : Ev ta σ H (.int i)) (hb : Ev tb σ H (.int j)) (hc : CPow i j) : Ev (tOp rShlI ta tb) σ H (.int (i * 2 ^ j.toNat)) := ev_op ha hb (rv_I hc)
theorem ev_shr (ha : Ev ta σ H (.int i)) (hb : Ev tb σ H (.int j)) (hc : 0 ≤ j) : Ev (tOp rShrI ta tb) σ H (.int (i / 2 ^ j.toNat)) := ev_op ha hb (rv_I hc)
theorem ev_isN (ha : Ev ta σ H x) : Ev (tOp rIsN ta (tC .non)) σ H (.bl (decide (x = .non))) := ev_op ha ev_c fun H1 e Q q => ⟨rfl, q H1 (Ex.refl H1)⟩
theorem ev_absI (ha : Ev ta σ H (.int i)) : Ev (tCB rAbs (tCons ta tNil)) σ H (.int (if i < 0 then -i else i)) := fun H1 e Q q => ha H1 e _ fun H2 e2 => ⟨i, rfl, q H2 e2⟩
theorem ev_ixL {K : PySem.W.Frag} {p : Addr} {xs : List V} {v : V} (ha : Ev ta σ H (.ref p)) (hb : Ev tb σ H (.int i)) (h : SqL K H p xs) (hi : atI xs i = some v) : Ev (tOp (rIxL K) ta tb) σ H v := ev_op ha hb (rv_ixL h hi)
end
end Dt

set_option Elab.async false
set_option linter.all false
set_option maxRecDepth 100000
set_option maxHeartbeats 2000000
namespace Dt
open PySem PySem.Spec PyProof.Rows L2 Evl
/-! ### xs[i] op= e -/
def rGetL (K : PySem.W.Frag) : V → V → Hp → VK → Prop := fun x y H Q => ∃ p xs v, ∃ i : Nat, x = .ref p ∧ y = .int (i : Int) ∧ SqL K H p xs ∧ xs[i]? = some v ∧ Q v H
theorem get_list {X : Cx} : PGet X (rGetL X.K) := by
  intro pins s σ H x y v u Q I rx ry h
  obtain ⟨p, xs, z, i, rfl, rfl, hq, he, q⟩ := h
  cases rx
  obtain ⟨t, rfl⟩ := ry
  obtain ⟨its, r, pl, hz⟩ := I.list hq
  obtain ⟨w, ew, rw'⟩ := r.get he
  have hi : i < its.length := (List.getElem?_eq_some_iff.mp ew).1
  have hn := line63
  have hl := r.length
  have hs : ((2 : Int) ^ 63) = ((2 ^ 63 : Nat) : Int) := by decide
  exact wpAny_getItem_list pl.isList (by omega) (by omega) (by simpa using ew) ⟨z, H, I, rw', q⟩
theorem get_listK {X : Cx} {K : PySem.W.Frag} (hK : X.K = K := by rfl) : PGet X (rGetL K) := by
  rw [← hK]
  exact get_list
/-! ### for i, x in enumerate(xs) -/
theorem pi_enumK {X : Cx} {K : PySem.W.Frag} {e : Expr} {ta : TA} {p pos tpos : Pos} {elts : List Expr} {kk : Nat} (hg : Gl X "enumerate") (hm : X.mg "enumerate" = none) (ha : PA X [e] ta) (hs : starEach [e] X.env = [(false, eval e X.env)] := by rfl) (hK : X.K = K := by rfl) :
    PI X (.Tuple elts kk tpos) (.Call (.Name "enumerate" p) [e] [] pos) (iEnum K ta) := by
  rw [← hK]
  exact pi_enum hg hm ha hs
theorem pg_tupK {X : Cx} {K : PySem.W.Frag} {pos : Pos} {es : List Expr} {k : Nat} {t : TGs} {n : Nat} (hc : X.calm = true) (h : PGs X es t)
    (hn : (assignEach es X.env).length = n := by rfl) (hst : (assignEach es X.env).findIdx? (·.1) = none := by rfl) (hK : X.K = K := by rfl) : PG X (.Tuple es k pos) (gTup K n t) := by
  rw [← hK]
  exact pg_tup hc h hn hst
/-! ### == of lists -/
theorem huD {A : Around} {k : Nat} (hr : Room k A) : A.units + 64 < cLine := by
  have := hr.un
  omega
theorem o_eqD {X : Cx} {K : PySem.W.Frag} (hu : X.A.units + 64 < cLine) (hK : X.K = K := by rfl) : OpR X (compareOp .Eq) (rEqD K) := by
  rw [← hK]
  exact op_eqD hu
theorem dp_ints {K : PySem.W.Frag} {H : Hp} : ∀ l : List Int, DpAll K H (l.map V.int) (l.map PyData.int)
  | [] => .nil
  | i :: l => .cons (.int i) (dp_ints l)
theorem dp_lst {K : PySem.W.Frag} {H : Hp} {a : Addr} {l : List Int} (h : H a = some (.lst (l.map V.int))) : Dp K H (.ref a) (.list (l.map PyData.int)) := .lst (sq_of h) (dp_ints l)
def tTruK (K : PySem.W.Frag) (ta : TE) : TT := fun σ H Q => ta σ H fun x H' => ∃ k, TruV K x H' k ∧ Q k H'
theorem pt_truthK {X : Cx} {K : PySem.W.Frag} {a : Expr} {ta : TE} (ha : PE X a ta) (he : ∀ whole, isTrue a X.env whole = (do let v ← whole; standAt a.pos; holding [v] (truthy v))) (hK : X.K = K := by rfl) : PT X a (tTruK K ta) := by
  rw [← hK]
  exact pt_truth ha he
theorem et_truK {K : PySem.W.Frag} {te : TE} {σ : L2.St} {H : Hp} {b : Bool} (h : Ev te σ H (.bl b)) : EvT (tTruK K te) σ H b := fun H1 e _ q => h H1 e _ fun H2 e2 => ⟨b, rfl, q H2 e2⟩
section
variable {X : Cx} {CX : CXT} {k j : Nat} {C : Addr} {m : Str} {ps : List Str} {sp : Sp} {pos apos : Pos} {o : Expr} {ta : TE}
/-- o.m() -/
theorem pe_hm0 {E : L2.St → XK} {pl : Sem Bool} (he : PE X o ta) (c : Cls X.K C) (F : HasM X.prog X.w X.K X.mg X.base CX k C m ps sp) (hr : Room j X.A) (hk : k ≤ j)
    (hx : ∀ σ, PassesAt CX X σ (E σ))
    (ht : eval (.Call (.Attribute o m apos) [] [] pos) X.env = (do
      let ov ← eval o X.env
      standAt apos.atName
      let (f, first) ← holding [ov] (getMethod ov m pl)
      callWith pos f first (backTo pos (starEach [] X.env)) (backToKw pos (keywordEach [] X.env))) := by rfl) :
    PE X (.Call (.Attribute o m apos) [] [] pos) (tMethH C m sp E ta tNil) := by
  obtain ⟨f, fd, hm, hb, F⟩ := F.ex
  refine ⟨fun pins s σ H Q I h => ?_⟩
  refine PySem.W.methodCall_KW (pl := pl) (thn (he.run pins s σ H _ I h) fun u s1 ⟨x, H1, I1, rx, a, dx, fs, ex, ea, l, q⟩ => ?_) ht
  subst ex
  obtain rfl : u = Value.ref a := rx
  refine getmeth_ok I1 ea c hm l ?_
  exact PySem.W.callWith_K0 (first := [.ref a]) I1.kIn hm.kp (run_fnS (us := [.ref a]) (vs := [.ref a]) F (hr.mono hk) hb (hx σ) I1 (.cons rfl .nil) q)
end
end Dt

namespace Dt
open Kp415 (signalCount testShare productionShare priorTest jointTest jointProduction priorProduction share contains)
open Kp416

/-- a / b in lowest terms, b positive -/
def low (a b : Int) : List Int := [a / (Int.gcd a b : Int), b / (Int.gcd a b : Int)]

theorem low_fraction {x : Rat} {a b : Int} (hb : 0 < b) (h : x = (a : Rat) / (b : Rat)) : fraction x = low a b := by
  obtain ⟨n, rfl⟩ : ∃ n : Nat, b = (n : Int) := ⟨b.toNat, by omega⟩
  have hn : n ≠ 0 := by omega
  have e : x = mkRat a n := by
    rw [Rat.mkRat_eq_div, h, Rat.intCast_natCast]
  have g : Int.gcd a (n : Int) = n.gcd a.natAbs := by
    show Nat.gcd a.natAbs n = n.gcd a.natAbs
    exact Nat.gcd_comm _ _
  rw [e]
  unfold fraction low
  rw [Rat.num_mkRat, Rat.den_mkRat, if_neg hn, if_neg hn, g, Int.natCast_ediv]

/-- the sum of T and P weights -/
def tS (s : Setting) : Int := (s.model.testWeights.sum : Nat)
def pS (s : Setting) : Int := (s.model.productionWeights.sum : Nat)
def tW (s : Setting) (i : Nat) : Int := (s.model.testWeights.getD i 0 : Nat)
def pW (s : Setting) (i : Nat) : Int := (s.model.productionWeights.getD i 0 : Nat)
def pN (s : Setting) : Int := (s.model.priorNum : Nat)
def pD (s : Setting) : Int := (s.model.priorDen : Nat)
def ga (s : Setting) : Int := (s.gain : Nat)
def lo (s : Setting) : Int := (s.loss : Nat)
def hP (s : Setting) : Int := (s.harmPrice : Nat)
def tP (s : Setting) : Int := (s.testPrice : Nat)

structure Pos (s : Setting) : Prop where
  t : 0 < tS s
  p : 0 < pS s
  d : 0 < pD s

theorem rat_pos {i : Int} (h : 0 < i) : (0 : Rat) < (i : Rat) := by exact_mod_cast h
theorem rat_ne {i : Int} (h : 0 < i) : (i : Rat) ≠ 0 := fun e => by
  have := rat_pos h
  rw [e] at this
  exact absurd this (by decide)

/-- the cheating value's numerator over valDen -/
def valNum (s : Setting) (i : Nat) : Int := ga s * (pD s - pN s) * pW s i * tS s - lo s * pN s * tW s i * pS s
def valDen (s : Setting) : Int := pD s * tS s * pS s

theorem valDen_pos {s : Setting} (g : Pos s) : 0 < valDen s := Int.mul_pos (Int.mul_pos g.d g.t) g.p

theorem share_t (s : Setting) (i : Nat) : testShare s.model i = (tW s i : Rat) / (tS s : Rat) := by
  unfold testShare share tW tS
  rw [Rat.intCast_natCast, Rat.intCast_natCast]
theorem share_p (s : Setting) (i : Nat) : productionShare s.model i = (pW s i : Rat) / (pS s : Rat) := by
  unfold productionShare share pW pS
  rw [Rat.intCast_natCast, Rat.intCast_natCast]
theorem prior_t (s : Setting) : priorTest s.model = (pN s : Rat) / (pD s : Rat) := by
  unfold priorTest pN pD
  rw [Rat.intCast_natCast, Rat.intCast_natCast]
theorem jt_eq {s : Setting} (i : Nat) : jointTest s.model i = ((pN s : Rat) / (pD s : Rat)) * ((tW s i : Rat) / (tS s : Rat)) := by
  unfold jointTest
  rw [prior_t, share_t]
theorem jp_eq {s : Setting} (i : Nat) : jointProduction s.model i = (1 - (pN s : Rat) / (pD s : Rat)) * ((pW s i : Rat) / (pS s : Rat)) := by
  unfold jointProduction priorProduction
  rw [prior_t, share_p]

theorem value_eq {s : Setting} (g : Pos s) (i : Nat) : cheatingValue s i = (valNum s i : Rat) / (valDen s : Rat) := by
  have ht := rat_ne g.t
  have hp := rat_ne g.p
  have hd := rat_ne g.d
  unfold cheatingValue
  rw [jt_eq, jp_eq, show ((s.gain : Nat) : Rat) = (ga s : Rat) from (Rat.intCast_natCast _).symm, show ((s.loss : Nat) : Rat) = (lo s : Rat) from (Rat.intCast_natCast _).symm]
  unfold valNum valDen
  simp only [Rat.intCast_sub, Rat.intCast_mul]
  grind

theorem div_pos_iff {a b : Int} (hb : 0 < b) : (0 : Rat) < (a : Rat) / (b : Rat) ↔ 0 < a := by
  rw [Rat.lt_div_iff (rat_pos hb), Rat.zero_mul]
  exact ⟨fun h => by exact_mod_cast h, fun h => by exact_mod_cast h⟩
theorem pays_eq {s : Setting} (g : Pos s) (i : Nat) : pays s i = decide (0 < valNum s i) := by
  unfold pays
  rw [value_eq g]
  exact decide_eq_decide.mpr (div_pos_iff (valDen_pos g))

theorem sum_div {D : Rat} (f : Nat → Int) : ∀ l : List Nat, (l.map fun i => (f i : Rat) / D).sum = ((l.map f).sum : Int) / D
  | [] => by
    show (0 : Rat) = ((0 : Int) : Rat) / D
    rw [Rat.div_def]
    exact (Rat.zero_mul _).symm
  | a :: l => by
    rw [List.map_cons, List.map_cons, List.sum_cons, List.sum_cons, sum_div f l, Rat.intCast_add]
    grind
theorem sumOver_div {h : Nat → Rat} {f : Nat → Int} {D : Rat} (e : ∀ i, h i = (f i : Rat) / D) (l : List Nat) : sumOver h l = ((l.map f).sum : Int) / D := by
  unfold sumOver
  rw [show h = fun i => (f i : Rat) / D from funext e]
  exact sum_div f l

def paying (s : Setting) : List Nat := (List.range (signalCount s.model)).filter fun i => decide (0 < valNum s i)
theorem cheating_eq {s : Setting} (g : Pos s) : cheatingSignals s = paying s := by
  unfold cheatingSignals paying
  rw [show pays s = fun i => decide (0 < valNum s i) from funext (pays_eq g)]
theorem profit_at {s : Setting} (g : Pos s) (l : List Nat) : fraction (sumOver (cheatingValue s) l) = low (l.map (valNum s)).sum (valDen s) :=
  low_fraction (valDen_pos g) (sumOver_div (value_eq g) l)
theorem value_low {s : Setting} (g : Pos s) (i : Nat) : fraction (cheatingValue s i) = low (valNum s i) (valDen s) := low_fraction (valDen_pos g) (value_eq g i)

/-- joint test over signals -/
theorem jt_sum {s : Setting} (g : Pos s) (l : List Nat) : fraction (sumOver (jointTest s.model) l) = low (pN s * (l.map (tW s)).sum) (pD s * tS s) := by
  refine low_fraction (Int.mul_pos g.d g.t) ?_
  have ht := rat_ne g.t
  have hd := rat_ne g.d
  rw [sumOver_div (f := fun i => pN s * tW s i) (D := (pD s : Rat) * (tS s : Rat)) (fun i => by rw [jt_eq, Rat.intCast_mul]; grind) l]
  rw [show (l.map fun i => pN s * tW s i).sum = pN s * (l.map (tW s)).sum from ?_]
  · rw [Rat.intCast_mul (pD s)]
  · induction l with
    | nil => simp
    | cons a l ih => simp only [List.map_cons, List.sum_cons, ih, Int.mul_add]
end Dt

namespace Dt
open Kp415 (signalCount testShare productionShare priorTest jointTest jointProduction priorProduction share contains larger mergeWeights)
open Kp416

theorem map_mul_sum (c : Int) (f : Nat → Int) : ∀ l : List Nat, (l.map fun i => c * f i).sum = c * (l.map f).sum
  | [] => by simp
  | a :: l => by simp only [List.map_cons, List.sum_cons, map_mul_sum c f l, Int.mul_add]

/-! ### harm and cost -/
theorem harm_eq {s : Setting} (g : Pos s) (l : List Nat) : sumOver (jointProduction s.model) l = (((pD s - pN s) * (l.map (pW s)).sum : Int) : Rat) / ((pD s * pS s : Int) : Rat) := by
  have hp := rat_ne g.p
  have hd := rat_ne g.d
  rw [sumOver_div (f := fun i => (pD s - pN s) * pW s i) (D := (pD s : Rat) * (pS s : Rat)) (fun i => by rw [jp_eq, Rat.intCast_mul, Rat.intCast_sub]; grind) l, map_mul_sum, Rat.intCast_mul (pD s)]
theorem harm_low {s : Setting} (g : Pos s) (l : List Nat) : fraction (sumOver (jointProduction s.model) l) = low ((pD s - pN s) * (l.map (pW s)).sum) (pD s * pS s) :=
  low_fraction (Int.mul_pos g.d g.p) (harm_eq g l)
def costNum (s : Setting) : Int := tP s * pN s * pS s + hP s * (pD s - pN s) * ((paying s).map (pW s)).sum
def costDen (s : Setting) : Int := pD s * pS s
theorem costDen_pos {s : Setting} (g : Pos s) : 0 < costDen s := Int.mul_pos g.d g.p
theorem cost_eq {s : Setting} (g : Pos s) : totalCost s = (costNum s : Rat) / (costDen s : Rat) := by
  have hp := rat_ne g.p
  have hd := rat_ne g.d
  unfold totalCost harmProbability
  rw [cheating_eq g, harm_eq g, prior_t, show ((s.testPrice : Nat) : Rat) = (tP s : Rat) from (Rat.intCast_natCast _).symm, show ((s.harmPrice : Nat) : Rat) = (hP s : Rat) from (Rat.intCast_natCast _).symm]
  unfold costNum costDen
  simp only [Rat.intCast_sub, Rat.intCast_mul, Rat.intCast_add]
  grind
theorem cost_low {s : Setting} (g : Pos s) : fraction (totalCost s) = low (costNum s) (costDen s) := low_fraction (costDen_pos g) (cost_eq g)

/-! ### the deterrent prior of a signal -/
def dG (s : Setting) (i : Nat) : Int := ga s * pW s i * tS s
def dL (s : Setting) (i : Nat) : Int := lo s * tW s i * pS s
theorem nn_mul {a b : Int} (h : 0 ≤ a) (k : 0 ≤ b) : 0 ≤ a * b := Int.mul_nonneg h k
theorem dG_nn {s : Setting} (g : Pos s) (i : Nat) : 0 ≤ dG s i := nn_mul (nn_mul (Int.natCast_nonneg _) (Int.natCast_nonneg _)) (Int.le_of_lt g.t)
theorem dL_nn {s : Setting} (g : Pos s) (i : Nat) : 0 ≤ dL s i := nn_mul (nn_mul (Int.natCast_nonneg _) (Int.natCast_nonneg _)) (Int.le_of_lt g.p)
theorem rat_zero {a : Int} : (a : Rat) = 0 ↔ a = 0 := by
  constructor
  · intro h
    exact_mod_cast h
  · intro h
    rw [h]
    rfl
theorem div_zero {a b : Int} (hb : 0 < b) : (a : Rat) / (b : Rat) = 0 ↔ a = 0 := by
  have := rat_ne hb
  constructor
  · intro h
    have : (a : Rat) = 0 := by grind
    exact rat_zero.mp this
  · intro h
    rw [h]
    show (0 : Rat) / (b : Rat) = 0
    grind
theorem dpa_eq {s : Setting} (g : Pos s) (i : Nat) : deterrentPriorAt s i = if dG s i = 0 then some 0 else if dL s i = 0 then none else some ((dG s i : Rat) / ((dG s i + dL s i : Int) : Rat)) := by
  have ht := rat_ne g.t
  have hp := rat_ne g.p
  have hg : (s.gain : Rat) * productionShare s.model i = (dG s i : Rat) / ((tS s * pS s : Int) : Rat) := by
    rw [share_p, show ((s.gain : Nat) : Rat) = (ga s : Rat) from (Rat.intCast_natCast _).symm]
    unfold dG
    simp only [Rat.intCast_mul]
    grind
  have hl : (s.loss : Rat) * testShare s.model i = (dL s i : Rat) / ((tS s * pS s : Int) : Rat) := by
    rw [share_t, show ((s.loss : Nat) : Rat) = (lo s : Rat) from (Rat.intCast_natCast _).symm]
    unfold dL
    simp only [Rat.intCast_mul]
    grind
  have hD : 0 < tS s * pS s := Int.mul_pos g.t g.p
  unfold deterrentPriorAt
  simp only [hg, hl, div_zero hD]
  by_cases h1 : dG s i = 0
  · rw [if_pos h1, if_pos h1]
  · rw [if_neg h1, if_neg h1]
    by_cases h2 : dL s i = 0
    · rw [if_pos h2, if_pos h2]
    · rw [if_neg h2, if_neg h2]
      have p1 := dG_nn g i
      have p2 := dL_nn g i
      have h3 : 0 < dG s i + dL s i := by omega
      have h4 := rat_ne h3
      have h5 := rat_ne hD
      congr 1
      rw [Rat.intCast_add] at h4 ⊢
      grind

/-! ### the greatest of them -/
theorem larger_some (a b : Rat) : larger a b = if a < b then b else a := rfl
theorem frac_lt {a b c d : Int} (hb : 0 < b) (hd : 0 < d) : (a : Rat) / (b : Rat) < (c : Rat) / (d : Rat) ↔ a * d < c * b := by
  rw [Rat.div_lt_iff (rat_pos hb), show (c : Rat) / (d : Rat) * (b : Rat) = ((c * b : Int) : Rat) / (d : Rat) by rw [Rat.intCast_mul]; grind, Rat.lt_div_iff (rat_pos hd), ← Rat.intCast_mul]
  exact Rat.intCast_lt_intCast
theorem frac_eq {a b c d : Int} (hb : 0 < b) (hd : 0 < d) : (a : Rat) / (b : Rat) = (c : Rat) / (d : Rat) ↔ a * d = c * b := by
  have h1 := rat_ne hb
  have h2 := rat_ne hd
  have e : (a : Rat) / (b : Rat) = (c : Rat) / (d : Rat) ↔ (a : Rat) * (d : Rat) = (c : Rat) * (b : Rat) := by
    constructor
    · intro h
      grind
    · intro h
      grind
  rw [e, ← Rat.intCast_mul, ← Rat.intCast_mul]
  exact Rat.intCast_inj
theorem frac_le {a b c d : Int} (hb : 0 < b) (hd : 0 < d) : (a : Rat) / (b : Rat) ≤ (c : Rat) / (d : Rat) ↔ a * d ≤ c * b := by
  rw [← Rat.not_lt, frac_lt hd hb, Int.not_lt]

/-! ### another prior -/
def sP (s : Setting) (a b : Nat) : Setting := { s with model := { s.model with priorNum := a, priorDen := b } }
theorem withPrior_is (s : Setting) (x : Rat) : withPrior s x = sP s x.num.toNat x.den := rfl
theorem rat_num_den (x : Rat) : (x.num : Rat) / (x.den : Rat) = x := by rw [← Rat.mkRat_eq_div, Rat.mkRat_self]
/-- all that is told of a prior is its value -/
theorem cost_congr {s : Setting} {a b c d : Nat} (e : (a : Rat) / (b : Rat) = (c : Rat) / (d : Rat)) : totalCost (sP s a b) = totalCost (sP s c d) := by
  have hpt : priorTest (sP s a b).model = priorTest (sP s c d).model := e
  have hjt : jointTest (sP s a b).model = jointTest (sP s c d).model := funext fun i => by
    unfold jointTest
    rw [hpt]
    rfl
  have hjp : jointProduction (sP s a b).model = jointProduction (sP s c d).model := funext fun i => by
    unfold jointProduction priorProduction
    rw [hpt]
    rfl
  have hcv : cheatingValue (sP s a b) = cheatingValue (sP s c d) := funext fun i => by
    unfold cheatingValue
    rw [hjt, hjp]
    rfl
  have hcs : cheatingSignals (sP s a b) = cheatingSignals (sP s c d) := by
    unfold cheatingSignals pays
    rw [hcv]
    rfl
  unfold totalCost harmProbability
  rw [hpt, hjp, hcs]
  rfl
theorem cost_at {s : Setting} {a b : Int} (ha : 0 ≤ a) (hb : 0 < b) : totalCost (withPrior s ((a : Rat) / (b : Rat))) = totalCost (sP s a.toNat b.toNat) := by
  rw [withPrior_is]
  refine cost_congr ?_
  have hx : 0 ≤ (a : Rat) / (b : Rat) := by
    have h0 : (0 : Rat) = ((0 : Int) : Rat) / ((1 : Int) : Rat) := by grind
    rw [h0, frac_le (by decide) hb]
    omega
  have hn : 0 ≤ ((a : Rat) / (b : Rat)).num := Rat.num_nonneg.mpr hx
  have e1 : (((((a : Rat) / (b : Rat)).num.toNat : Nat)) : Rat) = ((((a : Rat) / (b : Rat)).num : Int) : Rat) := by
    rw [← Rat.intCast_natCast, Int.toNat_of_nonneg hn]
  have e2 : ((a.toNat : Nat) : Rat) = (a : Rat) := by rw [← Rat.intCast_natCast, Int.toNat_of_nonneg ha]
  have e3 : ((b.toNat : Nat) : Rat) = (b : Rat) := by rw [← Rat.intCast_natCast, Int.toNat_of_nonneg (Int.le_of_lt hb)]
  rw [e1, e2, e3]
  exact rat_num_den _
end Dt

namespace Dt
open Kp415 (signalCount testShare productionShare priorTest jointTest jointProduction priorProduction share contains larger mergeWeights)
open Kp416

/-! ### the best of several -/
def Best (c : Rat → Rat) (S : List Rat) (r : Rat) : Prop := r ∈ S ∧ ∀ y ∈ S, c r < c y ∨ (c r = c y ∧ r ≤ y)
theorem Best.uniq {c : Rat → Rat} {S : List Rat} {r r' : Rat} (h : Best c S r) (k : Best c S r') : r = r' := by
  rcases h.2 r' k.1 with a | ⟨a, a'⟩
  · rcases k.2 r h.1 with b | ⟨b, _⟩
    · grind
    · rw [b] at a
      exact absurd a (Rat.lt_irrefl)
  · rcases k.2 r h.1 with b | ⟨_, b'⟩
    · rw [a] at b
      exact absurd b (Rat.lt_irrefl)
    · exact Rat.le_antisymm a' b'
theorem fold_best (c : Rat → Rat) : ∀ (l : List Rat) (b : Rat), Best c (b :: l) (l.foldl (fun (best x : Rat) => if c x < c best ∨ (c x = c best ∧ x < best) then x else best) b)
  | [], b => ⟨List.mem_cons_self, fun y hy => by
      rcases List.mem_cons.mp hy with rfl | hy
      · exact .inr ⟨rfl, Rat.le_refl⟩
      · cases hy⟩
  | x :: l, b => by
    rw [List.foldl_cons]
    by_cases h : c x < c b ∨ (c x = c b ∧ x < b)
    · rw [if_pos h]
      have q := fold_best c l x
      refine ⟨List.mem_cons_of_mem _ q.1, fun y hy => ?_⟩
      rcases List.mem_cons.mp hy with rfl | hy
      · have qx := q.2 x List.mem_cons_self
        grind
      · exact q.2 y hy
    · rw [if_neg h]
      have q := fold_best c l b
      refine ⟨?_, fun y hy => ?_⟩
      · rcases List.mem_cons.mp q.1 with e | e
        · rw [e]
          exact List.mem_cons_self
        · exact List.mem_cons_of_mem _ (List.mem_cons_of_mem _ e)
      · rcases List.mem_cons.mp hy with rfl | hy
        · exact q.2 y List.mem_cons_self
        · rcases List.mem_cons.mp hy with rfl | hy
          · have qb := q.2 b List.mem_cons_self
            grind
          · exact q.2 y (List.mem_cons_of_mem _ hy)
theorem cheapest_best (s : Setting) : Best (fun x => totalCost (withPrior s x)) (candidatePriors s) (cheapestPrior s) := by
  have q := fold_best (fun x => totalCost (withPrior s x)) (candidatePriors s) 0
  have e : cheapestPrior s = (candidatePriors s).foldl (fun (best x : Rat) => if totalCost (withPrior s x) < totalCost (withPrior s best) ∨ (totalCost (withPrior s x) = totalCost (withPrior s best) ∧ x < best) then x else best) 0 := rfl
  rw [e]
  refine ⟨?_, fun y hy => q.2 y (List.mem_cons_of_mem _ hy)⟩
  rcases List.mem_cons.mp q.1 with h | h
  · rw [h]
    exact List.mem_cons_self
  · exact h

/-! ### the deterrent prior -/
theorem dp_step_none (s : Setting) : ∀ l : List Nat, l.foldl (fun (best : Option Rat) (signal : Nat) => match best, deterrentPriorAt s signal with
    | some x, some y => some (larger x y)
    | _, _ => none) none = none
  | [] => rfl
  | a :: l => by
    rw [List.foldl_cons]
    exact dp_step_none s l
theorem dp_none_of (s : Setting) : ∀ (l : List Nat) (b : Option Rat), (∃ i ∈ l, deterrentPriorAt s i = none) → l.foldl (fun (best : Option Rat) (signal : Nat) => match best, deterrentPriorAt s signal with
    | some x, some y => some (larger x y)
    | _, _ => none) b = none
  | [], b, h => by
    obtain ⟨i, hi, _⟩ := h
    cases hi
  | a :: l, b, h => by
    rw [List.foldl_cons]
    obtain ⟨i, hi, e⟩ := h
    rcases List.mem_cons.mp hi with rfl | hi
    · rw [e]
      cases b <;> exact dp_step_none s l
    · exact dp_none_of s l _ ⟨i, hi, e⟩
theorem dp_none {s : Setting} {i : Nat} (hi : i < signalCount s.model) (e : deterrentPriorAt s i = none) : deterrentPrior s = none :=
  dp_none_of s _ _ ⟨i, List.mem_range.mpr hi, e⟩
theorem larger_ge {x y m : Rat} (hx : x ≤ m) (hy : y ≤ m) : larger x y ≤ m := by
  unfold larger
  split
  · exact hy
  · exact hx
theorem dp_fold {s : Setting} {m : Rat} : ∀ (l : List Nat) (b : Rat), (∀ i ∈ l, ∃ v, deterrentPriorAt s i = some v ∧ v ≤ m) → b ≤ m → (b = m ∨ ∃ i ∈ l, deterrentPriorAt s i = some m) →
    l.foldl (fun (best : Option Rat) (signal : Nat) => match best, deterrentPriorAt s signal with
      | some x, some y => some (larger x y)
      | _, _ => none) (some b) = some m
  | [], b, _, _, h => by
    rcases h with rfl | ⟨i, hi, _⟩
    · rfl
    · cases hi
  | a :: l, b, hall, hb, h => by
    rw [List.foldl_cons]
    obtain ⟨v, e, hv⟩ := hall a List.mem_cons_self
    rw [e]
    show List.foldl _ (some (larger b v)) l = some m
    refine dp_fold l (larger b v) (fun i hi => hall i (List.mem_cons_of_mem _ hi)) (larger_ge hb hv) ?_
    rcases h with rfl | ⟨i, hi, e2⟩
    · left
      unfold larger
      split
      · exact Rat.le_antisymm hv (Rat.le_of_lt (by assumption))
      · rfl
    · rcases List.mem_cons.mp hi with rfl | hi
      · rw [e] at e2
        have : v = m := Option.some.inj e2
        subst this
        left
        unfold larger
        split
        · rfl
        · exact Rat.le_antisymm hb (Rat.not_lt.mp (by assumption))
      · exact .inr ⟨i, hi, e2⟩
theorem dpa_nn {s : Setting} (g : Pos s) {i : Nat} {v : Rat} (h : deterrentPriorAt s i = some v) : 0 ≤ v := by
  rw [dpa_eq g] at h
  by_cases h1 : dG s i = 0
  · rw [if_pos h1] at h
    cases h
    exact Rat.le_refl
  · rw [if_neg h1] at h
    by_cases h2 : dL s i = 0
    · rw [if_pos h2] at h
      cases h
    · rw [if_neg h2] at h
      cases h
      have p1 := dG_nn g i
      have p2 := dL_nn g i
      have h0 : (0 : Rat) = ((0 : Int) : Rat) / ((1 : Int) : Rat) := by grind
      rw [h0, frac_le (by decide) (by omega)]
      omega
theorem dp_is {s : Setting} (g : Pos s) {m : Rat} (hall : ∀ i, i < signalCount s.model → ∃ v, deterrentPriorAt s i = some v ∧ v ≤ m) (hm : ∃ i, i < signalCount s.model ∧ deterrentPriorAt s i = some m) : deterrentPrior s = some m := by
  obtain ⟨j, hj, ej⟩ := hm
  exact dp_fold _ 0 (fun i hi => hall i (List.mem_range.mp hi)) (dpa_nn g ej) (.inr ⟨j, List.mem_range.mpr hj, ej⟩)

/-! ### merging, signal by signal -/
def mgK (w m : List Nat) (n k : Nat) : List Nat := (List.range n).map fun t => (((List.range k).filter fun s => m.getD s 0 == t).map fun s => w.getD s 0).sum
theorem mgK_all (w m : List Nat) : mgK w m w.length w.length = mergeWeights w m := rfl
theorem mgK_len (w m : List Nat) (n k : Nat) : (mgK w m n k).length = n := by
  unfold mgK
  rw [List.length_map, List.length_range]
theorem mgK_zero (w m : List Nat) (n : Nat) : mgK w m n 0 = List.replicate n 0 := by
  unfold mgK
  refine List.ext_getElem (by simp) fun i h1 h2 => ?_
  simp
theorem mgK_get (w m : List Nat) (n k t : Nat) (h : t < n) : (mgK w m n k).getD t 0 = (((List.range k).filter fun s => m.getD s 0 == t).map fun s => w.getD s 0).sum := by
  unfold mgK
  rw [List.getD_eq_getElem?_getD, List.getElem?_map, List.getElem?_range h]
  rfl
theorem mgK_elem (w m : List Nat) (n k t : Nat) (h : t < (mgK w m n k).length) : (mgK w m n k)[t] = (((List.range k).filter fun s => m.getD s 0 == t).map fun s => w.getD s 0).sum := by
  simp [mgK]
theorem mgK_succ (w m : List Nat) (n k : Nat) : mgK w m n (k + 1) = (mgK w m n k).set (m.getD k 0) ((mgK w m n k).getD (m.getD k 0) 0 + w.getD k 0) := by
  refine List.ext_getElem (by rw [List.length_set, mgK_len, mgK_len]) fun t h1 h2 => ?_
  have ht : t < n := by rw [mgK_len] at h1; exact h1
  rw [List.getElem_set]
  by_cases e : m.getD k 0 = t
  · rw [if_pos e, e, mgK_get w m n k t ht]
    rw [mgK_elem, List.range_succ, List.filter_append, List.map_append, List.sum_append]
    congr 1
    have : (m.getD k 0 == t) = true := by rw [e]; exact beq_self_eq_true t
    rw [List.filter_cons, if_pos this]
    simp
  · rw [if_neg e]
    rw [mgK_elem, mgK_elem, List.range_succ, List.filter_append, List.map_append, List.sum_append]
    have : ¬ (m.getD k 0 == t) = true := fun z => e (eq_of_beq z)
    rw [List.filter_cons, if_neg this]
    simp
theorem sum_set_nat : ∀ (l : List Nat) (i x : Nat), i < l.length → (l.set i (l.getD i 0 + x)).sum = l.sum + x
  | [], i, x, h => absurd h (Nat.not_lt_zero i)
  | a :: l, 0, x, _ => by
    show ((a + x) :: l).sum = (a :: l).sum + x
    rw [List.sum_cons, List.sum_cons]
    omega
  | a :: l, i + 1, x, h => by
    show (a :: l.set i (l.getD i 0 + x)).sum = (a :: l).sum + x
    rw [List.sum_cons, List.sum_cons, sum_set_nat l i x (Nat.lt_of_succ_lt_succ h)]
    omega
theorem sum_take_nat : ∀ (l : List Nat) (k : Nat), k < l.length → (l.take (k + 1)).sum = (l.take k).sum + l.getD k 0
  | [], k, h => absurd h (Nat.not_lt_zero k)
  | a :: l, 0, _ => by simp
  | a :: l, k + 1, h => by
    show (a :: l.take (k + 1)).sum = (a :: l.take k).sum + l.getD k 0
    rw [List.sum_cons, List.sum_cons, sum_take_nat l k (Nat.lt_of_succ_lt_succ h)]
    omega
theorem mgK_sum (w m : List Nat) (n : Nat) (hm : ∀ k, k < w.length → m.getD k 0 < n) : ∀ k, k ≤ w.length → (mgK w m n k).sum = (w.take k).sum
  | 0, _ => by
    rw [mgK_zero]
    simp
  | k + 1, h => by
    rw [mgK_succ, sum_set_nat _ _ _ (by rw [mgK_len]; exact hm k h), mgK_sum w m n hm k (by omega), sum_take_nat w k h]
theorem merge_sum {w m : List Nat} (hm : ∀ k, k < w.length → m.getD k 0 < w.length) : (mergeWeights w m).sum = w.sum := by
  rw [← mgK_all, mgK_sum w m w.length hm w.length (Nat.le_refl _), List.take_length]
theorem merge_len (w m : List Nat) : (mergeWeights w m).length = w.length := mgK_len w m w.length w.length
end Dt

namespace Dt
open Kp415 (signalCount testShare productionShare priorTest jointTest jointProduction priorProduction share contains larger mergeWeights)
open Kp416

/-! ### lowest terms of equal fractions -/
theorem low_congr {a b c d : Int} (hb : 0 < b) (hd : 0 < d) (h : a * d = c * b) : low a b = low c d := by
  have e : (a : Rat) / (b : Rat) = (c : Rat) / (d : Rat) := (frac_eq hb hd).mpr h
  rw [← low_fraction hb rfl, ← low_fraction hd rfl, e]
def lowN (a b : Int) : Int := a / (Int.gcd a b : Int)
def lowD (a b : Int) : Int := b / (Int.gcd a b : Int)
theorem low_is (a b : Int) : low a b = [lowN a b, lowD a b] := rfl
theorem low_gcd {a b : Int} : lowN a b * (Int.gcd a b : Int) = a ∧ lowD a b * (Int.gcd a b : Int) = b :=
  ⟨Int.ediv_mul_cancel (Int.gcd_dvd_left a b), Int.ediv_mul_cancel (Int.gcd_dvd_right a b)⟩
theorem low_cross (a b : Int) : lowN a b * b = a * lowD a b := by
  obtain ⟨h1, h2⟩ := low_gcd (a := a) (b := b)
  calc lowN a b * b = lowN a b * (lowD a b * (Int.gcd a b : Int)) := by rw [h2]
    _ = (lowN a b * (Int.gcd a b : Int)) * lowD a b := by rw [Int.mul_comm (lowD a b), Int.mul_assoc]
    _ = a * lowD a b := by rw [h1]
theorem gcd_pos_b {a b : Int} (hb : 0 < b) : 0 < (Int.gcd a b : Int) := by
  have : 0 < Int.gcd a b := Int.gcd_pos_of_ne_zero_right a (by omega)
  omega
theorem lowD_pos {a b : Int} (hb : 0 < b) : 0 < lowD a b := by
  have h2 := (low_gcd (a := a) (b := b)).2
  have hg := gcd_pos_b (a := a) hb
  refine Int.lt_of_not_ge fun z => ?_
  have := Int.mul_nonpos_of_nonpos_of_nonneg z (Int.le_of_lt hg)
  omega
theorem lowN_nn {a b : Int} (ha : 0 ≤ a) : 0 ≤ lowN a b := Int.ediv_nonneg ha (Int.natCast_nonneg _)
theorem low_abs {a g : Int} (h : 0 < g) : (a / g).natAbs ≤ a.natAbs := Int.natAbs_ediv_le_natAbs a g
theorem lowN_le {a b : Int} (hb : 0 < b) : (lowN a b).natAbs ≤ a.natAbs := low_abs (gcd_pos_b hb)
theorem lowD_le {a b : Int} (hb : 0 < b) : (lowD a b).natAbs ≤ b.natAbs := low_abs (gcd_pos_b hb)
/-- a fraction's parts in order -/
theorem lowN_le_D {a b : Int} (hb : 0 < b) (h : a ≤ b) : lowN a b ≤ lowD a b := Int.ediv_le_ediv (gcd_pos_b hb) h

/-! ### the cost as the program has it -/
theorem cost_prog {s : Setting} (g : Pos s) (n d : Int) (hd : 0 < d) (hc : n * (pD s * pS s) = (pD s - pN s) * ((paying s).map (pW s)).sum * d) :
    low (tP s * pN s * d + hP s * n * pD s) (pD s * d) = low (costNum s) (costDen s) := by
  refine low_congr (Int.mul_pos g.d hd) (costDen_pos g) ?_
  unfold costNum costDen
  have e : hP s * n * pD s * (pD s * pS s) = hP s * pD s * (n * (pD s * pS s)) := by
    simp only [Int.mul_assoc, Int.mul_left_comm, Int.mul_comm]
  rw [Int.add_mul, e, hc, Int.add_mul]
  simp only [Int.mul_assoc, Int.mul_left_comm, Int.mul_comm]

/-! ### fractions in order -/
def less (m q : List Int) : Bool := decide (m.getD 0 0 * q.getD 1 0 < q.getD 0 0 * m.getD 1 0)
theorem less_fraction (x y : Rat) : less (fraction x) (fraction y) = decide (x < y) := by
  have h := frac_lt (a := x.num) (b := (x.den : Int)) (c := y.num) (d := (y.den : Int)) (by have := x.den_pos; omega) (by have := y.den_pos; omega)
  rw [Rat.intCast_natCast, Rat.intCast_natCast, rat_num_den, rat_num_den] at h
  exact decide_eq_decide.mpr h.symm
theorem fraction_inj {x y : Rat} : fraction x = fraction y ↔ x = y := by
  constructor
  · intro h
    unfold fraction at h
    injection h with h1 h2
    injection h2 with h2 _
    exact Rat.ext h1 (by omega)
  · intro h
    rw [h]
theorem fraction_eq_dec (x y : Rat) : decide (fraction x = fraction y) = decide (x = y) := decide_eq_decide.mpr fraction_inj

/-! ### the deterrent priors as the program has them -/
def dpa (s : Setting) (i : Nat) : Option (List Int) := if dG s i = 0 then some [0, 1] else if dL s i = 0 then none else some (low (dG s i) (dG s i + dL s i))
theorem dpa_map {s : Setting} (g : Pos s) (i : Nat) : (deterrentPriorAt s i).map fraction = dpa s i := by
  rw [dpa_eq g]
  unfold dpa
  by_cases h1 : dG s i = 0
  · rw [if_pos h1, if_pos h1]
    decide
  · rw [if_neg h1, if_neg h1]
    by_cases h2 : dL s i = 0
    · rw [if_pos h2, if_pos h2]
      rfl
    · rw [if_neg h2, if_neg h2]
      have p1 := dG_nn g i
      have p2 := dL_nn g i
      exact congrArg some (low_fraction (by omega) rfl)
def dpL (s : Setting) : List Nat → List Int → Option (List Int)
  | [], m => some m
  | i :: l, m => match dpa s i with
    | none => none
    | some q => dpL s l (if less m q then q else m)
def dpAll (s : Setting) : Option (List Int) := dpL s (List.range (signalCount s.model)) [0, 1]
theorem dpL_fold {s : Setting} (g : Pos s) : ∀ (l : List Nat) (x : Rat),
    (l.foldl (fun (best : Option Rat) (signal : Nat) => match best, deterrentPriorAt s signal with
      | some x, some y => some (larger x y)
      | _, _ => none) (some x)).map fraction = dpL s l (fraction x)
  | [], x => rfl
  | i :: l, x => by
    rw [List.foldl_cons]
    have hm := dpa_map g i
    cases h : deterrentPriorAt s i with
    | none =>
      rw [h] at hm
      refine (congrArg (Option.map fraction) (dp_step_none s l)).trans ?_
      unfold dpL
      rw [← hm]
      rfl
    | some y =>
      rw [h] at hm
      show (List.foldl _ (some (larger x y)) l).map fraction = dpL s (i :: l) (fraction x)
      rw [dpL_fold g l (larger x y)]
      show _ = (match dpa s i with
        | none => none
        | some q => dpL s l (if less (fraction x) q then q else fraction x))
      rw [← hm]
      show dpL s l (fraction (larger x y)) = dpL s l (if less (fraction x) (fraction y) then fraction y else fraction x)
      rw [less_fraction, larger_some]
      by_cases hxy : x < y
      · rw [if_pos hxy, if_pos (decide_eq_true hxy)]
      · rw [if_neg hxy, if_neg (by simpa using hxy)]
theorem fraction_0 : fraction 0 = [0, 1] := by decide
theorem fraction_1 : fraction 1 = [1, 1] := by decide
theorem dp_map {s : Setting} (g : Pos s) : (deterrentPrior s).map fraction = dpAll s := by
  have q := dpL_fold g (List.range (signalCount s.model)) 0
  rw [fraction_0] at q
  exact q

/-! ### the cheapest prior as the program has it -/
def sQ (s : Setting) (q : List Int) : Setting := sP s (q.getD 0 0).toNat (q.getD 1 0).toNat
def costL (s : Setting) (q : List Int) : List Int := low (costNum (sQ s q)) (costDen (sQ s q))
def stepB (s : Setting) : Option (List Int × List Int) → List Int → Option (List Int × List Int)
  | none, q => some (q, costL s q)
  | some (c, k), q => if less (costL s q) k || (decide (costL s q = k) && less q c) then some (q, costL s q) else some (c, k)
def cands (s : Setting) : List (List Int) := [0, 1] :: [1, 1] :: (List.range (signalCount s.model)).filterMap (dpa s)
def bestB (s : Setting) : Option (List Int × List Int) := (cands s).foldl (stepB s) none
theorem sQ_pos {s : Setting} (g : Pos s) (x : Rat) : Pos (sQ s (fraction x)) where
  t := g.t
  p := g.p
  d := by
    have : pD (sQ s (fraction x)) = (x.den : Int) := rfl
    rw [this]
    have := x.den_pos
    omega
theorem costL_fraction {s : Setting} (g : Pos s) (x : Rat) : costL s (fraction x) = fraction (totalCost (withPrior s x)) := by
  unfold costL
  rw [← cost_low (sQ_pos g x)]
  rfl
theorem cands_map {s : Setting} (g : Pos s) : (candidatePriors s).map fraction = cands s := by
  unfold candidatePriors cands
  rw [List.map_cons, List.map_cons, fraction_0, fraction_1, List.map_filterMap]
  congr 2
  congr 1
  funext i
  exact dpa_map g i
theorem best_fold {s : Setting} (g : Pos s) : ∀ (l : List Rat) (b : Rat),
    (l.map fraction).foldl (stepB s) (some (fraction b, fraction (totalCost (withPrior s b)))) =
      some (fraction (l.foldl (fun (best x : Rat) => if totalCost (withPrior s x) < totalCost (withPrior s best) ∨ (totalCost (withPrior s x) = totalCost (withPrior s best) ∧ x < best) then x else best) b),
        fraction (totalCost (withPrior s (l.foldl (fun (best x : Rat) => if totalCost (withPrior s x) < totalCost (withPrior s best) ∨ (totalCost (withPrior s x) = totalCost (withPrior s best) ∧ x < best) then x else best) b))))
  | [], b => rfl
  | x :: l, b => by
    rw [List.map_cons, List.foldl_cons, List.foldl_cons]
    have e : stepB s (some (fraction b, fraction (totalCost (withPrior s b)))) (fraction x) = some (fraction (if totalCost (withPrior s x) < totalCost (withPrior s b) ∨ (totalCost (withPrior s x) = totalCost (withPrior s b) ∧ x < b) then x else b),
        fraction (totalCost (withPrior s (if totalCost (withPrior s x) < totalCost (withPrior s b) ∨ (totalCost (withPrior s x) = totalCost (withPrior s b) ∧ x < b) then x else b)))) := by
      show (if less (costL s (fraction x)) (fraction (totalCost (withPrior s b))) || (decide (costL s (fraction x) = fraction (totalCost (withPrior s b))) && less (fraction x) (fraction b)) then _ else _) = _
      rw [costL_fraction g, less_fraction, less_fraction, fraction_eq_dec]
      by_cases h : totalCost (withPrior s x) < totalCost (withPrior s b) ∨ (totalCost (withPrior s x) = totalCost (withPrior s b) ∧ x < b)
      · rw [if_pos h, if_pos (by simpa using h)]
      · rw [if_neg h, if_neg (by simpa using h)]
    rw [e]
    exact best_fold g l _
theorem best_is {s : Setting} (g : Pos s) : bestB s = some (fraction (cheapestPrior s), fraction (totalCost (withPrior s (cheapestPrior s)))) := by
  unfold bestB
  rw [← cands_map g]
  have e : candidatePriors s = 0 :: 1 :: (List.range (signalCount s.model)).filterMap (deterrentPriorAt s) := rfl
  have f : cheapestPrior s = (1 :: (List.range (signalCount s.model)).filterMap (deterrentPriorAt s)).foldl (fun (best x : Rat) => if totalCost (withPrior s x) < totalCost (withPrior s best) ∨ (totalCost (withPrior s x) = totalCost (withPrior s best) ∧ x < best) then x else best) 0 := by
    refine (show cheapestPrior s = (1 :: (List.range (signalCount s.model)).filterMap (deterrentPriorAt s)).foldl (fun (best x : Rat) => if totalCost (withPrior s x) < totalCost (withPrior s best) ∨ (totalCost (withPrior s x) = totalCost (withPrior s best) ∧ x < best) then x else best)
      (if totalCost (withPrior s 0) < totalCost (withPrior s 0) ∨ (totalCost (withPrior s 0) = totalCost (withPrior s 0) ∧ (0 : Rat) < 0) then 0 else 0) from rfl).trans ?_
    rw [ite_self]
  rw [e, List.map_cons, List.foldl_cons]
  have e1 : stepB s none (fraction 0) = some (fraction 0, fraction (totalCost (withPrior s 0))) := by
    show some (fraction 0, costL s (fraction 0)) = _
    rw [costL_fraction g]
  rw [e1, best_fold g, ← f]
end Dt

set_option Elab.async false
set_option linter.all false
set_option maxRecDepth 100000
set_option maxHeartbeats 4000000
namespace Dt
open PySem PySem.Spec PyProof.Rows L2 Evl
def top (i : Nat) : Stmt := PySem.Challenge.pw_deterrence_s01_answers.main.body.getD i (.Pass ⟨0, 0, 0, 0⟩)
structure AdT where
  cSetting : Addr
  cInstance : Addr
  xNoSetting : Addr
  xNoSuchSignal : Addr
  xOutsideLimits : Addr
  xNoDeterrentPrior : Addr
  dOPERATIONS : Addr
structure Tx (K : PySem.W.Frag) (mg : Str → Option Value) (A : AdT) : Prop where
  cl_Setting : Cls K A.cSetting
  nA_Setting_signal_count : NoAttr K A.cSetting "signal_count"
  nA_Setting_test_weights : NoAttr K A.cSetting "test_weights"
  nA_Setting_production_weights : NoAttr K A.cSetting "production_weights"
  nA_Setting_prior_num : NoAttr K A.cSetting "prior_num"
  nA_Setting_prior_den : NoAttr K A.cSetting "prior_den"
  nA_Setting_gain : NoAttr K A.cSetting "gain"
  nA_Setting_loss : NoAttr K A.cSetting "loss"
  nA_Setting_harm_price : NoAttr K A.cSetting "harm_price"
  nA_Setting_test_price : NoAttr K A.cSetting "test_price"
  cl_Instance : Cls K A.cInstance
  nA_Instance_setting : NoAttr K A.cInstance "setting"
  g_NoSetting : mg "NoSetting" = some (.ref A.xNoSetting)
  x_NoSetting : PySem.W.excIn K A.xNoSetting [.type "Exception", .type "BaseException", .type "object"] "Exception.__new__" = true
  k_NoSetting : PySem.W.keepIn K (.ref A.xNoSetting) = true
  bs_NoSetting : PySem.W.subIn K (.ref A.xNoSetting) (.type "BaseException") = some true
  ty_NoSetting : PySem.W.typeIn K (.ref A.xNoSetting) = some (.type "type")
  g_NoSuchSignal : mg "NoSuchSignal" = some (.ref A.xNoSuchSignal)
  x_NoSuchSignal : PySem.W.excIn K A.xNoSuchSignal [.type "Exception", .type "BaseException", .type "object"] "Exception.__new__" = true
  k_NoSuchSignal : PySem.W.keepIn K (.ref A.xNoSuchSignal) = true
  bs_NoSuchSignal : PySem.W.subIn K (.ref A.xNoSuchSignal) (.type "BaseException") = some true
  ty_NoSuchSignal : PySem.W.typeIn K (.ref A.xNoSuchSignal) = some (.type "type")
  g_OutsideLimits : mg "OutsideLimits" = some (.ref A.xOutsideLimits)
  x_OutsideLimits : PySem.W.excIn K A.xOutsideLimits [.type "Exception", .type "BaseException", .type "object"] "Exception.__new__" = true
  k_OutsideLimits : PySem.W.keepIn K (.ref A.xOutsideLimits) = true
  bs_OutsideLimits : PySem.W.subIn K (.ref A.xOutsideLimits) (.type "BaseException") = some true
  ty_OutsideLimits : PySem.W.typeIn K (.ref A.xOutsideLimits) = some (.type "type")
  g_NoDeterrentPrior : mg "NoDeterrentPrior" = some (.ref A.xNoDeterrentPrior)
  x_NoDeterrentPrior : PySem.W.excIn K A.xNoDeterrentPrior [.type "Exception", .type "BaseException", .type "object"] "Exception.__new__" = true
  k_NoDeterrentPrior : PySem.W.keepIn K (.ref A.xNoDeterrentPrior) = true
  bs_NoDeterrentPrior : PySem.W.subIn K (.ref A.xNoDeterrentPrior) (.type "BaseException") = some true
  ty_NoDeterrentPrior : PySem.W.typeIn K (.ref A.xNoDeterrentPrior) = some (.type "type")
  e_NoSetting_NoSetting : PySem.W.exmOne K (.ref A.xNoSetting) (.ref A.xNoSetting) = some true
  e_NoSetting_NoSuchSignal : PySem.W.exmOne K (.ref A.xNoSetting) (.ref A.xNoSuchSignal) = some false
  e_NoSetting_OutsideLimits : PySem.W.exmOne K (.ref A.xNoSetting) (.ref A.xOutsideLimits) = some false
  e_NoSetting_NoDeterrentPrior : PySem.W.exmOne K (.ref A.xNoSetting) (.ref A.xNoDeterrentPrior) = some false
  e_NoSuchSignal_NoSetting : PySem.W.exmOne K (.ref A.xNoSuchSignal) (.ref A.xNoSetting) = some false
  e_NoSuchSignal_NoSuchSignal : PySem.W.exmOne K (.ref A.xNoSuchSignal) (.ref A.xNoSuchSignal) = some true
  e_NoSuchSignal_OutsideLimits : PySem.W.exmOne K (.ref A.xNoSuchSignal) (.ref A.xOutsideLimits) = some false
  e_NoSuchSignal_NoDeterrentPrior : PySem.W.exmOne K (.ref A.xNoSuchSignal) (.ref A.xNoDeterrentPrior) = some false
  e_OutsideLimits_NoSetting : PySem.W.exmOne K (.ref A.xOutsideLimits) (.ref A.xNoSetting) = some false
  e_OutsideLimits_NoSuchSignal : PySem.W.exmOne K (.ref A.xOutsideLimits) (.ref A.xNoSuchSignal) = some false
  e_OutsideLimits_OutsideLimits : PySem.W.exmOne K (.ref A.xOutsideLimits) (.ref A.xOutsideLimits) = some true
  e_OutsideLimits_NoDeterrentPrior : PySem.W.exmOne K (.ref A.xOutsideLimits) (.ref A.xNoDeterrentPrior) = some false
  e_NoDeterrentPrior_NoSetting : PySem.W.exmOne K (.ref A.xNoDeterrentPrior) (.ref A.xNoSetting) = some false
  e_NoDeterrentPrior_NoSuchSignal : PySem.W.exmOne K (.ref A.xNoDeterrentPrior) (.ref A.xNoSuchSignal) = some false
  e_NoDeterrentPrior_OutsideLimits : PySem.W.exmOne K (.ref A.xNoDeterrentPrior) (.ref A.xOutsideLimits) = some false
  e_NoDeterrentPrior_NoDeterrentPrior : PySem.W.exmOne K (.ref A.xNoDeterrentPrior) (.ref A.xNoDeterrentPrior) = some true
  b_sum : mg "sum" = none
  b_enumerate : mg "enumerate" = none
  b_range : mg "range" = none
  b_list : mg "list" = none
  b_abs : mg "abs" = none
  b_len : mg "len" = none
  b_max : mg "max" = none
  g_OPERATIONS : mg "OPERATIONS" = some (.ref A.dOPERATIONS)
  c_MOST_SIGNALS : ∃ t, mg "MOST_SIGNALS" = some (.int 5 t)
  c_LARGEST_WEIGHT : ∃ t, mg "LARGEST_WEIGHT" = some (.int 99 t)
  c_LARGEST_PRIOR_DEN : ∃ t, mg "LARGEST_PRIOR_DEN" = some (.int 99 t)
  c_LARGEST_AMOUNT : ∃ t, mg "LARGEST_AMOUNT" = some (.int 999 t)
abbrev s_common_divisor : Stmt := top 1
abbrev n_common_divisor : List Str := ["left", "right", "rest"]
theorem sc_common_divisor : FnScope n_common_divisor ["left", "right"] (defScope s_common_divisor) := ⟨rfl, rfl, rfl, by decide +kernel, rfl, by decide +kernel, by decide +kernel⟩
abbrev s_lowest_terms : Stmt := top 2
abbrev n_lowest_terms : List Str := ["top", "bottom", "divisor"]
theorem sc_lowest_terms : FnScope n_lowest_terms ["top", "bottom"] (defScope s_lowest_terms) := ⟨rfl, rfl, rfl, by decide +kernel, rfl, by decide +kernel, by decide +kernel⟩
abbrev s_is_less : Stmt := top 3
abbrev n_is_less : List Str := ["left", "right"]
theorem sc_is_less : FnScope n_is_less ["left", "right"] (defScope s_is_less) := ⟨rfl, rfl, rfl, by decide +kernel, rfl, by decide +kernel, by decide +kernel⟩
abbrev s_value_denominator : Stmt := top 5
abbrev n_value_denominator : List Str := ["setting"]
theorem sc_value_denominator : FnScope n_value_denominator ["setting"] (defScope s_value_denominator) := ⟨rfl, rfl, rfl, by decide +kernel, rfl, by decide +kernel, by decide +kernel⟩
abbrev s_value_numerator : Stmt := top 6
abbrev n_value_numerator : List Str := ["setting", "signal", "production_num", "earned", "lost"]
theorem sc_value_numerator : FnScope n_value_numerator ["setting", "signal"] (defScope s_value_numerator) := ⟨rfl, rfl, rfl, by decide +kernel, rfl, by decide +kernel, by decide +kernel⟩
abbrev s_paying_signals : Stmt := top 7
abbrev n_paying_signals : List Str := ["setting", "signal"]
theorem sc_paying_signals : FnScope n_paying_signals ["setting"] (defScope s_paying_signals) := ⟨rfl, rfl, rfl, by decide +kernel, rfl, by decide +kernel, by decide +kernel⟩
abbrev s_profit_at : Stmt := top 8
abbrev n_profit_at : List Str := ["setting", "signals", "top", "signal"]
theorem sc_profit_at : FnScope n_profit_at ["setting", "signals"] (defScope s_profit_at) := ⟨rfl, rfl, rfl, by decide +kernel, rfl, by decide +kernel, by decide +kernel⟩
abbrev s_joint_test_at : Stmt := top 9
abbrev n_joint_test_at : List Str := ["setting", "signals", "weight", "signal"]
theorem sc_joint_test_at : FnScope n_joint_test_at ["setting", "signals"] (defScope s_joint_test_at) := ⟨rfl, rfl, rfl, by decide +kernel, rfl, by decide +kernel, by decide +kernel⟩
abbrev s_joint_production_at : Stmt := top 10
abbrev n_joint_production_at : List Str := ["setting", "signals", "weight", "production_num", "signal"]
theorem sc_joint_production_at : FnScope n_joint_production_at ["setting", "signals"] (defScope s_joint_production_at) := ⟨rfl, rfl, rfl, by decide +kernel, rfl, by decide +kernel, by decide +kernel⟩
abbrev s_check_signal_count : Stmt := top 21
abbrev n_check_signal_count : List Str := ["signal_count"]
theorem sc_check_signal_count : FnScope n_check_signal_count ["signal_count"] (defScope s_check_signal_count) := ⟨rfl, rfl, rfl, by decide +kernel, rfl, by decide +kernel, by decide +kernel⟩
abbrev s_check_signal : Stmt := top 22
abbrev n_check_signal : List Str := ["signal", "signal_count"]
theorem sc_check_signal : FnScope n_check_signal ["signal", "signal_count"] (defScope s_check_signal) := ⟨rfl, rfl, rfl, by decide +kernel, rfl, by decide +kernel, by decide +kernel⟩
abbrev s_check_signal_set : Stmt := top 23
abbrev n_check_signal_set : List Str := ["mask", "signal_count"]
theorem sc_check_signal_set : FnScope n_check_signal_set ["mask", "signal_count"] (defScope s_check_signal_set) := ⟨rfl, rfl, rfl, by decide +kernel, rfl, by decide +kernel, by decide +kernel⟩
abbrev s_check_mapping : Stmt := top 24
abbrev n_check_mapping : List Str := ["mapping", "signal_count"]
theorem sc_check_mapping : FnScope n_check_mapping ["mapping", "signal_count"] (defScope s_check_mapping) := ⟨rfl, rfl, rfl, by decide +kernel, rfl, by decide +kernel, by decide +kernel⟩
abbrev s_check_weights : Stmt := top 25
abbrev n_check_weights : List Str := ["weights", "signal_count"]
theorem sc_check_weights : FnScope n_check_weights ["weights", "signal_count"] (defScope s_check_weights) := ⟨rfl, rfl, rfl, by decide +kernel, rfl, by decide +kernel, by decide +kernel⟩
abbrev s_check_prior : Stmt := top 26
abbrev n_check_prior : List Str := ["num", "den"]
theorem sc_check_prior : FnScope n_check_prior ["num", "den"] (defScope s_check_prior) := ⟨rfl, rfl, rfl, by decide +kernel, rfl, by decide +kernel, by decide +kernel⟩
abbrev s_check_amounts : Stmt := top 27
abbrev n_check_amounts : List Str := ["first", "second"]
theorem sc_check_amounts : FnScope n_check_amounts ["first", "second"] (defScope s_check_amounts) := ⟨rfl, rfl, rfl, by decide +kernel, rfl, by decide +kernel, by decide +kernel⟩
abbrev s_Setting_init : Stmt := inClass (top 29) 0
abbrev n_Setting_init : List Str := ["self", "signal_count"]
theorem sc_Setting_init : FnScope n_Setting_init ["self", "signal_count"] (defScope s_Setting_init) := ⟨rfl, rfl, rfl, by decide +kernel, rfl, by decide +kernel, by decide +kernel⟩
abbrev s_Setting_duplicate : Stmt := inClass (top 29) 1
abbrev n_Setting_duplicate : List Str := ["self", "other"]
theorem sc_Setting_duplicate : FnScope n_Setting_duplicate ["self"] (defScope s_Setting_duplicate) := ⟨rfl, rfl, rfl, by decide +kernel, rfl, by decide +kernel, by decide +kernel⟩
abbrev s_Setting_merge : Stmt := inClass (top 29) 2
abbrev n_Setting_merge : List Str := ["self", "mapping"]
theorem sc_Setting_merge : FnScope n_Setting_merge ["self", "mapping"] (defScope s_Setting_merge) := ⟨rfl, rfl, rfl, by decide +kernel, rfl, by decide +kernel, by decide +kernel⟩
abbrev s_merged_weights : Stmt := top 30
abbrev n_merged_weights : List Str := ["weights", "mapping", "merged", "signal", "seen_as"]
theorem sc_merged_weights : FnScope n_merged_weights ["weights", "mapping"] (defScope s_merged_weights) := ⟨rfl, rfl, rfl, by decide +kernel, rfl, by decide +kernel, by decide +kernel⟩
abbrev s_with_prior : Stmt := top 31
abbrev n_with_prior : List Str := ["setting", "num", "den", "other"]
theorem sc_with_prior : FnScope n_with_prior ["setting", "num", "den"] (defScope s_with_prior) := ⟨rfl, rfl, rfl, by decide +kernel, rfl, by decide +kernel, by decide +kernel⟩
abbrev s_with_stakes : Stmt := top 32
abbrev n_with_stakes : List Str := ["setting", "gain", "loss", "other"]
theorem sc_with_stakes : FnScope n_with_stakes ["setting", "gain", "loss"] (defScope s_with_stakes) := ⟨rfl, rfl, rfl, by decide +kernel, rfl, by decide +kernel, by decide +kernel⟩
abbrev s_with_merge : Stmt := top 33
abbrev n_with_merge : List Str := ["setting", "mapping", "other"]
theorem sc_with_merge : FnScope n_with_merge ["setting", "mapping"] (defScope s_with_merge) := ⟨rfl, rfl, rfl, by decide +kernel, rfl, by decide +kernel, by decide +kernel⟩
abbrev s_cost_of : Stmt := top 35
abbrev n_cost_of : List Str := ["setting", "harm", "tested", "harmed"]
theorem sc_cost_of : FnScope n_cost_of ["setting"] (defScope s_cost_of) := ⟨rfl, rfl, rfl, by decide +kernel, rfl, by decide +kernel, by decide +kernel⟩
abbrev s_prior_against : Stmt := top 36
abbrev n_prior_against : List Str := ["setting", "signal", "earned", "lost"]
theorem sc_prior_against : FnScope n_prior_against ["setting", "signal"] (defScope s_prior_against) := ⟨rfl, rfl, rfl, by decide +kernel, rfl, by decide +kernel, by decide +kernel⟩
abbrev s_prior_against_all : Stmt := top 37
abbrev n_prior_against_all : List Str := ["setting", "largest", "signal", "prior"]
theorem sc_prior_against_all : FnScope n_prior_against_all ["setting"] (defScope s_prior_against_all) := ⟨rfl, rfl, rfl, by decide +kernel, rfl, by decide +kernel, by decide +kernel⟩
abbrev s_priors_to_compare : Stmt := top 38
abbrev n_priors_to_compare : List Str := ["setting", "against", "signal", "prior"]
theorem sc_priors_to_compare : FnScope n_priors_to_compare ["setting"] (defScope s_priors_to_compare) := ⟨rfl, rfl, rfl, by decide +kernel, rfl, by decide +kernel, by decide +kernel⟩
abbrev s_cheapest_with_cost : Stmt := top 39
abbrev n_cheapest_with_cost : List Str := ["setting", "cheapest", "lowest", "prior", "cost"]
theorem sc_cheapest_with_cost : FnScope n_cheapest_with_cost ["setting"] (defScope s_cheapest_with_cost) := ⟨rfl, rfl, rfl, by decide +kernel, rfl, by decide +kernel, by decide +kernel⟩
abbrev s_create : Stmt := top 41
abbrev n_create : List Str := ["signal_count"]
theorem sc_create : FnScope n_create ["signal_count"] (defScope s_create) := ⟨rfl, rfl, rfl, by decide +kernel, rfl, by decide +kernel, by decide +kernel⟩
abbrev s_set_test_weights : Stmt := top 42
abbrev n_set_test_weights : List Str := ["setting", "weights"]
theorem sc_set_test_weights : FnScope n_set_test_weights ["setting", "weights"] (defScope s_set_test_weights) := ⟨rfl, rfl, rfl, by decide +kernel, rfl, by decide +kernel, by decide +kernel⟩
abbrev s_set_production_weights : Stmt := top 43
abbrev n_set_production_weights : List Str := ["setting", "weights"]
theorem sc_set_production_weights : FnScope n_set_production_weights ["setting", "weights"] (defScope s_set_production_weights) := ⟨rfl, rfl, rfl, by decide +kernel, rfl, by decide +kernel, by decide +kernel⟩
abbrev s_set_prior : Stmt := top 44
abbrev n_set_prior : List Str := ["setting", "numbers", "answer"]
theorem sc_set_prior : FnScope n_set_prior ["setting", "numbers"] (defScope s_set_prior) := ⟨rfl, rfl, rfl, by decide +kernel, rfl, by decide +kernel, by decide +kernel⟩
abbrev s_set_stakes : Stmt := top 45
abbrev n_set_stakes : List Str := ["setting", "numbers", "answer"]
theorem sc_set_stakes : FnScope n_set_stakes ["setting", "numbers"] (defScope s_set_stakes) := ⟨rfl, rfl, rfl, by decide +kernel, rfl, by decide +kernel, by decide +kernel⟩
abbrev s_set_prices : Stmt := top 46
abbrev n_set_prices : List Str := ["setting", "numbers", "answer"]
theorem sc_set_prices : FnScope n_set_prices ["setting", "numbers"] (defScope s_set_prices) := ⟨rfl, rfl, rfl, by decide +kernel, rfl, by decide +kernel, by decide +kernel⟩
abbrev s_cheating_value : Stmt := top 47
abbrev n_cheating_value : List Str := ["setting", "numbers"]
theorem sc_cheating_value : FnScope n_cheating_value ["setting", "numbers"] (defScope s_cheating_value) := ⟨rfl, rfl, rfl, by decide +kernel, rfl, by decide +kernel, by decide +kernel⟩
abbrev s_counted_signals : Stmt := top 48
abbrev n_counted_signals : List Str := ["setting", "signals"]
theorem sc_counted_signals : FnScope n_counted_signals ["setting"] (defScope s_counted_signals) := ⟨rfl, rfl, rfl, by decide +kernel, rfl, by decide +kernel, by decide +kernel⟩
abbrev s_cheating_signals : Stmt := top 49
abbrev n_cheating_signals : List Str := ["setting", "numbers"]
theorem sc_cheating_signals : FnScope n_cheating_signals ["setting", "numbers"] (defScope s_cheating_signals) := ⟨rfl, rfl, rfl, by decide +kernel, rfl, by decide +kernel, by decide +kernel⟩
abbrev s_expected_profit : Stmt := top 50
abbrev n_expected_profit : List Str := ["setting", "numbers"]
theorem sc_expected_profit : FnScope n_expected_profit ["setting", "numbers"] (defScope s_expected_profit) := ⟨rfl, rfl, rfl, by decide +kernel, rfl, by decide +kernel, by decide +kernel⟩
abbrev s_expected_profit_of : Stmt := top 51
abbrev n_expected_profit_of : List Str := ["setting", "numbers", "mask", "members", "signal"]
theorem sc_expected_profit_of : FnScope n_expected_profit_of ["setting", "numbers"] (defScope s_expected_profit_of) := ⟨rfl, rfl, rfl, by decide +kernel, rfl, by decide +kernel, by decide +kernel⟩
abbrev s_detection_probability : Stmt := top 52
abbrev n_detection_probability : List Str := ["setting", "numbers"]
theorem sc_detection_probability : FnScope n_detection_probability ["setting", "numbers"] (defScope s_detection_probability) := ⟨rfl, rfl, rfl, by decide +kernel, rfl, by decide +kernel, by decide +kernel⟩
abbrev s_harm_probability : Stmt := top 53
abbrev n_harm_probability : List Str := ["setting", "numbers"]
theorem sc_harm_probability : FnScope n_harm_probability ["setting", "numbers"] (defScope s_harm_probability) := ⟨rfl, rfl, rfl, by decide +kernel, rfl, by decide +kernel, by decide +kernel⟩
abbrev s_total_cost : Stmt := top 54
abbrev n_total_cost : List Str := ["setting", "numbers"]
theorem sc_total_cost : FnScope n_total_cost ["setting", "numbers"] (defScope s_total_cost) := ⟨rfl, rfl, rfl, by decide +kernel, rfl, by decide +kernel, by decide +kernel⟩
abbrev s_existing : Stmt := top 55
abbrev n_existing : List Str := ["prior"]
theorem sc_existing : FnScope n_existing ["prior"] (defScope s_existing) := ⟨rfl, rfl, rfl, by decide +kernel, rfl, by decide +kernel, by decide +kernel⟩
abbrev s_deterrent_prior_at : Stmt := top 56
abbrev n_deterrent_prior_at : List Str := ["setting", "numbers"]
theorem sc_deterrent_prior_at : FnScope n_deterrent_prior_at ["setting", "numbers"] (defScope s_deterrent_prior_at) := ⟨rfl, rfl, rfl, by decide +kernel, rfl, by decide +kernel, by decide +kernel⟩
abbrev s_deterrent_prior : Stmt := top 57
abbrev n_deterrent_prior : List Str := ["setting", "numbers"]
theorem sc_deterrent_prior : FnScope n_deterrent_prior ["setting", "numbers"] (defScope s_deterrent_prior) := ⟨rfl, rfl, rfl, by decide +kernel, rfl, by decide +kernel, by decide +kernel⟩
abbrev s_preview_merge : Stmt := top 58
abbrev n_preview_merge : List Str := ["setting", "mapping", "merged"]
theorem sc_preview_merge : FnScope n_preview_merge ["setting", "mapping"] (defScope s_preview_merge) := ⟨rfl, rfl, rfl, by decide +kernel, rfl, by decide +kernel, by decide +kernel⟩
abbrev s_merge_signals : Stmt := top 59
abbrev n_merge_signals : List Str := ["setting", "mapping"]
theorem sc_merge_signals : FnScope n_merge_signals ["setting", "mapping"] (defScope s_merge_signals) := ⟨rfl, rfl, rfl, by decide +kernel, rfl, by decide +kernel, by decide +kernel⟩
abbrev s_cheapest_prior : Stmt := top 60
abbrev n_cheapest_prior : List Str := ["setting", "numbers", "cheapest"]
theorem sc_cheapest_prior : FnScope n_cheapest_prior ["setting", "numbers"] (defScope s_cheapest_prior) := ⟨rfl, rfl, rfl, by decide +kernel, rfl, by decide +kernel, by decide +kernel⟩
abbrev s_cheating_signals_for_prior : Stmt := top 61
abbrev n_cheating_signals_for_prior : List Str := ["setting", "numbers"]
theorem sc_cheating_signals_for_prior : FnScope n_cheating_signals_for_prior ["setting", "numbers"] (defScope s_cheating_signals_for_prior) := ⟨rfl, rfl, rfl, by decide +kernel, rfl, by decide +kernel, by decide +kernel⟩
abbrev s_cheating_signals_for_stakes : Stmt := top 62
abbrev n_cheating_signals_for_stakes : List Str := ["setting", "numbers"]
theorem sc_cheating_signals_for_stakes : FnScope n_cheating_signals_for_stakes ["setting", "numbers"] (defScope s_cheating_signals_for_stakes) := ⟨rfl, rfl, rfl, by decide +kernel, rfl, by decide +kernel, by decide +kernel⟩
abbrev s_get_settings : Stmt := top 63
abbrev n_get_settings : List Str := ["setting", "numbers", "answer"]
theorem sc_get_settings : FnScope n_get_settings ["setting", "numbers"] (defScope s_get_settings) := ⟨rfl, rfl, rfl, by decide +kernel, rfl, by decide +kernel, by decide +kernel⟩
abbrev s_operate : Stmt := top 65
abbrev n_operate : List Str := ["setting", "number", "numbers"]
theorem sc_operate : FnScope n_operate ["setting", "number", "numbers"] (defScope s_operate) := ⟨rfl, rfl, rfl, by decide +kernel, rfl, by decide +kernel, by decide +kernel⟩
abbrev s_Instance_init : Stmt := inClass (top 67) 0
abbrev n_Instance_init : List Str := ["self"]
theorem sc_Instance_init : FnScope n_Instance_init ["self"] (defScope s_Instance_init) := ⟨rfl, rfl, rfl, by decide +kernel, rfl, by decide +kernel, by decide +kernel⟩
abbrev s_Instance_perform : Stmt := inClass (top 67) 1
abbrev n_Instance_perform : List Str := ["self", "number", "numbers"]
theorem sc_Instance_perform : FnScope n_Instance_perform ["self", "number", "numbers"] (defScope s_Instance_perform) := ⟨rfl, rfl, rfl, by decide +kernel, rfl, by decide +kernel, by decide +kernel⟩
abbrev s_Instance_answer : Stmt := inClass (top 67) 2
abbrev n_Instance_answer : List Str := ["self", "number", "numbers"]
theorem sc_Instance_answer : FnScope n_Instance_answer ["self", "number", "numbers"] (defScope s_Instance_answer) := ⟨rfl, rfl, rfl, by decide +kernel, rfl, by decide +kernel, by decide +kernel⟩
abbrev s_answers : Stmt := top 68
abbrev n_answers : List Str := ["calls", "instance", "answered", "position", "first", "behind", "reply"]
theorem sc_answers : FnScope n_answers ["calls"] (defScope s_answers) := ⟨rfl, rfl, rfl, by decide +kernel, rfl, by decide +kernel, by decide +kernel⟩
end Dt

set_option Elab.async false
set_option linter.all false
set_option maxRecDepth 100000
set_option maxHeartbeats 4000000
namespace Dt
open PySem PySem.Spec PyProof.Rows L2 Evl
local macro_rules | `(tactic| walk_at "lk") => `(tactic| first | exact lk_here | (refine (lk_past ?_).trans ?_; (· decide +kernel); walk_at "lk"))
local macro_rules | `(tactic| walk_at "bd") => `(tactic| first | assumption | exact Good.bt (by assumption) | exact Good.bp (by assumption) | exact Good.bn (by assumption) | exact Good.bd (by assumption) | exact Good.bg (by assumption) | exact Good.bl (by assumption) | exact Good.bh (by assumption) | exact Good.bc (by assumption) | exact Good.btw (by assumption) _ | exact Good.bpw (by assumption) _ | exact bd_mul (by walk_at "bd") (by walk_at "bd") | exact bd_add (by walk_at "bd") (by walk_at "bd") | exact bd_sub (by walk_at "bd") (by walk_at "bd"))
local macro_rules | `(tactic| walk_at "cm") => `(tactic| first | assumption | exact bd_cmul (by walk_at "bd") (by walk_at "bd") (by decide))
local macro_rules | `(tactic| walk_at "ev") => `(tactic| first
  | with_reducible exact ev_c
  | ((with_reducible refine' ev_var ?h); (case h => exact rfl))
  | ((with_reducible refine' f_tsum ?e ?h ?t); (case e => walk_at "ev"); (case h => assumption); (case t => assumption))
  | ((with_reducible refine' f_psum ?e ?h ?t); (case e => walk_at "ev"); (case h => assumption); (case t => assumption))
  | ((with_reducible refine' f_tix ?e ?i ?h ?t ?l); (case e => walk_at "ev"); (case i => walk_at "ev"); (case h => assumption); (case t => assumption); (case l => assumption))
  | ((with_reducible refine' f_pix ?e ?i ?h ?t ?g ?l); (case e => walk_at "ev"); (case i => walk_at "ev"); (case h => assumption); (case t => assumption); (case g => assumption); (case l => assumption))
  | ((with_reducible refine' f_count ?e ?h ?t); (case e => walk_at "ev"); (case h => assumption); (case t => assumption))
  | ((with_reducible refine' f_tw ?e ?h ?t); (case e => walk_at "ev"); (case h => assumption); (case t => assumption))
  | ((with_reducible refine' f_pw ?e ?h ?t); (case e => walk_at "ev"); (case h => assumption); (case t => assumption))
  | ((with_reducible refine' f_pn ?e ?h ?t); (case e => walk_at "ev"); (case h => assumption); (case t => assumption))
  | ((with_reducible refine' f_pd ?e ?h ?t); (case e => walk_at "ev"); (case h => assumption); (case t => assumption))
  | ((with_reducible refine' f_ga ?e ?h ?t); (case e => walk_at "ev"); (case h => assumption); (case t => assumption))
  | ((with_reducible refine' f_lo ?e ?h ?t); (case e => walk_at "ev"); (case h => assumption); (case t => assumption))
  | ((with_reducible refine' f_hp ?e ?h ?t); (case e => walk_at "ev"); (case h => assumption); (case t => assumption))
  | ((with_reducible refine' f_tp ?e ?h ?t); (case e => walk_at "ev"); (case h => assumption); (case t => assumption))
  | ((with_reducible refine' ev_gt ?a ?b); (case a => walk_at "ev"); (case b => walk_at "ev"))
  | ((with_reducible refine' ev_lt ?a ?b); (case a => walk_at "ev"); (case b => walk_at "ev"))
  | ((with_reducible refine' ev_ge ?a ?b); (case a => walk_at "ev"); (case b => walk_at "ev"))
  | ((with_reducible refine' ev_le ?a ?b); (case a => walk_at "ev"); (case b => walk_at "ev"))
  | ((with_reducible refine' ev_eqI ?a ?b); (case a => walk_at "ev"); (case b => walk_at "ev"))
  | ((with_reducible refine' ev_neI ?a ?b); (case a => walk_at "ev"); (case b => walk_at "ev"))
  | ((with_reducible refine' ev_add ?a ?b); (case a => walk_at "ev"); (case b => walk_at "ev"))
  | ((with_reducible refine' ev_sub ?a ?b); (case a => walk_at "ev"); (case b => walk_at "ev"))
  | ((with_reducible refine' ev_mul ?a ?b ?c); (case a => walk_at "ev"); (case b => walk_at "ev"); (case c => walk_at "cm"))
  | ((with_reducible refine' ev_div ?a ?b ?c); (case a => walk_at "ev"); (case b => walk_at "ev"); (case c => assumption))
  | ((with_reducible refine' ev_mod ?a ?b ?c); (case a => walk_at "ev"); (case b => walk_at "ev"); (case c => assumption))
  | ((with_reducible refine' ev_absI ?a); (case a => walk_at "ev"))
  | ((with_reducible refine' ev_callH ?a ?s); (case a => walk_at "ea"); (case s => walk_at "sp"))
  | ((with_reducible refine' ev_sumN ?a); (case a => walk_at "el")))
local macro_rules | `(tactic| walk_at "ea") => `(tactic| first
  | with_reducible exact ea_nil
  | ((with_reducible refine' ea_cons ?a ?b); (case a => walk_at "ev"); (case b => walk_at "ea")))
local macro_rules | `(tactic| walk_at "el") => `(tactic| first
  | ((with_reducible refine' el_lst ?a ?b); (case a => walk_at "ea"); (case b => exact Nat.le_of_ble_eq_true rfl))
  | ((with_reducible refine' el_callH ?a ?s); (case a => walk_at "ea"); (case s => walk_at "sp")))
local macro_rules | `(tactic| walk_at "st") => `(tactic| first
  | ((with_reducible refine' q_asg ?e ?k); (case e => walk_at "ev"))
  | ((with_reducible refine' q_asgL ?e ?k); (case e => walk_at "el"))
  | ((with_reducible refine' s_asg ?e ?k); (case e => walk_at "ev"))
  | ((with_reducible refine' s_asgL ?e ?k); (case e => walk_at "el"))
  | ((with_reducible refine' s_ret ?e ?k); (case e => walk_at "ev"))
  | ((with_reducible refine' s_retL ?e ?k); (case e => walk_at "el")))
local macro_rules | `(tactic| walk_at "et") => `(tactic| first
  | ((with_reducible refine' et_test ?e); (case e => walk_at "ev"))
  | ((with_reducible refine' et_or ?e ?f); (case e => walk_at "et"); (case f => (intro _; walk_at "et")))
  | with_reducible exact et_yes)
local macro_rules | `(tactic| walk_at "sp") => `(tactic| assumption)
/-! ### comprehensions, told by filter and map -/
section
variable {K : PySem.W.Frag} {σ : L2.St} {H H' : Hp} {ta tb te tl : TE} {t : TT} {j : Nat} {vs : List Nat}
theorem el_cR {tr : TA} {n : Nat} (p : Nat → Bool) (g : Nat → V) (h : EvA tr σ H [.int (n : Int)]) (hn : n ≤ 40000) (hw : ∀ x, wipe ((wipe σ vs).set j (some x)) vs = wipe σ vs)
    (ht : ∀ (i : Nat) H1, Ex H H1 → i < n → EvT t ((wipe σ vs).set j (some (.int (i : Int)))) H1 (p i)) (he : ∀ (i : Nat) H1, Ex H H1 → i < n → p i = true → Ev te ((wipe σ vs).set j (some (.int (i : Int)))) H1 (g i)) :
    EvL (tLc (iRng1 tr) (gName j) t te vs) σ H (((List.range n).filter p).map g) := by
  have q := el_lcR1 (te := te) (t := t) (j := j) (vs := vs) p g h ⟨by omega, by omega⟩ hw (fun i H1 e hi => ht i H1 e (by omega)) (fun i H1 e hi => he i H1 e (by omega))
  rw [Int.toNat_natCast] at q
  exact q
theorem take_snoc {α : Type} : ∀ {l : List α} {i : Nat} {x : α}, l[i]? = some x → l.take (i + 1) = l.take i ++ [x]
  | [], _, _, h => by simp at h
  | a :: l, 0, x, h => by
    cases (Option.some.inj h : a = x)
    rfl
  | a :: l, i + 1, x, h => by
    show a :: l.take (i + 1) = a :: l.take i ++ [x]
    rw [take_snoc (l := l) (i := i) h]
    rfl
theorem given_take {α : Type} (l : List α) (p : α → Bool) (g : α → V) : ∀ i, i ≤ l.length →
    given i (fun i => match l[i]? with | some x => p x | none => false) (fun i => match l[i]? with | some x => g x | none => .non) = ((l.take i).filter p).map g
  | 0, _ => rfl
  | i + 1, hi => by
    have hx : l[i]? = some l[i] := List.getElem?_eq_getElem (by omega)
    rw [take_snoc hx, List.filter_append, List.map_append, ← given_take l p g i (by omega)]
    cases hp : p l[i] with
    | true =>
      rw [given_yes (by rw [hx]; exact hp), List.filter_cons, if_pos hp, hx]
      rfl
    | false =>
      rw [given_no (by rw [hx]; exact hp), List.filter_cons, if_neg (by rw [hp]; decide)]
      exact (List.append_nil _).symm
theorem el_cL {α : Type} {a : Addr} (l : List α) (emb : α → V) (p : α → Bool) (g : α → V) (h : Ev tl σ H (.ref a)) (hx : SqL K H a (l.map emb)) (hz : l.length ≤ 40000) (hw : ∀ x, wipe ((wipe σ vs).set j (some x)) vs = wipe σ vs)
    (ht : ∀ x ∈ l, ∀ H1, Ex H H1 → EvT t ((wipe σ vs).set j (some (emb x))) H1 (p x)) (he : ∀ x ∈ l, ∀ H1, Ex H H1 → p x = true → Ev te ((wipe σ vs).set j (some (emb x))) H1 (g x)) :
    EvL (tLc (iList K tl) (gName j) t te vs) σ H ((l.filter p).map g) := by
  have q := el_lcL (te := te) (t := t) (j := j) (vs := vs) (fun i => match l[i]? with | some x => p x | none => false) (fun i => match l[i]? with | some x => g x | none => V.non) h hx (by rw [List.length_map]; exact hz) hw
    (fun i x H1 e hi => by
      rw [List.getElem?_map] at hi
      cases hy : l[i]? with
      | none => rw [hy] at hi; cases hi
      | some y =>
        rw [hy] at hi
        cases hi
        exact ht y (List.mem_of_getElem? hy) H1 e)
    (fun i x H1 e hi hf => by
      rw [List.getElem?_map] at hi
      cases hy : l[i]? with
      | none => rw [hy] at hi; cases hi
      | some y =>
        rw [hy] at hi
        cases hi
        rw [hy] at hf
        exact he y (List.mem_of_getElem? hy) H1 e hf)
  rw [List.length_map, given_take l p g l.length (Nat.le_refl _), List.take_length] at q
  exact q
theorem el_cM {α : Type} {a : Addr} (l : List α) (emb : α → V) (g : α → V) (h : Ev tl σ H (.ref a)) (hx : SqL K H a (l.map emb)) (hz : l.length ≤ 40000) (hw : ∀ x, wipe ((wipe σ vs).set j (some x)) vs = wipe σ vs)
    (he : ∀ x ∈ l, ∀ H1, Ex H H1 → Ev te ((wipe σ vs).set j (some (emb x))) H1 (g x)) : EvL (tLc (iList K tl) (gName j) tYes te vs) σ H (l.map g) := by
  have q := el_cL (K := K) (te := te) (t := tYes) (j := j) (vs := vs) l emb (fun _ => true) g h hx hz hw (fun _ _ _ _ => et_yes) (fun x hm H1 e _ => he x hm H1 e)
  rw [List.filter_eq_self.mpr (fun _ _ => rfl)] at q
  exact q
theorem el_cMI {α : Type} {a : Addr} (l : List α) (emb : α → V) (g : α → Int) (h : Ev tl σ H (.ref a)) (hx : SqL K H a (l.map emb)) (hz : l.length ≤ 40000) (hw : ∀ x, wipe ((wipe σ vs).set j (some x)) vs = wipe σ vs)
    (he : ∀ x ∈ l, ∀ H1, Ex H H1 → Ev te ((wipe σ vs).set j (some (emb x))) H1 (.int (g x))) : EvL (tLc (iList K tl) (gName j) tYes te vs) σ H ((l.map g).map V.int) := by
  rw [List.map_map]
  exact el_cM l emb (fun x => V.int (g x)) h hx hz hw he
end
/-! ### the greatest common divisor, turn by turn -/
theorem gcd_turn {l r : Int} (hl : 0 ≤ l) (hr : 0 < r) : Int.gcd r (l.fmod r) = Int.gcd l r := by
  rw [Int.fmod_eq_emod_of_nonneg l (Int.le_of_lt hr)]
  obtain ⟨m, rfl⟩ : ∃ m : Nat, l = m := ⟨l.toNat, by omega⟩
  obtain ⟨n, rfl⟩ : ∃ n : Nat, r = n := ⟨r.toNat, by omega⟩
  rw [← Int.natCast_emod]
  show Nat.gcd n (m % n) = Nat.gcd m n
  rw [Nat.gcd_comm n (m % n), ← Nat.gcd_rec n m, Nat.gcd_comm]
theorem fmod_lt {l r : Int} (hr : 0 < r) : 0 ≤ l.fmod r ∧ l.fmod r < r := by
  rw [Int.fmod_eq_emod_of_nonneg l (Int.le_of_lt hr)]
  exact ⟨Int.emod_nonneg _ (by omega), Int.emod_lt_of_pos _ hr⟩
theorem gcd_abs (i j : Int) : Int.gcd (if i < 0 then -i else i) j = Int.gcd i j := by
  split
  · exact Int.neg_gcd
  · rfl
theorem gcd_pos_of {i j : Int} (h : 0 < j) : (0 : Int) < (Int.gcd i j : Nat) := by
  have : 0 < Int.gcd i j := Int.gcd_pos_of_ne_zero_right i (by omega)
  omega
theorem bd_gcd {n : Nat} {i j : Int} (h : 0 < j) (b : Bd n j) : Bd n (Int.gcd i j : Nat) := by
  have e : Int.gcd i j ≤ j.natAbs := Nat.le_of_dvd (by omega) (by show Nat.gcd i.natAbs j.natAbs ∣ j.natAbs; exact Nat.gcd_dvd_right _ _)
  show ((Int.gcd i j : Nat) : Int).natAbs < 2 ^ n
  have : j.natAbs < 2 ^ n := b
  omega
end Dt

set_option Elab.async false
set_option linter.all false
set_option maxRecDepth 100000
set_option maxHeartbeats 4000000
namespace Dt
open PySem PySem.Spec PyProof.Rows L2 Evl
local macro_rules | `(tactic| walk_at "lk") => `(tactic| first | exact lk_here | (refine (lk_past ?_).trans ?_; (· decide +kernel); walk_at "lk"))
local macro_rules | `(tactic| walk_at "bd") => `(tactic| first | assumption | exact Good.bt (by assumption) | exact Good.bp (by assumption) | exact Good.bn (by assumption) | exact Good.bd (by assumption) | exact Good.bg (by assumption) | exact Good.bl (by assumption) | exact Good.bh (by assumption) | exact Good.bc (by assumption) | exact Good.btw (by assumption) _ | exact Good.bpw (by assumption) _ | exact bd_mul (by walk_at "bd") (by walk_at "bd") | exact bd_add (by walk_at "bd") (by walk_at "bd") | exact bd_sub (by walk_at "bd") (by walk_at "bd"))
local macro_rules | `(tactic| walk_at "cm") => `(tactic| first | assumption | exact bd_cmul (by walk_at "bd") (by walk_at "bd") (by decide))
local macro_rules | `(tactic| walk_at "ev") => `(tactic| first
  | with_reducible exact ev_c
  | ((with_reducible refine' ev_var ?h); (case h => exact rfl))
  | ((with_reducible refine' f_tsum ?e ?h ?t); (case e => walk_at "ev"); (case h => assumption); (case t => assumption))
  | ((with_reducible refine' f_psum ?e ?h ?t); (case e => walk_at "ev"); (case h => assumption); (case t => assumption))
  | ((with_reducible refine' f_tix ?e ?i ?h ?t ?l); (case e => walk_at "ev"); (case i => walk_at "ev"); (case h => assumption); (case t => assumption); (case l => assumption))
  | ((with_reducible refine' f_pix ?e ?i ?h ?t ?g ?l); (case e => walk_at "ev"); (case i => walk_at "ev"); (case h => assumption); (case t => assumption); (case g => assumption); (case l => assumption))
  | ((with_reducible refine' f_count ?e ?h ?t); (case e => walk_at "ev"); (case h => assumption); (case t => assumption))
  | ((with_reducible refine' f_tw ?e ?h ?t); (case e => walk_at "ev"); (case h => assumption); (case t => assumption))
  | ((with_reducible refine' f_pw ?e ?h ?t); (case e => walk_at "ev"); (case h => assumption); (case t => assumption))
  | ((with_reducible refine' f_pn ?e ?h ?t); (case e => walk_at "ev"); (case h => assumption); (case t => assumption))
  | ((with_reducible refine' f_pd ?e ?h ?t); (case e => walk_at "ev"); (case h => assumption); (case t => assumption))
  | ((with_reducible refine' f_ga ?e ?h ?t); (case e => walk_at "ev"); (case h => assumption); (case t => assumption))
  | ((with_reducible refine' f_lo ?e ?h ?t); (case e => walk_at "ev"); (case h => assumption); (case t => assumption))
  | ((with_reducible refine' f_hp ?e ?h ?t); (case e => walk_at "ev"); (case h => assumption); (case t => assumption))
  | ((with_reducible refine' f_tp ?e ?h ?t); (case e => walk_at "ev"); (case h => assumption); (case t => assumption))
  | ((with_reducible refine' ev_gt ?a ?b); (case a => walk_at "ev"); (case b => walk_at "ev"))
  | ((with_reducible refine' ev_lt ?a ?b); (case a => walk_at "ev"); (case b => walk_at "ev"))
  | ((with_reducible refine' ev_ge ?a ?b); (case a => walk_at "ev"); (case b => walk_at "ev"))
  | ((with_reducible refine' ev_le ?a ?b); (case a => walk_at "ev"); (case b => walk_at "ev"))
  | ((with_reducible refine' ev_eqI ?a ?b); (case a => walk_at "ev"); (case b => walk_at "ev"))
  | ((with_reducible refine' ev_neI ?a ?b); (case a => walk_at "ev"); (case b => walk_at "ev"))
  | ((with_reducible refine' ev_add ?a ?b); (case a => walk_at "ev"); (case b => walk_at "ev"))
  | ((with_reducible refine' ev_sub ?a ?b); (case a => walk_at "ev"); (case b => walk_at "ev"))
  | ((with_reducible refine' ev_mul ?a ?b ?c); (case a => walk_at "ev"); (case b => walk_at "ev"); (case c => walk_at "cm"))
  | ((with_reducible refine' ev_div ?a ?b ?c); (case a => walk_at "ev"); (case b => walk_at "ev"); (case c => assumption))
  | ((with_reducible refine' ev_mod ?a ?b ?c); (case a => walk_at "ev"); (case b => walk_at "ev"); (case c => assumption))
  | ((with_reducible refine' ev_absI ?a); (case a => walk_at "ev"))
  | ((with_reducible refine' ev_callH ?a ?s); (case a => walk_at "ea"); (case s => walk_at "sp"))
  | ((with_reducible refine' ev_sumN ?a); (case a => walk_at "el")))
local macro_rules | `(tactic| walk_at "ea") => `(tactic| first
  | with_reducible exact ea_nil
  | ((with_reducible refine' ea_cons ?a ?b); (case a => walk_at "ev"); (case b => walk_at "ea")))
local macro_rules | `(tactic| walk_at "el") => `(tactic| first
  | ((with_reducible refine' el_lst ?a ?b); (case a => walk_at "ea"); (case b => exact Nat.le_of_ble_eq_true rfl))
  | ((with_reducible refine' el_callH ?a ?s); (case a => walk_at "ea"); (case s => walk_at "sp")))
local macro_rules | `(tactic| walk_at "st") => `(tactic| first
  | ((with_reducible refine' q_asg ?e ?k); (case e => walk_at "ev"))
  | ((with_reducible refine' q_asgL ?e ?k); (case e => walk_at "el"))
  | ((with_reducible refine' s_asg ?e ?k); (case e => walk_at "ev"))
  | ((with_reducible refine' s_asgL ?e ?k); (case e => walk_at "el"))
  | ((with_reducible refine' s_ret ?e ?k); (case e => walk_at "ev"))
  | ((with_reducible refine' s_retL ?e ?k); (case e => walk_at "el")))
local macro_rules | `(tactic| walk_at "et") => `(tactic| first
  | ((with_reducible refine' et_test ?e); (case e => walk_at "ev"))
  | ((with_reducible refine' et_or ?e ?f); (case e => walk_at "et"); (case f => (intro _; walk_at "et")))
  | with_reducible exact et_yes)
local macro_rules | `(tactic| walk_at "sp") => `(tactic| assumption)
local macro_rules | `(tactic| walk_at "if") => `(tactic| first
  | ((with_reducible refine' q_when ?e ?k1 ?k2); (case e => walk_at "et"))
  | ((with_reducible refine' s_when ?e ?k1 ?k2); (case e => walk_at "et"))
  | ((with_reducible refine' q_if ?e ?k1 ?k2); (case e => walk_at "et"))
  | ((with_reducible refine' s_if ?e ?k1 ?k2); (case e => walk_at "et")))
local macro_rules | `(tactic| walk_at "pt") => `(tactic| first | exact put_here | (refine put_step ?_ ?_; (· decide +kernel); walk_at "pt"))
local macro_rules | `(tactic| walk_at "ev") => `(tactic| first
  | ((with_reducible refine' ev_ix0 ?e ?h); (case e => walk_at "ev"); (case h => assumption))
  | ((with_reducible refine' ev_ix1 ?e ?h); (case e => walk_at "ev"); (case h => assumption)))
/-! ### what changes at one place alone -/
def But (a : Addr) (H H' : Hp) : Prop := ∀ b o, H b = some o → b ≠ a → H' b = some o
theorem But.of {a : Addr} {H H' : Hp} (e : Ex H H') : But a H H' := fun b o h _ => e b o h
theorem But.refl {a : Addr} {H : Hp} : But a H H := fun _ _ h _ => h
theorem But.trans {a : Addr} {H H1 H2 : Hp} (x : But a H H1) (y : But a H1 H2) : But a H H2 := fun b o h n => y b o (x b o h n) n
theorem But.upd {a : Addr} {H H1 : Hp} {o : HO} (e : Ex H H1) : But a H (L2.upd H1 a o) := fun b u h n => by
  rw [upd_ne n]
  exact e b u h
theorem But.up {a : Addr} {H H1 : Hp} {o : HO} (e : Ex (L2.upd H a o) H1) : But a H H1 := fun b u h n => e b u (by rw [upd_ne n]; exact h)
theorem But.put {a : Addr} {H : Hp} {o : HO} : But a H (L2.upd H a o) := fun b u h n => by
  rw [upd_ne n]
  exact h
theorem But.free {a b : Addr} {H H' : Hp} (e : But a H H') (n : b ≠ a) (h : H' b = none) : H b = none := by
  cases q : H b with
  | none => rfl
  | some o =>
    rw [e b o q n] at h
    cases h
theorem ne_of_some {a b : Addr} {H : Hp} {o u : HO} (h : H a = some o) (k : H b = some u) (n : o ≠ u) : a ≠ b := fun e => by
  subst e
  rw [h] at k
  exact n (Option.some.inj k)
theorem ne_upd {a t : Addr} {H : Hp} {o : HO} (h : upd H a o t = none) : t ≠ a := fun e => by
  subst e
  rw [upd_same] at h
  cases h
theorem put_new {f : Str} {v : V} : ∀ {l : List (Str × V)}, ((l.map Prod.fst).all fun g => g != f) = true → putF f v l = l ++ [(f, v)]
  | [], _ => rfl
  | (g, x) :: l, h => by
    rw [List.map_cons, List.all_cons, Bool.and_eq_true] at h
    have hg : ¬ g = f := by simpa using h.1
    rw [show putF f v ((g, x) :: l) = (g, x) :: putF f v l from if_neg hg, put_new h.2]
    rfl
section
variable {K : PySem.W.Frag} {σ : L2.St} {H H' : Hp} {ta tb te tv : TE} {D : Ends} {tz : TS} {v : V} {xs : List V} {a C dx : Addr} {fs : List (Str × V)} {f : Str} {E : XK} {tr : TA}
theorem s_fld (hv : Ev tv σ H v) (ha : Ev ta σ H (.ref a)) (ho : H a = some (.ins C dx fs)) (hc : Cls K C) (hn : NoAttr K C f) (hl : fs.length < 1000) (k : ∀ H1, Ex H H1 → D.nx σ (upd H1 a (.ins C dx (putF f v fs)))) : sFld K ta tv f D σ H :=
  hv H (Ex.refl H) _ fun H1 e1 => ha H1 e1 _ fun H2 e2 => ⟨a, C, dx, fs, rfl, (e1.trans e2) a _ ho, hc, hn, hl, k H2 (e1.trans e2)⟩
theorem s_fldL (hv : EvL tv σ H xs) (ha : Ev ta σ H (.ref a)) (ho : H a = some (.ins C dx fs)) (hc : Cls K C) (hn : NoAttr K C f) (hl : fs.length < 1000)
    (k : ∀ p H1, H p = none → Ex H H1 → H1 p = some (.lst xs) → D.nx σ (upd H1 a (.ins C dx (putF f (.ref p) fs)))) : sFld K ta tv f D σ H :=
  hv H (Ex.refl H) _ fun p H1 hp e1 h1 => ha H1 e1 _ fun H2 e2 => ⟨a, C, dx, fs, rfl, (e1.trans e2) a _ ho, hc, hn, hl, k p H2 hp (e1.trans e2) (e2 p _ h1)⟩
theorem q_fld (hv : Ev tv σ H v) (ha : Ev ta σ H (.ref a)) (ho : H a = some (.ins C dx fs)) (hc : Cls K C) (hn : NoAttr K C f) (hl : fs.length < 1000) (k : ∀ H1, Ex H H1 → tz D σ (upd H1 a (.ins C dx (putF f v fs)))) : tSeq (sFld K ta tv f) tz D σ H :=
  s_fld (D := { D with nx := tz D }) hv ha ho hc hn hl k
theorem q_fldL (hv : EvL tv σ H xs) (ha : Ev ta σ H (.ref a)) (ho : H a = some (.ins C dx fs)) (hc : Cls K C) (hn : NoAttr K C f) (hl : fs.length < 1000)
    (k : ∀ p H1, H p = none → Ex H H1 → H1 p = some (.lst xs) → tz D σ (upd H1 a (.ins C dx (putF f (.ref p) fs)))) : tSeq (sFld K ta tv f) tz D σ H :=
  s_fldL (D := { D with nx := tz D }) hv ha ho hc hn hl k
theorem q_fldNew (ns : List Str) (hv : Ev tv σ H v) (ha : Ev ta σ H (.ref a)) (ho : H a = some (.ins C dx fs)) (hc : Cls K C) (hn : NoAttr K C f) (hns : fs.map Prod.fst = ns) (hall : (decide (ns.length < 1000) && ns.all fun g => g != f) = true)
    (k : ∀ H1, Ex H H1 → tz D σ (upd H1 a (.ins C dx (fs ++ [(f, v)])))) : tSeq (sFld K ta tv f) tz D σ H := by
  rw [Bool.and_eq_true, decide_eq_true_eq, ← hns] at hall
  refine q_fld hv ha ho hc hn (by rw [List.length_map] at hall; exact hall.1) fun H1 e => ?_
  rw [put_new hall.2]
  exact k H1 e
theorem q_fldNewL (ns : List Str) (hv : EvL tv σ H xs) (ha : Ev ta σ H (.ref a)) (ho : H a = some (.ins C dx fs)) (hc : Cls K C) (hn : NoAttr K C f) (hns : fs.map Prod.fst = ns) (hall : (decide (ns.length < 1000) && ns.all fun g => g != f) = true)
    (k : ∀ p H1, H p = none → Ex H H1 → H1 p = some (.lst xs) → tz D σ (upd H1 a (.ins C dx (fs ++ [(f, .ref p)])))) : tSeq (sFld K ta tv f) tz D σ H := by
  rw [Bool.and_eq_true, decide_eq_true_eq, ← hns] at hall
  refine q_fldL hv ha ho hc hn (by rw [List.length_map] at hall; exact hall.1) fun p H1 hp e h1 => ?_
  rw [put_new hall.2]
  exact k p H1 hp e h1
theorem s_fldNew (ns : List Str) (hv : Ev tv σ H v) (ha : Ev ta σ H (.ref a)) (ho : H a = some (.ins C dx fs)) (hc : Cls K C) (hn : NoAttr K C f) (hns : fs.map Prod.fst = ns) (hall : (decide (ns.length < 1000) && ns.all fun g => g != f) = true)
    (k : ∀ H1, Ex H H1 → D.nx σ (upd H1 a (.ins C dx (fs ++ [(f, v)])))) : sFld K ta tv f D σ H := by
  rw [Bool.and_eq_true, decide_eq_true_eq, ← hns] at hall
  refine s_fld hv ha ho hc hn (by rw [List.length_map] at hall; exact hall.1) fun H1 e => ?_
  rw [put_new hall.2]
  exact k H1 e
/-- a check: an error of the class, or nothing -/
def spChk (Pr : List V → Hp → Option Addr → Prop) : Sp := fun vs H Q E => ∃ H0 r, Ex H0 H ∧ Pr vs H0 r ∧ (∀ x, r = some x → ∀ H', Ex H H' → E (.ref x) none H') ∧ (r = none → ∀ H', Ex H H' → Q .non H')
theorem q_chk {Pr : List V → Hp → Option Addr → Prop} {vs : List V} {r : Option Addr} (ha : EvA tr σ H vs) (hp : Pr vs H r) (kx : ∀ x, r = some x → ∀ H', Ex H H' → E (.ref x) none H') (kn : r = none → ∀ H', Ex H H' → tz D σ H') :
    tSeq (tDrop (tCallH (spChk Pr) E tr)) tz D σ H :=
  ha H (Ex.refl H) _ fun H1 e1 => ⟨H, r, e1, hp, fun x hx H' e => kx x hx H' (e1.trans e), fun hr H' e => kn hr H' (e1.trans e)⟩
theorem s_retC {sp : Sp} {vs : List V} (h : EvA tr σ H vs) (k : ∀ H1, Ex H H1 → sp vs H1 D.rt E) : tRet (tCallH sp E tr) D σ H := h H (Ex.refl H) _ k
theorem q_fldC {sp : Sp} {vs : List V} (h : EvA tr σ H vs) (k : ∀ H1, Ex H H1 → sp vs H1 (fun y H2 => ta σ H2 fun x H3 => ∃ a C dx fs, x = .ref a ∧ H3 a = some (.ins C dx fs) ∧ Cls K C ∧ NoAttr K C f ∧ fs.length < 1000 ∧ tz D σ (L2.upd H3 a (.ins C dx (putF f y fs)))) E) :
    tSeq (sFld K ta (tCallH sp E tr) f) tz D σ H := h H (Ex.refl H) _ k
theorem s_retM {sp : Sp} {vs : List V} {m : Str} {E : L2.St → XK} (ha : Ev ta σ H (.ref a)) (ho : H a = some (.ins C dx fs)) (hl : fs.lookup m = none) (h : EvA tr σ H vs) (k : ∀ H1, Ex H H1 → sp (.ref a :: vs) H1 D.rt (E σ)) : tRet (tMethH C m sp E ta tr) D σ H :=
  ha H (Ex.refl H) _ fun H1 e1 => ⟨a, dx, fs, rfl, e1 a _ ho, hl, h H1 e1 _ fun H2 e2 => k H2 (e1.trans e2)⟩
theorem q_asgM {sp : Sp} {vs : List V} {m : Str} {E : L2.St → XK} {i : Nat} (ha : Ev ta σ H (.ref a)) (ho : H a = some (.ins C dx fs)) (hl : fs.lookup m = none) (h : EvA tr σ H vs) (k : ∀ H1, Ex H H1 → sp (.ref a :: vs) H1 (fun v H2 => tz D (σ.set i (some v)) H2) (E σ)) : tSeq (tAsg (tMethH C m sp E ta tr) (gName i)) tz D σ H :=
  ha H (Ex.refl H) _ fun H1 e1 => ⟨a, dx, fs, rfl, e1 a _ ho, hl, h H1 e1 _ fun H2 e2 => k H2 (e1.trans e2)⟩
end
end Dt

set_option Elab.async false
set_option linter.all false
set_option maxRecDepth 100000
set_option maxHeartbeats 4000000
namespace Dt
open PySem PySem.Spec PyProof.Rows L2 Evl
open Kp415 (signalCount)
abbrev Stg := Kp416.Setting

theorem lk_here {k : Str} {v : V} {r : List (Str × V)} : List.lookup k ((k, v) :: r) = some v := by
  have e : (k == k) = true := beq_self_eq_true k
  simp only [List.lookup, e]
theorem lk_past {k g : Str} {v : V} {r : List (Str × V)} (h : (k == g) = false) : List.lookup k ((g, v) :: r) = List.lookup k r := by
  simp only [List.lookup, h]
theorem put_here {f : Str} {v x : V} {r : List (Str × V)} : putF f v ((f, x) :: r) = (f, v) :: r := if_pos rfl
theorem put_past {f g : Str} {v x : V} {r : List (Str × V)} (h : ¬ g = f) : putF f v ((g, x) :: r) = (g, x) :: putF f v r := if_neg h

local macro_rules | `(tactic| walk_at "lk") => `(tactic| first | exact lk_here | (refine (lk_past ?_).trans ?_; (· decide +kernel); walk_at "lk"))

/-! ### lists of natural numbers as values -/
def natI (l : List Nat) : List Int := l.map fun (x : Nat) => (x : Int)
def nats (l : List Nat) : List V := l.map fun (x : Nat) => V.int (x : Int)
theorem nats_eq (l : List Nat) : nats l = (natI l).map V.int := by
  unfold nats natI
  rw [List.map_map]
  rfl
theorem natI_sum : ∀ l : List Nat, (natI l).sum = ((l.sum : Nat) : Int)
  | [] => rfl
  | a :: l => by
    show ((a : Int) :: natI l).sum = _
    rw [List.sum_cons, natI_sum l, List.sum_cons]
    omega
theorem nats_len (l : List Nat) : (nats l).length = l.length := by unfold nats; rw [List.length_map]
theorem nats_at {l : List Nat} {i : Nat} (h : i < l.length) : atI (nats l) (i : Int) = some (.int ((l.getD i 0 : Nat) : Int)) := by
  refine atI_nat ?_
  unfold nats
  rw [List.getElem?_map, List.getElem?_eq_getElem h]
  show some (V.int ((l[i] : Nat) : Int)) = _
  rw [List.getD_eq_getElem?_getD, List.getElem?_eq_getElem h]
  rfl

/-! ### the setting in the heap -/
def setF (s : Stg) (t p : Addr) : List (Str × V) :=
  [("signal_count", .int ((signalCount s.model : Nat) : Int)), ("test_weights", .ref t), ("production_weights", .ref p), ("prior_num", .int (pN s)), ("prior_den", .int (pD s)),
   ("gain", .int (ga s)), ("loss", .int (lo s)), ("harm_price", .int (hP s)), ("test_price", .int (tP s))]
structure SetAt (A : AdT) (H : Hp) (a : Addr) (s : Stg) (t p : Addr) : Prop where
  ob : ∃ dx, H a = some (.ins A.cSetting dx (setF s t p))
  tw : H t = some (.lst (nats s.model.testWeights))
  pw : H p = some (.lst (nats s.model.productionWeights))
theorem SetAt.mono {A : AdT} {H H' : Hp} {a t p : Addr} {s : Stg} (h : SetAt A H a s t p) (e : Ex H H') : SetAt A H' a s t p := by
  obtain ⟨dx, ob⟩ := h.ob
  exact ⟨⟨dx, e a _ ob⟩, e t _ h.tw, e p _ h.pw⟩
/-- what holds of a setting: enough for every step -/
structure Good (s : Stg) : Prop where
  pos : Pos s
  len : s.model.productionWeights.length = s.model.testWeights.length
  n1 : 0 < signalCount s.model
  n5 : signalCount s.model ≤ 5
  bt : Bd 16 (tS s)
  bp : Bd 16 (pS s)
  nd : pN s ≤ pD s
  bn : Bd 64 (pN s)
  bd : Bd 64 (pD s)
  bg : Bd 16 (ga s)
  bl : Bd 16 (lo s)
  bh : Bd 16 (hP s)
  bc : Bd 16 (tP s)
theorem le_sum_getD : ∀ (l : List Nat) (i : Nat), l.getD i 0 ≤ l.sum
  | [], _ => by simp
  | a :: l, 0 => by
    show a ≤ (a :: l).sum
    rw [List.sum_cons]
    omega
  | a :: l, i + 1 => by
    show l.getD i 0 ≤ (a :: l).sum
    have := le_sum_getD l i
    rw [List.sum_cons]
    omega
theorem Good.btw {s : Stg} (g : Good s) (i : Nat) : Bd 16 (tW s i) := by
  have h := g.bt
  have := le_sum_getD s.model.testWeights i
  unfold Bd tS at h
  unfold Bd tW
  omega
theorem Good.btw_lt {s : Stg} (g : Good s) (i : Nat) : 0 ≤ tW s i ∧ tW s i < 65536 := by
  have h := g.btw i
  unfold Bd at h
  unfold tW at h ⊢
  omega
theorem sum_le_mul {f : Nat → Int} (h : ∀ i, 0 ≤ f i ∧ f i < 65536) : ∀ l : List Nat, 0 ≤ (l.map f).sum ∧ (l.map f).sum ≤ 65536 * (l.length : Int)
  | [] => by simp
  | a :: l => by
    have q := sum_le_mul h l
    have := h a
    rw [List.map_cons, List.sum_cons, List.length_cons]
    omega
theorem sum_bd {s : Stg} (g : Good s) {l : List Nat} (hl : l.length ≤ 5) : Bd 32 (l.map (tW s)).sum := by
  have q := sum_le_mul g.btw_lt l
  unfold Bd
  omega
theorem Good.bpw {s : Stg} (g : Good s) (i : Nat) : Bd 16 (pW s i) := by
  have h := g.bp
  have := le_sum_getD s.model.productionWeights i
  unfold Bd pS at h
  unfold Bd pW
  omega

section
variable {K : PySem.W.Frag} {mg : Str → Option Value} {A : AdT} {σ : L2.St} {H : Hp} {ta tb : TE} {a t p : Addr} {s : Stg}
theorem f_count (he : Ev ta σ H (.ref a)) (h : SetAt A H a s t p) (T : Tx K mg A) : Ev (tFld K ta "signal_count") σ H (.int ((signalCount s.model : Nat) : Int)) := by
  obtain ⟨dx, ob⟩ := h.ob
  exact ev_fld he ob T.cl_Setting T.nA_Setting_signal_count (by walk_at "lk")
theorem f_tw (he : Ev ta σ H (.ref a)) (h : SetAt A H a s t p) (T : Tx K mg A) : Ev (tFld K ta "test_weights") σ H (.ref t) := by
  obtain ⟨dx, ob⟩ := h.ob
  exact ev_fld he ob T.cl_Setting T.nA_Setting_test_weights (by walk_at "lk")
theorem f_pw (he : Ev ta σ H (.ref a)) (h : SetAt A H a s t p) (T : Tx K mg A) : Ev (tFld K ta "production_weights") σ H (.ref p) := by
  obtain ⟨dx, ob⟩ := h.ob
  exact ev_fld he ob T.cl_Setting T.nA_Setting_production_weights (by walk_at "lk")
theorem f_pn (he : Ev ta σ H (.ref a)) (h : SetAt A H a s t p) (T : Tx K mg A) : Ev (tFld K ta "prior_num") σ H (.int (pN s)) := by
  obtain ⟨dx, ob⟩ := h.ob
  exact ev_fld he ob T.cl_Setting T.nA_Setting_prior_num (by walk_at "lk")
theorem f_pd (he : Ev ta σ H (.ref a)) (h : SetAt A H a s t p) (T : Tx K mg A) : Ev (tFld K ta "prior_den") σ H (.int (pD s)) := by
  obtain ⟨dx, ob⟩ := h.ob
  exact ev_fld he ob T.cl_Setting T.nA_Setting_prior_den (by walk_at "lk")
theorem f_ga (he : Ev ta σ H (.ref a)) (h : SetAt A H a s t p) (T : Tx K mg A) : Ev (tFld K ta "gain") σ H (.int (ga s)) := by
  obtain ⟨dx, ob⟩ := h.ob
  exact ev_fld he ob T.cl_Setting T.nA_Setting_gain (by walk_at "lk")
theorem f_lo (he : Ev ta σ H (.ref a)) (h : SetAt A H a s t p) (T : Tx K mg A) : Ev (tFld K ta "loss") σ H (.int (lo s)) := by
  obtain ⟨dx, ob⟩ := h.ob
  exact ev_fld he ob T.cl_Setting T.nA_Setting_loss (by walk_at "lk")
theorem f_hp (he : Ev ta σ H (.ref a)) (h : SetAt A H a s t p) (T : Tx K mg A) : Ev (tFld K ta "harm_price") σ H (.int (hP s)) := by
  obtain ⟨dx, ob⟩ := h.ob
  exact ev_fld he ob T.cl_Setting T.nA_Setting_harm_price (by walk_at "lk")
theorem f_tp (he : Ev ta σ H (.ref a)) (h : SetAt A H a s t p) (T : Tx K mg A) : Ev (tFld K ta "test_price") σ H (.int (tP s)) := by
  obtain ⟨dx, ob⟩ := h.ob
  exact ev_fld he ob T.cl_Setting T.nA_Setting_test_price (by walk_at "lk")
theorem f_tsum (he : Ev ta σ H (.ref a)) (h : SetAt A H a s t p) (T : Tx K mg A) : Ev (tCB (rSum K) (tCons (tFld K ta "test_weights") tNil)) σ H (.int (tS s)) := by
  have q := ev_sum (K := K) (ns := natI s.model.testWeights) (f_tw he h T) (by rw [← nats_eq]; exact sq_of h.tw)
  rw [natI_sum] at q
  exact q
theorem f_psum (he : Ev ta σ H (.ref a)) (h : SetAt A H a s t p) (T : Tx K mg A) : Ev (tCB (rSum K) (tCons (tFld K ta "production_weights") tNil)) σ H (.int (pS s)) := by
  have q := ev_sum (K := K) (ns := natI s.model.productionWeights) (f_pw he h T) (by rw [← nats_eq]; exact sq_of h.pw)
  rw [natI_sum] at q
  exact q
theorem f_tix {i : Nat} (he : Ev ta σ H (.ref a)) (hb : Ev tb σ H (.int (i : Int))) (h : SetAt A H a s t p) (T : Tx K mg A) (hi : i < signalCount s.model) : Ev (tOp (rIxL K) (tFld K ta "test_weights") tb) σ H (.int (tW s i)) :=
  ev_ixL (f_tw he h T) hb (sq_of h.tw) (nats_at hi)
theorem f_pix {i : Nat} (he : Ev ta σ H (.ref a)) (hb : Ev tb σ H (.int (i : Int))) (h : SetAt A H a s t p) (T : Tx K mg A) (g : Good s) (hi : i < signalCount s.model) : Ev (tOp (rIxL K) (tFld K ta "production_weights") tb) σ H (.int (pW s i)) :=
  ev_ixL (f_pw he h T) hb (sq_of h.pw) (nats_at (by rw [g.len]; exact hi))
end
end Dt

set_option Elab.async false
set_option linter.all false
set_option maxRecDepth 100000
set_option maxHeartbeats 600000
namespace Dt
open PySem PySem.Spec PyProof.Rows L2 Evl
local macro_rules | `(tactic| walk_at "lk") => `(tactic| first | exact lk_here | (refine (lk_past ?_).trans ?_; (· decide +kernel); walk_at "lk"))
local macro_rules | `(tactic| walk_at "bd") => `(tactic| first | assumption | exact Good.bt (by assumption) | exact Good.bp (by assumption) | exact Good.bn (by assumption) | exact Good.bd (by assumption) | exact Good.bg (by assumption) | exact Good.bl (by assumption) | exact Good.bh (by assumption) | exact Good.bc (by assumption) | exact Good.btw (by assumption) _ | exact Good.bpw (by assumption) _ | exact bd_mul (by walk_at "bd") (by walk_at "bd") | exact bd_add (by walk_at "bd") (by walk_at "bd") | exact bd_sub (by walk_at "bd") (by walk_at "bd"))
local macro_rules | `(tactic| walk_at "cm") => `(tactic| first | assumption | exact bd_cmul (by walk_at "bd") (by walk_at "bd") (by decide))
local macro_rules | `(tactic| walk_at "ev") => `(tactic| first
  | with_reducible exact ev_c
  | ((with_reducible refine' ev_var ?h); (case h => exact rfl))
  | ((with_reducible refine' f_tsum ?e ?h ?t); (case e => walk_at "ev"); (case h => assumption); (case t => assumption))
  | ((with_reducible refine' f_psum ?e ?h ?t); (case e => walk_at "ev"); (case h => assumption); (case t => assumption))
  | ((with_reducible refine' f_tix ?e ?i ?h ?t ?l); (case e => walk_at "ev"); (case i => walk_at "ev"); (case h => assumption); (case t => assumption); (case l => assumption))
  | ((with_reducible refine' f_pix ?e ?i ?h ?t ?g ?l); (case e => walk_at "ev"); (case i => walk_at "ev"); (case h => assumption); (case t => assumption); (case g => assumption); (case l => assumption))
  | ((with_reducible refine' f_count ?e ?h ?t); (case e => walk_at "ev"); (case h => assumption); (case t => assumption))
  | ((with_reducible refine' f_tw ?e ?h ?t); (case e => walk_at "ev"); (case h => assumption); (case t => assumption))
  | ((with_reducible refine' f_pw ?e ?h ?t); (case e => walk_at "ev"); (case h => assumption); (case t => assumption))
  | ((with_reducible refine' f_pn ?e ?h ?t); (case e => walk_at "ev"); (case h => assumption); (case t => assumption))
  | ((with_reducible refine' f_pd ?e ?h ?t); (case e => walk_at "ev"); (case h => assumption); (case t => assumption))
  | ((with_reducible refine' f_ga ?e ?h ?t); (case e => walk_at "ev"); (case h => assumption); (case t => assumption))
  | ((with_reducible refine' f_lo ?e ?h ?t); (case e => walk_at "ev"); (case h => assumption); (case t => assumption))
  | ((with_reducible refine' f_hp ?e ?h ?t); (case e => walk_at "ev"); (case h => assumption); (case t => assumption))
  | ((with_reducible refine' f_tp ?e ?h ?t); (case e => walk_at "ev"); (case h => assumption); (case t => assumption))
  | ((with_reducible refine' ev_gt ?a ?b); (case a => walk_at "ev"); (case b => walk_at "ev"))
  | ((with_reducible refine' ev_lt ?a ?b); (case a => walk_at "ev"); (case b => walk_at "ev"))
  | ((with_reducible refine' ev_ge ?a ?b); (case a => walk_at "ev"); (case b => walk_at "ev"))
  | ((with_reducible refine' ev_le ?a ?b); (case a => walk_at "ev"); (case b => walk_at "ev"))
  | ((with_reducible refine' ev_eqI ?a ?b); (case a => walk_at "ev"); (case b => walk_at "ev"))
  | ((with_reducible refine' ev_neI ?a ?b); (case a => walk_at "ev"); (case b => walk_at "ev"))
  | ((with_reducible refine' ev_add ?a ?b); (case a => walk_at "ev"); (case b => walk_at "ev"))
  | ((with_reducible refine' ev_sub ?a ?b); (case a => walk_at "ev"); (case b => walk_at "ev"))
  | ((with_reducible refine' ev_mul ?a ?b ?c); (case a => walk_at "ev"); (case b => walk_at "ev"); (case c => walk_at "cm"))
  | ((with_reducible refine' ev_div ?a ?b ?c); (case a => walk_at "ev"); (case b => walk_at "ev"); (case c => assumption))
  | ((with_reducible refine' ev_mod ?a ?b ?c); (case a => walk_at "ev"); (case b => walk_at "ev"); (case c => assumption))
  | ((with_reducible refine' ev_absI ?a); (case a => walk_at "ev"))
  | ((with_reducible refine' ev_callH ?a ?s); (case a => walk_at "ea"); (case s => walk_at "sp"))
  | ((with_reducible refine' ev_sumN ?a); (case a => walk_at "el")))
local macro_rules | `(tactic| walk_at "ea") => `(tactic| first
  | with_reducible exact ea_nil
  | ((with_reducible refine' ea_cons ?a ?b); (case a => walk_at "ev"); (case b => walk_at "ea")))
local macro_rules | `(tactic| walk_at "el") => `(tactic| first
  | ((with_reducible refine' el_lst ?a ?b); (case a => walk_at "ea"); (case b => exact Nat.le_of_ble_eq_true rfl))
  | ((with_reducible refine' el_callH ?a ?s); (case a => walk_at "ea"); (case s => walk_at "sp")))
local macro_rules | `(tactic| walk_at "st") => `(tactic| first
  | ((with_reducible refine' q_asg ?e ?k); (case e => walk_at "ev"))
  | ((with_reducible refine' q_asgL ?e ?k); (case e => walk_at "el"))
  | ((with_reducible refine' s_asg ?e ?k); (case e => walk_at "ev"))
  | ((with_reducible refine' s_asgL ?e ?k); (case e => walk_at "el"))
  | ((with_reducible refine' s_ret ?e ?k); (case e => walk_at "ev"))
  | ((with_reducible refine' s_retL ?e ?k); (case e => walk_at "el")))
local macro_rules | `(tactic| walk_at "et") => `(tactic| first
  | ((with_reducible refine' et_test ?e); (case e => walk_at "ev"))
  | ((with_reducible refine' et_or ?e ?f); (case e => walk_at "et"); (case f => (intro _; walk_at "et")))
  | with_reducible exact et_yes)
local macro_rules | `(tactic| walk_at "sp") => `(tactic| assumption)
local macro_rules | `(tactic| walk_at "if") => `(tactic| first
  | ((with_reducible refine' q_when ?e ?k1 ?k2); (case e => walk_at "et"))
  | ((with_reducible refine' s_when ?e ?k1 ?k2); (case e => walk_at "et"))
  | ((with_reducible refine' q_if ?e ?k1 ?k2); (case e => walk_at "et"))
  | ((with_reducible refine' s_if ?e ?k1 ?k2); (case e => walk_at "et")))
local macro_rules | `(tactic| walk_at "pt") => `(tactic| first | exact put_here | (refine put_step ?_ ?_; (· decide +kernel); walk_at "pt"))
local macro_rules | `(tactic| walk_at "ev") => `(tactic| first
  | ((with_reducible refine' ev_ix0 ?e ?h); (case e => walk_at "ev"); (case h => assumption))
  | ((with_reducible refine' ev_ix1 ?e ?h); (case e => walk_at "ev"); (case h => assumption)))
/-! ### what gives some value of which something is known -/
def EvP (te : TE) (σ : L2.St) (H : Hp) (R : V → Hp → Prop) : Prop := ∀ H1, Ex H H1 → ∀ Q : VK, (∀ v H2, Ex H1 H2 → R v H2 → Q v H2) → te σ H1 Q
def SpP (sp : Sp) (vs : List V) (H : Hp) (R : V → Hp → Prop) : Prop := ∀ H1, Ex H H1 → ∀ Q : VK, (∀ v H2, Ex H1 H2 → R v H2 → Q v H2) → ∀ E : XK, sp vs H1 Q E
def spRet (P : List V → Hp → (V → Hp → Prop) → Prop) : Sp := fun vs H Q _ => ∃ H0 R, Ex H0 H ∧ P vs H0 R ∧ ∀ v H', Ex H H' → R v H' → Q v H'
section
variable {K : PySem.W.Frag} {σ : L2.St} {H H' : Hp} {ta tb te : TE} {tr : TA} {R : V → Hp → Prop} {vs xs ys : List V} {v : V} {D : Ends} {tz : TS} {sp : Sp} {E : XK}
theorem sp_of {P : List V → Hp → (V → Hp → Prop) → Prop} (h : P vs H R) : SpP (spRet P) vs H R := fun H1 e Q q _ => ⟨H, R, e, h, fun v H2 e2 r => q v H2 e2 r⟩
theorem ep_callH (h : EvA tr σ H vs) (hs : SpP sp vs H R) : EvP (tCallH sp E tr) σ H R := fun H1 e Q q =>
  h H1 e _ fun H2 e2 => hs H2 (e.trans e2) Q (fun v H3 e3 r => q v H3 (e2.trans e3) r) E
theorem q_asgP {i : Nat} (h : EvP te σ H R) (k : ∀ v H1, Ex H H1 → R v H1 → tz D (σ.set i (some v)) H1) : tSeq (tAsg te (gName i)) tz D σ H := h H (Ex.refl H) _ k
theorem s_retP (h : EvP te σ H R) (k : ∀ v H1, Ex H H1 → R v H1 → D.rt v H1) : tRet te D σ H := h H (Ex.refl H) _ k
/-- one that stands + a new list -/
theorem el_catL {p : Addr} (ha : Ev ta σ H (.ref p)) (hp : H p = some (.lst xs)) (hb : EvL tb σ H ys) (hl : xs.length + ys.length ≤ 100000) : EvL (tOp rCat ta tb) σ H (xs ++ ys) := fun H1 e Q k =>
  ha H1 e _ fun H2 e2 => hb H2 (e.trans e2) _ fun q H3 _ e3 hq => ⟨p, q, xs, ys, rfl, rfl, ((e.trans e2).trans e3) p _ hp, hq, sz_of hl, fun l hl' =>
    k l _ (fresh_back (e2.trans e3) hl') ((e2.trans e3).trans (Ex.new hl')) upd_same⟩
/-- f(what gives some value), a new list -/
theorem el_callP (h : EvP te σ H R) (hs : ∀ v H1, Ex H H1 → R v H1 → SpL sp [v] H1 xs) : EvL (tCallH sp E (tCons te tNil)) σ H xs := fun H1 e Q q =>
  h H1 e _ fun v H2 e2 r => hs v H2 (e.trans e2) r H2 (Ex.refl H2) Q (fun p H3 hp e3 h3 => q p H3 (fresh_back e2 hp) (e2.trans e3) h3) E
theorem ev_notN {x : V} (ha : Ev ta σ H x) : Ev (tOp rNotN ta (tC .non)) σ H (.bl (!decide (x = .non))) := ev_op ha ev_c fun H1 e Q q => ⟨rfl, q H1 (Ex.refl H1)⟩
theorem ev_eqD {a b : Addr} {l m : List Int} (ha : Ev ta σ H (.ref a)) (hb : Ev tb σ H (.ref b)) (h1 : H a = some (.lst (l.map V.int))) (h2 : H b = some (.lst (m.map V.int)))
    (s1 : SeqAt.shaped (.list (l.map PyData.int)) = true) (s2 : SeqAt.shaped (.list (m.map PyData.int)) = true) (hq : PyData.eqv (.list (l.map PyData.int)) (.list (m.map PyData.int)) = decide (l = m)) : Ev (tOp (rEqD K) ta tb) σ H (.bl (decide (l = m))) :=
  ev_op ha hb fun H1 e Q q => ⟨_, _, dp_lst (e a _ h1), dp_lst (e b _ h2), s1, s2, by rw [hq]; exact q H1 (Ex.refl H1)⟩
/-- what is there, or None -/
def IsOpt (H0 : Hp) (o : Option (List V)) (v : V) (H' : Hp) : Prop := match o with
  | none => v = .non
  | some xs => ∃ r, v = .ref r ∧ H0 r = none ∧ H' r = some (.lst xs)
def OptAt (H' : Hp) (v : V) (o : Option (List V)) : Prop := match o with
  | none => v = .non
  | some xs => ∃ r, v = .ref r ∧ H' r = some (.lst xs)
def AllOpt (H : Hp) : List V → List (Option (List V)) → Prop
  | [], [] => True
  | v :: vs, o :: os => OptAt H v o ∧ AllOpt H vs os
  | _, _ => False
def AllAt (H : Hp) : List V → List (List V) → Prop
  | [], [] => True
  | v :: vs, xs :: os => (∃ r, v = .ref r ∧ H r = some (.lst xs)) ∧ AllAt H vs os
  | _, _ => False
theorem IsOpt.at {H0 : Hp} {o : Option (List V)} (h : IsOpt H0 o v H') : OptAt H' v o := by
  cases o with
  | none => exact h
  | some xs =>
    obtain ⟨r, h1, _, h3⟩ := h
    exact ⟨r, h1, h3⟩
theorem OptAt.mono {o : Option (List V)} {l : Addr} (h : OptAt H v o) (e : But l H H') (n : v ≠ .ref l) : OptAt H' v o := by
  cases o with
  | none => exact h
  | some xs =>
    obtain ⟨r, rfl, h3⟩ := h
    exact ⟨r, rfl, e r _ h3 (fun z => n (by rw [z]))⟩
theorem AllOpt.mono {l : Addr} (e : But l H H') : ∀ {vs : List V} {os : List (Option (List V))}, AllOpt H vs os → (∀ v ∈ vs, v ≠ .ref l) → AllOpt H' vs os
  | [], [], _, _ => trivial
  | v :: vs, o :: os, h, n => ⟨h.1.mono e (n v List.mem_cons_self), AllOpt.mono e h.2 fun x hx => n x (List.mem_cons_of_mem _ hx)⟩
  | [], _ :: _, h, _ => h.elim
  | _ :: _, [], h, _ => h.elim
theorem AllOpt.snoc : ∀ {vs : List V} {os : List (Option (List V))} {o : Option (List V)}, AllOpt H vs os → OptAt H v o → AllOpt H (vs ++ [v]) (os ++ [o])
  | [], [], _, _, h => ⟨h, trivial⟩
  | _ :: _, _ :: _, _, h, k => ⟨h.1, AllOpt.snoc h.2 k⟩
  | [], _ :: _, _, h, _ => h.elim
  | _ :: _, [], _, h, _ => h.elim
theorem AllAt.mono (e : Ex H H') : ∀ {vs : List V} {os : List (List V)}, AllAt H vs os → AllAt H' vs os
  | [], [], _ => trivial
  | v :: vs, o :: os, ⟨⟨r, h1, h2⟩, h⟩ => ⟨⟨r, h1, e r _ h2⟩, AllAt.mono e h⟩
  | [], _ :: _, h => h.elim
  | _ :: _, [], h => h.elim
theorem AllAt.get : ∀ {vs : List V} {os : List (List V)}, AllAt H vs os → vs.length = os.length ∧ ∀ (i : Nat) (v : V), vs[i]? = Option.some v → ∃ (xs : List V) (r : Addr), os[i]? = some xs ∧ v = V.ref r ∧ H r = some (.lst xs)
  | [], [], _ => ⟨rfl, fun i v h => by simp at h⟩
  | v :: vs, o :: os, ⟨⟨r, h1, h2⟩, h⟩ => by
    have q := AllAt.get h
    refine ⟨by rw [List.length_cons, List.length_cons, q.1], fun i x hx => ?_⟩
    cases i with
    | zero =>
      cases (Option.some.inj hx : v = x)
      exact ⟨o, r, rfl, h1, h2⟩
    | succ i => exact q.2 i x hx
  | [], _ :: _, h => h.elim
  | _ :: _, [], h => h.elim
theorem AllOpt.only : ∀ {vs : List V} {os : List (Option (List V))}, AllOpt H vs os → AllAt H (vs.filter fun v => !decide (v = .non)) (os.filterMap id)
  | [], [], _ => trivial
  | v :: vs, none :: os, ⟨h1, h⟩ => by
    obtain rfl : v = .non := h1
    show AllAt H (vs.filter fun v => !decide (v = V.non)) (os.filterMap id)
    exact AllOpt.only h
  | v :: vs, some xs :: os, ⟨⟨r, h1, h2⟩, h⟩ => by
    subst h1
    show AllAt H (V.ref r :: vs.filter fun v => !decide (v = V.non)) (xs :: os.filterMap id)
    exact ⟨⟨r, rfl, h2⟩, AllOpt.only h⟩
  | [], _ :: _, h => h.elim
  | _ :: _, [], h => h.elim
/-- a comprehension over a range whose items are new lists, or None -/
theorem ep_cOpt {j n : Nat} {vs : List Nat} (f : Nat → Option (List V)) (h : EvA tr σ H [.int (n : Int)]) (hn : n ≤ 40000) (hw : ∀ x, wipe ((wipe σ vs).set j (some x)) vs = wipe σ vs)
    (he : ∀ (i : Nat) H1, Ex H H1 → i < n → EvP te ((wipe σ vs).set j (some (.int (i : Int)))) H1 (IsOpt H1 (f i))) :
    EvP (tLc (iRng1 tr) (gName j) tYes te vs) σ H fun v H2 => ∃ p ws, v = .ref p ∧ H p = none ∧ H2 p = some (.lst ws) ∧ ws.length = n ∧ AllOpt H2 ws ((List.range n).map f) := fun H0 e Q q => h H0 e _ fun H1 e1 => ⟨n, rfl, by omega, by omega, fun Dl hD =>
  lc_range (lo := 0) (n := ((n : Int)).toNat) (fun i H' => Ex H1 H' ∧ ∃ ws, H' Dl = some (.lst ws) ∧ ws.length = i ∧ AllOpt H' ws ((List.range i).map f) ∧ ∀ v ∈ ws, v ≠ .ref Dl) ⟨Ex.new hD, [], upd_same, rfl, trivial, by simp⟩ (fun i H' hi p => by
    have e0 : (0 : Int) + (i : Int) = (i : Int) := Int.zero_add _
    rw [Int.toNat_natCast] at hi
    rw [e0]
    refine ⟨hw _, ?_⟩
    obtain ⟨eH, ws, hl, hlen, hall, hnr⟩ := p
    refine he i H' ((e.trans e1).trans eH) hi H' (Ex.refl H') _ fun y H4 e4 ry => ⟨ws, e4 Dl _ hl, by rw [hlen]; exact sz_lt (by omega), ?_⟩
    have yn : y ≠ .ref Dl := by
      cases hf : f i with
      | none =>
        rw [hf] at ry
        have ry : y = .non := ry
        rw [ry]
        intro z
        cases z
      | some xs =>
        rw [hf] at ry
        obtain ⟨r, rfl, h1, h2⟩ := ry
        intro z
        cases z
        rw [hl] at h1
        cases h1
    have ea : AllOpt H4 ws ((List.range i).map f) := AllOpt.mono (But.of e4 (a := Dl)) hall hnr
    refine ⟨Ex.mut (eH.trans e4) hD, ws ++ [y], upd_same, by rw [List.length_append, hlen]; rfl, ?_, ?_⟩
    · rw [List.range_succ, List.map_append]
      exact AllOpt.snoc (AllOpt.mono (But.put (a := Dl)) ea hnr) (ry.at.mono (But.put (a := Dl)) yn)
    · intro v hv
      rcases List.mem_append.mp hv with hv | hv
      · exact hnr v hv
      · rw [List.mem_singleton.mp hv]
        exact yn) (fun H' p => by
    obtain ⟨eH, ws, hl, hlen, hall, hnr⟩ := p
    rw [Int.toNat_natCast] at hlen hall
    exact q _ H' (e1.trans eH) ⟨Dl, ws, rfl, fresh_back (e.trans e1) hD, hl, hlen, hall⟩)⟩
end
end Dt

set_option Elab.async false
set_option linter.all false
set_option maxRecDepth 100000
set_option maxHeartbeats 600000
namespace Dt
open PySem PySem.Spec PyProof.Rows L2 Evl
local macro_rules | `(tactic| walk_at "lk") => `(tactic| first | exact lk_here | (refine (lk_past ?_).trans ?_; (· decide +kernel); walk_at "lk"))
local macro_rules | `(tactic| walk_at "bd") => `(tactic| first | assumption | exact Good.bt (by assumption) | exact Good.bp (by assumption) | exact Good.bn (by assumption) | exact Good.bd (by assumption) | exact Good.bg (by assumption) | exact Good.bl (by assumption) | exact Good.bh (by assumption) | exact Good.bc (by assumption) | exact Good.btw (by assumption) _ | exact Good.bpw (by assumption) _ | exact bd_mul (by walk_at "bd") (by walk_at "bd") | exact bd_add (by walk_at "bd") (by walk_at "bd") | exact bd_sub (by walk_at "bd") (by walk_at "bd"))
local macro_rules | `(tactic| walk_at "cm") => `(tactic| first | assumption | exact bd_cmul (by walk_at "bd") (by walk_at "bd") (by decide))
local macro_rules | `(tactic| walk_at "ev") => `(tactic| first
  | with_reducible exact ev_c
  | ((with_reducible refine' ev_var ?h); (case h => exact rfl))
  | ((with_reducible refine' f_tsum ?e ?h ?t); (case e => walk_at "ev"); (case h => assumption); (case t => assumption))
  | ((with_reducible refine' f_psum ?e ?h ?t); (case e => walk_at "ev"); (case h => assumption); (case t => assumption))
  | ((with_reducible refine' f_tix ?e ?i ?h ?t ?l); (case e => walk_at "ev"); (case i => walk_at "ev"); (case h => assumption); (case t => assumption); (case l => assumption))
  | ((with_reducible refine' f_pix ?e ?i ?h ?t ?g ?l); (case e => walk_at "ev"); (case i => walk_at "ev"); (case h => assumption); (case t => assumption); (case g => assumption); (case l => assumption))
  | ((with_reducible refine' f_count ?e ?h ?t); (case e => walk_at "ev"); (case h => assumption); (case t => assumption))
  | ((with_reducible refine' f_tw ?e ?h ?t); (case e => walk_at "ev"); (case h => assumption); (case t => assumption))
  | ((with_reducible refine' f_pw ?e ?h ?t); (case e => walk_at "ev"); (case h => assumption); (case t => assumption))
  | ((with_reducible refine' f_pn ?e ?h ?t); (case e => walk_at "ev"); (case h => assumption); (case t => assumption))
  | ((with_reducible refine' f_pd ?e ?h ?t); (case e => walk_at "ev"); (case h => assumption); (case t => assumption))
  | ((with_reducible refine' f_ga ?e ?h ?t); (case e => walk_at "ev"); (case h => assumption); (case t => assumption))
  | ((with_reducible refine' f_lo ?e ?h ?t); (case e => walk_at "ev"); (case h => assumption); (case t => assumption))
  | ((with_reducible refine' f_hp ?e ?h ?t); (case e => walk_at "ev"); (case h => assumption); (case t => assumption))
  | ((with_reducible refine' f_tp ?e ?h ?t); (case e => walk_at "ev"); (case h => assumption); (case t => assumption))
  | ((with_reducible refine' ev_gt ?a ?b); (case a => walk_at "ev"); (case b => walk_at "ev"))
  | ((with_reducible refine' ev_lt ?a ?b); (case a => walk_at "ev"); (case b => walk_at "ev"))
  | ((with_reducible refine' ev_ge ?a ?b); (case a => walk_at "ev"); (case b => walk_at "ev"))
  | ((with_reducible refine' ev_le ?a ?b); (case a => walk_at "ev"); (case b => walk_at "ev"))
  | ((with_reducible refine' ev_eqI ?a ?b); (case a => walk_at "ev"); (case b => walk_at "ev"))
  | ((with_reducible refine' ev_neI ?a ?b); (case a => walk_at "ev"); (case b => walk_at "ev"))
  | ((with_reducible refine' ev_add ?a ?b); (case a => walk_at "ev"); (case b => walk_at "ev"))
  | ((with_reducible refine' ev_sub ?a ?b); (case a => walk_at "ev"); (case b => walk_at "ev"))
  | ((with_reducible refine' ev_mul ?a ?b ?c); (case a => walk_at "ev"); (case b => walk_at "ev"); (case c => walk_at "cm"))
  | ((with_reducible refine' ev_div ?a ?b ?c); (case a => walk_at "ev"); (case b => walk_at "ev"); (case c => assumption))
  | ((with_reducible refine' ev_mod ?a ?b ?c); (case a => walk_at "ev"); (case b => walk_at "ev"); (case c => assumption))
  | ((with_reducible refine' ev_absI ?a); (case a => walk_at "ev"))
  | ((with_reducible refine' ev_callH ?a ?s); (case a => walk_at "ea"); (case s => walk_at "sp"))
  | ((with_reducible refine' ev_sumN ?a); (case a => walk_at "el")))
local macro_rules | `(tactic| walk_at "ea") => `(tactic| first
  | with_reducible exact ea_nil
  | ((with_reducible refine' ea_cons ?a ?b); (case a => walk_at "ev"); (case b => walk_at "ea")))
local macro_rules | `(tactic| walk_at "el") => `(tactic| first
  | ((with_reducible refine' el_lst ?a ?b); (case a => walk_at "ea"); (case b => exact Nat.le_of_ble_eq_true rfl))
  | ((with_reducible refine' el_callH ?a ?s); (case a => walk_at "ea"); (case s => walk_at "sp")))
local macro_rules | `(tactic| walk_at "st") => `(tactic| first
  | ((with_reducible refine' q_asg ?e ?k); (case e => walk_at "ev"))
  | ((with_reducible refine' q_asgL ?e ?k); (case e => walk_at "el"))
  | ((with_reducible refine' s_asg ?e ?k); (case e => walk_at "ev"))
  | ((with_reducible refine' s_asgL ?e ?k); (case e => walk_at "el"))
  | ((with_reducible refine' s_ret ?e ?k); (case e => walk_at "ev"))
  | ((with_reducible refine' s_retL ?e ?k); (case e => walk_at "el")))
local macro_rules | `(tactic| walk_at "et") => `(tactic| first
  | ((with_reducible refine' et_test ?e); (case e => walk_at "ev"))
  | ((with_reducible refine' et_or ?e ?f); (case e => walk_at "et"); (case f => (intro _; walk_at "et")))
  | with_reducible exact et_yes)
local macro_rules | `(tactic| walk_at "sp") => `(tactic| assumption)
local macro_rules | `(tactic| walk_at "if") => `(tactic| first
  | ((with_reducible refine' q_when ?e ?k1 ?k2); (case e => walk_at "et"))
  | ((with_reducible refine' s_when ?e ?k1 ?k2); (case e => walk_at "et"))
  | ((with_reducible refine' q_if ?e ?k1 ?k2); (case e => walk_at "et"))
  | ((with_reducible refine' s_if ?e ?k1 ?k2); (case e => walk_at "et")))
local macro_rules | `(tactic| walk_at "pt") => `(tactic| first | exact put_here | (refine put_step ?_ ?_; (· decide +kernel); walk_at "pt"))
local macro_rules | `(tactic| walk_at "ev") => `(tactic| first
  | ((with_reducible refine' ev_ix0 ?e ?h); (case e => walk_at "ev"); (case h => assumption))
  | ((with_reducible refine' ev_ix1 ?e ?h); (case e => walk_at "ev"); (case h => assumption)))
open Kp415 (signalCount)
def sp_common_divisor (K : PySem.W.Frag) (A : AdT) : Sp := spVal fun vs _ z => ∃ i j : Int, vs = [.int i, .int j] ∧ 0 ≤ i ∧ 0 ≤ j ∧ z = .int (Int.gcd i j : Nat)
def sp_lowest_terms (K : PySem.W.Frag) (A : AdT) : Sp := spLst fun vs _ xs => ∃ i j : Int, vs = [.int i, .int j] ∧ 0 < j ∧ Bd 4000 j ∧ xs = (low i j).map V.int
def sp_value_denominator (K : PySem.W.Frag) (A : AdT) : Sp := spVal fun vs H z => ∃ a s t p, vs = [.ref a] ∧ SetAt A H a s t p ∧ Good s ∧ z = .int (valDen s)
def sp_value_numerator (K : PySem.W.Frag) (A : AdT) : Sp := spVal fun vs H z => ∃ a s t p, ∃ i : Nat, vs = [.ref a, .int (i : Int)] ∧ SetAt A H a s t p ∧ Good s ∧ i < signalCount s.model ∧ z = .int (valNum s i)
def sp_paying_signals (K : PySem.W.Frag) (A : AdT) : Sp := spLst fun vs H xs => ∃ a s t p, vs = [.ref a] ∧ SetAt A H a s t p ∧ Good s ∧ xs = nats (paying s)
def sp_profit_at (K : PySem.W.Frag) (A : AdT) : Sp := spLst fun vs H xs => ∃ a s t p, ∃ b l, vs = [.ref a, .ref b] ∧ SetAt A H a s t p ∧ Good s ∧ H b = some (.lst (nats l)) ∧ l.length ≤ 5 ∧ (∀ i ∈ l, i < signalCount s.model) ∧ xs = (low (l.map (valNum s)).sum (valDen s)).map V.int
def sp_joint_test_at (K : PySem.W.Frag) (A : AdT) : Sp := spLst fun vs H xs => ∃ a s t p, ∃ b l, vs = [.ref a, .ref b] ∧ SetAt A H a s t p ∧ Good s ∧ H b = some (.lst (nats l)) ∧ l.length ≤ 5 ∧ (∀ i ∈ l, i < signalCount s.model) ∧ xs = (low (pN s * (l.map (tW s)).sum) (pD s * tS s)).map V.int
theorem gcd_zero_end {l r : Int} (hl : 0 ≤ l) (hr : 0 ≤ r) (h : ¬ 0 < r) : (Int.gcd l r : Nat) = l := by
  have : r = 0 := by omega
  subst this
  rw [Int.gcd_zero_right]
  omega
section
variable {P : Program} {w : World} {K : PySem.W.Frag} {mg : Str → Option Value} {base : Heap} {A : AdT}
theorem ok_value_denominator {f : Addr} {fd : FuncData} (T : Tx K mg A) 
    (F : Fun K "value_denominator" "value_denominator" s_value_denominator f fd) : FnOk P w K mg base CX0 1 f fd ["setting"] (sp_value_denominator K A) := by
  refine F.ok sc_value_denominator (fun vs H Q E h => ?len) (fun cdv ar outer s H vs Q E hr h => ⟨_, (pss_one (ps_ret (pe_op o_mul (pe_op o_mul (pe_fldK (K := K) (pv 0)) (pe_callB (cr_sumK (K := K)) (by rfl) T.b_sum (by decide +kernel) (pa_cons (pe_fldK (K := K) (pv 0)) pa_nil))) (pe_callB (cr_sumK (K := K)) (by rfl) T.b_sum (by decide +kernel) (pa_cons (pe_fldK (K := K) (pv 0)) pa_nil))))), ?go⟩)
  case len =>
    obtain ⟨H0, z, e0, ⟨a, s, t, p, rfl, _⟩, _⟩ := h
    rfl
  case go =>
    obtain ⟨H0, z, e0, ⟨a, s, t, p, rfl, hS, g, rfl⟩, k⟩ := h
    have hS := hS.mono e0
    walk_at "st"
    intro H1 e1
    exact k.go e1
theorem ok_value_numerator {f : Addr} {fd : FuncData} (T : Tx K mg A) 
    (F : Fun K "value_numerator" "value_numerator" s_value_numerator f fd) : FnOk P w K mg base CX0 1 f fd ["setting", "signal"] (sp_value_numerator K A) := by
  refine F.ok sc_value_numerator (fun vs H Q E h => ?len) (fun cdv ar outer s H vs Q E hr h => ⟨_, (pss_cons (ps_set (i := 2) sc_value_numerator.nd rfl (Or.inl rfl) (pe_op o_sub (pe_fldK (K := K) (pv 0)) (pe_fldK (K := K) (pv 0))))
      (pss_cons (ps_set (i := 3) sc_value_numerator.nd rfl (Or.inl rfl) (pe_op o_mul (pe_op o_mul (pe_op o_mul (pe_fldK (K := K) (pv 0)) (pv 2)) (pe_ixK (K := K) (pe_fldK (K := K) (pv 0)) (pv 1))) (pe_callB (cr_sumK (K := K)) (by rfl) T.b_sum (by decide +kernel) (pa_cons (pe_fldK (K := K) (pv 0)) pa_nil))))
      (pss_cons (ps_set (i := 4) sc_value_numerator.nd rfl (Or.inl rfl) (pe_op o_mul (pe_op o_mul (pe_op o_mul (pe_fldK (K := K) (pv 0)) (pe_fldK (K := K) (pv 0))) (pe_ixK (K := K) (pe_fldK (K := K) (pv 0)) (pv 1))) (pe_callB (cr_sumK (K := K)) (by rfl) T.b_sum (by decide +kernel) (pa_cons (pe_fldK (K := K) (pv 0)) pa_nil))))
      (pss_one (ps_ret (pe_op o_sub (pv 3) (pv 4))))))), ?go⟩)
  case len =>
    obtain ⟨H0, z, e0, ⟨a, s, t, p, i, rfl, _⟩, _⟩ := h
    rfl
  case go =>
    obtain ⟨H0, z, e0, ⟨a, s, t, p, i, rfl, hS, g, hi, rfl⟩, k⟩ := h
    have hS := hS.mono e0
    walk_at "st"
    intro H1 e1
    have hS := hS.mono e1
    walk_at "st"
    intro H2 e2
    have hS := hS.mono e2
    walk_at "st"
    intro H3 e3
    have hS := hS.mono e3
    walk_at "st"
    intro H4 e4
    exact k.go (((e1.trans e2).trans e3).trans e4)
theorem sv_value_numerator {H : Hp} {a t p : Addr} {s : Stg} {i : Nat} (h : SetAt A H a s t p) (g : Good s) (hi : i < signalCount s.model) : SpV (sp_value_numerator K A) [.ref a, .int (i : Int)] H (.int (valNum s i)) := sv_of ⟨a, s, t, p, i, rfl, h, g, hi, rfl⟩
theorem sv_value_denominator {H : Hp} {a t p : Addr} {s : Stg} (h : SetAt A H a s t p) (g : Good s) : SpV (sp_value_denominator K A) [.ref a] H (.int (valDen s)) := sv_of ⟨a, s, t, p, rfl, h, g, rfl⟩
theorem sv_common_divisor {H : Hp} {i j : Int} (hi : 0 ≤ i) (hj : 0 ≤ j) : SpV (sp_common_divisor K A) [.int i, .int j] H (.int (Int.gcd i j : Nat)) := sv_of ⟨i, j, rfl, hi, hj, rfl⟩
theorem sl_lowest_terms {H : Hp} {i j : Int} (hj : 0 < j) (b : Bd 4000 j) : SpL (sp_lowest_terms K A) [.int i, .int j] H ((low i j).map V.int) := sl_of ⟨i, j, rfl, hj, b, rfl⟩
theorem ok_common_divisor {f : Addr} {fd : FuncData} (T : Tx K mg A) 
    (F : Fun K "common_divisor" "common_divisor" s_common_divisor f fd) : FnOk P w K mg base CX0 1 f fd ["left", "right"] (sp_common_divisor K A) := by
  refine F.ok sc_common_divisor (fun vs H Q E h => ?len) (fun cdv ar outer s H vs Q E hr h => ⟨_, (pss_cons (ps_while PassesOwn.never (pt_cmpR o_gt (pv 1) pe_int (nomark _)) (pss_cons (ps_set (i := 2) sc_common_divisor.nd rfl (Or.inl rfl) (pe_op o_mod (pv 0) (pv 1)))
      (pss_cons (ps_set (i := 0) sc_common_divisor.nd rfl (Or.inl rfl) (pv 1))
      (pss_one (ps_set (i := 1) sc_common_divisor.nd rfl (Or.inl rfl) (pv 2))))))
      (pss_one (ps_ret (pv 0)))), ?go⟩)
  case len =>
    obtain ⟨H0, z, e0, ⟨i, j, rfl, _⟩, _⟩ := h
    rfl
  case go =>
    obtain ⟨H0, z, e0, ⟨i, j, rfl, hi, hj, rfl⟩, k⟩ := h
    refine q_while (fun m σ H' => ∃ l r rv, σ = [some (V.int l), some (V.int r), rv] ∧ 0 ≤ l ∧ 0 ≤ r ∧ Int.gcd l r = Int.gcd i j ∧ m = r.toNat ∧ Ex H H') j.toNat ⟨i, j, none, rfl, hi, hj, rfl, rfl, Ex.refl H⟩ ?_
    rintro m σ' H' ⟨l, r, rv, rfl, hl, hr0, hg, rfl, e1⟩
    refine ⟨decide (0 < r), by walk_at "et", fun hb H1 e2 => ?_, fun hb H1 e2 => ?_⟩
    · have hb := of_decide_eq_true hb
      refine ⟨fun σ H' => ∃ l2 r2 rv, σ = [some (V.int l2), some (V.int r2), rv] ∧ 0 ≤ l2 ∧ 0 ≤ r2 ∧ Int.gcd l2 r2 = Int.gcd i j ∧ r2 < r ∧ Ex H H', fun σ2 H2 ⟨l2, r2, rv2, a1, a2, a3, a4, a5, a6⟩ => ⟨r2.toNat, by omega, l2, r2, rv2, a1, a2, a3, a4, rfl, a6⟩, ?_⟩
      have hne : r ≠ 0 := by omega
      walk_at "st"
      intro H2 e3
      walk_at "st"
      intro H3 e4
      walk_at "st"
      intro H4 e5
      have hm := fmod_lt (l := l) hb
      exact ⟨r, l.fmod r, some (V.int (l.fmod r)), rfl, hr0, hm.1, (gcd_turn hl hb).trans hg, hm.2, (((e1.trans e2).trans e3).trans e4).trans e5⟩
    · have hb := of_decide_eq_false hb
      walk_at "st"
      intro H2 e3
      have q := gcd_zero_end hl hr0 hb
      rw [hg] at q
      rw [← q]
      exact k.go ((e1.trans e2).trans e3)
theorem ok_lowest_terms {f : Addr} {fd : FuncData} (T : Tx K mg A) (h_common_divisor : Has P w K mg base CX0 1 "common_divisor" ["left", "right"] (sp_common_divisor K A))
    (F : Fun K "lowest_terms" "lowest_terms" s_lowest_terms f fd) : FnOk P w K mg base CX0 2 f fd ["top", "bottom"] (sp_lowest_terms K A) := by
  refine F.ok sc_lowest_terms (fun vs H Q E h => ?len) (fun cdv ar outer s H vs Q E hr h => ⟨_, (pss_cons (ps_set (i := 2) sc_lowest_terms.nd rfl (Or.inl rfl) (pe_h h_common_divisor hr (by decide) pass0 (pa_cons (pe_callB cr_abs (by rfl) T.b_abs (by decide +kernel) (pa_cons (pv 0) pa_nil)) (pa_cons (pv 1) pa_nil))))
      (pss_one (ps_ret (pe_lst (pa_cons (pe_op o_div (pv 0) (pv 2)) (pa_cons (pe_op o_div (pv 1) (pv 2)) pa_nil)))))), ?go⟩)
  case len =>
    obtain ⟨H0, z, e0, ⟨i, j, rfl, _⟩, _⟩ := h
    rfl
  case go =>
    obtain ⟨H0, z, e0, ⟨i, j, rfl, hj, bj, rfl⟩, k⟩ := h
    have h1 : 0 ≤ (if i < 0 then -i else i) := by split <;> omega
    have h2 : 0 ≤ j := by omega
    have sv := sv_common_divisor (K := K) (A := A) (H := H) h1 h2
    rw [gcd_abs] at sv
    walk_at "st"
    intro H1 e1
    have c1 : CDivW i (Int.gcd i j : Nat) := bd_cdiv (gcd_pos_of hj) (bd_gcd hj bj)
    have c2 : CDivW j (Int.gcd i j : Nat) := bd_cdiv (gcd_pos_of hj) (bd_gcd hj bj)
    walk_at "st"
    intro p H2 hp e2 h3
    exact k.go e1 hp e2 h3
theorem ok_paying_signals {f : Addr} {fd : FuncData} (T : Tx K mg A) (h_value_numerator : Has P w K mg base CX0 1 "value_numerator" ["setting", "signal"] (sp_value_numerator K A))
    (F : Fun K "paying_signals" "paying_signals" s_paying_signals f fd) : FnOk P w K mg base CX0 2 f fd ["setting"] (sp_paying_signals K A) := by
  refine F.ok sc_paying_signals (fun vs H Q E h => ?len) (fun cdv ar outer s H vs Q E hr h => ⟨_, (pss_one (ps_ret (pe_lc (own := [("signal", 1)]) (g := gName 1) (by rfl) sc_paying_signals.nd (pi_range1 (by rfl) T.b_range (pa_cons (pe_fldK (K := K) (pv 0)) pa_nil)) (blkOk_by (N := n_paying_signals) (sc := defScope s_paying_signals) (by decide +kernel)) (fun _ _ _ _ _ => pg_name (i := 1) sc_paying_signals.nd rfl (Or.inl rfl)) (fun _ _ _ _ _ => (pts_one (by exact (pt_cmpR o_gt (pe_h h_value_numerator hr (by decide) pass0 (pa_cons (pv 0) (pa_cons (pv 1) pa_nil))) pe_int (nomark _))))) (fun _ _ _ _ _ => (by exact (pv 1)))))), ?go⟩)
  case len =>
    obtain ⟨H0, z, e0, ⟨a, s, t, p, rfl, _⟩, _⟩ := h
    rfl
  case go =>
    obtain ⟨H0, z, e0, ⟨a, s, t, p, rfl, hS, g, rfl⟩, k⟩ := h
    have hS := hS.mono e0
    refine s_retL (el_cR (n := signalCount s.model) (fun i => decide (0 < valNum s i)) (fun i => V.int (i : Int)) (by walk_at "ea") (by have := g.n5; omega) (fun _ => rfl) (fun i H1 e hi => ?_) (fun i H1 e hi _ => ?_)) fun p H1 hp e h1 => ?_
    · have hS := hS.mono e
      have sv := sv_value_numerator (K := K) hS g hi
      walk_at "et"
    · walk_at "ev"
    · exact k.go (Ex.refl H) hp e h1
end
end Dt

set_option Elab.async false
set_option linter.all false
set_option maxRecDepth 100000
set_option maxHeartbeats 600000
namespace Dt
open PySem PySem.Spec PyProof.Rows L2 Evl
local macro_rules | `(tactic| walk_at "lk") => `(tactic| first | exact lk_here | (refine (lk_past ?_).trans ?_; (· decide +kernel); walk_at "lk"))
local macro_rules | `(tactic| walk_at "bd") => `(tactic| first | assumption | exact Good.bt (by assumption) | exact Good.bp (by assumption) | exact Good.bn (by assumption) | exact Good.bd (by assumption) | exact Good.bg (by assumption) | exact Good.bl (by assumption) | exact Good.bh (by assumption) | exact Good.bc (by assumption) | exact Good.btw (by assumption) _ | exact Good.bpw (by assumption) _ | exact bd_mul (by walk_at "bd") (by walk_at "bd") | exact bd_add (by walk_at "bd") (by walk_at "bd") | exact bd_sub (by walk_at "bd") (by walk_at "bd"))
local macro_rules | `(tactic| walk_at "cm") => `(tactic| first | assumption | exact bd_cmul (by walk_at "bd") (by walk_at "bd") (by decide))
local macro_rules | `(tactic| walk_at "ev") => `(tactic| first
  | with_reducible exact ev_c
  | ((with_reducible refine' ev_var ?h); (case h => exact rfl))
  | ((with_reducible refine' f_tsum ?e ?h ?t); (case e => walk_at "ev"); (case h => assumption); (case t => assumption))
  | ((with_reducible refine' f_psum ?e ?h ?t); (case e => walk_at "ev"); (case h => assumption); (case t => assumption))
  | ((with_reducible refine' f_tix ?e ?i ?h ?t ?l); (case e => walk_at "ev"); (case i => walk_at "ev"); (case h => assumption); (case t => assumption); (case l => assumption))
  | ((with_reducible refine' f_pix ?e ?i ?h ?t ?g ?l); (case e => walk_at "ev"); (case i => walk_at "ev"); (case h => assumption); (case t => assumption); (case g => assumption); (case l => assumption))
  | ((with_reducible refine' f_count ?e ?h ?t); (case e => walk_at "ev"); (case h => assumption); (case t => assumption))
  | ((with_reducible refine' f_tw ?e ?h ?t); (case e => walk_at "ev"); (case h => assumption); (case t => assumption))
  | ((with_reducible refine' f_pw ?e ?h ?t); (case e => walk_at "ev"); (case h => assumption); (case t => assumption))
  | ((with_reducible refine' f_pn ?e ?h ?t); (case e => walk_at "ev"); (case h => assumption); (case t => assumption))
  | ((with_reducible refine' f_pd ?e ?h ?t); (case e => walk_at "ev"); (case h => assumption); (case t => assumption))
  | ((with_reducible refine' f_ga ?e ?h ?t); (case e => walk_at "ev"); (case h => assumption); (case t => assumption))
  | ((with_reducible refine' f_lo ?e ?h ?t); (case e => walk_at "ev"); (case h => assumption); (case t => assumption))
  | ((with_reducible refine' f_hp ?e ?h ?t); (case e => walk_at "ev"); (case h => assumption); (case t => assumption))
  | ((with_reducible refine' f_tp ?e ?h ?t); (case e => walk_at "ev"); (case h => assumption); (case t => assumption))
  | ((with_reducible refine' ev_gt ?a ?b); (case a => walk_at "ev"); (case b => walk_at "ev"))
  | ((with_reducible refine' ev_lt ?a ?b); (case a => walk_at "ev"); (case b => walk_at "ev"))
  | ((with_reducible refine' ev_ge ?a ?b); (case a => walk_at "ev"); (case b => walk_at "ev"))
  | ((with_reducible refine' ev_le ?a ?b); (case a => walk_at "ev"); (case b => walk_at "ev"))
  | ((with_reducible refine' ev_eqI ?a ?b); (case a => walk_at "ev"); (case b => walk_at "ev"))
  | ((with_reducible refine' ev_neI ?a ?b); (case a => walk_at "ev"); (case b => walk_at "ev"))
  | ((with_reducible refine' ev_add ?a ?b); (case a => walk_at "ev"); (case b => walk_at "ev"))
  | ((with_reducible refine' ev_sub ?a ?b); (case a => walk_at "ev"); (case b => walk_at "ev"))
  | ((with_reducible refine' ev_mul ?a ?b ?c); (case a => walk_at "ev"); (case b => walk_at "ev"); (case c => walk_at "cm"))
  | ((with_reducible refine' ev_div ?a ?b ?c); (case a => walk_at "ev"); (case b => walk_at "ev"); (case c => assumption))
  | ((with_reducible refine' ev_mod ?a ?b ?c); (case a => walk_at "ev"); (case b => walk_at "ev"); (case c => assumption))
  | ((with_reducible refine' ev_absI ?a); (case a => walk_at "ev"))
  | ((with_reducible refine' ev_callH ?a ?s); (case a => walk_at "ea"); (case s => walk_at "sp"))
  | ((with_reducible refine' ev_sumN ?a); (case a => walk_at "el")))
local macro_rules | `(tactic| walk_at "ea") => `(tactic| first
  | with_reducible exact ea_nil
  | ((with_reducible refine' ea_cons ?a ?b); (case a => walk_at "ev"); (case b => walk_at "ea")))
local macro_rules | `(tactic| walk_at "el") => `(tactic| first
  | ((with_reducible refine' el_lst ?a ?b); (case a => walk_at "ea"); (case b => exact Nat.le_of_ble_eq_true rfl))
  | ((with_reducible refine' el_callH ?a ?s); (case a => walk_at "ea"); (case s => walk_at "sp")))
local macro_rules | `(tactic| walk_at "st") => `(tactic| first
  | ((with_reducible refine' q_asg ?e ?k); (case e => walk_at "ev"))
  | ((with_reducible refine' q_asgL ?e ?k); (case e => walk_at "el"))
  | ((with_reducible refine' s_asg ?e ?k); (case e => walk_at "ev"))
  | ((with_reducible refine' s_asgL ?e ?k); (case e => walk_at "el"))
  | ((with_reducible refine' s_ret ?e ?k); (case e => walk_at "ev"))
  | ((with_reducible refine' s_retL ?e ?k); (case e => walk_at "el")))
local macro_rules | `(tactic| walk_at "et") => `(tactic| first
  | ((with_reducible refine' et_test ?e); (case e => walk_at "ev"))
  | ((with_reducible refine' et_or ?e ?f); (case e => walk_at "et"); (case f => (intro _; walk_at "et")))
  | with_reducible exact et_yes)
local macro_rules | `(tactic| walk_at "sp") => `(tactic| assumption)
local macro_rules | `(tactic| walk_at "if") => `(tactic| first
  | ((with_reducible refine' q_when ?e ?k1 ?k2); (case e => walk_at "et"))
  | ((with_reducible refine' s_when ?e ?k1 ?k2); (case e => walk_at "et"))
  | ((with_reducible refine' q_if ?e ?k1 ?k2); (case e => walk_at "et"))
  | ((with_reducible refine' s_if ?e ?k1 ?k2); (case e => walk_at "et")))
local macro_rules | `(tactic| walk_at "pt") => `(tactic| first | exact put_here | (refine put_step ?_ ?_; (· decide +kernel); walk_at "pt"))
local macro_rules | `(tactic| walk_at "ev") => `(tactic| first
  | ((with_reducible refine' ev_ix0 ?e ?h); (case e => walk_at "ev"); (case h => assumption))
  | ((with_reducible refine' ev_ix1 ?e ?h); (case e => walk_at "ev"); (case h => assumption)))
open Kp415 (signalCount)
section
variable {P : Program} {w : World} {K : PySem.W.Frag} {mg : Str → Option Value} {base : Heap} {A : AdT}
theorem sl_paying_signals {H : Hp} {a t p : Addr} {s : Stg} (h : SetAt A H a s t p) (g : Good s) : SpL (sp_paying_signals K A) [.ref a] H (nats (paying s)) := sl_of ⟨a, s, t, p, rfl, h, g, rfl⟩
theorem sl_profit_at {H : Hp} {a t p b : Addr} {s : Stg} {l : List Nat} (h : SetAt A H a s t p) (g : Good s) (hb : H b = some (.lst (nats l))) (hl : l.length ≤ 5) (hm : ∀ i ∈ l, i < signalCount s.model) :
    SpL (sp_profit_at K A) [.ref a, .ref b] H ((low (l.map (valNum s)).sum (valDen s)).map V.int) := sl_of ⟨a, s, t, p, b, l, rfl, h, g, hb, hl, hm, rfl⟩
theorem sl_joint_test_at {H : Hp} {a t p b : Addr} {s : Stg} {l : List Nat} (h : SetAt A H a s t p) (g : Good s) (hb : H b = some (.lst (nats l))) (hl : l.length ≤ 5) (hm : ∀ i ∈ l, i < signalCount s.model) :
    SpL (sp_joint_test_at K A) [.ref a, .ref b] H ((low (pN s * (l.map (tW s)).sum) (pD s * tS s)).map V.int) := sl_of ⟨a, s, t, p, b, l, rfl, h, g, hb, hl, hm, rfl⟩
theorem ok_profit_at {f : Addr} {fd : FuncData} (T : Tx K mg A) (h_lowest_terms : Has P w K mg base CX0 2 "lowest_terms" ["top", "bottom"] (sp_lowest_terms K A))
    (h_value_denominator : Has P w K mg base CX0 1 "value_denominator" ["setting"] (sp_value_denominator K A))
    (h_value_numerator : Has P w K mg base CX0 1 "value_numerator" ["setting", "signal"] (sp_value_numerator K A))
    (F : Fun K "profit_at" "profit_at" s_profit_at f fd) : FnOk P w K mg base CX0 3 f fd ["setting", "signals"] (sp_profit_at K A) := by
  refine F.ok sc_profit_at (fun vs H Q E h => ?len) (fun cdv ar outer s H vs Q E hr h => ⟨_, (pss_cons (ps_set (i := 2) sc_profit_at.nd rfl (Or.inl rfl) (pe_callB (cr_sumK (K := K)) (by rfl) T.b_sum (by decide +kernel) (pa_cons (pe_lc (own := [("signal", 3)]) (g := gName 3) (by rfl) sc_profit_at.nd (pi_listK (K := K) (pv 1)) (blkOk_by (N := n_profit_at) (sc := defScope s_profit_at) (by decide +kernel)) (fun _ _ _ _ _ => pg_name (i := 3) sc_profit_at.nd rfl (Or.inl rfl)) (fun _ _ _ _ _ => pts_nil) (fun _ _ _ _ _ => (by exact (pe_h h_value_numerator hr (by decide) pass0 (pa_cons (pv 0) (pa_cons (pv 3) pa_nil)))))) pa_nil)))
      (pss_one (ps_ret (pe_h h_lowest_terms hr (by decide) pass0 (pa_cons (pv 2) (pa_cons (pe_h h_value_denominator hr (by decide) pass0 (pa_cons (pv 0) pa_nil)) pa_nil)))))), ?go⟩)
  case len =>
    obtain ⟨H0, z, e0, ⟨a, s, t, p, b, l, rfl, _⟩, _⟩ := h
    rfl
  case go =>
    obtain ⟨H0, z, e0, ⟨a, s, t, p, b, l, rfl, hS, g, hb, hl, hm, rfl⟩, k⟩ := h
    have hS := hS.mono e0
    refine q_asg (ev_sumN (el_cMI l (fun i => V.int ((i : Nat) : Int)) (valNum s) (by walk_at "ev") (sq_of (e0 b _ hb)) (by omega) (fun _ => rfl) fun i hi H1 e => ?_)) fun H1 e1 => ?_
    · have hS := hS.mono e
      have sv := sv_value_numerator (K := K) hS g (hm i hi)
      walk_at "ev"
    · have hS := hS.mono e1
      have sv := sv_value_denominator (K := K) hS g
      have sl := sl_lowest_terms (K := K) (A := A) (H := H1) (i := (l.map (valNum s)).sum) (valDen_pos g.pos) (Bd.mono (bd_mul (bd_mul g.bd g.bt) g.bp) (by decide))
      walk_at "st"
      intro q H2 hq e2 h2
      exact k.go e1 hq e2 h2
theorem ok_joint_test_at {f : Addr} {fd : FuncData} (T : Tx K mg A) (h_lowest_terms : Has P w K mg base CX0 2 "lowest_terms" ["top", "bottom"] (sp_lowest_terms K A))
    (F : Fun K "joint_test_at" "joint_test_at" s_joint_test_at f fd) : FnOk P w K mg base CX0 3 f fd ["setting", "signals"] (sp_joint_test_at K A) := by
  refine F.ok sc_joint_test_at (fun vs H Q E h => ?len) (fun cdv ar outer s H vs Q E hr h => ⟨_, (pss_cons (ps_set (i := 2) sc_joint_test_at.nd rfl (Or.inl rfl) (pe_callB (cr_sumK (K := K)) (by rfl) T.b_sum (by decide +kernel) (pa_cons (pe_lc (own := [("signal", 3)]) (g := gName 3) (by rfl) sc_joint_test_at.nd (pi_listK (K := K) (pv 1)) (blkOk_by (N := n_joint_test_at) (sc := defScope s_joint_test_at) (by decide +kernel)) (fun _ _ _ _ _ => pg_name (i := 3) sc_joint_test_at.nd rfl (Or.inl rfl)) (fun _ _ _ _ _ => pts_nil) (fun _ _ _ _ _ => (by exact (pe_ixK (K := K) (pe_fldK (K := K) (pv 0)) (pv 3))))) pa_nil)))
      (pss_one (ps_ret (pe_h h_lowest_terms hr (by decide) pass0 (pa_cons (pe_op o_mul (pe_fldK (K := K) (pv 0)) (pv 2)) (pa_cons (pe_op o_mul (pe_fldK (K := K) (pv 0)) (pe_callB (cr_sumK (K := K)) (by rfl) T.b_sum (by decide +kernel) (pa_cons (pe_fldK (K := K) (pv 0)) pa_nil))) pa_nil)))))), ?go⟩)
  case len =>
    obtain ⟨H0, z, e0, ⟨a, s, t, p, b, l, rfl, _⟩, _⟩ := h
    rfl
  case go =>
    obtain ⟨H0, z, e0, ⟨a, s, t, p, b, l, rfl, hS, g, hb, hl, hm, rfl⟩, k⟩ := h
    have hS := hS.mono e0
    refine q_asg (ev_sumN (el_cMI l (fun i => V.int ((i : Nat) : Int)) (tW s) (by walk_at "ev") (sq_of (e0 b _ hb)) (by omega) (fun _ => rfl) fun i hi H1 e => ?_)) fun H1 e1 => ?_
    · have hS := hS.mono e
      have hi := hm i hi
      walk_at "ev"
    · have hS := hS.mono e1
      have sl := sl_lowest_terms (K := K) (A := A) (H := H1) (i := pN s * (l.map (tW s)).sum) (j := pD s * tS s) (Int.mul_pos g.pos.d g.pos.t) (Bd.mono (bd_mul g.bd g.bt) (by decide))
      have bs : Bd 32 (l.map (tW s)).sum := sum_bd g hl
      walk_at "st"
      intro q H2 hq e2 h2
      exact k.go e1 hq e2 h2
end
end Dt

set_option Elab.async false
set_option linter.all false
set_option maxRecDepth 100000
set_option maxHeartbeats 600000
namespace Dt
open PySem PySem.Spec PyProof.Rows L2 Evl
local macro_rules | `(tactic| walk_at "lk") => `(tactic| first | exact lk_here | (refine (lk_past ?_).trans ?_; (· decide +kernel); walk_at "lk"))
local macro_rules | `(tactic| walk_at "bd") => `(tactic| first | assumption | exact Good.bt (by assumption) | exact Good.bp (by assumption) | exact Good.bn (by assumption) | exact Good.bd (by assumption) | exact Good.bg (by assumption) | exact Good.bl (by assumption) | exact Good.bh (by assumption) | exact Good.bc (by assumption) | exact Good.btw (by assumption) _ | exact Good.bpw (by assumption) _ | exact bd_mul (by walk_at "bd") (by walk_at "bd") | exact bd_add (by walk_at "bd") (by walk_at "bd") | exact bd_sub (by walk_at "bd") (by walk_at "bd"))
local macro_rules | `(tactic| walk_at "cm") => `(tactic| first | assumption | exact bd_cmul (by walk_at "bd") (by walk_at "bd") (by decide))
local macro_rules | `(tactic| walk_at "ev") => `(tactic| first
  | with_reducible exact ev_c
  | ((with_reducible refine' ev_var ?h); (case h => exact rfl))
  | ((with_reducible refine' f_tsum ?e ?h ?t); (case e => walk_at "ev"); (case h => assumption); (case t => assumption))
  | ((with_reducible refine' f_psum ?e ?h ?t); (case e => walk_at "ev"); (case h => assumption); (case t => assumption))
  | ((with_reducible refine' f_tix ?e ?i ?h ?t ?l); (case e => walk_at "ev"); (case i => walk_at "ev"); (case h => assumption); (case t => assumption); (case l => assumption))
  | ((with_reducible refine' f_pix ?e ?i ?h ?t ?g ?l); (case e => walk_at "ev"); (case i => walk_at "ev"); (case h => assumption); (case t => assumption); (case g => assumption); (case l => assumption))
  | ((with_reducible refine' f_count ?e ?h ?t); (case e => walk_at "ev"); (case h => assumption); (case t => assumption))
  | ((with_reducible refine' f_tw ?e ?h ?t); (case e => walk_at "ev"); (case h => assumption); (case t => assumption))
  | ((with_reducible refine' f_pw ?e ?h ?t); (case e => walk_at "ev"); (case h => assumption); (case t => assumption))
  | ((with_reducible refine' f_pn ?e ?h ?t); (case e => walk_at "ev"); (case h => assumption); (case t => assumption))
  | ((with_reducible refine' f_pd ?e ?h ?t); (case e => walk_at "ev"); (case h => assumption); (case t => assumption))
  | ((with_reducible refine' f_ga ?e ?h ?t); (case e => walk_at "ev"); (case h => assumption); (case t => assumption))
  | ((with_reducible refine' f_lo ?e ?h ?t); (case e => walk_at "ev"); (case h => assumption); (case t => assumption))
  | ((with_reducible refine' f_hp ?e ?h ?t); (case e => walk_at "ev"); (case h => assumption); (case t => assumption))
  | ((with_reducible refine' f_tp ?e ?h ?t); (case e => walk_at "ev"); (case h => assumption); (case t => assumption))
  | ((with_reducible refine' ev_gt ?a ?b); (case a => walk_at "ev"); (case b => walk_at "ev"))
  | ((with_reducible refine' ev_lt ?a ?b); (case a => walk_at "ev"); (case b => walk_at "ev"))
  | ((with_reducible refine' ev_ge ?a ?b); (case a => walk_at "ev"); (case b => walk_at "ev"))
  | ((with_reducible refine' ev_le ?a ?b); (case a => walk_at "ev"); (case b => walk_at "ev"))
  | ((with_reducible refine' ev_eqI ?a ?b); (case a => walk_at "ev"); (case b => walk_at "ev"))
  | ((with_reducible refine' ev_neI ?a ?b); (case a => walk_at "ev"); (case b => walk_at "ev"))
  | ((with_reducible refine' ev_add ?a ?b); (case a => walk_at "ev"); (case b => walk_at "ev"))
  | ((with_reducible refine' ev_sub ?a ?b); (case a => walk_at "ev"); (case b => walk_at "ev"))
  | ((with_reducible refine' ev_mul ?a ?b ?c); (case a => walk_at "ev"); (case b => walk_at "ev"); (case c => walk_at "cm"))
  | ((with_reducible refine' ev_div ?a ?b ?c); (case a => walk_at "ev"); (case b => walk_at "ev"); (case c => assumption))
  | ((with_reducible refine' ev_mod ?a ?b ?c); (case a => walk_at "ev"); (case b => walk_at "ev"); (case c => assumption))
  | ((with_reducible refine' ev_absI ?a); (case a => walk_at "ev"))
  | ((with_reducible refine' ev_callH ?a ?s); (case a => walk_at "ea"); (case s => walk_at "sp"))
  | ((with_reducible refine' ev_sumN ?a); (case a => walk_at "el")))
local macro_rules | `(tactic| walk_at "ea") => `(tactic| first
  | with_reducible exact ea_nil
  | ((with_reducible refine' ea_cons ?a ?b); (case a => walk_at "ev"); (case b => walk_at "ea")))
local macro_rules | `(tactic| walk_at "el") => `(tactic| first
  | ((with_reducible refine' el_lst ?a ?b); (case a => walk_at "ea"); (case b => exact Nat.le_of_ble_eq_true rfl))
  | ((with_reducible refine' el_callH ?a ?s); (case a => walk_at "ea"); (case s => walk_at "sp")))
local macro_rules | `(tactic| walk_at "st") => `(tactic| first
  | ((with_reducible refine' q_asg ?e ?k); (case e => walk_at "ev"))
  | ((with_reducible refine' q_asgL ?e ?k); (case e => walk_at "el"))
  | ((with_reducible refine' s_asg ?e ?k); (case e => walk_at "ev"))
  | ((with_reducible refine' s_asgL ?e ?k); (case e => walk_at "el"))
  | ((with_reducible refine' s_ret ?e ?k); (case e => walk_at "ev"))
  | ((with_reducible refine' s_retL ?e ?k); (case e => walk_at "el")))
local macro_rules | `(tactic| walk_at "et") => `(tactic| first
  | ((with_reducible refine' et_test ?e); (case e => walk_at "ev"))
  | ((with_reducible refine' et_or ?e ?f); (case e => walk_at "et"); (case f => (intro _; walk_at "et")))
  | with_reducible exact et_yes)
local macro_rules | `(tactic| walk_at "sp") => `(tactic| assumption)
local macro_rules | `(tactic| walk_at "if") => `(tactic| first
  | ((with_reducible refine' q_when ?e ?k1 ?k2); (case e => walk_at "et"))
  | ((with_reducible refine' s_when ?e ?k1 ?k2); (case e => walk_at "et"))
  | ((with_reducible refine' q_if ?e ?k1 ?k2); (case e => walk_at "et"))
  | ((with_reducible refine' s_if ?e ?k1 ?k2); (case e => walk_at "et")))
local macro_rules | `(tactic| walk_at "pt") => `(tactic| first | exact put_here | (refine put_step ?_ ?_; (· decide +kernel); walk_at "pt"))
local macro_rules | `(tactic| walk_at "ev") => `(tactic| first
  | ((with_reducible refine' ev_ix0 ?e ?h); (case e => walk_at "ev"); (case h => assumption))
  | ((with_reducible refine' ev_ix1 ?e ?h); (case e => walk_at "ev"); (case h => assumption)))
open Kp415 (signalCount)
def sp_check_signal_count (K : PySem.W.Frag) (A : AdT) : Sp := spChk fun vs _ r => ∃ n : Int, vs = [.int n] ∧ r = if n < 1 ∨ 5 < n then some A.xOutsideLimits else none
def sp_check_signal (K : PySem.W.Frag) (A : AdT) : Sp := spChk fun vs _ r => ∃ n m : Int, vs = [.int n, .int m] ∧ r = if m ≤ n then some A.xNoSuchSignal else none
def sp_check_signal_set (K : PySem.W.Frag) (A : AdT) : Sp := spChk fun vs _ r => ∃ n m : Int, vs = [.int n, .int m] ∧ 0 ≤ m ∧ m ≤ 5 ∧ r = if 2 ^ m.toNat ≤ n then some A.xOutsideLimits else none
def sp_check_weights (K : PySem.W.Frag) (A : AdT) : Sp := spChk fun vs H r => ∃ b, ∃ l : List Nat, ∃ m : Nat, vs = [.ref b, .int (m : Int)] ∧ H b = some (.lst (nats l)) ∧ 0 < m ∧ r = if l.length ≠ m ∨ (∃ x ∈ l, 99 < x) ∨ (∀ x ∈ l, x = 0) then some A.xOutsideLimits else none
def sp_check_prior (K : PySem.W.Frag) (A : AdT) : Sp := spChk fun vs _ r => ∃ n m : Int, vs = [.int n, .int m] ∧ r = if m < 1 ∨ 99 < m ∨ m < n then some A.xOutsideLimits else none
def sp_check_amounts (K : PySem.W.Frag) (A : AdT) : Sp := spChk fun vs _ r => ∃ n m : Int, vs = [.int n, .int m] ∧ r = if 999 < n ∨ 999 < m then some A.xOutsideLimits else none
section
variable {P : Program} {w : World} {K : PySem.W.Frag} {mg : Str → Option Value} {base : Heap} {A : AdT}
theorem ok_check_signal_count {f : Addr} {fd : FuncData} (T : Tx K mg A) 
    (F : Fun K "check_signal_count" "check_signal_count" s_check_signal_count f fd) : FnOk P w K mg base (L2.CX P w) 1 f fd ["signal_count"] (sp_check_signal_count K A) := by
  refine F.okX sc_check_signal_count (fun vs H Q E h => ?len) (fun cdv ar outer s H vs Q E hr h => ⟨_, (pss_one (ps_if (PW.pt (pw_or (pt_cmpR o_lt (pv 0) pe_int (nomark _)) (pw_or1 (pt_cmpR o_gt (pv 0) (pe_gint T.c_MOST_SIGNALS) (nomark _))))) (pss_one (ps_raise rfl (takes_of rfl rfl rfl rfl) (pmk_own0 PySem.F.excBase_Exception T.x_OutsideLimits T.g_OutsideLimits T.k_OutsideLimits (raises_own T.bs_OutsideLimits T.ty_OutsideLimits) (by exact rfl)))) pss_nil)), ?go⟩)
  case len =>
    obtain ⟨H0, r, e0, ⟨n, rfl, _⟩, _⟩ := h
    rfl
  case go =>
    obtain ⟨H0, r, e0, ⟨n, rfl, rfl⟩, kx, kn⟩ := h
    walk_at "if"
    · intro hb H1 e1
      exact kx _ (if_pos (by simpa using hb)) H1 e1
    · intro hb H1 e1
      exact kn (if_neg (by simpa using hb)) H1 e1
theorem ok_check_signal {f : Addr} {fd : FuncData} (T : Tx K mg A) 
    (F : Fun K "check_signal" "check_signal" s_check_signal f fd) : FnOk P w K mg base (L2.CX P w) 1 f fd ["signal", "signal_count"] (sp_check_signal K A) := by
  refine F.okX sc_check_signal (fun vs H Q E h => ?len) (fun cdv ar outer s H vs Q E hr h => ⟨_, (pss_one (ps_if (pt_cmpR o_ge (pv 0) (pv 1) (nomark _)) (pss_one (ps_raise rfl (takes_of rfl rfl rfl rfl) (pmk_own0 PySem.F.excBase_Exception T.x_NoSuchSignal T.g_NoSuchSignal T.k_NoSuchSignal (raises_own T.bs_NoSuchSignal T.ty_NoSuchSignal) (by exact rfl)))) pss_nil)), ?go⟩)
  case len =>
    obtain ⟨H0, r, e0, ⟨n, m, rfl, _⟩, _⟩ := h
    rfl
  case go =>
    obtain ⟨H0, r, e0, ⟨n, m, rfl, rfl⟩, kx, kn⟩ := h
    walk_at "if"
    · intro hb H1 e1
      exact kx _ (if_pos (by simpa using hb)) H1 e1
    · intro hb H1 e1
      exact kn (if_neg (by simpa using hb)) H1 e1
theorem ok_check_prior {f : Addr} {fd : FuncData} (T : Tx K mg A) 
    (F : Fun K "check_prior" "check_prior" s_check_prior f fd) : FnOk P w K mg base (L2.CX P w) 1 f fd ["num", "den"] (sp_check_prior K A) := by
  refine F.okX sc_check_prior (fun vs H Q E h => ?len) (fun cdv ar outer s H vs Q E hr h => ⟨_, (pss_one (ps_if (PW.pt (pw_or (pt_cmpR o_lt (pv 1) pe_int (nomark _)) (pw_or (pt_cmpR o_gt (pv 1) (pe_gint T.c_LARGEST_PRIOR_DEN) (nomark _)) (pw_or1 (pt_cmpR o_gt (pv 0) (pv 1) (nomark _)))))) (pss_one (ps_raise rfl (takes_of rfl rfl rfl rfl) (pmk_own0 PySem.F.excBase_Exception T.x_OutsideLimits T.g_OutsideLimits T.k_OutsideLimits (raises_own T.bs_OutsideLimits T.ty_OutsideLimits) (by exact rfl)))) pss_nil)), ?go⟩)
  case len =>
    obtain ⟨H0, r, e0, ⟨n, m, rfl, _⟩, _⟩ := h
    rfl
  case go =>
    obtain ⟨H0, r, e0, ⟨n, m, rfl, rfl⟩, kx, kn⟩ := h
    walk_at "if"
    · intro hb H1 e1
      exact kx _ (if_pos (by simpa using hb)) H1 e1
    · intro hb H1 e1
      exact kn (if_neg (by simpa using hb)) H1 e1
theorem ok_check_amounts {f : Addr} {fd : FuncData} (T : Tx K mg A) 
    (F : Fun K "check_amounts" "check_amounts" s_check_amounts f fd) : FnOk P w K mg base (L2.CX P w) 1 f fd ["first", "second"] (sp_check_amounts K A) := by
  refine F.okX sc_check_amounts (fun vs H Q E h => ?len) (fun cdv ar outer s H vs Q E hr h => ⟨_, (pss_one (ps_if (PW.pt (pw_or (pt_cmpR o_gt (pv 0) (pe_gint T.c_LARGEST_AMOUNT) (nomark _)) (pw_or1 (pt_cmpR o_gt (pv 1) (pe_gint T.c_LARGEST_AMOUNT) (nomark _))))) (pss_one (ps_raise rfl (takes_of rfl rfl rfl rfl) (pmk_own0 PySem.F.excBase_Exception T.x_OutsideLimits T.g_OutsideLimits T.k_OutsideLimits (raises_own T.bs_OutsideLimits T.ty_OutsideLimits) (by exact rfl)))) pss_nil)), ?go⟩)
  case len =>
    obtain ⟨H0, r, e0, ⟨n, m, rfl, _⟩, _⟩ := h
    rfl
  case go =>
    obtain ⟨H0, r, e0, ⟨n, m, rfl, rfl⟩, kx, kn⟩ := h
    walk_at "if"
    · intro hb H1 e1
      exact kx _ (if_pos (by simpa using hb)) H1 e1
    · intro hb H1 e1
      exact kn (if_neg (by simpa using hb)) H1 e1
theorem ok_check_signal_set {f : Addr} {fd : FuncData} (T : Tx K mg A) 
    (F : Fun K "check_signal_set" "check_signal_set" s_check_signal_set f fd) : FnOk P w K mg base (L2.CX P w) 1 f fd ["mask", "signal_count"] (sp_check_signal_set K A) := by
  refine F.okX sc_check_signal_set (fun vs H Q E h => ?len) (fun cdv ar outer s H vs Q E hr h => ⟨_, (pss_one (ps_if (pt_cmpR o_ge (pv 0) (pe_op o_shl pe_int (pv 1)) (nomark _)) (pss_one (ps_raise rfl (takes_of rfl rfl rfl rfl) (pmk_own0 PySem.F.excBase_Exception T.x_OutsideLimits T.g_OutsideLimits T.k_OutsideLimits (raises_own T.bs_OutsideLimits T.ty_OutsideLimits) (by exact rfl)))) pss_nil)), ?go⟩)
  case len =>
    obtain ⟨H0, r, e0, ⟨n, m, rfl, _⟩, _⟩ := h
    rfl
  case go =>
    obtain ⟨H0, r, e0, ⟨n, m, rfl, hm0, hm5, rfl⟩, kx, kn⟩ := h
    refine s_when (et_test (ev_ge (by walk_at "ev") (ev_shl ev_c (by walk_at "ev") ⟨hm0, by omega, by decide⟩))) ?_ ?_
    · intro hb H1 e1
      exact kx _ (if_pos (by simpa using hb)) H1 e1
    · intro hb H1 e1
      exact kn (if_neg (by simpa using hb)) H1 e1
end
end Dt

set_option Elab.async false
set_option linter.all false
set_option maxRecDepth 100000
set_option maxHeartbeats 4000000
namespace Dt
open PySem PySem.Spec PyProof.Rows L2 Evl
local macro_rules | `(tactic| walk_at "lk") => `(tactic| first | exact lk_here | (refine (lk_past ?_).trans ?_; (· decide +kernel); walk_at "lk"))
local macro_rules | `(tactic| walk_at "bd") => `(tactic| first | assumption | exact Good.bt (by assumption) | exact Good.bp (by assumption) | exact Good.bn (by assumption) | exact Good.bd (by assumption) | exact Good.bg (by assumption) | exact Good.bl (by assumption) | exact Good.bh (by assumption) | exact Good.bc (by assumption) | exact Good.btw (by assumption) _ | exact Good.bpw (by assumption) _ | exact bd_mul (by walk_at "bd") (by walk_at "bd") | exact bd_add (by walk_at "bd") (by walk_at "bd") | exact bd_sub (by walk_at "bd") (by walk_at "bd"))
local macro_rules | `(tactic| walk_at "cm") => `(tactic| first | assumption | exact bd_cmul (by walk_at "bd") (by walk_at "bd") (by decide))
local macro_rules | `(tactic| walk_at "ev") => `(tactic| first
  | with_reducible exact ev_c
  | ((with_reducible refine' ev_var ?h); (case h => exact rfl))
  | ((with_reducible refine' f_tsum ?e ?h ?t); (case e => walk_at "ev"); (case h => assumption); (case t => assumption))
  | ((with_reducible refine' f_psum ?e ?h ?t); (case e => walk_at "ev"); (case h => assumption); (case t => assumption))
  | ((with_reducible refine' f_tix ?e ?i ?h ?t ?l); (case e => walk_at "ev"); (case i => walk_at "ev"); (case h => assumption); (case t => assumption); (case l => assumption))
  | ((with_reducible refine' f_pix ?e ?i ?h ?t ?g ?l); (case e => walk_at "ev"); (case i => walk_at "ev"); (case h => assumption); (case t => assumption); (case g => assumption); (case l => assumption))
  | ((with_reducible refine' f_count ?e ?h ?t); (case e => walk_at "ev"); (case h => assumption); (case t => assumption))
  | ((with_reducible refine' f_tw ?e ?h ?t); (case e => walk_at "ev"); (case h => assumption); (case t => assumption))
  | ((with_reducible refine' f_pw ?e ?h ?t); (case e => walk_at "ev"); (case h => assumption); (case t => assumption))
  | ((with_reducible refine' f_pn ?e ?h ?t); (case e => walk_at "ev"); (case h => assumption); (case t => assumption))
  | ((with_reducible refine' f_pd ?e ?h ?t); (case e => walk_at "ev"); (case h => assumption); (case t => assumption))
  | ((with_reducible refine' f_ga ?e ?h ?t); (case e => walk_at "ev"); (case h => assumption); (case t => assumption))
  | ((with_reducible refine' f_lo ?e ?h ?t); (case e => walk_at "ev"); (case h => assumption); (case t => assumption))
  | ((with_reducible refine' f_hp ?e ?h ?t); (case e => walk_at "ev"); (case h => assumption); (case t => assumption))
  | ((with_reducible refine' f_tp ?e ?h ?t); (case e => walk_at "ev"); (case h => assumption); (case t => assumption))
  | ((with_reducible refine' ev_gt ?a ?b); (case a => walk_at "ev"); (case b => walk_at "ev"))
  | ((with_reducible refine' ev_lt ?a ?b); (case a => walk_at "ev"); (case b => walk_at "ev"))
  | ((with_reducible refine' ev_ge ?a ?b); (case a => walk_at "ev"); (case b => walk_at "ev"))
  | ((with_reducible refine' ev_le ?a ?b); (case a => walk_at "ev"); (case b => walk_at "ev"))
  | ((with_reducible refine' ev_eqI ?a ?b); (case a => walk_at "ev"); (case b => walk_at "ev"))
  | ((with_reducible refine' ev_neI ?a ?b); (case a => walk_at "ev"); (case b => walk_at "ev"))
  | ((with_reducible refine' ev_add ?a ?b); (case a => walk_at "ev"); (case b => walk_at "ev"))
  | ((with_reducible refine' ev_sub ?a ?b); (case a => walk_at "ev"); (case b => walk_at "ev"))
  | ((with_reducible refine' ev_mul ?a ?b ?c); (case a => walk_at "ev"); (case b => walk_at "ev"); (case c => walk_at "cm"))
  | ((with_reducible refine' ev_div ?a ?b ?c); (case a => walk_at "ev"); (case b => walk_at "ev"); (case c => assumption))
  | ((with_reducible refine' ev_mod ?a ?b ?c); (case a => walk_at "ev"); (case b => walk_at "ev"); (case c => assumption))
  | ((with_reducible refine' ev_absI ?a); (case a => walk_at "ev"))
  | ((with_reducible refine' ev_callH ?a ?s); (case a => walk_at "ea"); (case s => walk_at "sp"))
  | ((with_reducible refine' ev_sumN ?a); (case a => walk_at "el")))
local macro_rules | `(tactic| walk_at "ea") => `(tactic| first
  | with_reducible exact ea_nil
  | ((with_reducible refine' ea_cons ?a ?b); (case a => walk_at "ev"); (case b => walk_at "ea")))
local macro_rules | `(tactic| walk_at "el") => `(tactic| first
  | ((with_reducible refine' el_lst ?a ?b); (case a => walk_at "ea"); (case b => exact Nat.le_of_ble_eq_true rfl))
  | ((with_reducible refine' el_callH ?a ?s); (case a => walk_at "ea"); (case s => walk_at "sp")))
local macro_rules | `(tactic| walk_at "st") => `(tactic| first
  | ((with_reducible refine' q_asg ?e ?k); (case e => walk_at "ev"))
  | ((with_reducible refine' q_asgL ?e ?k); (case e => walk_at "el"))
  | ((with_reducible refine' s_asg ?e ?k); (case e => walk_at "ev"))
  | ((with_reducible refine' s_asgL ?e ?k); (case e => walk_at "el"))
  | ((with_reducible refine' s_ret ?e ?k); (case e => walk_at "ev"))
  | ((with_reducible refine' s_retL ?e ?k); (case e => walk_at "el")))
local macro_rules | `(tactic| walk_at "et") => `(tactic| first
  | ((with_reducible refine' et_test ?e); (case e => walk_at "ev"))
  | ((with_reducible refine' et_or ?e ?f); (case e => walk_at "et"); (case f => (intro _; walk_at "et")))
  | with_reducible exact et_yes)
local macro_rules | `(tactic| walk_at "sp") => `(tactic| assumption)
local macro_rules | `(tactic| walk_at "if") => `(tactic| first
  | ((with_reducible refine' q_when ?e ?k1 ?k2); (case e => walk_at "et"))
  | ((with_reducible refine' s_when ?e ?k1 ?k2); (case e => walk_at "et"))
  | ((with_reducible refine' q_if ?e ?k1 ?k2); (case e => walk_at "et"))
  | ((with_reducible refine' s_if ?e ?k1 ?k2); (case e => walk_at "et")))
local macro_rules | `(tactic| walk_at "pt") => `(tactic| first | exact put_here | (refine put_step ?_ ?_; (· decide +kernel); walk_at "pt"))
local macro_rules | `(tactic| walk_at "ev") => `(tactic| first
  | ((with_reducible refine' ev_ix0 ?e ?h); (case e => walk_at "ev"); (case h => assumption))
  | ((with_reducible refine' ev_ix1 ?e ?h); (case e => walk_at "ev"); (case h => assumption)))
open Kp415 (signalCount)
theorem ex_max : ∀ l : List Nat, 0 < l.length → ∃ m ∈ l, ∀ y ∈ l, y ≤ m
  | [], h => absurd h (by decide)
  | [a], _ => ⟨a, by simp, by simp⟩
  | a :: b :: l, _ => by
    obtain ⟨m, hm, hx⟩ := ex_max (b :: l) (by simp)
    by_cases h : a ≤ m
    · exact ⟨m, List.mem_cons_of_mem _ hm, fun y hy => by
        rcases List.mem_cons.mp hy with e | hy
        · omega
        · exact hx y hy⟩
    · exact ⟨a, List.mem_cons_self, fun y hy => by
        rcases List.mem_cons.mp hy with e | hy
        · omega
        · have := hx y hy
          omega⟩
section
variable {P : Program} {w : World} {K : PySem.W.Frag} {mg : Str → Option Value} {base : Heap} {A : AdT}
theorem ev_maxN {σ : L2.St} {H : Hp} {ta : TE} {b : Addr} {l : List Nat} {m : Nat} (h : Ev ta σ H (.ref b)) (hb : H b = some (.lst (nats l))) (hm : m ∈ l) (hx : ∀ y ∈ l, y ≤ m) : Ev (tCB (rMax K) (tCons ta tNil)) σ H (.int (m : Int)) := by
  refine ev_maxL (ns := natI l) h (by rw [← nats_eq]; exact sq_of hb) (List.mem_map.mpr ⟨m, hm, rfl⟩) fun y hy => ?_
  obtain ⟨x, hx2, rfl⟩ := List.mem_map.mp hy
  have := hx x hx2
  omega
theorem ok_check_weights {f : Addr} {fd : FuncData} (T : Tx K mg A) 
    (F : Fun K "check_weights" "check_weights" s_check_weights f fd) : FnOk P w K mg base (L2.CX P w) 1 f fd ["weights", "signal_count"] (sp_check_weights K A) := by
  refine F.okX sc_check_weights (fun vs H Q E h => ?len) (fun cdv ar outer s H vs Q E hr h => ⟨_, (pss_cons (ps_if (pt_cmpR op_ne (pe_callB (cr_lenK (K := K)) (by rfl) T.b_len (by decide +kernel) (pa_cons (pv 0) pa_nil)) (pv 1) (nomark _)) (pss_one (ps_raise rfl (takes_of rfl rfl rfl rfl) (pmk_own0 PySem.F.excBase_Exception T.x_OutsideLimits T.g_OutsideLimits T.k_OutsideLimits (raises_own T.bs_OutsideLimits T.ty_OutsideLimits) (by exact rfl)))) pss_nil)
      (pss_one (ps_if (PW.pt (pw_or (pt_cmpR o_gt (pe_callB (cr_maxK (K := K)) (by rfl) T.b_max (by decide +kernel) (pa_cons (pv 0) pa_nil)) (pe_gint T.c_LARGEST_WEIGHT) (nomark _)) (pw_or1 (pt_cmpR op_eq (pe_callB (cr_maxK (K := K)) (by rfl) T.b_max (by decide +kernel) (pa_cons (pv 0) pa_nil)) pe_int (nomark _))))) (pss_one (ps_raise rfl (takes_of rfl rfl rfl rfl) (pmk_own0 PySem.F.excBase_Exception T.x_OutsideLimits T.g_OutsideLimits T.k_OutsideLimits (raises_own T.bs_OutsideLimits T.ty_OutsideLimits) (by exact rfl)))) pss_nil))), ?go⟩)
  case len =>
    obtain ⟨H0, r, e0, ⟨b, l, m, rfl, _⟩, _⟩ := h
    rfl
  case go =>
    obtain ⟨H0, r, e0, ⟨b, l, m, rfl, hb, hm, rfl⟩, kx, kn⟩ := h
    have hb := e0 b _ hb
    refine q_when (et_test (ev_neI (ev_len (by walk_at "ev") (sq_of hb)) (by walk_at "ev"))) ?_ ?_
    · intro hq H1 e1
      rw [nats_len] at hq
      exact kx _ (if_pos (.inl (fun z => of_decide_eq_false (by simpa using hq : decide (((l.length : Nat) : Int) = (m : Int)) = false) (by rw [z])))) H1 e1
    · intro hq H1 e1
      rw [nats_len] at hq
      have hl : l.length = m := by
        have h : ((l.length : Nat) : Int) = (m : Int) := by simpa using hq
        omega
      have hb := e1 b _ hb
      obtain ⟨x, hx, hy⟩ := ex_max l (by omega)
      refine s_when (et_or (et_test (ev_gt (ev_maxN (by walk_at "ev") hb hx hy) ev_c)) fun _ => et_test (ev_eqI (ev_maxN (by walk_at "ev") hb hx hy) ev_c)) ?_ ?_
      · intro hq2 H2 e2
        refine kx _ (if_pos ?_) H2 (e1.trans e2)
        rcases Bool.or_eq_true_iff.mp hq2 with h | h
        · have h : (99 : Int) < x := of_decide_eq_true h
          exact .inr (.inl ⟨x, hx, by omega⟩)
        · have h : (x : Int) = 0 := of_decide_eq_true h
          exact .inr (.inr fun y hy2 => by have := hy y hy2; omega)
      · intro hq2 H2 e2
        refine kn (if_neg ?_) H2 (e1.trans e2)
        obtain ⟨h1, h2⟩ := Bool.or_eq_false_iff.mp hq2
        have h1 : ¬ (99 : Int) < x := of_decide_eq_false h1
        have h2 : ¬ (x : Int) = 0 := of_decide_eq_false h2
        rintro (z | ⟨y, hy1, hy2⟩ | z)
        · exact z hl
        · have := hy y hy1
          omega
        · exact h2 (by have := z x hx; omega)
end
end Dt

set_option Elab.async false
set_option linter.all false
set_option maxRecDepth 100000
set_option maxHeartbeats 600000
namespace Dt
open PySem PySem.Spec PyProof.Rows L2 Evl
local macro_rules | `(tactic| walk_at "lk") => `(tactic| first | exact lk_here | (refine (lk_past ?_).trans ?_; (· decide +kernel); walk_at "lk"))
local macro_rules | `(tactic| walk_at "bd") => `(tactic| first | assumption | exact Good.bt (by assumption) | exact Good.bp (by assumption) | exact Good.bn (by assumption) | exact Good.bd (by assumption) | exact Good.bg (by assumption) | exact Good.bl (by assumption) | exact Good.bh (by assumption) | exact Good.bc (by assumption) | exact Good.btw (by assumption) _ | exact Good.bpw (by assumption) _ | exact bd_mul (by walk_at "bd") (by walk_at "bd") | exact bd_add (by walk_at "bd") (by walk_at "bd") | exact bd_sub (by walk_at "bd") (by walk_at "bd"))
local macro_rules | `(tactic| walk_at "cm") => `(tactic| first | assumption | exact bd_cmul (by walk_at "bd") (by walk_at "bd") (by decide))
local macro_rules | `(tactic| walk_at "ev") => `(tactic| first
  | with_reducible exact ev_c
  | ((with_reducible refine' ev_var ?h); (case h => exact rfl))
  | ((with_reducible refine' f_tsum ?e ?h ?t); (case e => walk_at "ev"); (case h => assumption); (case t => assumption))
  | ((with_reducible refine' f_psum ?e ?h ?t); (case e => walk_at "ev"); (case h => assumption); (case t => assumption))
  | ((with_reducible refine' f_tix ?e ?i ?h ?t ?l); (case e => walk_at "ev"); (case i => walk_at "ev"); (case h => assumption); (case t => assumption); (case l => assumption))
  | ((with_reducible refine' f_pix ?e ?i ?h ?t ?g ?l); (case e => walk_at "ev"); (case i => walk_at "ev"); (case h => assumption); (case t => assumption); (case g => assumption); (case l => assumption))
  | ((with_reducible refine' f_count ?e ?h ?t); (case e => walk_at "ev"); (case h => assumption); (case t => assumption))
  | ((with_reducible refine' f_tw ?e ?h ?t); (case e => walk_at "ev"); (case h => assumption); (case t => assumption))
  | ((with_reducible refine' f_pw ?e ?h ?t); (case e => walk_at "ev"); (case h => assumption); (case t => assumption))
  | ((with_reducible refine' f_pn ?e ?h ?t); (case e => walk_at "ev"); (case h => assumption); (case t => assumption))
  | ((with_reducible refine' f_pd ?e ?h ?t); (case e => walk_at "ev"); (case h => assumption); (case t => assumption))
  | ((with_reducible refine' f_ga ?e ?h ?t); (case e => walk_at "ev"); (case h => assumption); (case t => assumption))
  | ((with_reducible refine' f_lo ?e ?h ?t); (case e => walk_at "ev"); (case h => assumption); (case t => assumption))
  | ((with_reducible refine' f_hp ?e ?h ?t); (case e => walk_at "ev"); (case h => assumption); (case t => assumption))
  | ((with_reducible refine' f_tp ?e ?h ?t); (case e => walk_at "ev"); (case h => assumption); (case t => assumption))
  | ((with_reducible refine' ev_gt ?a ?b); (case a => walk_at "ev"); (case b => walk_at "ev"))
  | ((with_reducible refine' ev_lt ?a ?b); (case a => walk_at "ev"); (case b => walk_at "ev"))
  | ((with_reducible refine' ev_ge ?a ?b); (case a => walk_at "ev"); (case b => walk_at "ev"))
  | ((with_reducible refine' ev_le ?a ?b); (case a => walk_at "ev"); (case b => walk_at "ev"))
  | ((with_reducible refine' ev_eqI ?a ?b); (case a => walk_at "ev"); (case b => walk_at "ev"))
  | ((with_reducible refine' ev_neI ?a ?b); (case a => walk_at "ev"); (case b => walk_at "ev"))
  | ((with_reducible refine' ev_add ?a ?b); (case a => walk_at "ev"); (case b => walk_at "ev"))
  | ((with_reducible refine' ev_sub ?a ?b); (case a => walk_at "ev"); (case b => walk_at "ev"))
  | ((with_reducible refine' ev_mul ?a ?b ?c); (case a => walk_at "ev"); (case b => walk_at "ev"); (case c => walk_at "cm"))
  | ((with_reducible refine' ev_div ?a ?b ?c); (case a => walk_at "ev"); (case b => walk_at "ev"); (case c => assumption))
  | ((with_reducible refine' ev_mod ?a ?b ?c); (case a => walk_at "ev"); (case b => walk_at "ev"); (case c => assumption))
  | ((with_reducible refine' ev_absI ?a); (case a => walk_at "ev"))
  | ((with_reducible refine' ev_callH ?a ?s); (case a => walk_at "ea"); (case s => walk_at "sp"))
  | ((with_reducible refine' ev_sumN ?a); (case a => walk_at "el")))
local macro_rules | `(tactic| walk_at "ea") => `(tactic| first
  | with_reducible exact ea_nil
  | ((with_reducible refine' ea_cons ?a ?b); (case a => walk_at "ev"); (case b => walk_at "ea")))
local macro_rules | `(tactic| walk_at "el") => `(tactic| first
  | ((with_reducible refine' el_lst ?a ?b); (case a => walk_at "ea"); (case b => exact Nat.le_of_ble_eq_true rfl))
  | ((with_reducible refine' el_callH ?a ?s); (case a => walk_at "ea"); (case s => walk_at "sp")))
local macro_rules | `(tactic| walk_at "st") => `(tactic| first
  | ((with_reducible refine' q_asg ?e ?k); (case e => walk_at "ev"))
  | ((with_reducible refine' q_asgL ?e ?k); (case e => walk_at "el"))
  | ((with_reducible refine' s_asg ?e ?k); (case e => walk_at "ev"))
  | ((with_reducible refine' s_asgL ?e ?k); (case e => walk_at "el"))
  | ((with_reducible refine' s_ret ?e ?k); (case e => walk_at "ev"))
  | ((with_reducible refine' s_retL ?e ?k); (case e => walk_at "el")))
local macro_rules | `(tactic| walk_at "et") => `(tactic| first
  | ((with_reducible refine' et_test ?e); (case e => walk_at "ev"))
  | ((with_reducible refine' et_or ?e ?f); (case e => walk_at "et"); (case f => (intro _; walk_at "et")))
  | with_reducible exact et_yes)
local macro_rules | `(tactic| walk_at "sp") => `(tactic| assumption)
local macro_rules | `(tactic| walk_at "if") => `(tactic| first
  | ((with_reducible refine' q_when ?e ?k1 ?k2); (case e => walk_at "et"))
  | ((with_reducible refine' s_when ?e ?k1 ?k2); (case e => walk_at "et"))
  | ((with_reducible refine' q_if ?e ?k1 ?k2); (case e => walk_at "et"))
  | ((with_reducible refine' s_if ?e ?k1 ?k2); (case e => walk_at "et")))
local macro_rules | `(tactic| walk_at "pt") => `(tactic| first | exact put_here | (refine put_step ?_ ?_; (· decide +kernel); walk_at "pt"))
local macro_rules | `(tactic| walk_at "ev") => `(tactic| first
  | ((with_reducible refine' ev_ix0 ?e ?h); (case e => walk_at "ev"); (case h => assumption))
  | ((with_reducible refine' ev_ix1 ?e ?h); (case e => walk_at "ev"); (case h => assumption)))
open Kp415 (signalCount)
def iV (l : List Int) : List V := l.map V.int
/-- a fraction's two numbers, not negative, of moderate size -/
structure FracOk (q : List Int) (c d : Int) : Prop where
  eq : q = [c, d]
  c0 : 0 ≤ c
  cd : c ≤ d
  d0 : 0 < d
  bc : Bd 64 c
  bd : Bd 64 d
theorem bd_le {n : Nat} {i j : Int} (h : i.natAbs ≤ j.natAbs) (k : Bd n j) : Bd n i := Nat.lt_of_le_of_lt h k
theorem bd_add1 {n : Nat} {i j : Int} (h : Bd n i) (k : Bd n j) : Bd (n + 1) (i + j) := by
  unfold Bd at h k ⊢
  rw [Nat.pow_succ]
  omega
theorem dG_bd {s : Stg} (g : Good s) (i : Nat) : Bd 48 (dG s i) := bd_mul (bd_mul g.bg (g.bpw i)) g.bt
theorem dL_bd {s : Stg} (g : Good s) (i : Nat) : Bd 48 (dL s i) := bd_mul (bd_mul g.bl (g.btw i)) g.bp
theorem frac01 : FracOk [0, 1] 0 1 := ⟨rfl, by decide, by decide, by decide, by unfold Bd; decide, by unfold Bd; decide⟩
theorem frac11 : FracOk [1, 1] 1 1 := ⟨rfl, by decide, by decide, by decide, by unfold Bd; decide, by unfold Bd; decide⟩
theorem dpa_ok {s : Stg} (g : Good s) {i : Nat} {q : List Int} (h : dpa s i = some q) : ∃ c d, FracOk q c d := by
  unfold dpa at h
  by_cases h1 : dG s i = 0
  · rw [if_pos h1] at h
    cases h
    exact ⟨_, _, frac01⟩
  · rw [if_neg h1] at h
    by_cases h2 : dL s i = 0
    · rw [if_pos h2] at h
      cases h
    · rw [if_neg h2] at h
      cases h
      have p1 := dG_nn g.pos i
      have p2 := dL_nn g.pos i
      have b1 := dG_bd g i
      have b2 := bd_add1 (dG_bd g i) (dL_bd g i)
      have hp : 0 < dG s i + dL s i := by omega
      exact ⟨_, _, low_is _ _, lowN_nn p1, lowN_le_D hp (by omega), lowD_pos hp, (bd_le (lowN_le hp) b1).mono (by decide), (bd_le (lowD_le hp) b2).mono (by decide)⟩
theorem sum_bdp {s : Stg} (g : Good s) {l : List Nat} (hl : l.length ≤ 5) : Bd 32 (l.map (pW s)).sum := by
  have q := sum_le_mul (f := pW s) (fun i => by
    have h := g.bpw i
    unfold Bd at h
    unfold pW at h ⊢
    omega) l
  unfold Bd
  omega
def sp_is_less (K : PySem.W.Frag) (A : AdT) : Sp := spVal fun vs H z => ∃ p q, ∃ a b c d : Int, vs = [.ref p, .ref q] ∧ H p = some (.lst [.int a, .int b]) ∧ H q = some (.lst [.int c, .int d]) ∧ Bd 4000 a ∧ Bd 4000 b ∧ Bd 4000 c ∧ Bd 4000 d ∧ z = .bl (decide (a * d < c * b))
def sp_joint_production_at (K : PySem.W.Frag) (A : AdT) : Sp := spLst fun vs H xs => ∃ a s t p, ∃ b l, vs = [.ref a, .ref b] ∧ SetAt A H a s t p ∧ Good s ∧ H b = some (.lst (nats l)) ∧ l.length ≤ 5 ∧ (∀ i ∈ l, i < signalCount s.model) ∧ xs = (low ((pD s - pN s) * (l.map (pW s)).sum) (pD s * pS s)).map V.int
def sp_cost_of (K : PySem.W.Frag) (A : AdT) : Sp := spLst fun vs H xs => ∃ a s t p, vs = [.ref a] ∧ SetAt A H a s t p ∧ Good s ∧ xs = (low (costNum s) (costDen s)).map V.int
def sp_prior_against (K : PySem.W.Frag) (A : AdT) : Sp := spRet fun vs H R => ∃ a s t p, ∃ i : Nat, vs = [.ref a, .int (i : Int)] ∧ SetAt A H a s t p ∧ Good s ∧ i < signalCount s.model ∧ R = IsOpt H ((dpa s i).map iV)
def sp_prior_against_all (K : PySem.W.Frag) (A : AdT) : Sp := spRet fun vs H R => ∃ a s t p, vs = [.ref a] ∧ SetAt A H a s t p ∧ Good s ∧ R = IsOpt H ((dpAll s).map iV)
section
variable {P : Program} {w : World} {K : PySem.W.Frag} {mg : Str → Option Value} {base : Heap} {A : AdT}
theorem ev_p0 {σ : L2.St} {H : Hp} {ta : TE} {b : Addr} {x y : V} (h : Ev ta σ H (.ref b)) (hb : H b = some (.lst [x, y])) : Ev (tOp (rIxL K) ta (tC (.int 0))) σ H x := ev_ixL h ev_c (sq_of hb) rfl
theorem ev_p1 {σ : L2.St} {H : Hp} {ta : TE} {b : Addr} {x y : V} (h : Ev ta σ H (.ref b)) (hb : H b = some (.lst [x, y])) : Ev (tOp (rIxL K) ta (tC (.int 1))) σ H y := ev_ixL h ev_c (sq_of hb) rfl
theorem sl_joint_production_at {H : Hp} {a t p b : Addr} {s : Stg} {l : List Nat} (h : SetAt A H a s t p) (g : Good s) (hb : H b = some (.lst (nats l))) (hl : l.length ≤ 5) (hm : ∀ i ∈ l, i < signalCount s.model) :
    SpL (sp_joint_production_at K A) [.ref a, .ref b] H ((low ((pD s - pN s) * (l.map (pW s)).sum) (pD s * pS s)).map V.int) := sl_of ⟨a, s, t, p, b, l, rfl, h, g, hb, hl, hm, rfl⟩
theorem sl_cost_of {H : Hp} {a t p : Addr} {s : Stg} (h : SetAt A H a s t p) (g : Good s) : SpL (sp_cost_of K A) [.ref a] H ((low (costNum s) (costDen s)).map V.int) := sl_of ⟨a, s, t, p, rfl, h, g, rfl⟩
theorem sv_is_less {H : Hp} {p q : Addr} {a b c d : Int} (h1 : H p = some (.lst [.int a, .int b])) (h2 : H q = some (.lst [.int c, .int d])) (ba : Bd 4000 a) (bb : Bd 4000 b) (bc : Bd 4000 c) (bd : Bd 4000 d) :
    SpV (sp_is_less K A) [.ref p, .ref q] H (.bl (decide (a * d < c * b))) := sv_of ⟨p, q, a, b, c, d, rfl, h1, h2, ba, bb, bc, bd, rfl⟩
theorem ok_is_less {f : Addr} {fd : FuncData} (T : Tx K mg A) 
    (F : Fun K "is_less" "is_less" s_is_less f fd) : FnOk P w K mg base CX0 1 f fd ["left", "right"] (sp_is_less K A) := by
  refine F.ok sc_is_less (fun vs H Q E h => ?len) (fun cdv ar outer s H vs Q E hr h => ⟨_, (pss_one (ps_ret (pe_cmpR o_lt (pe_op o_mul (pe_ixK (K := K) (pv 0) pe_int) (pe_ixK (K := K) (pv 1) pe_int)) (pe_op o_mul (pe_ixK (K := K) (pv 1) pe_int) (pe_ixK (K := K) (pv 0) pe_int)) (nomark _)))), ?go⟩)
  case len =>
    obtain ⟨H0, z, e0, ⟨p, q, a, b, c, d, rfl, _⟩, _⟩ := h
    rfl
  case go =>
    obtain ⟨H0, z, e0, ⟨p, q, a, b, c, d, rfl, h1, h2, ba, bb, bc, bd, rfl⟩, k⟩ := h
    have h1 := e0 p _ h1
    have h2 := e0 q _ h2
    refine s_ret (ev_lt (ev_mul (ev_p0 (by walk_at "ev") h1) (ev_p1 (by walk_at "ev") h2) (bd_cmul ba bd)) (ev_mul (ev_p0 (by walk_at "ev") h2) (ev_p1 (by walk_at "ev") h1) (bd_cmul bc bb))) fun H1 e1 => ?_
    exact k.go e1
theorem ok_joint_production_at {f : Addr} {fd : FuncData} (T : Tx K mg A) (h_lowest_terms : Has P w K mg base CX0 2 "lowest_terms" ["top", "bottom"] (sp_lowest_terms K A))
    (F : Fun K "joint_production_at" "joint_production_at" s_joint_production_at f fd) : FnOk P w K mg base CX0 3 f fd ["setting", "signals"] (sp_joint_production_at K A) := by
  refine F.ok sc_joint_production_at (fun vs H Q E h => ?len) (fun cdv ar outer s H vs Q E hr h => ⟨_, (pss_cons (ps_set (i := 2) sc_joint_production_at.nd rfl (Or.inl rfl) (pe_callB (cr_sumK (K := K)) (by rfl) T.b_sum (by decide +kernel) (pa_cons (pe_lc (own := [("signal", 4)]) (g := gName 4) (by rfl) sc_joint_production_at.nd (pi_listK (K := K) (pv 1)) (blkOk_by (N := n_joint_production_at) (sc := defScope s_joint_production_at) (by decide +kernel)) (fun _ _ _ _ _ => pg_name (i := 4) sc_joint_production_at.nd rfl (Or.inl rfl)) (fun _ _ _ _ _ => pts_nil) (fun _ _ _ _ _ => (by exact (pe_ixK (K := K) (pe_fldK (K := K) (pv 0)) (pv 4))))) pa_nil)))
      (pss_cons (ps_set (i := 3) sc_joint_production_at.nd rfl (Or.inl rfl) (pe_op o_sub (pe_fldK (K := K) (pv 0)) (pe_fldK (K := K) (pv 0))))
      (pss_one (ps_ret (pe_h h_lowest_terms hr (by decide) pass0 (pa_cons (pe_op o_mul (pv 3) (pv 2)) (pa_cons (pe_op o_mul (pe_fldK (K := K) (pv 0)) (pe_callB (cr_sumK (K := K)) (by rfl) T.b_sum (by decide +kernel) (pa_cons (pe_fldK (K := K) (pv 0)) pa_nil))) pa_nil))))))), ?go⟩)
  case len =>
    obtain ⟨H0, z, e0, ⟨a, s, t, p, b, l, rfl, _⟩, _⟩ := h
    rfl
  case go =>
    obtain ⟨H0, z, e0, ⟨a, s, t, p, b, l, rfl, hS, g, hb, hl, hm, rfl⟩, k⟩ := h
    have hS := hS.mono e0
    refine q_asg (ev_sumN (el_cMI l (fun i => V.int ((i : Nat) : Int)) (pW s) (by walk_at "ev") (sq_of (e0 b _ hb)) (by omega) (fun _ => rfl) fun i hi H1 e => ?_)) fun H1 e1 => ?_
    · have hS := hS.mono e
      have hi := hm i hi
      walk_at "ev"
    · have hS := hS.mono e1
      walk_at "st"
      intro H2 e2
      have hS := hS.mono e2
      have sl := sl_lowest_terms (K := K) (A := A) (H := H2) (i := (pD s - pN s) * (l.map (pW s)).sum) (j := pD s * pS s) (Int.mul_pos g.pos.d g.pos.p) (Bd.mono (bd_mul g.bd g.bp) (by decide))
      have bs : Bd 32 (l.map (pW s)).sum := sum_bdp g hl
      walk_at "st"
      intro q H3 hq e3 h3
      exact k.go (e1.trans e2) hq e3 h3
theorem ok_cost_of {f : Addr} {fd : FuncData} (T : Tx K mg A) (h_lowest_terms : Has P w K mg base CX0 2 "lowest_terms" ["top", "bottom"] (sp_lowest_terms K A))
    (h_paying_signals : Has P w K mg base CX0 2 "paying_signals" ["setting"] (sp_paying_signals K A))
    (h_joint_production_at : Has P w K mg base CX0 3 "joint_production_at" ["setting", "signals"] (sp_joint_production_at K A))
    (F : Fun K "cost_of" "cost_of" s_cost_of f fd) : FnOk P w K mg base CX0 4 f fd ["setting"] (sp_cost_of K A) := by
  refine F.ok sc_cost_of (fun vs H Q E h => ?len) (fun cdv ar outer s H vs Q E hr h => ⟨_, (pss_cons (ps_set (i := 1) sc_cost_of.nd rfl (Or.inl rfl) (pe_h h_joint_production_at hr (by decide) pass0 (pa_cons (pv 0) (pa_cons (pe_h h_paying_signals hr (by decide) pass0 (pa_cons (pv 0) pa_nil)) pa_nil))))
      (pss_cons (ps_set (i := 2) sc_cost_of.nd rfl (Or.inl rfl) (pe_op o_mul (pe_op o_mul (pe_fldK (K := K) (pv 0)) (pe_fldK (K := K) (pv 0))) (pe_ixK (K := K) (pv 1) pe_int)))
      (pss_cons (ps_set (i := 3) sc_cost_of.nd rfl (Or.inl rfl) (pe_op o_mul (pe_op o_mul (pe_fldK (K := K) (pv 0)) (pe_ixK (K := K) (pv 1) pe_int)) (pe_fldK (K := K) (pv 0))))
      (pss_one (ps_ret (pe_h h_lowest_terms hr (by decide) pass0 (pa_cons (pe_op o_add (pv 2) (pv 3)) (pa_cons (pe_op o_mul (pe_fldK (K := K) (pv 0)) (pe_ixK (K := K) (pv 1) pe_int)) pa_nil)))))))), ?go⟩)
  case len =>
    obtain ⟨H0, z, e0, ⟨a, s, t, p, rfl, _⟩, _⟩ := h
    rfl
  case go =>
    obtain ⟨H0, z, e0, ⟨a, s, t, p, rfl, hS, g, rfl⟩, k⟩ := h
    have hS := hS.mono e0
    have pl : (paying s).length ≤ 5 := by
      unfold paying
      have := List.length_filter_le (fun i => decide (0 < valNum s i)) (List.range (signalCount s.model))
      rw [List.length_range] at this
      have := g.n5
      omega
    have plt : ∀ i ∈ paying s, i < signalCount s.model := fun i hi => List.mem_range.mp (List.mem_filter.mp hi).1
    have sl := sl_paying_signals (K := K) hS g
    have hp : 0 < pD s * pS s := Int.mul_pos g.pos.d g.pos.p
    have bs : Bd 32 ((paying s).map (pW s)).sum := sum_bdp g pl
    refine q_asgL (el_callN (ys := nats (paying s)) (xs := (low ((pD s - pN s) * ((paying s).map (pW s)).sum) (pD s * pS s)).map V.int) (by walk_at "el") (by walk_at "ev") fun q H1 e1 h1 => ?_) fun q H1 hq e1 h1 => ?_
    · exact sl_joint_production_at (K := K) (hS.mono e1) g h1 pl plt
    · have h1 : H1 q = some (.lst [.int (lowN ((pD s - pN s) * ((paying s).map (pW s)).sum) (pD s * pS s)), .int (lowD ((pD s - pN s) * ((paying s).map (pW s)).sum) (pD s * pS s))]) := h1
      have hS1 := hS.mono e1
      have b0 := bd_le (lowN_le hp) (bd_mul (bd_sub g.bd g.bn) bs)
      have b1 := bd_le (lowD_le (a := (pD s - pN s) * ((paying s).map (pW s)).sum) hp) (bd_mul g.bd g.bp)
      have pd := lowD_pos (a := (pD s - pN s) * ((paying s).map (pW s)).sum) hp
      have hc := low_cross ((pD s - pN s) * ((paying s).map (pW s)).sum) (pD s * pS s)
      have cp := cost_prog g.pos _ _ pd hc
      generalize lowN ((pD s - pN s) * ((paying s).map (pW s)).sum) (pD s * pS s) = n0 at h1 b0 hc cp
      generalize lowD ((pD s - pN s) * ((paying s).map (pW s)).sum) (pD s * pS s) = n1 at h1 b1 pd hc cp
      refine q_asg (ev_mul (ev_mul (by walk_at "ev") (by walk_at "ev") (by walk_at "cm")) (ev_p1 (by walk_at "ev") h1) (by walk_at "cm")) fun H2 e2 => ?_
      have hS2 := hS1.mono e2
      have h2 := e2 q _ h1
      refine q_asg (ev_mul (ev_mul (by walk_at "ev") (ev_p0 (by walk_at "ev") h2) (by walk_at "cm")) (by walk_at "ev") (by walk_at "cm")) fun H3 e3 => ?_
      have hS3 := hS2.mono e3
      have h3 := e3 q _ h2
      have sl := sl_lowest_terms (K := K) (A := A) (H := H3) (i := tP s * pN s * n1 + hP s * n0 * pD s) (j := pD s * n1) (Int.mul_pos g.pos.d pd) (Bd.mono (bd_mul g.bd b1) (by decide))
      refine s_retL (el_callH (ea_cons (ev_add (by walk_at "ev") (by walk_at "ev")) (ea_cons (ev_mul (by walk_at "ev") (ev_p1 (by walk_at "ev") h3) (by walk_at "cm")) ea_nil)) sl) fun r H4 hr e4 h4 => ?_
      rw [cp] at h4
      exact k.go ((e1.trans e2).trans e3) hr e4 h4
end
end Dt

set_option Elab.async false
set_option linter.all false
set_option maxRecDepth 100000
set_option maxHeartbeats 600000
namespace Dt
open PySem PySem.Spec PyProof.Rows L2 Evl
local macro_rules | `(tactic| walk_at "lk") => `(tactic| first | exact lk_here | (refine (lk_past ?_).trans ?_; (· decide +kernel); walk_at "lk"))
local macro_rules | `(tactic| walk_at "bd") => `(tactic| first | assumption | exact Good.bt (by assumption) | exact Good.bp (by assumption) | exact Good.bn (by assumption) | exact Good.bd (by assumption) | exact Good.bg (by assumption) | exact Good.bl (by assumption) | exact Good.bh (by assumption) | exact Good.bc (by assumption) | exact Good.btw (by assumption) _ | exact Good.bpw (by assumption) _ | exact bd_mul (by walk_at "bd") (by walk_at "bd") | exact bd_add (by walk_at "bd") (by walk_at "bd") | exact bd_sub (by walk_at "bd") (by walk_at "bd"))
local macro_rules | `(tactic| walk_at "cm") => `(tactic| first | assumption | exact bd_cmul (by walk_at "bd") (by walk_at "bd") (by decide))
local macro_rules | `(tactic| walk_at "ev") => `(tactic| first
  | with_reducible exact ev_c
  | ((with_reducible refine' ev_var ?h); (case h => exact rfl))
  | ((with_reducible refine' f_tsum ?e ?h ?t); (case e => walk_at "ev"); (case h => assumption); (case t => assumption))
  | ((with_reducible refine' f_psum ?e ?h ?t); (case e => walk_at "ev"); (case h => assumption); (case t => assumption))
  | ((with_reducible refine' f_tix ?e ?i ?h ?t ?l); (case e => walk_at "ev"); (case i => walk_at "ev"); (case h => assumption); (case t => assumption); (case l => assumption))
  | ((with_reducible refine' f_pix ?e ?i ?h ?t ?g ?l); (case e => walk_at "ev"); (case i => walk_at "ev"); (case h => assumption); (case t => assumption); (case g => assumption); (case l => assumption))
  | ((with_reducible refine' f_count ?e ?h ?t); (case e => walk_at "ev"); (case h => assumption); (case t => assumption))
  | ((with_reducible refine' f_tw ?e ?h ?t); (case e => walk_at "ev"); (case h => assumption); (case t => assumption))
  | ((with_reducible refine' f_pw ?e ?h ?t); (case e => walk_at "ev"); (case h => assumption); (case t => assumption))
  | ((with_reducible refine' f_pn ?e ?h ?t); (case e => walk_at "ev"); (case h => assumption); (case t => assumption))
  | ((with_reducible refine' f_pd ?e ?h ?t); (case e => walk_at "ev"); (case h => assumption); (case t => assumption))
  | ((with_reducible refine' f_ga ?e ?h ?t); (case e => walk_at "ev"); (case h => assumption); (case t => assumption))
  | ((with_reducible refine' f_lo ?e ?h ?t); (case e => walk_at "ev"); (case h => assumption); (case t => assumption))
  | ((with_reducible refine' f_hp ?e ?h ?t); (case e => walk_at "ev"); (case h => assumption); (case t => assumption))
  | ((with_reducible refine' f_tp ?e ?h ?t); (case e => walk_at "ev"); (case h => assumption); (case t => assumption))
  | ((with_reducible refine' ev_gt ?a ?b); (case a => walk_at "ev"); (case b => walk_at "ev"))
  | ((with_reducible refine' ev_lt ?a ?b); (case a => walk_at "ev"); (case b => walk_at "ev"))
  | ((with_reducible refine' ev_ge ?a ?b); (case a => walk_at "ev"); (case b => walk_at "ev"))
  | ((with_reducible refine' ev_le ?a ?b); (case a => walk_at "ev"); (case b => walk_at "ev"))
  | ((with_reducible refine' ev_eqI ?a ?b); (case a => walk_at "ev"); (case b => walk_at "ev"))
  | ((with_reducible refine' ev_neI ?a ?b); (case a => walk_at "ev"); (case b => walk_at "ev"))
  | ((with_reducible refine' ev_add ?a ?b); (case a => walk_at "ev"); (case b => walk_at "ev"))
  | ((with_reducible refine' ev_sub ?a ?b); (case a => walk_at "ev"); (case b => walk_at "ev"))
  | ((with_reducible refine' ev_mul ?a ?b ?c); (case a => walk_at "ev"); (case b => walk_at "ev"); (case c => walk_at "cm"))
  | ((with_reducible refine' ev_div ?a ?b ?c); (case a => walk_at "ev"); (case b => walk_at "ev"); (case c => assumption))
  | ((with_reducible refine' ev_mod ?a ?b ?c); (case a => walk_at "ev"); (case b => walk_at "ev"); (case c => assumption))
  | ((with_reducible refine' ev_absI ?a); (case a => walk_at "ev"))
  | ((with_reducible refine' ev_callH ?a ?s); (case a => walk_at "ea"); (case s => walk_at "sp"))
  | ((with_reducible refine' ev_sumN ?a); (case a => walk_at "el")))
local macro_rules | `(tactic| walk_at "ea") => `(tactic| first
  | with_reducible exact ea_nil
  | ((with_reducible refine' ea_cons ?a ?b); (case a => walk_at "ev"); (case b => walk_at "ea")))
local macro_rules | `(tactic| walk_at "el") => `(tactic| first
  | ((with_reducible refine' el_lst ?a ?b); (case a => walk_at "ea"); (case b => exact Nat.le_of_ble_eq_true rfl))
  | ((with_reducible refine' el_callH ?a ?s); (case a => walk_at "ea"); (case s => walk_at "sp")))
local macro_rules | `(tactic| walk_at "st") => `(tactic| first
  | ((with_reducible refine' q_asg ?e ?k); (case e => walk_at "ev"))
  | ((with_reducible refine' q_asgL ?e ?k); (case e => walk_at "el"))
  | ((with_reducible refine' s_asg ?e ?k); (case e => walk_at "ev"))
  | ((with_reducible refine' s_asgL ?e ?k); (case e => walk_at "el"))
  | ((with_reducible refine' s_ret ?e ?k); (case e => walk_at "ev"))
  | ((with_reducible refine' s_retL ?e ?k); (case e => walk_at "el")))
local macro_rules | `(tactic| walk_at "et") => `(tactic| first
  | ((with_reducible refine' et_test ?e); (case e => walk_at "ev"))
  | ((with_reducible refine' et_or ?e ?f); (case e => walk_at "et"); (case f => (intro _; walk_at "et")))
  | with_reducible exact et_yes)
local macro_rules | `(tactic| walk_at "sp") => `(tactic| assumption)
local macro_rules | `(tactic| walk_at "if") => `(tactic| first
  | ((with_reducible refine' q_when ?e ?k1 ?k2); (case e => walk_at "et"))
  | ((with_reducible refine' s_when ?e ?k1 ?k2); (case e => walk_at "et"))
  | ((with_reducible refine' q_if ?e ?k1 ?k2); (case e => walk_at "et"))
  | ((with_reducible refine' s_if ?e ?k1 ?k2); (case e => walk_at "et")))
local macro_rules | `(tactic| walk_at "pt") => `(tactic| first | exact put_here | (refine put_step ?_ ?_; (· decide +kernel); walk_at "pt"))
local macro_rules | `(tactic| walk_at "ev") => `(tactic| first
  | ((with_reducible refine' ev_ix0 ?e ?h); (case e => walk_at "ev"); (case h => assumption))
  | ((with_reducible refine' ev_ix1 ?e ?h); (case e => walk_at "ev"); (case h => assumption)))
open Kp415 (signalCount)
theorem drop_range {n i : Nat} (h : i < n) : (List.range n).drop i = i :: (List.range n).drop (i + 1) := by
  rw [List.drop_eq_getElem_cons (by rw [List.length_range]; exact h), List.getElem_range]
theorem bd64 {i : Int} (h : Bd 64 i) : Bd 4000 i := h.mono (by decide)
section
variable {P : Program} {w : World} {K : PySem.W.Frag} {mg : Str → Option Value} {base : Heap} {A : AdT}
theorem sp_prior_against_at {H : Hp} {a t p : Addr} {s : Stg} {i : Nat} (h : SetAt A H a s t p) (g : Good s) (hi : i < signalCount s.model) : SpP (sp_prior_against K A) [.ref a, .int (i : Int)] H (IsOpt H ((dpa s i).map iV)) := sp_of ⟨a, s, t, p, i, rfl, h, g, hi, rfl⟩
theorem sp_prior_against_all_at {H : Hp} {a t p : Addr} {s : Stg} (h : SetAt A H a s t p) (g : Good s) : SpP (sp_prior_against_all K A) [.ref a] H (IsOpt H ((dpAll s).map iV)) := sp_of ⟨a, s, t, p, rfl, h, g, rfl⟩
theorem fresh_opt {H H1 H2 : Hp} {o : Option (List V)} {v : V} (e : Ex H H1) (h : IsOpt H1 o v H2) : IsOpt H o v H2 := by
  cases o with
  | none => exact h
  | some xs =>
    obtain ⟨r, h1, h2, h3⟩ := h
    exact ⟨r, h1, fresh_back e h2, h3⟩
theorem ok_prior_against {f : Addr} {fd : FuncData} (T : Tx K mg A) (h_lowest_terms : Has P w K mg base CX0 2 "lowest_terms" ["top", "bottom"] (sp_lowest_terms K A))
    (F : Fun K "prior_against" "prior_against" s_prior_against f fd) : FnOk P w K mg base CX0 3 f fd ["setting", "signal"] (sp_prior_against K A) := by
  refine F.ok sc_prior_against (fun vs H Q E h => ?len) (fun cdv ar outer s H vs Q E hr h => ⟨_, (pss_cons (ps_set (i := 2) sc_prior_against.nd rfl (Or.inl rfl) (pe_op o_mul (pe_op o_mul (pe_fldK (K := K) (pv 0)) (pe_ixK (K := K) (pe_fldK (K := K) (pv 0)) (pv 1))) (pe_callB (cr_sumK (K := K)) (by rfl) T.b_sum (by decide +kernel) (pa_cons (pe_fldK (K := K) (pv 0)) pa_nil))))
      (pss_cons (ps_set (i := 3) sc_prior_against.nd rfl (Or.inl rfl) (pe_op o_mul (pe_op o_mul (pe_fldK (K := K) (pv 0)) (pe_ixK (K := K) (pe_fldK (K := K) (pv 0)) (pv 1))) (pe_callB (cr_sumK (K := K)) (by rfl) T.b_sum (by decide +kernel) (pa_cons (pe_fldK (K := K) (pv 0)) pa_nil))))
      (pss_cons (ps_if (pt_cmpR op_eq (pv 2) pe_int (nomark _)) (pss_one (ps_ret (pe_lst (pa_cons pe_int (pa_cons pe_int pa_nil))))) pss_nil)
      (pss_cons (ps_if (pt_cmpR op_eq (pv 3) pe_int (nomark _)) (pss_one (ps_ret pe_non)) pss_nil)
      (pss_one (ps_ret (pe_h h_lowest_terms hr (by decide) pass0 (pa_cons (pv 2) (pa_cons (pe_op o_add (pv 2) (pv 3)) pa_nil))))))))), ?go⟩)
  case len =>
    obtain ⟨H0, z, e0, ⟨a, s, t, p, i, rfl, _⟩, _⟩ := h
    rfl
  case go =>
    obtain ⟨H0, R, e0, ⟨a, s, t, p, i, rfl, hS, g, hi, rfl⟩, k⟩ := h
    have hS := hS.mono e0
    have k : ∀ v H', Ex H H' → IsOpt H ((dpa s i).map iV) v H' → Q v H' := fun v H' e h => k v H' e (fresh_opt e0 h)
    refine q_asg (v := .int (ga s * pW s i * tS s)) (by walk_at "ev") fun H1 e1 => ?_
    have hS1 := hS.mono e1
    refine q_asg (v := .int (lo s * tW s i * pS s)) (by walk_at "ev") fun H2 e2 => ?_
    have E2 := e1.trans e2
    have p1 := dG_nn g.pos i
    have p2 := dL_nn g.pos i
    have b1 := dG_bd g i
    have b2 := bd_add1 (dG_bd g i) (dL_bd g i)
    unfold dpa at k
    refine q_when (et_test (ev_eqI (by walk_at "ev") ev_c)) ?_ ?_
    · intro hb H3 e3
      have hb : dG s i = 0 := of_decide_eq_true hb
      rw [if_pos hb] at k
      refine s_retL (el_lst (ea_cons ev_c (ea_cons ev_c ea_nil)) (Nat.le_of_ble_eq_true rfl)) fun r H4 hr e4 h4 => ?_
      exact k _ _ ((E2.trans e3).trans e4) ⟨r, rfl, fresh_back (E2.trans e3) hr, h4⟩
    · intro hb H3 e3
      have hb : ¬ dG s i = 0 := of_decide_eq_false hb
      rw [if_neg hb] at k
      refine q_when (et_test (ev_eqI (by walk_at "ev") ev_c)) ?_ ?_
      · intro hc H4 e4
        have hc : dL s i = 0 := of_decide_eq_true hc
        rw [if_pos hc] at k
        refine s_ret ev_c fun H5 e5 => ?_
        exact k _ _ (((E2.trans e3).trans e4).trans e5) rfl
      · intro hc H4 e4
        have hc : ¬ dL s i = 0 := of_decide_eq_false hc
        rw [if_neg hc] at k
        have sl := sl_lowest_terms (K := K) (A := A) (H := H4) (i := dG s i) (j := dG s i + dL s i) (by omega) (b2.mono (by decide))
        refine s_retL (el_callH (vs := [.int (dG s i), .int (dG s i + dL s i)]) (ea_cons (by exact ev_var rfl) (ea_cons (ev_add (by exact ev_var rfl) (by exact ev_var rfl)) ea_nil)) sl) ?_
        intro r H5 hr e5 h5
        have E4 := (E2.trans e3).trans e4
        exact k _ _ (E4.trans e5) ⟨r, rfl, fresh_back E4 hr, h5⟩
theorem ok_prior_against_all {f : Addr} {fd : FuncData} (T : Tx K mg A) (h_is_less : Has P w K mg base CX0 1 "is_less" ["left", "right"] (sp_is_less K A))
    (h_prior_against : Has P w K mg base CX0 3 "prior_against" ["setting", "signal"] (sp_prior_against K A))
    (F : Fun K "prior_against_all" "prior_against_all" s_prior_against_all f fd) : FnOk P w K mg base CX0 4 f fd ["setting"] (sp_prior_against_all K A) := by
  refine F.ok sc_prior_against_all (fun vs H Q E h => ?len) (fun cdv ar outer s H vs Q E hr h => ⟨_, (pss_cons (ps_set (i := 1) sc_prior_against_all.nd rfl (Or.inl rfl) (pe_lst (pa_cons pe_int (pa_cons pe_int pa_nil))))
      (pss_cons (ps_for PassesOwn.never rfl (pi_range1 (by rfl) T.b_range (pa_cons (pe_fldK (K := K) (pv 0)) pa_nil)) (pg_name (i := 2) sc_prior_against_all.nd rfl (Or.inl rfl)) (pss_cons (ps_set (i := 3) sc_prior_against_all.nd rfl (Or.inl rfl) (pe_h h_prior_against hr (by decide) pass0 (pa_cons (pv 0) (pa_cons (pv 2) pa_nil))))
      (pss_cons (ps_if (pt_cmpR o_isN (pv 3) pe_non (nomark _)) (pss_one (ps_ret pe_non)) pss_nil)
      (pss_one (ps_if (pt_truthK (K := K) (pe_h h_is_less hr (by decide) pass0 (pa_cons (pv 1) (pa_cons (pv 3) pa_nil))) (by intro _; rfl)) (pss_one (ps_set (i := 1) sc_prior_against_all.nd rfl (Or.inl rfl) (pv 3))) pss_nil)))))
      (pss_one (ps_ret (pv 1))))), ?go⟩)
  case len =>
    obtain ⟨H0, z, e0, ⟨a, s, t, p, rfl, _⟩, _⟩ := h
    rfl
  case go =>
    obtain ⟨H0, R, e0, ⟨a, s, t, p, rfl, hS, g, rfl⟩, k⟩ := h
    have hS := hS.mono e0
    have k : ∀ v H', Ex H H' → IsOpt H ((dpAll s).map iV) v H' → Q v H' := fun v H' e h => k v H' e (fresh_opt e0 h)
    have n5 := g.n5
    refine q_asgL (el_lst (ea_cons ev_c (ea_cons ev_c ea_nil)) (Nat.le_of_ble_eq_true rfl)) fun r0 H1 hr0 e1 h1 => ?_
    have hS1 := hS.mono e1
    refine q_forR1 (n := (signalCount s.model : Nat)) (by walk_at "ea") ⟨by omega, by omega⟩ (fun i σ' H' => ∃ r m c d x2 x3, σ' = [some (V.ref a), some (V.ref r), x2, x3] ∧ FracOk m c d ∧ H r = none ∧ H' r = some (.lst (iV m)) ∧ Ex H H' ∧ dpL s ((List.range (signalCount s.model)).drop i) m = dpAll s)
      (fun H2 e2 => ⟨r0, [0, 1], 0, 1, none, none, rfl, frac01, hr0, e2 r0 _ h1, e1.trans e2, rfl⟩) ?_ ?_
    · rintro i σ' H' hi ⟨r, m, c, d, x2, x3, rfl, hf, hr, hm, eH, hd⟩
      have hi : i < signalCount s.model := by omega
      have hS' := hS.mono eH
      rw [drop_range hi] at hd
      refine q_asgP (ep_callH (by walk_at "ea") (sp_prior_against_at (K := K) hS' g hi)) fun v H2 e2 hv => ?_
      have hm2 := e2 r _ hm
      cases ho : dpa s i with
      | none =>
        rw [ho] at hv
        obtain rfl : v = .non := hv
        have hd : none = dpAll s := by
          rw [← hd]
          unfold dpL
          rw [ho]
        refine q_when (et_test (ev_isN (ev_var rfl))) ?_ ?_
        · intro _ H3 e3
          refine s_ret ev_c fun H4 e4 => k _ _ (((eH.trans e2).trans e3).trans e4) ?_
          rw [← hd]
          rfl
        · intro hf
          cases hf
      | some q =>
        rw [ho] at hv
        obtain ⟨r2, rfl, hr2, hq2⟩ := hv
        obtain ⟨c2, d2, hf2⟩ := dpa_ok g ho
        have hd : dpL s ((List.range (signalCount s.model)).drop (i + 1)) (if less m q then q else m) = dpAll s := by
          rw [← hd]
          show _ = (match dpa s i with
            | none => none
            | some q => dpL s ((List.range (signalCount s.model)).drop (i + 1)) (if less m q then q else m))
          rw [ho]
        have hlt : less m q = decide (c * d2 < c2 * d) := by
          rw [hf.eq, hf2.eq]
          rfl
        refine q_when (et_test (ev_isN (ev_var rfl))) ?_ ?_
        · intro hf
          cases hf
        · intro _ H3 e3
          have hm3 : H3 r = some (.lst [.int c, .int d]) := by
            have := e3 r _ hm2
            rw [hf.eq] at this
            exact this
          have hq3 : H3 r2 = some (.lst [.int c2, .int d2]) := by
            have := e3 r2 _ hq2
            rw [hf2.eq] at this
            exact this
          have E3 := (eH.trans e2).trans e3
          refine s_when (et_truK (ev_callH (by walk_at "ea") (sv_is_less (K := K) (A := A) hm3 hq3 (bd64 hf.bc) (bd64 hf.bd) (bd64 hf2.bc) (bd64 hf2.bd)))) ?_ ?_
          · intro hb H4 e4
            rw [hlt, if_pos hb] at hd
            refine s_asg (by walk_at "ev") fun H5 e5 => ?_
            refine ⟨r2, q, c2, d2, some (V.int (i : Int)), some (V.ref r2), rfl, hf2, fresh_back eH hr2, ?_, (E3.trans e4).trans e5, hd⟩
            rw [hf2.eq]
            exact e5 r2 _ (e4 r2 _ hq3)
          · intro hb H4 e4
            rw [hlt, if_neg (by rw [hb]; decide)] at hd
            refine ⟨r, m, c, d, some (V.int (i : Int)), some (V.ref r2), rfl, hf, hr, ?_, E3.trans e4, hd⟩
            rw [hf.eq]
            exact e4 r _ hm3
    · rintro σ' H' ⟨r, m, c, d, x2, x3, rfl, hf, hr, hm, eH, hd⟩
      rw [Int.toNat_natCast, List.drop_of_length_le (by rw [List.length_range]; exact Nat.le_refl _)] at hd
      have hd : some m = dpAll s := hd
      refine s_ret (by walk_at "ev") fun H2 e2 => k _ _ (eH.trans e2) ?_
      rw [← hd]
      exact ⟨r, rfl, hr, e2 r _ hm⟩
end
end Dt

set_option Elab.async false
set_option linter.all false
set_option maxRecDepth 100000
set_option maxHeartbeats 600000
namespace Dt
open PySem PySem.Spec PyProof.Rows L2 Evl
local macro_rules | `(tactic| walk_at "lk") => `(tactic| first | exact lk_here | (refine (lk_past ?_).trans ?_; (· decide +kernel); walk_at "lk"))
local macro_rules | `(tactic| walk_at "bd") => `(tactic| first | assumption | exact Good.bt (by assumption) | exact Good.bp (by assumption) | exact Good.bn (by assumption) | exact Good.bd (by assumption) | exact Good.bg (by assumption) | exact Good.bl (by assumption) | exact Good.bh (by assumption) | exact Good.bc (by assumption) | exact Good.btw (by assumption) _ | exact Good.bpw (by assumption) _ | exact bd_mul (by walk_at "bd") (by walk_at "bd") | exact bd_add (by walk_at "bd") (by walk_at "bd") | exact bd_sub (by walk_at "bd") (by walk_at "bd"))
local macro_rules | `(tactic| walk_at "cm") => `(tactic| first | assumption | exact bd_cmul (by walk_at "bd") (by walk_at "bd") (by decide))
local macro_rules | `(tactic| walk_at "ev") => `(tactic| first
  | with_reducible exact ev_c
  | ((with_reducible refine' ev_var ?h); (case h => exact rfl))
  | ((with_reducible refine' f_tsum ?e ?h ?t); (case e => walk_at "ev"); (case h => assumption); (case t => assumption))
  | ((with_reducible refine' f_psum ?e ?h ?t); (case e => walk_at "ev"); (case h => assumption); (case t => assumption))
  | ((with_reducible refine' f_tix ?e ?i ?h ?t ?l); (case e => walk_at "ev"); (case i => walk_at "ev"); (case h => assumption); (case t => assumption); (case l => assumption))
  | ((with_reducible refine' f_pix ?e ?i ?h ?t ?g ?l); (case e => walk_at "ev"); (case i => walk_at "ev"); (case h => assumption); (case t => assumption); (case g => assumption); (case l => assumption))
  | ((with_reducible refine' f_count ?e ?h ?t); (case e => walk_at "ev"); (case h => assumption); (case t => assumption))
  | ((with_reducible refine' f_tw ?e ?h ?t); (case e => walk_at "ev"); (case h => assumption); (case t => assumption))
  | ((with_reducible refine' f_pw ?e ?h ?t); (case e => walk_at "ev"); (case h => assumption); (case t => assumption))
  | ((with_reducible refine' f_pn ?e ?h ?t); (case e => walk_at "ev"); (case h => assumption); (case t => assumption))
  | ((with_reducible refine' f_pd ?e ?h ?t); (case e => walk_at "ev"); (case h => assumption); (case t => assumption))
  | ((with_reducible refine' f_ga ?e ?h ?t); (case e => walk_at "ev"); (case h => assumption); (case t => assumption))
  | ((with_reducible refine' f_lo ?e ?h ?t); (case e => walk_at "ev"); (case h => assumption); (case t => assumption))
  | ((with_reducible refine' f_hp ?e ?h ?t); (case e => walk_at "ev"); (case h => assumption); (case t => assumption))
  | ((with_reducible refine' f_tp ?e ?h ?t); (case e => walk_at "ev"); (case h => assumption); (case t => assumption))
  | ((with_reducible refine' ev_gt ?a ?b); (case a => walk_at "ev"); (case b => walk_at "ev"))
  | ((with_reducible refine' ev_lt ?a ?b); (case a => walk_at "ev"); (case b => walk_at "ev"))
  | ((with_reducible refine' ev_ge ?a ?b); (case a => walk_at "ev"); (case b => walk_at "ev"))
  | ((with_reducible refine' ev_le ?a ?b); (case a => walk_at "ev"); (case b => walk_at "ev"))
  | ((with_reducible refine' ev_eqI ?a ?b); (case a => walk_at "ev"); (case b => walk_at "ev"))
  | ((with_reducible refine' ev_neI ?a ?b); (case a => walk_at "ev"); (case b => walk_at "ev"))
  | ((with_reducible refine' ev_add ?a ?b); (case a => walk_at "ev"); (case b => walk_at "ev"))
  | ((with_reducible refine' ev_sub ?a ?b); (case a => walk_at "ev"); (case b => walk_at "ev"))
  | ((with_reducible refine' ev_mul ?a ?b ?c); (case a => walk_at "ev"); (case b => walk_at "ev"); (case c => walk_at "cm"))
  | ((with_reducible refine' ev_div ?a ?b ?c); (case a => walk_at "ev"); (case b => walk_at "ev"); (case c => assumption))
  | ((with_reducible refine' ev_mod ?a ?b ?c); (case a => walk_at "ev"); (case b => walk_at "ev"); (case c => assumption))
  | ((with_reducible refine' ev_absI ?a); (case a => walk_at "ev"))
  | ((with_reducible refine' ev_callH ?a ?s); (case a => walk_at "ea"); (case s => walk_at "sp"))
  | ((with_reducible refine' ev_sumN ?a); (case a => walk_at "el")))
local macro_rules | `(tactic| walk_at "ea") => `(tactic| first
  | with_reducible exact ea_nil
  | ((with_reducible refine' ea_cons ?a ?b); (case a => walk_at "ev"); (case b => walk_at "ea")))
local macro_rules | `(tactic| walk_at "el") => `(tactic| first
  | ((with_reducible refine' el_lst ?a ?b); (case a => walk_at "ea"); (case b => exact Nat.le_of_ble_eq_true rfl))
  | ((with_reducible refine' el_callH ?a ?s); (case a => walk_at "ea"); (case s => walk_at "sp")))
local macro_rules | `(tactic| walk_at "st") => `(tactic| first
  | ((with_reducible refine' q_asg ?e ?k); (case e => walk_at "ev"))
  | ((with_reducible refine' q_asgL ?e ?k); (case e => walk_at "el"))
  | ((with_reducible refine' s_asg ?e ?k); (case e => walk_at "ev"))
  | ((with_reducible refine' s_asgL ?e ?k); (case e => walk_at "el"))
  | ((with_reducible refine' s_ret ?e ?k); (case e => walk_at "ev"))
  | ((with_reducible refine' s_retL ?e ?k); (case e => walk_at "el")))
local macro_rules | `(tactic| walk_at "et") => `(tactic| first
  | ((with_reducible refine' et_test ?e); (case e => walk_at "ev"))
  | ((with_reducible refine' et_or ?e ?f); (case e => walk_at "et"); (case f => (intro _; walk_at "et")))
  | with_reducible exact et_yes)
local macro_rules | `(tactic| walk_at "sp") => `(tactic| assumption)
local macro_rules | `(tactic| walk_at "if") => `(tactic| first
  | ((with_reducible refine' q_when ?e ?k1 ?k2); (case e => walk_at "et"))
  | ((with_reducible refine' s_when ?e ?k1 ?k2); (case e => walk_at "et"))
  | ((with_reducible refine' q_if ?e ?k1 ?k2); (case e => walk_at "et"))
  | ((with_reducible refine' s_if ?e ?k1 ?k2); (case e => walk_at "et")))
local macro_rules | `(tactic| walk_at "pt") => `(tactic| first | exact put_here | (refine put_step ?_ ?_; (· decide +kernel); walk_at "pt"))
local macro_rules | `(tactic| walk_at "ev") => `(tactic| first
  | ((with_reducible refine' ev_ix0 ?e ?h); (case e => walk_at "ev"); (case h => assumption))
  | ((with_reducible refine' ev_ix1 ?e ?h); (case e => walk_at "ev"); (case h => assumption)))
open Kp415 (signalCount)
def sp_check_mapping (K : PySem.W.Frag) (A : AdT) : Sp := spChk fun vs H r => ∃ b, ∃ l : List Nat, ∃ m : Nat, vs = [.ref b, .int (m : Int)] ∧ H b = some (.lst (nats l)) ∧ 0 < m ∧ r = if l.length ≠ m ∨ (∃ x ∈ l, m ≤ x) then some A.xOutsideLimits else none
def sp_existing (K : PySem.W.Frag) (A : AdT) : Sp := fun vs H Q E => ∃ v, vs = [v] ∧ (v = .non ∨ ∃ r, v = .ref r) ∧ (v = .non → ∀ H', Ex H H' → E (.ref A.xNoDeterrentPrior) none H') ∧ (∀ r, v = .ref r → ∀ H', Ex H H' → Q (.ref r) H')
def sp_merged_weights (K : PySem.W.Frag) (A : AdT) : Sp := spLst fun vs H xs => ∃ b m, ∃ ws ms : List Nat, vs = [.ref b, .ref m] ∧ H b = some (.lst (nats ws)) ∧ H m = some (.lst (nats ms)) ∧ ms.length = ws.length ∧ ws.length ≤ 5 ∧ (∀ x ∈ ms, x < ws.length) ∧ xs = nats (Kp415.mergeWeights ws ms)
theorem rep0 (n : Nat) : (List.replicate n [V.int 0]).flatten = nats (List.replicate n 0) := by
  induction n with
  | zero => rfl
  | succ n ih =>
    rw [List.replicate_succ, List.flatten_cons, ih, List.replicate_succ]
    rfl
theorem nats_set (l : List Nat) (i x : Nat) : nats (l.set i x) = (nats l).set i (.int (x : Int)) := by
  unfold nats
  rw [List.map_set]
theorem nats_get {l : List Nat} {i : Nat} {v : V} (h : (nats l)[i]? = some v) : i < l.length ∧ v = .int ((l.getD i 0 : Nat) : Int) := by
  have hi : i < l.length := by
    have := (List.getElem?_eq_some_iff.mp h).1
    rw [nats_len] at this
    exact this
  refine ⟨hi, ?_⟩
  unfold nats at h
  rw [List.getElem?_map, List.getElem?_eq_getElem hi] at h
  rw [List.getD_eq_getElem?_getD, List.getElem?_eq_getElem hi]
  exact (Option.some.inj h).symm
theorem nats_getD {l : List Nat} {i : Nat} (hi : i < l.length) : (nats l)[i]? = some (.int ((l.getD i 0 : Nat) : Int)) := by
  unfold nats
  rw [List.getElem?_map, List.getElem?_eq_getElem hi, List.getD_eq_getElem?_getD, List.getElem?_eq_getElem hi]
  rfl
theorem getD_mem {l : List Nat} {i : Nat} (hi : i < l.length) : l.getD i 0 ∈ l := by
  rw [List.getD_eq_getElem?_getD, List.getElem?_eq_getElem hi]
  exact List.getElem_mem hi
theorem q_forE {K : PySem.W.Frag} {σ : L2.St} {H : Hp} {tr : TA} {g : TG} {tu tz : TS} {D : Ends} {a : Addr} {xs : List V} (h : EvA tr σ H [.ref a]) (hx : SqL K H a xs) (Pv : Nat → L2.St → Hp → Prop) (h0 : ∀ H1, Ex H H1 → Pv 0 σ H1) (hl : ∀ i σ' H', Pv i σ' H' → SqL K H' a xs)
    (hs : ∀ (i : Nat) x σ' H' T, xs[i]? = some x → Pv i σ' H' → H' T = none → g (.ref T) σ' (upd H' T (.tup [.int (i : Int), x])) fun σ2 H2 => tu { D with nx := Pv (i + 1), ct := Pv (i + 1), bk := tz D } σ2 H2) (hd : ∀ σ' H', Pv xs.length σ' H' → tz D σ' H') : tSeq (tFor (iEnum K tr) g tu) tz D σ H :=
  h H (Ex.refl H) _ fun H1 e1 => ⟨a, xs, rfl, ex_l e1 hx, for_it (D := { D with nx := tz D }) (walk_enum (xs := xs)) Pv (h0 H1 e1) (fun i σ' H' _ p => hl i σ' H' p) (fun i x σ' H' H3 hi p y => by
    obtain ⟨T, u, v, rfl, hT, rfl, hu, hv⟩ := y
    cases hu
    exact hs i v σ' H' T hv p hT) hd⟩
section
variable {P : Program} {w : World} {K : PySem.W.Frag} {mg : Str → Option Value} {base : Heap} {A : AdT}
theorem sl_merged_weights {H : Hp} {b m : Addr} {ws ms : List Nat} (h1 : H b = some (.lst (nats ws))) (h2 : H m = some (.lst (nats ms))) (hl : ms.length = ws.length) (h5 : ws.length ≤ 5) (hx : ∀ x ∈ ms, x < ws.length) :
    SpL (sp_merged_weights K A) [.ref b, .ref m] H (nats (Kp415.mergeWeights ws ms)) := sl_of ⟨b, m, ws, ms, rfl, h1, h2, hl, h5, hx, rfl⟩
theorem ok_check_mapping {f : Addr} {fd : FuncData} (T : Tx K mg A) 
    (F : Fun K "check_mapping" "check_mapping" s_check_mapping f fd) : FnOk P w K mg base (L2.CX P w) 1 f fd ["mapping", "signal_count"] (sp_check_mapping K A) := by
  refine F.okX sc_check_mapping (fun vs H Q E h => ?len) (fun cdv ar outer s H vs Q E hr h => ⟨_, (pss_one (ps_if (PW.pt (pw_or (pt_cmpR op_ne (pe_callB (cr_lenK (K := K)) (by rfl) T.b_len (by decide +kernel) (pa_cons (pv 0) pa_nil)) (pv 1) (nomark _)) (pw_or1 (pt_cmpR o_ge (pe_callB (cr_maxK (K := K)) (by rfl) T.b_max (by decide +kernel) (pa_cons (pv 0) pa_nil)) (pv 1) (nomark _))))) (pss_one (ps_raise rfl (takes_of rfl rfl rfl rfl) (pmk_own0 PySem.F.excBase_Exception T.x_OutsideLimits T.g_OutsideLimits T.k_OutsideLimits (raises_own T.bs_OutsideLimits T.ty_OutsideLimits) (by exact rfl)))) pss_nil)), ?go⟩)
  case len =>
    obtain ⟨H0, r, e0, ⟨b, l, m, rfl, _⟩, _⟩ := h
    rfl
  case go =>
    obtain ⟨H0, r, e0, ⟨b, l, m, rfl, hb, hm, rfl⟩, kx, kn⟩ := h
    have hb := e0 b _ hb
    by_cases hl : l.length = m
    · obtain ⟨x, hx, hy⟩ := ex_max l (by omega)
      refine s_when (et_or (et_test (ev_neI (ev_len (by walk_at "ev") (sq_of hb)) (by walk_at "ev"))) fun _ => et_test (ev_ge (ev_maxN (by walk_at "ev") hb hx hy) (by walk_at "ev"))) ?_ ?_
      · intro hq H1 e1
        refine kx _ (if_pos ?_) H1 e1
        rcases Bool.or_eq_true_iff.mp hq with h | h
        · rw [nats_len, hl] at h
          simp at h
        · have h : (m : Int) ≤ (x : Int) := of_decide_eq_true h
          exact .inr ⟨x, hx, by omega⟩
      · intro hq H1 e1
        refine kn (if_neg ?_) H1 e1
        have h : ¬ (m : Int) ≤ (x : Int) := of_decide_eq_false (Bool.or_eq_false_iff.mp hq).2
        rintro (z | ⟨y, hy1, hy2⟩)
        · exact z hl
        · have := hy y hy1
          omega
    · refine s_when (b := true) (et_is (et_or (b := false) (et_test (ev_neI (ev_len (by walk_at "ev") (sq_of hb)) (by walk_at "ev"))) fun hq => ?_) ?_) ?_ ?_
      · rw [nats_len] at hq
        simp at hq
        exact absurd (by omega) hl
      · rw [nats_len]
        simp
        omega
      · intro _ H1 e1
        exact kx _ (if_pos (.inl hl)) H1 e1
      · intro hq
        cases hq
theorem ok_existing {f : Addr} {fd : FuncData} (T : Tx K mg A) 
    (F : Fun K "existing" "existing" s_existing f fd) : FnOk P w K mg base (L2.CX P w) 1 f fd ["prior"] (sp_existing K A) := by
  refine F.okX sc_existing (fun vs H Q E h => ?len) (fun cdv ar outer s H vs Q E hr h => ⟨_, (pss_cons (ps_if (pt_cmpR o_isN (pv 0) pe_non (nomark _)) (pss_one (ps_raise rfl (takes_of rfl rfl rfl rfl) (pmk_own0 PySem.F.excBase_Exception T.x_NoDeterrentPrior T.g_NoDeterrentPrior T.k_NoDeterrentPrior (raises_own T.bs_NoDeterrentPrior T.ty_NoDeterrentPrior) (by exact rfl)))) pss_nil)
      (pss_one (ps_ret (pv 0)))), ?go⟩)
  case len =>
    obtain ⟨v, rfl, _⟩ := h
    rfl
  case go =>
    obtain ⟨v, rfl, hv, kx, kn⟩ := h
    rcases hv with rfl | ⟨r, rfl⟩
    · refine q_when (et_test (ev_isN (ev_var rfl))) ?_ ?_
      · intro _ H1 e1
        exact kx rfl H1 e1
      · intro hf
        cases hf
    · refine q_when (et_test (ev_isN (ev_var rfl))) ?_ ?_
      · intro hf
        cases hf
      · intro _ H1 e1
        refine s_ret (by walk_at "ev") fun H2 e2 => kn r rfl H2 (e1.trans e2)
theorem ok_merged_weights {f : Addr} {fd : FuncData} (T : Tx K mg A) 
    (F : Fun K "merged_weights" "merged_weights" s_merged_weights f fd) : FnOk P w K mg base CX0 1 f fd ["weights", "mapping"] (sp_merged_weights K A) := by
  refine F.ok sc_merged_weights (fun vs H Q E h => ?len) (fun cdv ar outer s H vs Q E hr h => ⟨_, (pss_cons (ps_set (i := 2) sc_merged_weights.nd rfl (Or.inl rfl) (pe_op op_rep (pe_lst (pa_cons pe_int pa_nil)) (pe_callB (cr_lenK (K := K)) (by rfl) T.b_len (by decide +kernel) (pa_cons (pv 0) pa_nil))))
      (pss_cons (ps_for PassesOwn.never rfl (pi_enumK (K := K) (by rfl) T.b_enumerate (pa_cons (pv 1) pa_nil)) (pg_tupK (K := K) rfl (pgs_cons (pg_name (i := 3) sc_merged_weights.nd rfl (Or.inl rfl)) (pgs_cons (pg_name (i := 4) sc_merged_weights.nd rfl (Or.inl rfl)) pgs_nil))) (pss_one (ps_augS (pv 2) (pv 4) (get_listK (K := K)) (pe_ixK (K := K) (pv 0) (pv 3)) ip_add set_list)))
      (pss_one (ps_ret (pv 2))))), ?go⟩)
  case len =>
    obtain ⟨H0, z, e0, ⟨b, m, ws, ms, rfl, _⟩, _⟩ := h
    rfl
  case go =>
    obtain ⟨H0, z, e0, ⟨b, m, ws, ms, rfl, h1, h2, hl, h5, hx, rfl⟩, k⟩ := h
    have h1 := e0 b _ h1
    have h2 := e0 m _ h2
    refine q_asgL (el_rep (xs := [V.int 0]) (n := ((nats ws).length : Int)) (el_lst (ea_cons ev_c ea_nil) (Nat.le_of_ble_eq_true rfl)) (ev_len (by walk_at "ev") (sq_of h1)) ⟨by omega, by rw [nats_len]; omega⟩ (by rw [nats_len]; show 1 * _ ≤ _; omega)) fun r H1 hr e1 x1 => ?_
    rw [Int.toNat_natCast, nats_len, rep0, ← mgK_zero ws ms ws.length] at x1
    refine q_forE (by walk_at "ea") (sq_of (e1 m _ h2)) (fun i σ' H' => ∃ x3 x4, σ' = [some (V.ref b), some (V.ref m), some (V.ref r), x3, x4] ∧ H' r = some (.lst (nats (mgK ws ms ws.length i))) ∧ Ex H H')
      (fun H2 e2 => ⟨none, none, rfl, e2 r _ x1, e1.trans e2⟩) (fun i σ' H' p => by obtain ⟨_, _, _, _, e⟩ := p; exact sq_of (e m _ h2)) ?_ ?_
    · rintro i x σ' H' T hv ⟨x3, x4, rfl, hr3, eH⟩ hT
      obtain ⟨hi, rfl⟩ := nats_get hv
      have hlt := hx _ (getD_mem hi)
      have eH3 : Ex H (upd H' T (.tup [.int (i : Int), .int ((ms.getD i 0 : Nat) : Int)])) := eH.trans (Ex.new hT)
      have hrT : r ≠ T := fun z => by rw [z, hT] at hr3; cases hr3
      refine ⟨T, _, rfl, st_of upd_same, rfl, _, _, rfl, _, _, rfl, rfl, ?_⟩
      have hw3 := eH3 b _ h1
      have hr4 : (upd H' T (.tup [.int (i : Int), .int ((ms.getD i 0 : Nat) : Int)])) r = some (.lst (nats (mgK ws ms ws.length i))) := by
        rw [upd_ne hrT]
        exact hr3
      generalize upd H' T (.tup [.int (i : Int), .int ((ms.getD i 0 : Nat) : Int)]) = H3 at eH3 hw3 hr4
      refine ⟨_, rfl, _, rfl, r, _, _, ms.getD i 0, rfl, rfl, sq_of hr4, nats_getD (by rw [mgK_len]; exact hlt), ?_⟩
      refine (show Ev (tOp (rIxL K) (tVar 0) (tVar 3)) _ H3 (.int ((ws.getD i 0 : Nat) : Int)) from ev_ixL (by walk_at "ev") (by walk_at "ev") (sq_of hw3) (nats_at (by omega))) H3 (Ex.refl H3) _ fun H4 e4 => ?_
      refine ⟨_, _, rfl, rfl, r, _, _, ms.getD i 0, rfl, rfl, e4 r _ hr4, ixN_nat (by rw [nats_len, mgK_len]; exact hlt), ?_⟩
      refine ⟨some (V.int (i : Int)), some (V.int ((ms.getD i 0 : Nat) : Int)), rfl, ?_, ?_⟩
      · rw [upd_same, mgK_succ, nats_set, Int.natCast_add]
      · exact Ex.mut (eH3.trans e4) hr
    · rintro σ' H' ⟨x3, x4, rfl, hr3, eH⟩
      rw [nats_len, hl, mgK_all] at hr3
      refine s_ret (by walk_at "ev") fun H3 e3 => k r H3 hr (eH.trans e3) (e3 r _ hr3)
end
end Dt

set_option Elab.async false
set_option linter.all false
set_option maxRecDepth 100000
set_option maxHeartbeats 4000000
namespace Dt
open PySem PySem.Spec PyProof.Rows L2 Evl
local macro_rules | `(tactic| walk_at "lk") => `(tactic| first | exact lk_here | (refine (lk_past ?_).trans ?_; (· decide +kernel); walk_at "lk"))
local macro_rules | `(tactic| walk_at "bd") => `(tactic| first | assumption | exact Good.bt (by assumption) | exact Good.bp (by assumption) | exact Good.bn (by assumption) | exact Good.bd (by assumption) | exact Good.bg (by assumption) | exact Good.bl (by assumption) | exact Good.bh (by assumption) | exact Good.bc (by assumption) | exact Good.btw (by assumption) _ | exact Good.bpw (by assumption) _ | exact bd_mul (by walk_at "bd") (by walk_at "bd") | exact bd_add (by walk_at "bd") (by walk_at "bd") | exact bd_sub (by walk_at "bd") (by walk_at "bd"))
local macro_rules | `(tactic| walk_at "cm") => `(tactic| first | assumption | exact bd_cmul (by walk_at "bd") (by walk_at "bd") (by decide))
local macro_rules | `(tactic| walk_at "ev") => `(tactic| first
  | with_reducible exact ev_c
  | ((with_reducible refine' ev_var ?h); (case h => exact rfl))
  | ((with_reducible refine' f_tsum ?e ?h ?t); (case e => walk_at "ev"); (case h => assumption); (case t => assumption))
  | ((with_reducible refine' f_psum ?e ?h ?t); (case e => walk_at "ev"); (case h => assumption); (case t => assumption))
  | ((with_reducible refine' f_tix ?e ?i ?h ?t ?l); (case e => walk_at "ev"); (case i => walk_at "ev"); (case h => assumption); (case t => assumption); (case l => assumption))
  | ((with_reducible refine' f_pix ?e ?i ?h ?t ?g ?l); (case e => walk_at "ev"); (case i => walk_at "ev"); (case h => assumption); (case t => assumption); (case g => assumption); (case l => assumption))
  | ((with_reducible refine' f_count ?e ?h ?t); (case e => walk_at "ev"); (case h => assumption); (case t => assumption))
  | ((with_reducible refine' f_tw ?e ?h ?t); (case e => walk_at "ev"); (case h => assumption); (case t => assumption))
  | ((with_reducible refine' f_pw ?e ?h ?t); (case e => walk_at "ev"); (case h => assumption); (case t => assumption))
  | ((with_reducible refine' f_pn ?e ?h ?t); (case e => walk_at "ev"); (case h => assumption); (case t => assumption))
  | ((with_reducible refine' f_pd ?e ?h ?t); (case e => walk_at "ev"); (case h => assumption); (case t => assumption))
  | ((with_reducible refine' f_ga ?e ?h ?t); (case e => walk_at "ev"); (case h => assumption); (case t => assumption))
  | ((with_reducible refine' f_lo ?e ?h ?t); (case e => walk_at "ev"); (case h => assumption); (case t => assumption))
  | ((with_reducible refine' f_hp ?e ?h ?t); (case e => walk_at "ev"); (case h => assumption); (case t => assumption))
  | ((with_reducible refine' f_tp ?e ?h ?t); (case e => walk_at "ev"); (case h => assumption); (case t => assumption))
  | ((with_reducible refine' ev_gt ?a ?b); (case a => walk_at "ev"); (case b => walk_at "ev"))
  | ((with_reducible refine' ev_lt ?a ?b); (case a => walk_at "ev"); (case b => walk_at "ev"))
  | ((with_reducible refine' ev_ge ?a ?b); (case a => walk_at "ev"); (case b => walk_at "ev"))
  | ((with_reducible refine' ev_le ?a ?b); (case a => walk_at "ev"); (case b => walk_at "ev"))
  | ((with_reducible refine' ev_eqI ?a ?b); (case a => walk_at "ev"); (case b => walk_at "ev"))
  | ((with_reducible refine' ev_neI ?a ?b); (case a => walk_at "ev"); (case b => walk_at "ev"))
  | ((with_reducible refine' ev_add ?a ?b); (case a => walk_at "ev"); (case b => walk_at "ev"))
  | ((with_reducible refine' ev_sub ?a ?b); (case a => walk_at "ev"); (case b => walk_at "ev"))
  | ((with_reducible refine' ev_mul ?a ?b ?c); (case a => walk_at "ev"); (case b => walk_at "ev"); (case c => walk_at "cm"))
  | ((with_reducible refine' ev_div ?a ?b ?c); (case a => walk_at "ev"); (case b => walk_at "ev"); (case c => assumption))
  | ((with_reducible refine' ev_mod ?a ?b ?c); (case a => walk_at "ev"); (case b => walk_at "ev"); (case c => assumption))
  | ((with_reducible refine' ev_absI ?a); (case a => walk_at "ev"))
  | ((with_reducible refine' ev_callH ?a ?s); (case a => walk_at "ea"); (case s => walk_at "sp"))
  | ((with_reducible refine' ev_sumN ?a); (case a => walk_at "el")))
local macro_rules | `(tactic| walk_at "ea") => `(tactic| first
  | with_reducible exact ea_nil
  | ((with_reducible refine' ea_cons ?a ?b); (case a => walk_at "ev"); (case b => walk_at "ea")))
local macro_rules | `(tactic| walk_at "el") => `(tactic| first
  | ((with_reducible refine' el_lst ?a ?b); (case a => walk_at "ea"); (case b => exact Nat.le_of_ble_eq_true rfl))
  | ((with_reducible refine' el_callH ?a ?s); (case a => walk_at "ea"); (case s => walk_at "sp")))
local macro_rules | `(tactic| walk_at "st") => `(tactic| first
  | ((with_reducible refine' q_asg ?e ?k); (case e => walk_at "ev"))
  | ((with_reducible refine' q_asgL ?e ?k); (case e => walk_at "el"))
  | ((with_reducible refine' s_asg ?e ?k); (case e => walk_at "ev"))
  | ((with_reducible refine' s_asgL ?e ?k); (case e => walk_at "el"))
  | ((with_reducible refine' s_ret ?e ?k); (case e => walk_at "ev"))
  | ((with_reducible refine' s_retL ?e ?k); (case e => walk_at "el")))
local macro_rules | `(tactic| walk_at "et") => `(tactic| first
  | ((with_reducible refine' et_test ?e); (case e => walk_at "ev"))
  | ((with_reducible refine' et_or ?e ?f); (case e => walk_at "et"); (case f => (intro _; walk_at "et")))
  | with_reducible exact et_yes)
local macro_rules | `(tactic| walk_at "sp") => `(tactic| assumption)
local macro_rules | `(tactic| walk_at "if") => `(tactic| first
  | ((with_reducible refine' q_when ?e ?k1 ?k2); (case e => walk_at "et"))
  | ((with_reducible refine' s_when ?e ?k1 ?k2); (case e => walk_at "et"))
  | ((with_reducible refine' q_if ?e ?k1 ?k2); (case e => walk_at "et"))
  | ((with_reducible refine' s_if ?e ?k1 ?k2); (case e => walk_at "et")))
local macro_rules | `(tactic| walk_at "pt") => `(tactic| first | exact put_here | (refine put_step ?_ ?_; (· decide +kernel); walk_at "pt"))
local macro_rules | `(tactic| walk_at "ev") => `(tactic| first
  | ((with_reducible refine' ev_ix0 ?e ?h); (case e => walk_at "ev"); (case h => assumption))
  | ((with_reducible refine' ev_ix1 ?e ?h); (case e => walk_at "ev"); (case h => assumption)))
open Kp415 (signalCount)
def nmS : List Str := ["signal_count", "test_weights", "production_weights", "prior_num", "prior_den", "gain", "loss", "harm_price", "test_price"]
/-- the setting that create makes -/
def fresh (n : Nat) : Stg := ⟨⟨List.replicate n 1, List.replicate n 1, 1, 2⟩, 1, 1, 1, 1⟩
theorem rep_nats (n : Nat) : (List.replicate n [V.int 1]).flatten = nats (List.replicate n 1) := by
  induction n with
  | zero => rfl
  | succ n ih =>
    rw [List.replicate_succ, List.flatten_cons, ih, List.replicate_succ]
    rfl
theorem setF_fresh (n : Nat) (t p : Addr) : setF (fresh n) t p = ([("signal_count", .int (n : Int)), ("test_weights", .ref t), ("production_weights", .ref p), ("prior_num", .int 1), ("prior_den", .int 2), ("gain", .int 1), ("loss", .int 1), ("harm_price", .int 1), ("test_price", .int 1)] : List (Str × V)) := by
  unfold setF
  rw [show signalCount (fresh n).model = n from List.length_replicate]
  rfl
def sp_Setting_init (K : PySem.W.Frag) (A : AdT) : Sp := fun vs H Q _ => ∃ a dx, ∃ n : Nat, vs = [.ref a, .int (n : Int)] ∧ n ≤ 5 ∧ H a = some (.ins A.cSetting dx []) ∧
  ∀ H' t p, SetAt A H' a (fresh n) t p → H t = none → H p = none → But a H H' → Q .non H'
def sp_create (K : PySem.W.Frag) (A : AdT) : Sp := fun vs H Q E => ∃ n : Nat, vs = [.int (n : Int)] ∧ ((n < 1 ∨ 5 < n) → ∀ H', Ex H H' → E (.ref A.xOutsideLimits) none H') ∧
  (1 ≤ n ∧ n ≤ 5 → ∀ H' a t p, SetAt A H' a (fresh n) t p → H a = none → H t = none → H p = none → Ex H H' → Q (.ref a) H')
section
variable {P : Program} {w : World} {K : PySem.W.Frag} {mg : Str → Option Value} {base : Heap} {A : AdT}
theorem ok_Setting_init {f : Addr} {fd : FuncData} (T : Tx K mg A) 
    (F : Fun K "__init__" "Setting.__init__" s_Setting_init f fd) : FnOk P w K mg base CX0 1 f fd ["self", "signal_count"] (sp_Setting_init K A) := by
  refine F.ok sc_Setting_init (fun vs H Q E h => ?len) (fun cdv ar outer s H vs Q E hr h => ⟨_, (pss_cons (ps_fldK (K := K) (pv 0) (pv 1))
      (pss_cons (ps_fldK (K := K) (pv 0) (pe_op op_rep (pe_lst (pa_cons pe_int pa_nil)) (pv 1)))
      (pss_cons (ps_fldK (K := K) (pv 0) (pe_op op_rep (pe_lst (pa_cons pe_int pa_nil)) (pv 1)))
      (pss_cons (ps_fldK (K := K) (pv 0) pe_int)
      (pss_cons (ps_fldK (K := K) (pv 0) pe_int)
      (pss_cons (ps_fldK (K := K) (pv 0) pe_int)
      (pss_cons (ps_fldK (K := K) (pv 0) pe_int)
      (pss_cons (ps_fldK (K := K) (pv 0) pe_int)
      (pss_one (ps_fldK (K := K) (pv 0) pe_int)))))))))), ?go⟩)
  case len =>
    obtain ⟨a, dx, n, rfl, _⟩ := h
    rfl
  case go =>
    obtain ⟨a, dx, n, rfl, hn, ha, k⟩ := h
    have nl : ([V.int 1] : List V).length ≤ 100000 := by decide
    refine q_fldNew (nmS.take 0) (by walk_at "ev") (by walk_at "ev") ha T.cl_Setting T.nA_Setting_signal_count rfl (by decide +kernel) fun H1 e1 => ?_
    refine q_fldNewL (nmS.take 1) (el_rep (el_lst (ea_cons ev_c ea_nil) nl) (by walk_at "ev") ⟨by omega, by omega⟩ (by show 1 * _ ≤ _; omega)) (by walk_at "ev") upd_same T.cl_Setting T.nA_Setting_test_weights rfl (by decide +kernel) fun t H2 h2 e2 x2 => ?_
    refine q_fldNewL (nmS.take 2) (el_rep (el_lst (ea_cons ev_c ea_nil) nl) (by walk_at "ev") ⟨by omega, by omega⟩ (by show 1 * _ ≤ _; omega)) (by walk_at "ev") upd_same T.cl_Setting T.nA_Setting_production_weights rfl (by decide +kernel) fun p H3 h3 e3 x3 => ?_
    refine q_fldNew (nmS.take 3) (by walk_at "ev") (by walk_at "ev") upd_same T.cl_Setting T.nA_Setting_prior_num rfl (by decide +kernel) fun H4 e4 => ?_
    refine q_fldNew (nmS.take 4) (by walk_at "ev") (by walk_at "ev") upd_same T.cl_Setting T.nA_Setting_prior_den rfl (by decide +kernel) fun H5 e5 => ?_
    refine q_fldNew (nmS.take 5) (by walk_at "ev") (by walk_at "ev") upd_same T.cl_Setting T.nA_Setting_gain rfl (by decide +kernel) fun H6 e6 => ?_
    refine q_fldNew (nmS.take 6) (by walk_at "ev") (by walk_at "ev") upd_same T.cl_Setting T.nA_Setting_loss rfl (by decide +kernel) fun H7 e7 => ?_
    refine q_fldNew (nmS.take 7) (by walk_at "ev") (by walk_at "ev") upd_same T.cl_Setting T.nA_Setting_harm_price rfl (by decide +kernel) fun H8 e8 => ?_
    refine s_fldNew (nmS.take 8) (by walk_at "ev") (by walk_at "ev") upd_same T.cl_Setting T.nA_Setting_test_price rfl (by decide +kernel) fun H9 e9 => ?_
    have nt := ne_upd h2
    have np := ne_upd h3
    have b1 := But.of (a := a) e1
    have b2 := b1.trans (But.up e2)
    have b4 := (((((But.up e4).trans (But.up e5)).trans (But.up e6)).trans (But.up e7)).trans (But.up e8)).trans (But.up e9)
    have b3 := (But.up e3).trans b4
    refine k _ t p ⟨⟨dx, upd_same.trans ?_⟩, ?_, ?_⟩ (b1.free nt (by rw [upd_ne nt] at h2; exact h2)) (b2.free np (by rw [upd_ne np] at h3; exact h3)) ((b2.trans b3).trans But.put)
    · rw [setF_fresh]
      rfl
    · exact ((b3.trans But.put) t _ x2 nt).trans (congrArg (fun l => some (HO.lst l)) (rep_nats n))
    · exact ((b4.trans But.put) p _ x3 np).trans (congrArg (fun l => some (HO.lst l)) (rep_nats n))
theorem ok_create {f : Addr} {fd : FuncData} (T : Tx K mg A) (h_check_signal_count : Has P w K mg base (L2.CX P w) 1 "check_signal_count" ["signal_count"] (sp_check_signal_count K A))
    (h_Setting_init : HasI P w K mg base CX0 1 "Setting" A.cSetting ["self", "signal_count"] (sp_Setting_init K A))
    (F : Fun K "create" "create" s_create f fd) : FnOk P w K mg base (L2.CX P w) 3 f fd ["signal_count"] (sp_create K A) := by
  refine F.okX sc_create (fun vs H Q E h => ?len) (fun cdv ar outer s H vs Q E hr h => ⟨_, (pss_cons (ps_expr (pe_h h_check_signal_count hr (by decide) (passU (takes_of rfl rfl rfl rfl)) (pa_cons (pv 0) pa_nil)))
      (pss_one (ps_ret (pe_mk h_Setting_init hr (by decide) pass0 (pa_cons (pv 0) pa_nil))))), ?go⟩)
  case len =>
    obtain ⟨n, rfl, _⟩ := h
    rfl
  case go =>
    obtain ⟨n, rfl, kx, ky⟩ := h
    refine q_chk (r := if (n : Int) < 1 ∨ 5 < (n : Int) then some A.xOutsideLimits else none) (by walk_at "ea") ⟨_, rfl, rfl⟩ ?_ ?_
    · intro x hx H1 e1
      by_cases hb : (n : Int) < 1 ∨ 5 < (n : Int)
      · rw [if_pos hb] at hx
        cases hx
        exact kx (by omega) H1 e1
      · rw [if_neg hb] at hx
        cases hx
    · intro hx H1 e1
      by_cases hb : (n : Int) < 1 ∨ 5 < (n : Int)
      · rw [if_pos hb] at hx
        cases hx
      · refine ⟨_, rfl, fun a dx na nd ne => ⟨a, dx, n, rfl, by omega, upd_same, fun H2 t p hS ht hp hB => ⟨rfl, ?_⟩⟩⟩
        have x1 : Ex (upd (upd H1 dx (.own a)) a (.ins A.cSetting dx [])) H2 → True := fun _ => trivial
        have hF : ∀ b, (upd (upd H1 dx (.own a)) a (.ins A.cSetting dx [])) b = none → H1 b = none := fun b hb => by
          have n1 := ne_upd hb
          rw [upd_ne n1] at hb
          have n2 := ne_upd hb
          rw [upd_ne n2] at hb
          exact hb
        have hE : Ex H1 H2 := fun b o hb => by
          have n1 : b ≠ a := ne_of_none hb na
          refine hB b o ?_ n1
          rw [upd_ne n1, upd_ne (ne_of_none hb nd)]
          exact hb
        exact ky (by omega) H2 a t p hS (fresh_back e1 na) (fresh_back e1 (hF t ht)) (fresh_back e1 (hF p hp)) (e1.trans hE)
end
end Dt

set_option Elab.async false
set_option linter.all false
set_option maxRecDepth 100000
set_option maxHeartbeats 600000
namespace Dt
open PySem PySem.Spec PyProof.Rows L2 Evl
local macro_rules | `(tactic| walk_at "lk") => `(tactic| first | exact lk_here | (refine (lk_past ?_).trans ?_; (· decide +kernel); walk_at "lk"))
local macro_rules | `(tactic| walk_at "bd") => `(tactic| first | assumption | exact Good.bt (by assumption) | exact Good.bp (by assumption) | exact Good.bn (by assumption) | exact Good.bd (by assumption) | exact Good.bg (by assumption) | exact Good.bl (by assumption) | exact Good.bh (by assumption) | exact Good.bc (by assumption) | exact Good.btw (by assumption) _ | exact Good.bpw (by assumption) _ | exact bd_mul (by walk_at "bd") (by walk_at "bd") | exact bd_add (by walk_at "bd") (by walk_at "bd") | exact bd_sub (by walk_at "bd") (by walk_at "bd"))
local macro_rules | `(tactic| walk_at "cm") => `(tactic| first | assumption | exact bd_cmul (by walk_at "bd") (by walk_at "bd") (by decide))
local macro_rules | `(tactic| walk_at "ev") => `(tactic| first
  | with_reducible exact ev_c
  | ((with_reducible refine' ev_var ?h); (case h => exact rfl))
  | ((with_reducible refine' f_tsum ?e ?h ?t); (case e => walk_at "ev"); (case h => assumption); (case t => assumption))
  | ((with_reducible refine' f_psum ?e ?h ?t); (case e => walk_at "ev"); (case h => assumption); (case t => assumption))
  | ((with_reducible refine' f_tix ?e ?i ?h ?t ?l); (case e => walk_at "ev"); (case i => walk_at "ev"); (case h => assumption); (case t => assumption); (case l => assumption))
  | ((with_reducible refine' f_pix ?e ?i ?h ?t ?g ?l); (case e => walk_at "ev"); (case i => walk_at "ev"); (case h => assumption); (case t => assumption); (case g => assumption); (case l => assumption))
  | ((with_reducible refine' f_count ?e ?h ?t); (case e => walk_at "ev"); (case h => assumption); (case t => assumption))
  | ((with_reducible refine' f_tw ?e ?h ?t); (case e => walk_at "ev"); (case h => assumption); (case t => assumption))
  | ((with_reducible refine' f_pw ?e ?h ?t); (case e => walk_at "ev"); (case h => assumption); (case t => assumption))
  | ((with_reducible refine' f_pn ?e ?h ?t); (case e => walk_at "ev"); (case h => assumption); (case t => assumption))
  | ((with_reducible refine' f_pd ?e ?h ?t); (case e => walk_at "ev"); (case h => assumption); (case t => assumption))
  | ((with_reducible refine' f_ga ?e ?h ?t); (case e => walk_at "ev"); (case h => assumption); (case t => assumption))
  | ((with_reducible refine' f_lo ?e ?h ?t); (case e => walk_at "ev"); (case h => assumption); (case t => assumption))
  | ((with_reducible refine' f_hp ?e ?h ?t); (case e => walk_at "ev"); (case h => assumption); (case t => assumption))
  | ((with_reducible refine' f_tp ?e ?h ?t); (case e => walk_at "ev"); (case h => assumption); (case t => assumption))
  | ((with_reducible refine' ev_gt ?a ?b); (case a => walk_at "ev"); (case b => walk_at "ev"))
  | ((with_reducible refine' ev_lt ?a ?b); (case a => walk_at "ev"); (case b => walk_at "ev"))
  | ((with_reducible refine' ev_ge ?a ?b); (case a => walk_at "ev"); (case b => walk_at "ev"))
  | ((with_reducible refine' ev_le ?a ?b); (case a => walk_at "ev"); (case b => walk_at "ev"))
  | ((with_reducible refine' ev_eqI ?a ?b); (case a => walk_at "ev"); (case b => walk_at "ev"))
  | ((with_reducible refine' ev_neI ?a ?b); (case a => walk_at "ev"); (case b => walk_at "ev"))
  | ((with_reducible refine' ev_add ?a ?b); (case a => walk_at "ev"); (case b => walk_at "ev"))
  | ((with_reducible refine' ev_sub ?a ?b); (case a => walk_at "ev"); (case b => walk_at "ev"))
  | ((with_reducible refine' ev_mul ?a ?b ?c); (case a => walk_at "ev"); (case b => walk_at "ev"); (case c => walk_at "cm"))
  | ((with_reducible refine' ev_div ?a ?b ?c); (case a => walk_at "ev"); (case b => walk_at "ev"); (case c => assumption))
  | ((with_reducible refine' ev_mod ?a ?b ?c); (case a => walk_at "ev"); (case b => walk_at "ev"); (case c => assumption))
  | ((with_reducible refine' ev_absI ?a); (case a => walk_at "ev"))
  | ((with_reducible refine' ev_callH ?a ?s); (case a => walk_at "ea"); (case s => walk_at "sp"))
  | ((with_reducible refine' ev_sumN ?a); (case a => walk_at "el")))
local macro_rules | `(tactic| walk_at "ea") => `(tactic| first
  | with_reducible exact ea_nil
  | ((with_reducible refine' ea_cons ?a ?b); (case a => walk_at "ev"); (case b => walk_at "ea")))
local macro_rules | `(tactic| walk_at "el") => `(tactic| first
  | ((with_reducible refine' el_lst ?a ?b); (case a => walk_at "ea"); (case b => exact Nat.le_of_ble_eq_true rfl))
  | ((with_reducible refine' el_callH ?a ?s); (case a => walk_at "ea"); (case s => walk_at "sp")))
local macro_rules | `(tactic| walk_at "st") => `(tactic| first
  | ((with_reducible refine' q_asg ?e ?k); (case e => walk_at "ev"))
  | ((with_reducible refine' q_asgL ?e ?k); (case e => walk_at "el"))
  | ((with_reducible refine' s_asg ?e ?k); (case e => walk_at "ev"))
  | ((with_reducible refine' s_asgL ?e ?k); (case e => walk_at "el"))
  | ((with_reducible refine' s_ret ?e ?k); (case e => walk_at "ev"))
  | ((with_reducible refine' s_retL ?e ?k); (case e => walk_at "el")))
local macro_rules | `(tactic| walk_at "et") => `(tactic| first
  | ((with_reducible refine' et_test ?e); (case e => walk_at "ev"))
  | ((with_reducible refine' et_or ?e ?f); (case e => walk_at "et"); (case f => (intro _; walk_at "et")))
  | with_reducible exact et_yes)
local macro_rules | `(tactic| walk_at "sp") => `(tactic| assumption)
local macro_rules | `(tactic| walk_at "if") => `(tactic| first
  | ((with_reducible refine' q_when ?e ?k1 ?k2); (case e => walk_at "et"))
  | ((with_reducible refine' s_when ?e ?k1 ?k2); (case e => walk_at "et"))
  | ((with_reducible refine' q_if ?e ?k1 ?k2); (case e => walk_at "et"))
  | ((with_reducible refine' s_if ?e ?k1 ?k2); (case e => walk_at "et")))
local macro_rules | `(tactic| walk_at "pt") => `(tactic| first | exact put_here | (refine put_step ?_ ?_; (· decide +kernel); walk_at "pt"))
local macro_rules | `(tactic| walk_at "ev") => `(tactic| first
  | ((with_reducible refine' ev_ix0 ?e ?h); (case e => walk_at "ev"); (case h => assumption))
  | ((with_reducible refine' ev_ix1 ?e ?h); (case e => walk_at "ev"); (case h => assumption)))
open Kp415 (signalCount)
/-- what a setting of an instance keeps to -/
structure Okk (s : Stg) : Prop where
  len : s.model.productionWeights.length = s.model.testWeights.length
  n1 : 0 < s.model.testWeights.length
  n5 : s.model.testWeights.length ≤ 5
  t0 : 0 < s.model.testWeights.sum
  t1 : s.model.testWeights.sum ≤ 495
  p0 : 0 < s.model.productionWeights.sum
  p1 : s.model.productionWeights.sum ≤ 495
  d0 : 0 < s.model.priorDen
  d1 : s.model.priorDen ≤ 99
  nd : s.model.priorNum ≤ s.model.priorDen
  g : s.gain ≤ 999
  l : s.loss ≤ 999
  h : s.harmPrice ≤ 999
  c : s.testPrice ≤ 999
theorem bd_nat {n k : Nat} (h : n < 2 ^ k) : Bd k (n : Int) := by
  show ((n : Int)).natAbs < 2 ^ k
  rw [Int.natAbs_natCast]
  exact h
theorem Okk.good {s : Stg} (k : Okk s) : Good s where
  pos := ⟨by have := k.t0; unfold tS; omega, by have := k.p0; unfold pS; omega, by have := k.d0; unfold pD; omega⟩
  len := k.len
  n1 := k.n1
  n5 := k.n5
  bt := bd_nat (Nat.lt_of_le_of_lt k.t1 (by decide))
  bp := bd_nat (Nat.lt_of_le_of_lt k.p1 (by decide))
  nd := by have := k.nd; unfold pN pD; omega
  bn := bd_nat (Nat.lt_of_le_of_lt (Nat.le_trans k.nd k.d1) (by decide))
  bd := bd_nat (Nat.lt_of_le_of_lt k.d1 (by decide))
  bg := bd_nat (Nat.lt_of_le_of_lt k.g (by decide))
  bl := bd_nat (Nat.lt_of_le_of_lt k.l (by decide))
  bh := bd_nat (Nat.lt_of_le_of_lt k.h (by decide))
  bc := bd_nat (Nat.lt_of_le_of_lt k.c (by decide))
/-- how an operation ends: an error of the class, or the setting then and the answer -/
inductive Err where
  | set
  | sig
  | lim
  | dp
def erA (A : AdT) : Err → Addr
  | .set => A.xNoSetting
  | .sig => A.xNoSuchSignal
  | .lim => A.xOutsideLimits
  | .dp => A.xNoDeterrentPrior
def erC : Err → Int
  | .set => -11
  | .sig => -2
  | .lim => -22
  | .dp => -33
inductive Out where
  | no (x : Err)
  | yes (s : Stg) (xs : List Int)
def spOp (A : AdT) (ask : List Nat → Prop) (act : Stg → List Nat → Out) : Sp := fun vs H Q E => ∃ a b s t p ns, vs = [.ref a, .ref b] ∧ SetAt A H a s t p ∧ Okk s ∧ H b = some (.lst (nats ns)) ∧ ask ns ∧
  (∀ x, act s ns = .no x → ∀ H', Ex H H' → E (.ref (erA A x)) none H') ∧
  (∀ s' xs, act s ns = .yes s' xs → ∀ H' r t' p', H r = none → H' r = some (.lst (xs.map V.int)) → SetAt A H' a s' t' p' → (t' = t ∨ H t' = none) → (p' = p ∨ H p' = none) → But a H H' → Q (.ref r) H')
/-- an operation that changes nothing -/
theorem op_get {A : AdT} {H H' : Hp} {a t p r : Addr} {s : Stg} {xs : List Int} {Q : VK} (hS : SetAt A H a s t p)
    (k : ∀ H' r t' p', H r = none → H' r = some (.lst (xs.map V.int)) → SetAt A H' a s t' p' → (t' = t ∨ H t' = none) → (p' = p ∨ H p' = none) → But a H H' → Q (.ref r) H')
    (hr : H r = none) (e : Ex H H') (h : H' r = some (.lst (xs.map V.int))) : Q (.ref r) H' := k H' r t p hr h (hS.mono e) (.inl rfl) (.inl rfl) (But.of e)
def actSetT (s : Stg) (ns : List Nat) : Out := if ns.length ≠ signalCount s.model ∨ (∃ x ∈ ns, 99 < x) ∨ (∀ x ∈ ns, x = 0) then .no .lim else .yes { s with model := { s.model with testWeights := ns } } [((ns.sum : Nat) : Int)]
def actSetP (s : Stg) (ns : List Nat) : Out := if ns.length ≠ signalCount s.model ∨ (∃ x ∈ ns, 99 < x) ∨ (∀ x ∈ ns, x = 0) then .no .lim else .yes { s with model := { s.model with productionWeights := ns } } [((ns.sum : Nat) : Int)]
def actPrior (s : Stg) (ns : List Nat) : Out := if ns.getD 1 0 < 1 ∨ 99 < ns.getD 1 0 ∨ ns.getD 1 0 < ns.getD 0 0 then .no .lim else .yes { s with model := { s.model with priorNum := ns.getD 0 0, priorDen := ns.getD 1 0 } } [0, pN s, pD s]
def actStakes (s : Stg) (ns : List Nat) : Out := if 999 < ns.getD 0 0 ∨ 999 < ns.getD 1 0 then .no .lim else .yes { s with gain := ns.getD 0 0, loss := ns.getD 1 0 } [0, ga s, lo s]
def actPrices (s : Stg) (ns : List Nat) : Out := if 999 < ns.getD 0 0 ∨ 999 < ns.getD 1 0 then .no .lim else .yes { s with harmPrice := ns.getD 0 0, testPrice := ns.getD 1 0 } [0, hP s, tP s]
def actValue (s : Stg) (ns : List Nat) : Out := if signalCount s.model ≤ ns.getD 0 0 then .no .sig else .yes s (0 :: low (valNum s (ns.getD 0 0)) (valDen s))
def actSignals (s : Stg) (_ns : List Nat) : Out := .yes s (((paying s).length : Int) :: natI (paying s))
def actProfit (s : Stg) (_ns : List Nat) : Out := .yes s (0 :: low ((paying s).map (valNum s)).sum (valDen s))
def members (s : Stg) (m : Nat) : List Nat := (List.range (signalCount s.model)).filter fun i => m / 2 ^ i % 2 == 1
def actProfitOf (s : Stg) (ns : List Nat) : Out := if 2 ^ signalCount s.model ≤ ns.getD 0 0 then .no .lim else .yes s (0 :: low ((members s (ns.getD 0 0)).map (valNum s)).sum (valDen s))
def actDetect (s : Stg) (_ns : List Nat) : Out := .yes s (0 :: low (pN s * ((paying s).map (tW s)).sum) (pD s * tS s))
def sp_set_test_weights (K : PySem.W.Frag) (A : AdT) : Sp := spOp A (fun _ => True) actSetT
def sp_set_production_weights (K : PySem.W.Frag) (A : AdT) : Sp := spOp A (fun _ => True) actSetP
def sp_set_prior (K : PySem.W.Frag) (A : AdT) : Sp := spOp A (fun ns => ns.length = 2) actPrior
def sp_set_stakes (K : PySem.W.Frag) (A : AdT) : Sp := spOp A (fun ns => ns.length = 2) actStakes
def sp_set_prices (K : PySem.W.Frag) (A : AdT) : Sp := spOp A (fun ns => ns.length = 2) actPrices
def sp_cheating_value (K : PySem.W.Frag) (A : AdT) : Sp := spOp A (fun ns => ns.length = 1) actValue
def sp_cheating_signals (K : PySem.W.Frag) (A : AdT) : Sp := spOp A (fun _ => True) actSignals
def sp_expected_profit (K : PySem.W.Frag) (A : AdT) : Sp := spOp A (fun _ => True) actProfit
def sp_expected_profit_of (K : PySem.W.Frag) (A : AdT) : Sp := spOp A (fun ns => ns.length = 1) actProfitOf
def sp_detection_probability (K : PySem.W.Frag) (A : AdT) : Sp := spOp A (fun _ => True) actDetect
theorem put_step {f g : Str} {v x : V} {r r' : List (Str × V)} (h : ¬ g = f) (k : putF f v r = r') : putF f v ((g, x) :: r) = (g, x) :: r' := by rw [put_past h, k]
section
variable {P : Program} {w : World} {K : PySem.W.Frag} {mg : Str → Option Value} {base : Heap} {A : AdT} {σ : L2.St} {H : Hp} {ta : TE} {b : Addr} {n m : Nat} {l : List Nat}
theorem ev_ix0 (h : Ev ta σ H (.ref b)) (hb : H b = some (.lst (nats (n :: l)))) : Ev (tOp (rIxL K) ta (tC (.int 0))) σ H (.int (n : Int)) := ev_ixL h ev_c (sq_of hb) (nats_at (l := n :: l) (i := 0) (by simp))
theorem ev_ix1 (h : Ev ta σ H (.ref b)) (hb : H b = some (.lst (nats (n :: m :: l)))) : Ev (tOp (rIxL K) ta (tC (.int 1))) σ H (.int (m : Int)) := ev_ixL h ev_c (sq_of hb) (nats_at (l := n :: m :: l) (i := 1) (by simp))
theorem ev_sumB (h : Ev ta σ H (.ref b)) (hb : H b = some (.lst (nats l))) : Ev (tCB (rSum K) (tCons ta tNil)) σ H (.int ((l.sum : Nat) : Int)) := by
  rw [← natI_sum]
  exact ev_sum h (by rw [← nats_eq]; exact sq_of hb)
theorem el_listB (h : Ev ta σ H (.ref b)) (hb : H b = some (.lst (nats l))) : EvL (tCB (rListS K) (tCons ta tNil)) σ H (nats l) := el_list h (sq_of hb)
theorem paying_len (s : Stg) (g : Good s) : (paying s).length ≤ 5 := by
  unfold paying
  have := List.length_filter_le (fun i => decide (0 < valNum s i)) (List.range (signalCount s.model))
  rw [List.length_range] at this
  have := g.n5
  omega
theorem paying_lt (s : Stg) : ∀ i ∈ paying s, i < signalCount s.model := fun i hi => List.mem_range.mp (List.mem_filter.mp hi).1
theorem members_len (s : Stg) (g : Good s) (m : Nat) : (members s m).length ≤ 5 := by
  unfold members
  have := List.length_filter_le (fun i => m / 2 ^ i % 2 == 1) (List.range (signalCount s.model))
  rw [List.length_range] at this
  have := g.n5
  omega
theorem members_lt (s : Stg) (m : Nat) : ∀ i ∈ members s m, i < signalCount s.model := fun i hi => List.mem_range.mp (List.mem_filter.mp hi).1
theorem low_len (i j : Int) : (low i j).length = 2 := rfl
theorem spOp_mono {ask : List Nat → Prop} {act : Stg → List Nat → Out} {vs : List V} {H1 : Hp} {Q : VK} {E : XK} (h : spOp A ask act vs H Q E) (e : Ex H H1) : spOp A ask act vs H1 Q E := by
  obtain ⟨a, b, s, t, p, ns, rfl, hS, ok, hb, hask, kx, ky⟩ := h
  exact ⟨a, b, s, t, p, ns, rfl, hS.mono e, ok, e b _ hb, hask, fun x hx H' e' => kx x hx H' (e.trans e'), fun s' xs hy H' r t' p' hr h1 h2 h3 h4 h5 => ky s' xs hy H' r t' p' (fresh_back e hr) h1 h2 (h3.imp id (fresh_back e)) (h4.imp id (fresh_back e)) ((But.of e).trans h5)⟩
theorem two_of {ns : List Nat} (h : ns.length = 2) : ∃ x y, ns = [x, y] := by
  match ns, h with
  | [x, y], _ => exact ⟨x, y, rfl⟩
theorem one_of {ns : List Nat} (h : ns.length = 1) : ∃ x, ns = [x] := by
  match ns, h with
  | [x], _ => exact ⟨x, rfl⟩
variable {D : Ends} {tz : TS} {tv : TE} {a t p : Addr} {s s' : Stg} {f : Str} {v : V}
theorem q_setI (hS : SetAt A H a s t p) (hv : Ev tv σ H v) (ha : Ev ta σ H (.ref a)) (T : Tx K mg A) (nA : NoAttr K A.cSetting f) (hp : putF f v (setF s t p) = setF s' t p) (e1 : s'.model.testWeights = s.model.testWeights) (e2 : s'.model.productionWeights = s.model.productionWeights)
    (k : ∀ H1, SetAt A H1 a s' t p → But a H H1 → tz D σ H1) : tSeq (sFld K ta tv f) tz D σ H := by
  obtain ⟨dx, ob⟩ := hS.ob
  have n1 : t ≠ a := ne_of_some hS.tw ob (by intro z; cases z)
  have n2 : p ≠ a := ne_of_some hS.pw ob (by intro z; cases z)
  refine q_fld hv ha ob T.cl_Setting nA (by show 9 < 1000; decide) fun H1 e => k _ ⟨⟨dx, upd_same.trans (by rw [hp])⟩, ?_, ?_⟩ (But.upd e)
  · rw [upd_ne n1, e1]
    exact e t _ hS.tw
  · rw [upd_ne n2, e2]
    exact e p _ hS.pw
theorem s_setI (hS : SetAt A H a s t p) (hv : Ev tv σ H v) (ha : Ev ta σ H (.ref a)) (T : Tx K mg A) (nA : NoAttr K A.cSetting f) (hp : putF f v (setF s t p) = setF s' t p) (e1 : s'.model.testWeights = s.model.testWeights) (e2 : s'.model.productionWeights = s.model.productionWeights)
    (k : ∀ H1, SetAt A H1 a s' t p → But a H H1 → D.nx σ H1) : sFld K ta tv f D σ H := q_setI (tz := fun D' σ H => D.nx σ H) (D := D) hS hv ha T nA hp e1 e2 k
theorem q_setT {ns : List Nat} (hS : SetAt A H a s t p) (hv : EvL tv σ H (nats ns)) (ha : Ev ta σ H (.ref a)) (T : Tx K mg A) (nA : NoAttr K A.cSetting f) (hp : ∀ q, putF f (.ref q) (setF s t p) = setF s' q p) (e1 : s'.model.testWeights = ns) (e2 : s'.model.productionWeights = s.model.productionWeights)
    (k : ∀ q H1, H q = none → SetAt A H1 a s' q p → But a H H1 → tz D σ H1) : tSeq (sFld K ta tv f) tz D σ H := by
  obtain ⟨dx, ob⟩ := hS.ob
  have n2 : p ≠ a := ne_of_some hS.pw ob (by intro z; cases z)
  refine q_fldL hv ha ob T.cl_Setting nA (by show 9 < 1000; decide) fun q H1 hq e h1 => k q _ hq ⟨⟨dx, upd_same.trans (by rw [hp])⟩, ?_, ?_⟩ (But.upd e)
  · rw [upd_ne (fun z => by rw [z, ob] at hq; cases hq), e1]
    exact h1
  · rw [upd_ne n2, e2]
    exact e p _ hS.pw
theorem q_setP {ns : List Nat} (hS : SetAt A H a s t p) (hv : EvL tv σ H (nats ns)) (ha : Ev ta σ H (.ref a)) (T : Tx K mg A) (nA : NoAttr K A.cSetting f) (hp : ∀ q, putF f (.ref q) (setF s t p) = setF s' t q) (e1 : s'.model.testWeights = s.model.testWeights) (e2 : s'.model.productionWeights = ns)
    (k : ∀ q H1, H q = none → SetAt A H1 a s' t q → But a H H1 → tz D σ H1) : tSeq (sFld K ta tv f) tz D σ H := by
  obtain ⟨dx, ob⟩ := hS.ob
  have n2 : t ≠ a := ne_of_some hS.tw ob (by intro z; cases z)
  refine q_fldL hv ha ob T.cl_Setting nA (by show 9 < 1000; decide) fun q H1 hq e h1 => k q _ hq ⟨⟨dx, upd_same.trans (by rw [hp])⟩, ?_, ?_⟩ (But.upd e)
  · rw [upd_ne n2, e1]
    exact e t _ hS.tw
  · rw [upd_ne (fun z => by rw [z, ob] at hq; cases hq), e2]
    exact h1
end
end Dt

set_option Elab.async false
set_option linter.all false
set_option maxRecDepth 100000
set_option maxHeartbeats 600000
namespace Dt
open PySem PySem.Spec PyProof.Rows L2 Evl
local macro_rules | `(tactic| walk_at "lk") => `(tactic| first | exact lk_here | (refine (lk_past ?_).trans ?_; (· decide +kernel); walk_at "lk"))
local macro_rules | `(tactic| walk_at "bd") => `(tactic| first | assumption | exact Good.bt (by assumption) | exact Good.bp (by assumption) | exact Good.bn (by assumption) | exact Good.bd (by assumption) | exact Good.bg (by assumption) | exact Good.bl (by assumption) | exact Good.bh (by assumption) | exact Good.bc (by assumption) | exact Good.btw (by assumption) _ | exact Good.bpw (by assumption) _ | exact bd_mul (by walk_at "bd") (by walk_at "bd") | exact bd_add (by walk_at "bd") (by walk_at "bd") | exact bd_sub (by walk_at "bd") (by walk_at "bd"))
local macro_rules | `(tactic| walk_at "cm") => `(tactic| first | assumption | exact bd_cmul (by walk_at "bd") (by walk_at "bd") (by decide))
local macro_rules | `(tactic| walk_at "ev") => `(tactic| first
  | with_reducible exact ev_c
  | ((with_reducible refine' ev_var ?h); (case h => exact rfl))
  | ((with_reducible refine' f_tsum ?e ?h ?t); (case e => walk_at "ev"); (case h => assumption); (case t => assumption))
  | ((with_reducible refine' f_psum ?e ?h ?t); (case e => walk_at "ev"); (case h => assumption); (case t => assumption))
  | ((with_reducible refine' f_tix ?e ?i ?h ?t ?l); (case e => walk_at "ev"); (case i => walk_at "ev"); (case h => assumption); (case t => assumption); (case l => assumption))
  | ((with_reducible refine' f_pix ?e ?i ?h ?t ?g ?l); (case e => walk_at "ev"); (case i => walk_at "ev"); (case h => assumption); (case t => assumption); (case g => assumption); (case l => assumption))
  | ((with_reducible refine' f_count ?e ?h ?t); (case e => walk_at "ev"); (case h => assumption); (case t => assumption))
  | ((with_reducible refine' f_tw ?e ?h ?t); (case e => walk_at "ev"); (case h => assumption); (case t => assumption))
  | ((with_reducible refine' f_pw ?e ?h ?t); (case e => walk_at "ev"); (case h => assumption); (case t => assumption))
  | ((with_reducible refine' f_pn ?e ?h ?t); (case e => walk_at "ev"); (case h => assumption); (case t => assumption))
  | ((with_reducible refine' f_pd ?e ?h ?t); (case e => walk_at "ev"); (case h => assumption); (case t => assumption))
  | ((with_reducible refine' f_ga ?e ?h ?t); (case e => walk_at "ev"); (case h => assumption); (case t => assumption))
  | ((with_reducible refine' f_lo ?e ?h ?t); (case e => walk_at "ev"); (case h => assumption); (case t => assumption))
  | ((with_reducible refine' f_hp ?e ?h ?t); (case e => walk_at "ev"); (case h => assumption); (case t => assumption))
  | ((with_reducible refine' f_tp ?e ?h ?t); (case e => walk_at "ev"); (case h => assumption); (case t => assumption))
  | ((with_reducible refine' ev_gt ?a ?b); (case a => walk_at "ev"); (case b => walk_at "ev"))
  | ((with_reducible refine' ev_lt ?a ?b); (case a => walk_at "ev"); (case b => walk_at "ev"))
  | ((with_reducible refine' ev_ge ?a ?b); (case a => walk_at "ev"); (case b => walk_at "ev"))
  | ((with_reducible refine' ev_le ?a ?b); (case a => walk_at "ev"); (case b => walk_at "ev"))
  | ((with_reducible refine' ev_eqI ?a ?b); (case a => walk_at "ev"); (case b => walk_at "ev"))
  | ((with_reducible refine' ev_neI ?a ?b); (case a => walk_at "ev"); (case b => walk_at "ev"))
  | ((with_reducible refine' ev_add ?a ?b); (case a => walk_at "ev"); (case b => walk_at "ev"))
  | ((with_reducible refine' ev_sub ?a ?b); (case a => walk_at "ev"); (case b => walk_at "ev"))
  | ((with_reducible refine' ev_mul ?a ?b ?c); (case a => walk_at "ev"); (case b => walk_at "ev"); (case c => walk_at "cm"))
  | ((with_reducible refine' ev_div ?a ?b ?c); (case a => walk_at "ev"); (case b => walk_at "ev"); (case c => assumption))
  | ((with_reducible refine' ev_mod ?a ?b ?c); (case a => walk_at "ev"); (case b => walk_at "ev"); (case c => assumption))
  | ((with_reducible refine' ev_absI ?a); (case a => walk_at "ev"))
  | ((with_reducible refine' ev_callH ?a ?s); (case a => walk_at "ea"); (case s => walk_at "sp"))
  | ((with_reducible refine' ev_sumN ?a); (case a => walk_at "el")))
local macro_rules | `(tactic| walk_at "ea") => `(tactic| first
  | with_reducible exact ea_nil
  | ((with_reducible refine' ea_cons ?a ?b); (case a => walk_at "ev"); (case b => walk_at "ea")))
local macro_rules | `(tactic| walk_at "el") => `(tactic| first
  | ((with_reducible refine' el_lst ?a ?b); (case a => walk_at "ea"); (case b => exact Nat.le_of_ble_eq_true rfl))
  | ((with_reducible refine' el_callH ?a ?s); (case a => walk_at "ea"); (case s => walk_at "sp")))
local macro_rules | `(tactic| walk_at "st") => `(tactic| first
  | ((with_reducible refine' q_asg ?e ?k); (case e => walk_at "ev"))
  | ((with_reducible refine' q_asgL ?e ?k); (case e => walk_at "el"))
  | ((with_reducible refine' s_asg ?e ?k); (case e => walk_at "ev"))
  | ((with_reducible refine' s_asgL ?e ?k); (case e => walk_at "el"))
  | ((with_reducible refine' s_ret ?e ?k); (case e => walk_at "ev"))
  | ((with_reducible refine' s_retL ?e ?k); (case e => walk_at "el")))
local macro_rules | `(tactic| walk_at "et") => `(tactic| first
  | ((with_reducible refine' et_test ?e); (case e => walk_at "ev"))
  | ((with_reducible refine' et_or ?e ?f); (case e => walk_at "et"); (case f => (intro _; walk_at "et")))
  | with_reducible exact et_yes)
local macro_rules | `(tactic| walk_at "sp") => `(tactic| assumption)
local macro_rules | `(tactic| walk_at "if") => `(tactic| first
  | ((with_reducible refine' q_when ?e ?k1 ?k2); (case e => walk_at "et"))
  | ((with_reducible refine' s_when ?e ?k1 ?k2); (case e => walk_at "et"))
  | ((with_reducible refine' q_if ?e ?k1 ?k2); (case e => walk_at "et"))
  | ((with_reducible refine' s_if ?e ?k1 ?k2); (case e => walk_at "et")))
local macro_rules | `(tactic| walk_at "pt") => `(tactic| first | exact put_here | (refine put_step ?_ ?_; (· decide +kernel); walk_at "pt"))
local macro_rules | `(tactic| walk_at "ev") => `(tactic| first
  | ((with_reducible refine' ev_ix0 ?e ?h); (case e => walk_at "ev"); (case h => assumption))
  | ((with_reducible refine' ev_ix1 ?e ?h); (case e => walk_at "ev"); (case h => assumption)))
open Kp415 (signalCount)
/-- a new setting -/
def NewSet (A : AdT) (H0 : Hp) (s : Stg) (v : V) (H' : Hp) : Prop := ∃ a t p, v = .ref a ∧ SetAt A H' a s t p ∧ H0 a = none ∧ H0 t = none ∧ H0 p = none
def sS (s : Stg) (a b : Nat) : Stg := { s with gain := a, loss := b }
def mrg (s : Stg) (ms : List Nat) : Stg := Kp416.merged s ms
def sp_Setting_duplicate (K : PySem.W.Frag) (A : AdT) : Sp := spRet fun vs H R => ∃ a s t p, vs = [.ref a] ∧ SetAt A H a s t p ∧ Good s ∧ R = NewSet A H s
def sp_Setting_merge (K : PySem.W.Frag) (A : AdT) : Sp := fun vs H Q _ => ∃ a s t p m, ∃ ms : List Nat, vs = [.ref a, .ref m] ∧ SetAt A H a s t p ∧ Good s ∧ H m = some (.lst (nats ms)) ∧ ms.length = signalCount s.model ∧ (∀ x ∈ ms, x < signalCount s.model) ∧
  ∀ H' t' p', SetAt A H' a (mrg s ms) t' p' → H t' = none → H p' = none → But a H H' → Q .non H'
def sp_with_prior (K : PySem.W.Frag) (A : AdT) : Sp := spRet fun vs H R => ∃ a s t p, ∃ n m : Nat, vs = [.ref a, .int (n : Int), .int (m : Int)] ∧ SetAt A H a s t p ∧ Good s ∧ R = NewSet A H (sP s n m)
def sp_with_stakes (K : PySem.W.Frag) (A : AdT) : Sp := spRet fun vs H R => ∃ a s t p, ∃ n m : Nat, vs = [.ref a, .int (n : Int), .int (m : Int)] ∧ SetAt A H a s t p ∧ Good s ∧ R = NewSet A H (sS s n m)
def sp_with_merge (K : PySem.W.Frag) (A : AdT) : Sp := spRet fun vs H R => ∃ a s t p b, ∃ ms : List Nat, vs = [.ref a, .ref b] ∧ SetAt A H a s t p ∧ Good s ∧ H b = some (.lst (nats ms)) ∧ ms.length = signalCount s.model ∧ (∀ x ∈ ms, x < signalCount s.model) ∧ R = NewSet A H (mrg s ms)
def d1 (s : Stg) : Stg := ⟨⟨s.model.testWeights, List.replicate (signalCount s.model) 1, 1, 2⟩, 1, 1, 1, 1⟩
def d2 (s : Stg) : Stg := ⟨⟨s.model.testWeights, s.model.productionWeights, 1, 2⟩, 1, 1, 1, 1⟩
def d3 (s : Stg) : Stg := ⟨⟨s.model.testWeights, s.model.productionWeights, s.model.priorNum, 2⟩, 1, 1, 1, 1⟩
def d4 (s : Stg) : Stg := ⟨⟨s.model.testWeights, s.model.productionWeights, s.model.priorNum, s.model.priorDen⟩, 1, 1, 1, 1⟩
def d5 (s : Stg) : Stg := ⟨s.model, s.gain, 1, 1, 1⟩
def d6 (s : Stg) : Stg := ⟨s.model, s.gain, s.loss, 1, 1⟩
def d7 (s : Stg) : Stg := ⟨s.model, s.gain, s.loss, s.harmPrice, 1⟩
/-- only what H does not know may have changed -/
theorem ex_but {a : Addr} {H H1 H2 : Hp} (e : Ex H H1) (b : But a H1 H2) (n : H a = none) : Ex H H2 := fun c u h => b c u (e c u h) (fun z => by rw [z, n] at h; cases h)
section
variable {P : Program} {w : World} {K : PySem.W.Frag} {mg : Str → Option Value} {base : Heap} {A : AdT}
theorem NewSet.back {H0 H1 H2 : Hp} {s : Stg} {v : V} (e : Ex H0 H1) (h : NewSet A H1 s v H2) : NewSet A H0 s v H2 := by
  obtain ⟨a, t, p, h1, h2, h3, h4, h5⟩ := h
  exact ⟨a, t, p, h1, h2, fresh_back e h3, fresh_back e h4, fresh_back e h5⟩
theorem sp_dup {H : Hp} {a t p : Addr} {s : Stg} (h : SetAt A H a s t p) (g : Good s) : SpP (sp_Setting_duplicate K A) [.ref a] H (NewSet A H s) := sp_of ⟨a, s, t, p, rfl, h, g, rfl⟩
theorem sp_wprior {H : Hp} {a t p : Addr} {s : Stg} {n m : Nat} (h : SetAt A H a s t p) (g : Good s) : SpP (sp_with_prior K A) [.ref a, .int (n : Int), .int (m : Int)] H (NewSet A H (sP s n m)) := sp_of ⟨a, s, t, p, n, m, rfl, h, g, rfl⟩
theorem sp_wstakes {H : Hp} {a t p : Addr} {s : Stg} {n m : Nat} (h : SetAt A H a s t p) (g : Good s) : SpP (sp_with_stakes K A) [.ref a, .int (n : Int), .int (m : Int)] H (NewSet A H (sS s n m)) := sp_of ⟨a, s, t, p, n, m, rfl, h, g, rfl⟩
theorem sp_wmerge {H : Hp} {a t p b : Addr} {s : Stg} {ms : List Nat} (h : SetAt A H a s t p) (g : Good s) (hb : H b = some (.lst (nats ms))) (hl : ms.length = signalCount s.model) (hx : ∀ x ∈ ms, x < signalCount s.model) : SpP (sp_with_merge K A) [.ref a, .ref b] H (NewSet A H (mrg s ms)) := sp_of ⟨a, s, t, p, b, ms, rfl, h, g, hb, hl, hx, rfl⟩
theorem q_asgMk {σ : L2.St} {H : Hp} {tr : TA} {tz : TS} {D : Ends} {sp : Sp} {vs : List V} {E : XK} {i : Nat} {C : Addr} (h : EvA tr σ H vs)
    (k : ∀ H1 x dx, Ex H H1 → H1 x = none → H1 dx = none → dx ≠ x → sp (.ref x :: vs) (upd (upd H1 dx (.own x)) x (.ins C dx [])) (fun v H2 => v = .non ∧ tz D (σ.set i (some (.ref x))) H2) E) : tSeq (tAsg (tMakeH C sp E tr) (gName i)) tz D σ H :=
  h H (Ex.refl H) _ fun H1 e1 x dx => k H1 x dx e1
/-- x = o.m(..) -/
theorem q_asgMP {σ : L2.St} {H : Hp} {ta : TE} {tr : TA} {tz : TS} {D : Ends} {sp : Sp} {vs : List V} {m : Str} {E : L2.St → XK} {i : Nat} {a t p : Addr} {s : Stg} {R : V → Hp → Prop} (ha : Ev ta σ H (.ref a)) (hS : SetAt A H a s t p) (hl : (setF s t p).lookup m = none) (h : EvA tr σ H vs) (hs : SpP sp (.ref a :: vs) H R)
    (k : ∀ v H1, Ex H H1 → R v H1 → tz D (σ.set i (some v)) H1) : tSeq (tAsg (tMethH A.cSetting m sp E ta tr) (gName i)) tz D σ H := by
  obtain ⟨dx, ob⟩ := hS.ob
  exact ha H (Ex.refl H) _ fun H1 e1 => ⟨a, dx, _, rfl, e1 a _ ob, hl, h H1 e1 _ fun H2 e2 => hs H2 (e1.trans e2) _ (fun v H3 e3 r => k v H3 ((e1.trans e2).trans e3) r) _⟩
local macro_rules | `(tactic| walk_at "ln") => `(tactic| first | exact rfl | (refine (lk_past ?_).trans ?_; (· decide +kernel); walk_at "ln"))
theorem lk_dup {t p : Addr} {s : Stg} : (setF s t p).lookup ("duplicate" : Str) = none := by
  unfold setF
  walk_at "ln"
theorem lk_mrg {t p : Addr} {s : Stg} : (setF s t p).lookup ("merge" : Str) = none := by
  unfold setF
  walk_at "ln"
theorem q_dropM {σ : L2.St} {H : Hp} {ta : TE} {tr : TA} {tz : TS} {D : Ends} {sp : Sp} {vs : List V} {m : Str} {E : L2.St → XK} {a t p : Addr} {s : Stg} (ha : Ev ta σ H (.ref a)) (hS : SetAt A H a s t p) (hl : (setF s t p).lookup m = none) (h : EvA tr σ H vs)
    (k : ∀ H1, Ex H H1 → sp (.ref a :: vs) H1 (fun _ H2 => tz D σ H2) (E σ)) : tSeq (tDrop (tMethH A.cSetting m sp E ta tr)) tz D σ H := by
  obtain ⟨dx, ob⟩ := hS.ob
  exact ha H (Ex.refl H) _ fun H1 e1 => ⟨a, dx, _, rfl, e1 a _ ob, hl, h H1 e1 _ fun H2 e2 => k H2 (e1.trans e2)⟩
theorem s_setP {σ : L2.St} {H : Hp} {ta tv : TE} {D : Ends} {a t p : Addr} {s s' : Stg} {f : Str} {ns : List Nat} (hS : SetAt A H a s t p) (hv : EvL tv σ H (nats ns)) (ha : Ev ta σ H (.ref a)) (T : Tx K mg A) (nA : NoAttr K A.cSetting f) (hp : ∀ q, putF f (.ref q) (setF s t p) = setF s' t q) (e1 : s'.model.testWeights = s.model.testWeights) (e2 : s'.model.productionWeights = ns)
    (k : ∀ q H1, H q = none → SetAt A H1 a s' t q → But a H H1 → D.nx σ H1) : sFld K ta tv f D σ H := q_setP (tz := fun D' σ H => D.nx σ H) (D := D) hS hv ha T nA hp e1 e2 k
theorem ok_Setting_duplicate {f : Addr} {fd : FuncData} (T : Tx K mg A) (h_Setting_init : HasI P w K mg base CX0 1 "Setting" A.cSetting ["self", "signal_count"] (sp_Setting_init K A))
    (F : Fun K "duplicate" "Setting.duplicate" s_Setting_duplicate f fd) : FnOk P w K mg base CX0 3 f fd ["self"] (sp_Setting_duplicate K A) := by
  refine F.ok sc_Setting_duplicate (fun vs H Q E h => ?len) (fun cdv ar outer s H vs Q E hr h => ⟨_, (pss_cons (ps_set (i := 1) sc_Setting_duplicate.nd rfl (Or.inl rfl) (pe_mk h_Setting_init hr (by decide) pass0 (pa_cons (pe_fldK (K := K) (pv 0)) pa_nil)))
      (pss_cons (ps_fldK (K := K) (pv 1) (pe_callTy (cr_listK (K := K)) (by rfl) T.b_list (by decide +kernel) (pa_cons (pe_fldK (K := K) (pv 0)) pa_nil)))
      (pss_cons (ps_fldK (K := K) (pv 1) (pe_callTy (cr_listK (K := K)) (by rfl) T.b_list (by decide +kernel) (pa_cons (pe_fldK (K := K) (pv 0)) pa_nil)))
      (pss_cons (ps_fldK (K := K) (pv 1) (pe_fldK (K := K) (pv 0)))
      (pss_cons (ps_fldK (K := K) (pv 1) (pe_fldK (K := K) (pv 0)))
      (pss_cons (ps_fldK (K := K) (pv 1) (pe_fldK (K := K) (pv 0)))
      (pss_cons (ps_fldK (K := K) (pv 1) (pe_fldK (K := K) (pv 0)))
      (pss_cons (ps_fldK (K := K) (pv 1) (pe_fldK (K := K) (pv 0)))
      (pss_cons (ps_fldK (K := K) (pv 1) (pe_fldK (K := K) (pv 0)))
      (pss_one (ps_ret (pv 1)))))))))))), ?go⟩)
  case len =>
    obtain ⟨H0, R, e0, ⟨a, s, t, p, rfl, _⟩, _⟩ := h
    rfl
  case go =>
    obtain ⟨H0, R, e0, ⟨a, s, t, p, rfl, hS, g, rfl⟩, k⟩ := h
    have hS := hS.mono e0
    have k : ∀ v H', Ex H H' → NewSet A H s v H' → Q v H' := fun v H' e h => k v H' e (h.back e0)
    have n5 : signalCount s.model ≤ 5 := g.n5
    refine q_asgMk (by walk_at "ea") fun H1 o dx e1 no nd ne => ⟨o, dx, signalCount s.model, rfl, n5, upd_same, fun H2 q r hN hq hr hB => ⟨rfl, ?_⟩⟩
    have hF : ∀ b, (upd (upd H1 dx (.own o)) o (.ins A.cSetting dx [])) b = none → H1 b = none := fun b hb => by
      have n1 := ne_upd hb
      rw [upd_ne n1] at hb
      have n2 := ne_upd hb
      rw [upd_ne n2] at hb
      exact hb
    have E2 : Ex H H2 := fun b u hb => by
      have hb := e1 b u hb
      have n1 : b ≠ o := ne_of_none hb no
      refine hB b u ?_ n1
      rw [upd_ne n1, upd_ne (ne_of_none hb nd)]
      exact hb
    have fo : H o = none := fresh_back e1 no
    have hS2 := hS.mono E2
    refine q_setT (s' := d1 s) hN (el_listB (f_tw (by walk_at "ev") hS2 T) hS2.tw) (by walk_at "ev") T T.nA_Setting_test_weights (fun q => ?_) rfl rfl fun q2 H3 hq2 hN3 b3 => ?_
    · have e : signalCount (fresh (signalCount s.model)).model = signalCount (d1 s).model := List.length_replicate
      unfold setF
      rw [e]
      walk_at "pt"
    have E3 := ex_but E2 b3 fo
    have hS3 := hS.mono E3
    refine q_setP (s' := d2 s) hN3 (el_listB (f_pw (by walk_at "ev") hS3 T) hS3.pw) (by walk_at "ev") T T.nA_Setting_production_weights (fun q => ?_) rfl rfl fun r2 H4 hr2 hN4 b4 => ?_
    · walk_at "pt"
    have E4 := ex_but E3 b4 fo
    have hS4 := hS.mono E4
    refine q_setI (s' := d3 s) hN4 (f_pn (by walk_at "ev") hS4 T) (by walk_at "ev") T T.nA_Setting_prior_num (by walk_at "pt") rfl rfl fun H5 hN5 b5 => ?_
    have E5 := ex_but E4 b5 fo
    have hS5 := hS.mono E5
    refine q_setI (s' := d4 s) hN5 (f_pd (by walk_at "ev") hS5 T) (by walk_at "ev") T T.nA_Setting_prior_den (by walk_at "pt") rfl rfl fun H6 hN6 b6 => ?_
    have E6 := ex_but E5 b6 fo
    have hS6 := hS.mono E6
    refine q_setI (s' := d5 s) hN6 (f_ga (by walk_at "ev") hS6 T) (by walk_at "ev") T T.nA_Setting_gain (by walk_at "pt") rfl rfl fun H7 hN7 b7 => ?_
    have E7 := ex_but E6 b7 fo
    have hS7 := hS.mono E7
    refine q_setI (s' := d6 s) hN7 (f_lo (by walk_at "ev") hS7 T) (by walk_at "ev") T T.nA_Setting_loss (by walk_at "pt") rfl rfl fun H8 hN8 b8 => ?_
    have E8 := ex_but E7 b8 fo
    have hS8 := hS.mono E8
    refine q_setI (s' := d7 s) hN8 (f_hp (by walk_at "ev") hS8 T) (by walk_at "ev") T T.nA_Setting_harm_price (by walk_at "pt") rfl rfl fun H9 hN9 b9 => ?_
    have E9 := ex_but E8 b9 fo
    have hS9 := hS.mono E9
    refine q_setI (s' := s) hN9 (f_tp (by walk_at "ev") hS9 T) (by walk_at "ev") T T.nA_Setting_test_price (by walk_at "pt") rfl rfl fun H10 hN10 b10 => ?_
    have E10 := ex_but E9 b10 fo
    refine s_ret (by walk_at "ev") fun H11 e11 => ?_
    exact k _ _ (E10.trans e11) ⟨o, q2, r2, rfl, hN10.mono e11, fo, fresh_back E2 hq2, fresh_back E3 hr2⟩
theorem ok_Setting_merge {f : Addr} {fd : FuncData} (T : Tx K mg A) (h_merged_weights : Has P w K mg base CX0 1 "merged_weights" ["weights", "mapping"] (sp_merged_weights K A))
    (F : Fun K "merge" "Setting.merge" s_Setting_merge f fd) : FnOk P w K mg base CX0 2 f fd ["self", "mapping"] (sp_Setting_merge K A) := by
  refine F.ok sc_Setting_merge (fun vs H Q E h => ?len) (fun cdv ar outer s H vs Q E hr h => ⟨_, (pss_cons (ps_fldK (K := K) (pv 0) (pe_h h_merged_weights hr (by decide) pass0 (pa_cons (pe_fldK (K := K) (pv 0)) (pa_cons (pv 1) pa_nil))))
      (pss_one (ps_fldK (K := K) (pv 0) (pe_h h_merged_weights hr (by decide) pass0 (pa_cons (pe_fldK (K := K) (pv 0)) (pa_cons (pv 1) pa_nil)))))), ?go⟩)
  case len =>
    obtain ⟨a, s, t, p, m, ms, rfl, _⟩ := h
    rfl
  case go =>
    obtain ⟨a, s, t, p, m, ms, rfl, hS, g, hm, hl, hx, k⟩ := h
    have n5 : s.model.testWeights.length ≤ 5 := g.n5
    obtain ⟨dx, ob⟩ := hS.ob
    have hma : m ≠ a := ne_of_some hm ob (by intro z; cases z)
    have hl' : ms.length = s.model.testWeights.length := hl
    have hx' : ∀ x ∈ ms, x < s.model.testWeights.length := hx
    refine q_setT (s' := { s with model := { s.model with testWeights := Kp415.mergeWeights s.model.testWeights ms } }) hS (el_callH (vs := [.ref t, .ref m]) (ea_cons (f_tw (by walk_at "ev") hS T) (by walk_at "ea")) (sl_merged_weights (K := K) (A := A) hS.tw hm hl' n5 hx')) (by walk_at "ev") T T.nA_Setting_test_weights (fun q => ?_) rfl rfl fun q H1 hq hS1 b1 => ?_
    · have e : signalCount s.model = signalCount ({ s with model := { s.model with testWeights := Kp415.mergeWeights s.model.testWeights ms } } : Stg).model := (merge_len _ _).symm
      unfold setF
      rw [e]
      walk_at "pt"
    have hm1 := b1 m _ hm hma
    have lp := g.len
    refine s_setP (s' := mrg s ms) hS1 (el_callH (vs := [.ref p, .ref m]) (ea_cons (f_pw (by walk_at "ev") hS1 T) (by walk_at "ea")) (sl_merged_weights (K := K) (A := A) hS1.pw hm1 (by show ms.length = s.model.productionWeights.length; omega) (by show s.model.productionWeights.length ≤ 5; omega) (fun x h => by have := hx' x h; show x < s.model.productionWeights.length; omega))) (by walk_at "ev") T T.nA_Setting_production_weights (fun q => ?_) rfl rfl fun r H2 hr hS2 b2 => ?_
    · walk_at "pt"
    have hra : r ≠ a := fun z => by
      obtain ⟨dx1, o1⟩ := hS1.ob
      rw [z, o1] at hr
      cases hr
    exact k H2 q r hS2 hq (b1.free hra hr) (b1.trans b2)
theorem ok_with_prior {f : Addr} {fd : FuncData} (T : Tx K mg A) (h_Setting_duplicate : HasM P w K mg base CX0 3 A.cSetting "duplicate" ["self"] (sp_Setting_duplicate K A))
    (F : Fun K "with_prior" "with_prior" s_with_prior f fd) : FnOk P w K mg base CX0 4 f fd ["setting", "num", "den"] (sp_with_prior K A) := by
  refine F.ok sc_with_prior (fun vs H Q E h => ?len) (fun cdv ar outer s H vs Q E hr h => ⟨_, (pss_cons (ps_set (i := 3) sc_with_prior.nd rfl (Or.inl rfl) (pe_hm0 (pv 0) T.cl_Setting h_Setting_duplicate hr (by decide) (E := fun _ => E0) (fun _ _ _ _ _ _ _ h => h.elim) ))
      (pss_cons (ps_fldK (K := K) (pv 3) (pv 1))
      (pss_cons (ps_fldK (K := K) (pv 3) (pv 2))
      (pss_one (ps_ret (pv 3)))))), ?go⟩)
  case len =>
    obtain ⟨H0, R, e0, ⟨a, s, t, p, n, m, rfl, _⟩, _⟩ := h
    rfl
  case go =>
    obtain ⟨H0, R, e0, ⟨a, s, t, p, n, m, rfl, hS, g, rfl⟩, k⟩ := h
    have hS := hS.mono e0
    refine q_asgMP (by walk_at "ev") hS lk_dup ea_nil (sp_dup (K := K) hS g) fun v H1 e1 hv => ?_
    obtain ⟨a1, t1, p1, rfl, hS1, na, nt, np⟩ := hv
    refine q_setI (s' := { s with model := { s.model with priorNum := n } }) hS1 (by walk_at "ev") (by walk_at "ev") T T.nA_Setting_prior_num (by walk_at "pt") rfl rfl fun H2 hS2 b2 => ?_
    have E2 := ex_but e1 b2 na
    refine q_setI (s' := sP s n m) hS2 (by walk_at "ev") (by walk_at "ev") T T.nA_Setting_prior_den (by walk_at "pt") rfl rfl fun H3 hS3 b3 => ?_
    have E3 := ex_but E2 b3 na
    refine s_ret (by walk_at "ev") fun H4 e4 => ?_
    exact k _ _ (E3.trans e4) ⟨a1, t1, p1, rfl, hS3.mono e4, fresh_back e0 na, fresh_back e0 nt, fresh_back e0 np⟩
theorem ok_with_stakes {f : Addr} {fd : FuncData} (T : Tx K mg A) (h_Setting_duplicate : HasM P w K mg base CX0 3 A.cSetting "duplicate" ["self"] (sp_Setting_duplicate K A))
    (F : Fun K "with_stakes" "with_stakes" s_with_stakes f fd) : FnOk P w K mg base CX0 4 f fd ["setting", "gain", "loss"] (sp_with_stakes K A) := by
  refine F.ok sc_with_stakes (fun vs H Q E h => ?len) (fun cdv ar outer s H vs Q E hr h => ⟨_, (pss_cons (ps_set (i := 3) sc_with_stakes.nd rfl (Or.inl rfl) (pe_hm0 (pv 0) T.cl_Setting h_Setting_duplicate hr (by decide) (E := fun _ => E0) (fun _ _ _ _ _ _ _ h => h.elim) ))
      (pss_cons (ps_fldK (K := K) (pv 3) (pv 1))
      (pss_cons (ps_fldK (K := K) (pv 3) (pv 2))
      (pss_one (ps_ret (pv 3)))))), ?go⟩)
  case len =>
    obtain ⟨H0, R, e0, ⟨a, s, t, p, n, m, rfl, _⟩, _⟩ := h
    rfl
  case go =>
    obtain ⟨H0, R, e0, ⟨a, s, t, p, n, m, rfl, hS, g, rfl⟩, k⟩ := h
    have hS := hS.mono e0
    refine q_asgMP (by walk_at "ev") hS lk_dup ea_nil (sp_dup (K := K) hS g) fun v H1 e1 hv => ?_
    obtain ⟨a1, t1, p1, rfl, hS1, na, nt, np⟩ := hv
    refine q_setI (s' := { s with gain := n }) hS1 (by walk_at "ev") (by walk_at "ev") T T.nA_Setting_gain (by walk_at "pt") rfl rfl fun H2 hS2 b2 => ?_
    have E2 := ex_but e1 b2 na
    refine q_setI (s' := sS s n m) hS2 (by walk_at "ev") (by walk_at "ev") T T.nA_Setting_loss (by walk_at "pt") rfl rfl fun H3 hS3 b3 => ?_
    have E3 := ex_but E2 b3 na
    refine s_ret (by walk_at "ev") fun H4 e4 => ?_
    exact k _ _ (E3.trans e4) ⟨a1, t1, p1, rfl, hS3.mono e4, fresh_back e0 na, fresh_back e0 nt, fresh_back e0 np⟩
theorem ok_with_merge {f : Addr} {fd : FuncData} (T : Tx K mg A) (h_Setting_duplicate : HasM P w K mg base CX0 3 A.cSetting "duplicate" ["self"] (sp_Setting_duplicate K A))
    (h_Setting_merge : HasM P w K mg base CX0 2 A.cSetting "merge" ["self", "mapping"] (sp_Setting_merge K A))
    (F : Fun K "with_merge" "with_merge" s_with_merge f fd) : FnOk P w K mg base CX0 4 f fd ["setting", "mapping"] (sp_with_merge K A) := by
  refine F.ok sc_with_merge (fun vs H Q E h => ?len) (fun cdv ar outer s H vs Q E hr h => ⟨_, (pss_cons (ps_set (i := 2) sc_with_merge.nd rfl (Or.inl rfl) (pe_hm0 (pv 0) T.cl_Setting h_Setting_duplicate hr (by decide) (E := fun _ => E0) (fun _ _ _ _ _ _ _ h => h.elim) ))
      (pss_cons (ps_expr (pe_hm (pv 2) T.cl_Setting h_Setting_merge hr (by decide) (E := fun _ => E0) (fun _ _ _ _ _ _ _ h => h.elim) (pa_cons (pv 1) pa_nil)))
      (pss_one (ps_ret (pv 2))))), ?go⟩)
  case len =>
    obtain ⟨H0, R, e0, ⟨a, s, t, p, b, ms, rfl, _⟩, _⟩ := h
    rfl
  case go =>
    obtain ⟨H0, R, e0, ⟨a, s, t, p, b, ms, rfl, hS, g, hb, hl, hx, rfl⟩, k⟩ := h
    have hS := hS.mono e0
    have hb := e0 b _ hb
    refine q_asgMP (by walk_at "ev") hS lk_dup ea_nil (sp_dup (K := K) hS g) fun v H1 e1 hv => ?_
    obtain ⟨a1, t1, p1, rfl, hS1, na, nt, np⟩ := hv
    refine q_dropM (vs := [.ref b]) (by walk_at "ev") hS1 lk_mrg (by walk_at "ea") fun H2 e2 => ⟨a1, s, t1, p1, b, ms, rfl, hS1.mono e2, g, (e1.trans e2) b _ hb, hl, hx, fun H3 t3 p3 hS3 nt3 np3 b3 => ?_⟩
    have E2 := e1.trans e2
    have E3 := ex_but E2 b3 na
    refine s_ret (by walk_at "ev") fun H4 e4 => ?_
    exact k _ _ (E3.trans e4) ⟨a1, t3, p3, rfl, hS3.mono e4, fresh_back e0 na, fresh_back e0 (fresh_back E2 nt3), fresh_back e0 (fresh_back E2 np3)⟩
end
end Dt

set_option Elab.async false
set_option linter.all false
set_option maxRecDepth 100000
set_option maxHeartbeats 600000
namespace Dt
open PySem PySem.Spec PyProof.Rows L2 Evl
local macro_rules | `(tactic| walk_at "lk") => `(tactic| first | exact lk_here | (refine (lk_past ?_).trans ?_; (· decide +kernel); walk_at "lk"))
local macro_rules | `(tactic| walk_at "bd") => `(tactic| first | assumption | exact Good.bt (by assumption) | exact Good.bp (by assumption) | exact Good.bn (by assumption) | exact Good.bd (by assumption) | exact Good.bg (by assumption) | exact Good.bl (by assumption) | exact Good.bh (by assumption) | exact Good.bc (by assumption) | exact Good.btw (by assumption) _ | exact Good.bpw (by assumption) _ | exact bd_mul (by walk_at "bd") (by walk_at "bd") | exact bd_add (by walk_at "bd") (by walk_at "bd") | exact bd_sub (by walk_at "bd") (by walk_at "bd"))
local macro_rules | `(tactic| walk_at "cm") => `(tactic| first | assumption | exact bd_cmul (by walk_at "bd") (by walk_at "bd") (by decide))
local macro_rules | `(tactic| walk_at "ev") => `(tactic| first
  | with_reducible exact ev_c
  | ((with_reducible refine' ev_var ?h); (case h => exact rfl))
  | ((with_reducible refine' f_tsum ?e ?h ?t); (case e => walk_at "ev"); (case h => assumption); (case t => assumption))
  | ((with_reducible refine' f_psum ?e ?h ?t); (case e => walk_at "ev"); (case h => assumption); (case t => assumption))
  | ((with_reducible refine' f_tix ?e ?i ?h ?t ?l); (case e => walk_at "ev"); (case i => walk_at "ev"); (case h => assumption); (case t => assumption); (case l => assumption))
  | ((with_reducible refine' f_pix ?e ?i ?h ?t ?g ?l); (case e => walk_at "ev"); (case i => walk_at "ev"); (case h => assumption); (case t => assumption); (case g => assumption); (case l => assumption))
  | ((with_reducible refine' f_count ?e ?h ?t); (case e => walk_at "ev"); (case h => assumption); (case t => assumption))
  | ((with_reducible refine' f_tw ?e ?h ?t); (case e => walk_at "ev"); (case h => assumption); (case t => assumption))
  | ((with_reducible refine' f_pw ?e ?h ?t); (case e => walk_at "ev"); (case h => assumption); (case t => assumption))
  | ((with_reducible refine' f_pn ?e ?h ?t); (case e => walk_at "ev"); (case h => assumption); (case t => assumption))
  | ((with_reducible refine' f_pd ?e ?h ?t); (case e => walk_at "ev"); (case h => assumption); (case t => assumption))
  | ((with_reducible refine' f_ga ?e ?h ?t); (case e => walk_at "ev"); (case h => assumption); (case t => assumption))
  | ((with_reducible refine' f_lo ?e ?h ?t); (case e => walk_at "ev"); (case h => assumption); (case t => assumption))
  | ((with_reducible refine' f_hp ?e ?h ?t); (case e => walk_at "ev"); (case h => assumption); (case t => assumption))
  | ((with_reducible refine' f_tp ?e ?h ?t); (case e => walk_at "ev"); (case h => assumption); (case t => assumption))
  | ((with_reducible refine' ev_gt ?a ?b); (case a => walk_at "ev"); (case b => walk_at "ev"))
  | ((with_reducible refine' ev_lt ?a ?b); (case a => walk_at "ev"); (case b => walk_at "ev"))
  | ((with_reducible refine' ev_ge ?a ?b); (case a => walk_at "ev"); (case b => walk_at "ev"))
  | ((with_reducible refine' ev_le ?a ?b); (case a => walk_at "ev"); (case b => walk_at "ev"))
  | ((with_reducible refine' ev_eqI ?a ?b); (case a => walk_at "ev"); (case b => walk_at "ev"))
  | ((with_reducible refine' ev_neI ?a ?b); (case a => walk_at "ev"); (case b => walk_at "ev"))
  | ((with_reducible refine' ev_add ?a ?b); (case a => walk_at "ev"); (case b => walk_at "ev"))
  | ((with_reducible refine' ev_sub ?a ?b); (case a => walk_at "ev"); (case b => walk_at "ev"))
  | ((with_reducible refine' ev_mul ?a ?b ?c); (case a => walk_at "ev"); (case b => walk_at "ev"); (case c => walk_at "cm"))
  | ((with_reducible refine' ev_div ?a ?b ?c); (case a => walk_at "ev"); (case b => walk_at "ev"); (case c => assumption))
  | ((with_reducible refine' ev_mod ?a ?b ?c); (case a => walk_at "ev"); (case b => walk_at "ev"); (case c => assumption))
  | ((with_reducible refine' ev_absI ?a); (case a => walk_at "ev"))
  | ((with_reducible refine' ev_callH ?a ?s); (case a => walk_at "ea"); (case s => walk_at "sp"))
  | ((with_reducible refine' ev_sumN ?a); (case a => walk_at "el")))
local macro_rules | `(tactic| walk_at "ea") => `(tactic| first
  | with_reducible exact ea_nil
  | ((with_reducible refine' ea_cons ?a ?b); (case a => walk_at "ev"); (case b => walk_at "ea")))
local macro_rules | `(tactic| walk_at "el") => `(tactic| first
  | ((with_reducible refine' el_lst ?a ?b); (case a => walk_at "ea"); (case b => exact Nat.le_of_ble_eq_true rfl))
  | ((with_reducible refine' el_callH ?a ?s); (case a => walk_at "ea"); (case s => walk_at "sp")))
local macro_rules | `(tactic| walk_at "st") => `(tactic| first
  | ((with_reducible refine' q_asg ?e ?k); (case e => walk_at "ev"))
  | ((with_reducible refine' q_asgL ?e ?k); (case e => walk_at "el"))
  | ((with_reducible refine' s_asg ?e ?k); (case e => walk_at "ev"))
  | ((with_reducible refine' s_asgL ?e ?k); (case e => walk_at "el"))
  | ((with_reducible refine' s_ret ?e ?k); (case e => walk_at "ev"))
  | ((with_reducible refine' s_retL ?e ?k); (case e => walk_at "el")))
local macro_rules | `(tactic| walk_at "et") => `(tactic| first
  | ((with_reducible refine' et_test ?e); (case e => walk_at "ev"))
  | ((with_reducible refine' et_or ?e ?f); (case e => walk_at "et"); (case f => (intro _; walk_at "et")))
  | with_reducible exact et_yes)
local macro_rules | `(tactic| walk_at "sp") => `(tactic| assumption)
local macro_rules | `(tactic| walk_at "if") => `(tactic| first
  | ((with_reducible refine' q_when ?e ?k1 ?k2); (case e => walk_at "et"))
  | ((with_reducible refine' s_when ?e ?k1 ?k2); (case e => walk_at "et"))
  | ((with_reducible refine' q_if ?e ?k1 ?k2); (case e => walk_at "et"))
  | ((with_reducible refine' s_if ?e ?k1 ?k2); (case e => walk_at "et")))
local macro_rules | `(tactic| walk_at "pt") => `(tactic| first | exact put_here | (refine put_step ?_ ?_; (· decide +kernel); walk_at "pt"))
local macro_rules | `(tactic| walk_at "ev") => `(tactic| first
  | ((with_reducible refine' ev_ix0 ?e ?h); (case e => walk_at "ev"); (case h => assumption))
  | ((with_reducible refine' ev_ix1 ?e ?h); (case e => walk_at "ev"); (case h => assumption)))
open Kp415 (signalCount)
def sp_counted_signals (K : PySem.W.Frag) (A : AdT) : Sp := spLst fun vs H xs => ∃ a s t p, vs = [.ref a] ∧ SetAt A H a s t p ∧ Good s ∧ xs = iV (((paying s).length : Int) :: natI (paying s))
def CandsAt (H0 : Hp) (s : Stg) (v : V) (H' : Hp) : Prop := ∃ q ws, v = .ref q ∧ H0 q = none ∧ H' q = some (.lst ws) ∧ AllAt H' ws ((cands s).map iV)
def sp_priors_to_compare (K : PySem.W.Frag) (A : AdT) : Sp := spRet fun vs H R => ∃ a s t p, vs = [.ref a] ∧ SetAt A H a s t p ∧ Good s ∧ R = CandsAt H s
def CheapAt (H0 : Hp) (s : Stg) (v : V) (H' : Hp) : Prop := ∃ q r1 r2 c k, bestB s = some (c, k) ∧ v = .ref q ∧ H0 q = none ∧ H' q = some (.lst [.ref r1, .ref r2]) ∧ H' r1 = some (.lst (iV c)) ∧ H' r2 = some (.lst (iV k))
def sp_cheapest_with_cost (K : PySem.W.Frag) (A : AdT) : Sp := spRet fun vs H R => ∃ a s t p, vs = [.ref a] ∧ SetAt A H a s t p ∧ Good s ∧ R = CheapAt H s
theorem cands_ok {s : Stg} (g : Good s) {q : List Int} (h : q ∈ cands s) : ∃ c d, FracOk q c d := by
  unfold cands at h
  rcases List.mem_cons.mp h with rfl | h
  · exact ⟨_, _, frac01⟩
  · rcases List.mem_cons.mp h with rfl | h
    · exact ⟨_, _, frac11⟩
    · obtain ⟨i, _, hi⟩ := List.mem_filterMap.mp h
      exact dpa_ok g hi
theorem good_sP {s : Stg} (g : Good s) {c d : Nat} (h : c ≤ d) (hd : 0 < d) (bc : Bd 64 (c : Int)) (bd : Bd 64 (d : Int)) : Good (sP s c d) where
  pos := ⟨g.pos.t, g.pos.p, by show 0 < ((d : Nat) : Int); omega⟩
  len := g.len
  n1 := g.n1
  n5 := g.n5
  bt := g.bt
  bp := g.bp
  nd := by show ((c : Nat) : Int) ≤ ((d : Nat) : Int); omega
  bn := bc
  bd := bd
  bg := g.bg
  bl := g.bl
  bh := g.bh
  bc := g.bc
/-- the cost's size -/
theorem cost_bd {s : Stg} (g : Good s) : Bd 4000 (lowN (costNum s) (costDen s)) ∧ Bd 4000 (lowD (costNum s) (costDen s)) := by
  have pl : (paying s).length ≤ 5 := by
    unfold paying
    have := List.length_filter_le (fun i => decide (0 < valNum s i)) (List.range (signalCount s.model))
    rw [List.length_range] at this
    have := g.n5
    omega
  have bs : Bd 32 ((paying s).map (pW s)).sum := sum_bdp g pl
  have hp := costDen_pos g.pos
  have b1 : Bd 4000 (costNum s) := (bd_add (bd_mul (bd_mul g.bc g.bn) g.bp) (bd_mul (bd_mul g.bh (bd_sub g.bd g.bn)) bs)).mono (by decide)
  have b2 : Bd 4000 (costDen s) := (bd_mul g.bd g.bp).mono (by decide)
  exact ⟨bd_le (lowN_le hp) b1, bd_le (lowD_le hp) b2⟩
theorem eqv2 (a b c d : Int) : PyData.eqv (.list ([a, b].map PyData.int)) (.list ([c, d].map PyData.int)) = decide ([a, b] = [c, d]) := by
  by_cases h1 : a = c <;> by_cases h2 : b = d <;> simp [PyData.eqv, PyData.eqvAll, h1, h2]
theorem shaped2 (a b : Int) : SeqAt.shaped (.list ([a, b].map PyData.int)) = true := by
  simp [SeqAt.shaped, PyData.canLay0, PyData.canLayAll0, PyData.depth, PyData.depthAll]
/-- the best so far, as the two names hold it -/
def BestAt (H : Hp) (v1 v2 : V) : Option (List Int × List Int) → Prop
  | none => v1 = .non ∧ v2 = .non
  | some (c, k) => ∃ r1 r2 c0 c1 k0 k1, v1 = .ref r1 ∧ v2 = .ref r2 ∧ H r1 = some (.lst (iV c)) ∧ H r2 = some (.lst (iV k)) ∧ FracOk c c0 c1 ∧ k = [k0, k1] ∧ Bd 4000 k0 ∧ Bd 4000 k1
theorem BestAt.mono {H H' : Hp} {v1 v2 : V} (e : Ex H H') : ∀ {o : Option (List Int × List Int)}, BestAt H v1 v2 o → BestAt H' v1 v2 o
  | none, h => h
  | some (c, k), ⟨r1, r2, c0, c1, k0, k1, h1, h2, h3, h4, h5⟩ => ⟨r1, r2, c0, c1, k0, k1, h1, h2, e r1 _ h3, e r2 _ h4, h5⟩
section
variable {K : PySem.W.Frag} {σ : L2.St} {H : Hp} {ta tb tl : TE} {R R1 : V → Hp → Prop} {g : TG} {tu tz : TS} {D : Ends} {xs ys : List V}
theorem ep_lst2 (ha : EvL ta σ H xs) (hb : EvL tb σ H ys) : EvP (tLst (tCons ta (tCons tb tNil))) σ H fun v H2 => ∃ q r1 r2, v = .ref q ∧ H q = none ∧ H2 q = some (.lst [.ref r1, .ref r2]) ∧ H2 r1 = some (.lst xs) ∧ H2 r2 = some (.lst ys) := fun H0 e Q k =>
  ha H0 e _ fun r1 H1 n1 e1 h1 => hb H1 (e.trans e1) _ fun r2 H2 n2 e2 h2 => ⟨sz_of (by show 2 ≤ 100000; decide), fun q hq => by
    have E := Ex.new (H := H2) (o := .lst [.ref r1, .ref r2]) hq
    exact k _ _ ((e1.trans e2).trans E) ⟨q, r1, r2, rfl, fresh_back e (fresh_back e1 (fresh_back e2 hq)), upd_same, E r1 _ (e2 r1 _ h1), E r2 _ h2⟩⟩
theorem ep_catP (ha : EvP ta σ H R1) (hb : ∀ v H1, Ex H H1 → R1 v H1 → ∃ p xs ys, v = .ref p ∧ H1 p = some (.lst xs) ∧ xs.length ≤ 50000 ∧ ys.length ≤ 50000 ∧ EvL tb σ H1 ys ∧ (∀ l H2, H l = none → Ex H1 H2 → H2 l = some (.lst (xs ++ ys)) → R (.ref l) H2)) : EvP (tOp rCat ta tb) σ H R := fun H0 e Q k =>
  ha H0 e _ fun v H1 e1 r => by
    obtain ⟨p, xs, ys, rfl, hp, l1, l2, hb, hR⟩ := hb v H1 (e.trans e1) r
    exact hb H1 (Ex.refl H1) _ fun q H2 n2 e2 h2 => ⟨p, q, xs, ys, rfl, rfl, e2 p _ hp, h2, sz_of (by omega), fun l hl => k _ _ ((e1.trans e2).trans (Ex.new hl)) (hR l _ (fresh_back (e.trans (e1.trans e2)) hl) (e2.trans (Ex.new hl)) upd_same)⟩
theorem q_forP (h : EvP tl σ H R) (k : ∀ v H1, Ex H H1 → R v H1 → ∃ a xs, v = .ref a ∧ SqL K H1 a xs ∧ ∃ Pv : Nat → L2.St → Hp → Prop, Pv 0 σ H1 ∧ (∀ i σ' H', i ≤ xs.length → Pv i σ' H' → SqL K H' a xs) ∧
    (∀ i x σ' H', xs[i]? = some x → Pv i σ' H' → g x σ' H' fun σ2 H2 => tu { D with nx := Pv (i + 1), ct := Pv (i + 1), bk := tz D } σ2 H2) ∧ (∀ σ' H', Pv xs.length σ' H' → tz D σ' H')) : tSeq (tFor (iList K tl) g tu) tz D σ H :=
  h H (Ex.refl H) _ fun v H1 e1 r => by
    obtain ⟨a, xs, rfl, hx, Pv, h0, hl, hs, hd⟩ := k v H1 e1 r
    exact ⟨a, rfl, ⟨xs, hx⟩, for_list (D := { D with nx := tz D }) Pv h0 hl hs hd⟩
end
section
variable {P : Program} {w : World} {K : PySem.W.Frag} {mg : Str → Option Value} {base : Heap} {A : AdT}
theorem sl_counted {H : Hp} {a t p : Addr} {s : Stg} (h : SetAt A H a s t p) (g : Good s) : SpL (sp_counted_signals K A) [.ref a] H (iV (((paying s).length : Int) :: natI (paying s))) := sl_of ⟨a, s, t, p, rfl, h, g, rfl⟩
theorem sp_cands {H : Hp} {a t p : Addr} {s : Stg} (h : SetAt A H a s t p) (g : Good s) : SpP (sp_priors_to_compare K A) [.ref a] H (CandsAt H s) := sp_of ⟨a, s, t, p, rfl, h, g, rfl⟩
theorem sp_cheap {H : Hp} {a t p : Addr} {s : Stg} (h : SetAt A H a s t p) (g : Good s) : SpP (sp_cheapest_with_cost K A) [.ref a] H (CheapAt H s) := sp_of ⟨a, s, t, p, rfl, h, g, rfl⟩
theorem ok_counted_signals {f : Addr} {fd : FuncData} (T : Tx K mg A) (h_paying_signals : Has P w K mg base CX0 2 "paying_signals" ["setting"] (sp_paying_signals K A))
    (F : Fun K "counted_signals" "counted_signals" s_counted_signals f fd) : FnOk P w K mg base CX0 3 f fd ["setting"] (sp_counted_signals K A) := by
  refine F.ok sc_counted_signals (fun vs H Q E h => ?len) (fun cdv ar outer s H vs Q E hr h => ⟨_, (pss_cons (ps_set (i := 1) sc_counted_signals.nd rfl (Or.inl rfl) (pe_h h_paying_signals hr (by decide) pass0 (pa_cons (pv 0) pa_nil)))
      (pss_one (ps_ret (pe_op op_cat (pe_lst (pa_cons (pe_callB (cr_lenK (K := K)) (by rfl) T.b_len (by decide +kernel) (pa_cons (pv 1) pa_nil)) pa_nil)) (pv 1))))), ?go⟩)
  case len =>
    obtain ⟨H0, z, e0, ⟨a, s, t, p, rfl, _⟩, _⟩ := h
    rfl
  case go =>
    obtain ⟨H0, z, e0, ⟨a, s, t, p, rfl, hS, g, rfl⟩, k⟩ := h
    have hS := hS.mono e0
    have sl := sl_paying_signals (K := K) hS g
    have pl : (paying s).length ≤ 5 := by
      unfold paying
      have := List.length_filter_le (fun i => decide (0 < valNum s i)) (List.range (signalCount s.model))
      rw [List.length_range] at this
      have := g.n5
      omega
    walk_at "st"
    intro q H1 hq e1 h1
    refine s_retL (el_catR (el_lst (ea_cons (ev_len (by walk_at "ev") (sq_of h1)) ea_nil) (Nat.le_of_ble_eq_true rfl)) (by walk_at "ev") h1 (by rw [nats_len]; show 1 + _ ≤ _; omega)) fun r H2 hr e2 h2 => ?_
    rw [nats_len, nats_eq] at h2
    exact k.go e1 hr e2 h2
theorem ok_priors_to_compare {f : Addr} {fd : FuncData} (T : Tx K mg A) (h_prior_against : Has P w K mg base CX0 3 "prior_against" ["setting", "signal"] (sp_prior_against K A))
    (F : Fun K "priors_to_compare" "priors_to_compare" s_priors_to_compare f fd) : FnOk P w K mg base CX0 4 f fd ["setting"] (sp_priors_to_compare K A) := by
  refine F.ok sc_priors_to_compare (fun vs H Q E h => ?len) (fun cdv ar outer s H vs Q E hr h => ⟨_, (pss_cons (ps_setLc (i := 1) (own := [("signal", 2)]) (g := gName 2) (by rfl) sc_priors_to_compare.nd rfl rfl (sw_true rfl rfl rfl (by decide +kernel)) (pi_range1 (by rfl) T.b_range (pa_cons (pe_fldK (K := K) (pv 0)) pa_nil)) (blkOk_by (N := n_priors_to_compare) (sc := defScope s_priors_to_compare) (by decide +kernel)) (fun _ _ _ _ _ => pg_name (i := 2) sc_priors_to_compare.nd rfl (Or.inl rfl)) (fun _ _ _ _ _ => pts_nil) (fun _ _ _ _ _ => (by exact (pe_h h_prior_against hr (by decide) pass0 (pa_cons (pv 0) (pa_cons (pv 2) pa_nil))))))
      (pss_one (ps_ret (pe_op op_cat (pe_lst (pa_cons (pe_lst (pa_cons pe_int (pa_cons pe_int pa_nil))) (pa_cons (pe_lst (pa_cons pe_int (pa_cons pe_int pa_nil))) pa_nil))) (pe_lc (own := [("prior", 3)]) (g := gName 3) (by rfl) sc_priors_to_compare.nd (pi_listK (K := K) (pv 1)) (blkOk_by (N := n_priors_to_compare) (sc := defScope s_priors_to_compare) (by decide +kernel)) (fun _ _ _ _ _ => pg_name (i := 3) sc_priors_to_compare.nd rfl (Or.inl rfl)) (fun _ _ _ _ _ => (pts_one (by exact (pt_cmpR o_notN (pv 3) pe_non (nomark _))))) (fun _ _ _ _ _ => (by exact (pv 3)))))))), ?go⟩)
  case len =>
    obtain ⟨H0, R, e0, ⟨a, s, t, p, rfl, _⟩, _⟩ := h
    rfl
  case go =>
    obtain ⟨H0, R, e0, ⟨a, s, t, p, rfl, hS, g, rfl⟩, k⟩ := h
    have hS := hS.mono e0
    have n5 := g.n5
    refine q_asgP (ep_cOpt (n := signalCount s.model) (fun i => (dpa s i).map iV) (by walk_at "ea") (by omega) (fun _ => rfl) (fun i H1 e hi => ep_callH (by walk_at "ea") (sp_prior_against_at (K := K) (hS.mono e) g hi))) fun v H1 e1 hv => ?_
    obtain ⟨q, ws, rfl, hq, hw, hlen, hall⟩ := hv
    have hsome := AllOpt.only hall
    rw [List.filterMap_map] at hsome
    refine s_retP (ep_catP (R := fun v H' => ∃ q ws, v = .ref q ∧ H1 q = none ∧ H' q = some (.lst ws) ∧ AllAt H' ws ((cands s).map iV)) (ep_lst2 (el_lst (ea_cons ev_c (ea_cons ev_c ea_nil)) (Nat.le_of_ble_eq_true rfl)) (el_lst (ea_cons ev_c (ea_cons ev_c ea_nil)) (Nat.le_of_ble_eq_true rfl))) fun v H2 e2 hv => ?_) fun v H2 e2 hv => ?_
    · obtain ⟨l, r1, r2, rfl, hl, hl2, h1, h2⟩ := hv
      refine ⟨l, [.ref r1, .ref r2], (ws.filter fun v => !decide (v = .non)).map (fun v => v), rfl, hl2, by show 2 ≤ 50000; decide, ?_, el_cL ws (fun v => v) (fun v => !decide (v = .non)) (fun v => v) (by walk_at "ev") (by rw [List.map_id']; exact sq_of (e2 q _ hw)) (by omega) (fun _ => rfl) (fun x hx H3 e3 => et_test (ev_notN (ev_var rfl))) (fun x hx H3 e3 _ => ev_var rfl), fun m H3 hm e3 h3 => ?_⟩
      · rw [List.map_id']
        have := List.length_filter_le (fun v => !decide (v = V.non)) ws
        omega
      · rw [List.map_id'] at h3
        refine ⟨m, _, rfl, hm, h3, ⟨r1, rfl, e3 r1 _ h1⟩, ⟨r2, rfl, e3 r2 _ h2⟩, ?_⟩
        have q := AllAt.mono (e2.trans e3) hsome
        rw [List.map_filterMap]
        exact q
    · obtain ⟨l, ws2, rfl, hl, hl2, hA⟩ := hv
      exact k _ _ (e1.trans e2) ⟨l, ws2, rfl, fresh_back e0 (fresh_back e1 hl), hl2, hA⟩
theorem ok_cheapest_with_cost {f : Addr} {fd : FuncData} (T : Tx K mg A) (h_is_less : Has P w K mg base CX0 1 "is_less" ["left", "right"] (sp_is_less K A))
    (h_with_prior : Has P w K mg base CX0 4 "with_prior" ["setting", "num", "den"] (sp_with_prior K A))
    (h_cost_of : Has P w K mg base CX0 4 "cost_of" ["setting"] (sp_cost_of K A))
    (h_priors_to_compare : Has P w K mg base CX0 4 "priors_to_compare" ["setting"] (sp_priors_to_compare K A))
    (F : Fun K "cheapest_with_cost" "cheapest_with_cost" s_cheapest_with_cost f fd) : FnOk P w K mg base CX0 5 f fd ["setting"] (sp_cheapest_with_cost K A) := by
  refine F.ok sc_cheapest_with_cost (fun vs H Q E h => ?len) (fun cdv ar outer s H vs Q E hr h => ⟨_, (pss_cons (ps_set (i := 1) sc_cheapest_with_cost.nd rfl (Or.inl rfl) pe_non)
      (pss_cons (ps_set (i := 2) sc_cheapest_with_cost.nd rfl (Or.inl rfl) pe_non)
      (pss_cons (ps_for PassesOwn.never rfl (pi_listK (K := K) (pe_h h_priors_to_compare hr (by decide) pass0 (pa_cons (pv 0) pa_nil))) (pg_name (i := 3) sc_cheapest_with_cost.nd rfl (Or.inl rfl)) (pss_cons (ps_set (i := 4) sc_cheapest_with_cost.nd rfl (Or.inl rfl) (pe_h h_cost_of hr (by decide) pass0 (pa_cons (pe_h h_with_prior hr (by decide) pass0 (pa_cons (pv 0) (pa_cons (pe_ixK (K := K) (pv 3) pe_int) (pa_cons (pe_ixK (K := K) (pv 3) pe_int) pa_nil)))) pa_nil)))
      (pss_one (ps_if (PW.pt (pw_or (pt_cmpR o_isN (pv 1) pe_non (nomark _)) (pw_or (pt_truthK (K := K) (pe_h h_is_less hr (by decide) pass0 (pa_cons (pv 4) (pa_cons (pv 2) pa_nil))) (by intro _; rfl)) (pw_or1 (PW.pt (pw_and (pt_cmpR (o_eqD (K := K) (huD hr)) (pv 4) (pv 2) (nomark _)) (pw_and1 (pt_truthK (K := K) (pe_h h_is_less hr (by decide) pass0 (pa_cons (pv 3) (pa_cons (pv 1) pa_nil))) (by intro _; rfl))))))))) (pss_cons (ps_set (i := 1) sc_cheapest_with_cost.nd rfl (Or.inl rfl) (pv 3))
      (pss_one (ps_set (i := 2) sc_cheapest_with_cost.nd rfl (Or.inl rfl) (pv 4)))) pss_nil))))
      (pss_one (ps_ret (pe_lst (pa_cons (pv 1) (pa_cons (pv 2) pa_nil)))))))), ?go⟩)
  case len =>
    obtain ⟨H0, R, e0, ⟨a, s, t, p, rfl, _⟩, _⟩ := h
    rfl
  case go =>
    obtain ⟨H0, R, e0, ⟨a, s, t, p, rfl, hS, g, rfl⟩, k⟩ := h
    have hS := hS.mono e0
    refine q_asg ev_c fun H1 e1 => ?_
    refine q_asg ev_c fun H2 e2 => ?_
    have E2 := e1.trans e2
    have hS2 := hS.mono E2
    refine q_forP (ep_callH (by walk_at "ea") (sp_cands (K := K) hS2 g)) fun v H3 e3 hv => ?_
    obtain ⟨l, ws, rfl, hl, hlw, hall⟩ := hv
    have E3 := E2.trans e3
    have hget := AllAt.get hall
    refine ⟨l, ws, rfl, sq_of hlw, fun i σ' H' => ∃ v1 v2 x3 x4, σ' = [some (V.ref a), some v1, some v2, x3, x4] ∧ Ex H3 H' ∧ BestAt H' v1 v2 (((cands s).take i).foldl (stepB s) none), ⟨.non, .non, none, none, rfl, Ex.refl H3, rfl, rfl⟩,
      fun i σ' H' _ p => by obtain ⟨_, _, _, _, _, e, _⟩ := p; exact sq_of (e l _ hlw), ?_, ?_⟩
    · rintro i x σ' H' hx ⟨v1, v2, x3, x4, rfl, eH, hB⟩
      obtain ⟨xs, rp, hxs, rfl, hrp⟩ := hget.2 i x hx
      rw [List.getElem?_map] at hxs
      obtain ⟨q, hq, rfl⟩ := Option.map_eq_some_iff.mp hxs
      obtain ⟨c, d, hf⟩ := cands_ok g (List.mem_of_getElem? hq)
      obtain ⟨cn, rfl⟩ : ∃ n : Nat, c = n := ⟨c.toNat, by have := hf.c0; omega⟩
      obtain ⟨dn, rfl⟩ : ∃ n : Nat, d = n := ⟨d.toNat, by have := hf.d0; omega⟩
      have hg' := good_sP g (c := cn) (d := dn) (by have := hf.cd; omega) (by have := hf.d0; omega) hf.bc hf.bd
      have hcost : costL s q = low (costNum (sP s cn dn)) (costDen (sP s cn dn)) := by
        rw [hf.eq]
        rfl
      obtain ⟨bk0, bk1⟩ := cost_bd hg'
      have E' := E3.trans eH
      have hS' := hS.mono E'
      have hrp' : H' rp = some (.lst [.int (cn : Int), .int (dn : Int)]) := by
        have := eH rp _ hrp
        rw [hf.eq] at this
        exact this
      have hstep : ((cands s).take (i + 1)).foldl (stepB s) none = stepB s (((cands s).take i).foldl (stepB s) none) q := by
        rw [take_snoc hq, List.foldl_append]
        rfl
      refine q_asgL (xs := iV (low (costNum (sP s cn dn)) (costDen (sP s cn dn)))) (el_callP (ep_callH (vs := [.ref a, .int (cn : Int), .int (dn : Int)]) (ea_cons (ev_var rfl) (ea_cons (ev_p0 (ev_var rfl) hrp') (ea_cons (ev_p1 (ev_var rfl) hrp') ea_nil))) (sp_wprior (K := K) hS' g)) fun v H4 e4 hv => ?_) fun r H5 hr e5 h5 => ?_
      · obtain ⟨a1, t1, p1, rfl, hS1, _⟩ := hv
        exact sl_cost_of (K := K) hS1 hg'
      · rw [← hcost] at h5
        have hr5 := e5 rp _ hrp'
        have hB5 := hB.mono e5
        have h5' : H5 r = some (.lst [.int (lowN (costNum (sP s cn dn)) (costDen (sP s cn dn))), .int (lowD (costNum (sP s cn dn)) (costDen (sP s cn dn)))]) := by
          rw [hcost] at h5
          exact h5
        have setb : ∀ H6, Ex H5 H6 → BestAt H6 (.ref rp) (.ref r) (some (q, costL s q)) := fun H6 e6 => ⟨rp, r, _, _, _, _, rfl, rfl, by rw [hf.eq]; exact e6 rp _ hr5, e6 r _ h5, hf, hcost, bk0, bk1⟩
        generalize hst : ((cands s).take i).foldl (stepB s) none = st at hB5 hstep
        cases st with
        | none =>
          obtain ⟨rfl, rfl⟩ := hB5
          refine s_when (b := true) (et_or (a := true) (b := false) (et_test (ev_is (ev_isN (x := V.non) (ev_var rfl)) rfl)) (fun h => by cases h)) ?_ ?_
          · intro _ H6 e6
            refine q_asg (ev_var rfl) fun H7 e7 => ?_
            refine s_asg (ev_var rfl) fun H8 e8 => ?_
            refine ⟨_, _, _, _, rfl, eH.trans (e5.trans ((e6.trans e7).trans e8)), ?_⟩
            rw [hstep]
            exact setb H8 ((e6.trans e7).trans e8)
          · intro hf
            cases hf
        | some ck =>
          obtain ⟨cc, kk⟩ := ck
          obtain ⟨r1, r2, c0, c1, k0, k1, rfl, rfl, hr1, hr2, hfc, rfl, bk0', bk1'⟩ := hB5
          have hr1' : H5 r1 = some (.lst [.int c0, .int c1]) := by
            rw [hfc.eq] at hr1
            exact hr1
          have hbest : stepB s (some (cc, [k0, k1])) q = if less (costL s q) [k0, k1] || (decide (costL s q = [k0, k1]) && less q cc) then some (q, costL s q) else some (cc, [k0, k1]) := rfl
          have hl1 : less (costL s q) [k0, k1] = decide (lowN (costNum (sP s cn dn)) (costDen (sP s cn dn)) * k1 < k0 * lowD (costNum (sP s cn dn)) (costDen (sP s cn dn))) := by
            rw [hcost]
            rfl
          have hl2 : less q cc = decide ((cn : Int) * c1 < c0 * (dn : Int)) := by
            rw [hf.eq, hfc.eq]
            rfl
          have hl3 : decide (costL s q = [k0, k1]) = decide ([lowN (costNum (sP s cn dn)) (costDen (sP s cn dn)), lowD (costNum (sP s cn dn)) (costDen (sP s cn dn))] = [k0, k1]) := by
            rw [hcost]
            rfl
          rw [hl1, hl2, hl3] at hbest
          generalize lowN (costNum (sP s cn dn)) (costDen (sP s cn dn)) = n0 at h5' bk0 hbest
          generalize lowD (costNum (sP s cn dn)) (costDen (sP s cn dn)) = n1 at h5' bk1 hbest
          rw [hbest] at hstep
          refine s_when (et_or (a := false) (et_test (ev_is (ev_isN (x := V.ref r1) (ev_var rfl)) rfl)) fun _ => et_or (et_truK (ev_callH (ea_cons (ev_var rfl) (ea_cons (ev_var rfl) ea_nil)) (sv_is_less (K := K) (A := A) h5' hr2 bk0 bk1 bk0' bk1')))
            fun _ => et_and (et_test (ev_eqD (l := [n0, n1]) (m := [k0, k1]) (ev_var rfl) (ev_var rfl) h5' hr2 (shaped2 _ _) (shaped2 _ _) (eqv2 _ _ _ _))) fun _ => et_truK (ev_callH (ea_cons (ev_var rfl) (ea_cons (ev_var rfl) ea_nil)) (sv_is_less (K := K) (A := A) hr5 hr1' (bd64 hf.bc) (bd64 hf.bd) (bd64 hfc.bc) (bd64 hfc.bd)))) ?_ ?_
          · intro hb H6 e6
            rw [Bool.false_or] at hb
            rw [if_pos hb] at hstep
            refine q_asg (ev_var rfl) fun H7 e7 => ?_
            refine s_asg (ev_var rfl) fun H8 e8 => ?_
            refine ⟨_, _, _, _, rfl, eH.trans (e5.trans ((e6.trans e7).trans e8)), ?_⟩
            rw [hstep]
            exact setb H8 ((e6.trans e7).trans e8)
          · intro hb H6 e6
            rw [Bool.false_or] at hb
            rw [if_neg (by rw [hb]; decide)] at hstep
            refine ⟨_, _, _, _, rfl, eH.trans (e5.trans e6), ?_⟩
            rw [hstep]
            exact ⟨r1, r2, c0, c1, k0, k1, rfl, rfl, e6 r1 _ hr1, e6 r2 _ hr2, hfc, rfl, bk0', bk1'⟩
    · rintro σ' H' ⟨v1, v2, x3, x4, rfl, eH, hB⟩
      rw [hget.1, List.length_map, List.take_length] at hB
      have hB : BestAt H' v1 v2 (bestB s) := hB
      have hbi := best_is g.pos
      rw [hbi] at hB
      obtain ⟨r1, r2, c0, c1, k0, k1, rfl, rfl, hr1, hr2, _⟩ := hB
      refine s_retL (el_lst (ea_cons (ev_var rfl) (ea_cons (ev_var rfl) ea_nil)) (Nat.le_of_ble_eq_true rfl)) fun q H4 hq e4 h4 => ?_
      exact k _ _ ((E3.trans eH).trans e4) ⟨q, r1, r2, _, _, hbi, rfl, fresh_back e0 (fresh_back (E3.trans eH) hq), h4, e4 r1 _ hr1, e4 r2 _ hr2⟩
end
end Dt

set_option Elab.async false
set_option linter.all false
set_option maxRecDepth 100000
set_option maxHeartbeats 600000
namespace Dt
open PySem PySem.Spec PyProof.Rows L2 Evl
local macro_rules | `(tactic| walk_at "lk") => `(tactic| first | exact lk_here | (refine (lk_past ?_).trans ?_; (· decide +kernel); walk_at "lk"))
local macro_rules | `(tactic| walk_at "bd") => `(tactic| first | assumption | exact Good.bt (by assumption) | exact Good.bp (by assumption) | exact Good.bn (by assumption) | exact Good.bd (by assumption) | exact Good.bg (by assumption) | exact Good.bl (by assumption) | exact Good.bh (by assumption) | exact Good.bc (by assumption) | exact Good.btw (by assumption) _ | exact Good.bpw (by assumption) _ | exact bd_mul (by walk_at "bd") (by walk_at "bd") | exact bd_add (by walk_at "bd") (by walk_at "bd") | exact bd_sub (by walk_at "bd") (by walk_at "bd"))
local macro_rules | `(tactic| walk_at "cm") => `(tactic| first | assumption | exact bd_cmul (by walk_at "bd") (by walk_at "bd") (by decide))
local macro_rules | `(tactic| walk_at "ev") => `(tactic| first
  | with_reducible exact ev_c
  | ((with_reducible refine' ev_var ?h); (case h => exact rfl))
  | ((with_reducible refine' f_tsum ?e ?h ?t); (case e => walk_at "ev"); (case h => assumption); (case t => assumption))
  | ((with_reducible refine' f_psum ?e ?h ?t); (case e => walk_at "ev"); (case h => assumption); (case t => assumption))
  | ((with_reducible refine' f_tix ?e ?i ?h ?t ?l); (case e => walk_at "ev"); (case i => walk_at "ev"); (case h => assumption); (case t => assumption); (case l => assumption))
  | ((with_reducible refine' f_pix ?e ?i ?h ?t ?g ?l); (case e => walk_at "ev"); (case i => walk_at "ev"); (case h => assumption); (case t => assumption); (case g => assumption); (case l => assumption))
  | ((with_reducible refine' f_count ?e ?h ?t); (case e => walk_at "ev"); (case h => assumption); (case t => assumption))
  | ((with_reducible refine' f_tw ?e ?h ?t); (case e => walk_at "ev"); (case h => assumption); (case t => assumption))
  | ((with_reducible refine' f_pw ?e ?h ?t); (case e => walk_at "ev"); (case h => assumption); (case t => assumption))
  | ((with_reducible refine' f_pn ?e ?h ?t); (case e => walk_at "ev"); (case h => assumption); (case t => assumption))
  | ((with_reducible refine' f_pd ?e ?h ?t); (case e => walk_at "ev"); (case h => assumption); (case t => assumption))
  | ((with_reducible refine' f_ga ?e ?h ?t); (case e => walk_at "ev"); (case h => assumption); (case t => assumption))
  | ((with_reducible refine' f_lo ?e ?h ?t); (case e => walk_at "ev"); (case h => assumption); (case t => assumption))
  | ((with_reducible refine' f_hp ?e ?h ?t); (case e => walk_at "ev"); (case h => assumption); (case t => assumption))
  | ((with_reducible refine' f_tp ?e ?h ?t); (case e => walk_at "ev"); (case h => assumption); (case t => assumption))
  | ((with_reducible refine' ev_gt ?a ?b); (case a => walk_at "ev"); (case b => walk_at "ev"))
  | ((with_reducible refine' ev_lt ?a ?b); (case a => walk_at "ev"); (case b => walk_at "ev"))
  | ((with_reducible refine' ev_ge ?a ?b); (case a => walk_at "ev"); (case b => walk_at "ev"))
  | ((with_reducible refine' ev_le ?a ?b); (case a => walk_at "ev"); (case b => walk_at "ev"))
  | ((with_reducible refine' ev_eqI ?a ?b); (case a => walk_at "ev"); (case b => walk_at "ev"))
  | ((with_reducible refine' ev_neI ?a ?b); (case a => walk_at "ev"); (case b => walk_at "ev"))
  | ((with_reducible refine' ev_add ?a ?b); (case a => walk_at "ev"); (case b => walk_at "ev"))
  | ((with_reducible refine' ev_sub ?a ?b); (case a => walk_at "ev"); (case b => walk_at "ev"))
  | ((with_reducible refine' ev_mul ?a ?b ?c); (case a => walk_at "ev"); (case b => walk_at "ev"); (case c => walk_at "cm"))
  | ((with_reducible refine' ev_div ?a ?b ?c); (case a => walk_at "ev"); (case b => walk_at "ev"); (case c => assumption))
  | ((with_reducible refine' ev_mod ?a ?b ?c); (case a => walk_at "ev"); (case b => walk_at "ev"); (case c => assumption))
  | ((with_reducible refine' ev_absI ?a); (case a => walk_at "ev"))
  | ((with_reducible refine' ev_callH ?a ?s); (case a => walk_at "ea"); (case s => walk_at "sp"))
  | ((with_reducible refine' ev_sumN ?a); (case a => walk_at "el")))
local macro_rules | `(tactic| walk_at "ea") => `(tactic| first
  | with_reducible exact ea_nil
  | ((with_reducible refine' ea_cons ?a ?b); (case a => walk_at "ev"); (case b => walk_at "ea")))
local macro_rules | `(tactic| walk_at "el") => `(tactic| first
  | ((with_reducible refine' el_lst ?a ?b); (case a => walk_at "ea"); (case b => exact Nat.le_of_ble_eq_true rfl))
  | ((with_reducible refine' el_callH ?a ?s); (case a => walk_at "ea"); (case s => walk_at "sp")))
local macro_rules | `(tactic| walk_at "st") => `(tactic| first
  | ((with_reducible refine' q_asg ?e ?k); (case e => walk_at "ev"))
  | ((with_reducible refine' q_asgL ?e ?k); (case e => walk_at "el"))
  | ((with_reducible refine' s_asg ?e ?k); (case e => walk_at "ev"))
  | ((with_reducible refine' s_asgL ?e ?k); (case e => walk_at "el"))
  | ((with_reducible refine' s_ret ?e ?k); (case e => walk_at "ev"))
  | ((with_reducible refine' s_retL ?e ?k); (case e => walk_at "el")))
local macro_rules | `(tactic| walk_at "et") => `(tactic| first
  | ((with_reducible refine' et_test ?e); (case e => walk_at "ev"))
  | ((with_reducible refine' et_or ?e ?f); (case e => walk_at "et"); (case f => (intro _; walk_at "et")))
  | with_reducible exact et_yes)
local macro_rules | `(tactic| walk_at "sp") => `(tactic| assumption)
local macro_rules | `(tactic| walk_at "if") => `(tactic| first
  | ((with_reducible refine' q_when ?e ?k1 ?k2); (case e => walk_at "et"))
  | ((with_reducible refine' s_when ?e ?k1 ?k2); (case e => walk_at "et"))
  | ((with_reducible refine' q_if ?e ?k1 ?k2); (case e => walk_at "et"))
  | ((with_reducible refine' s_if ?e ?k1 ?k2); (case e => walk_at "et")))
local macro_rules | `(tactic| walk_at "pt") => `(tactic| first | exact put_here | (refine put_step ?_ ?_; (· decide +kernel); walk_at "pt"))
local macro_rules | `(tactic| walk_at "ev") => `(tactic| first
  | ((with_reducible refine' ev_ix0 ?e ?h); (case e => walk_at "ev"); (case h => assumption))
  | ((with_reducible refine' ev_ix1 ?e ?h); (case e => walk_at "ev"); (case h => assumption)))
open Kp415 (signalCount)
section
variable {P : Program} {w : World} {K : PySem.W.Frag} {mg : Str → Option Value} {base : Heap} {A : AdT}
theorem ok_set_prior {f : Addr} {fd : FuncData} (T : Tx K mg A) (h_check_prior : Has P w K mg base (L2.CX P w) 1 "check_prior" ["num", "den"] (sp_check_prior K A))
    (F : Fun K "set_prior" "set_prior" s_set_prior f fd) : FnOk P w K mg base (L2.CX P w) 2 f fd ["setting", "numbers"] (sp_set_prior K A) := by
  refine F.okX sc_set_prior (fun vs H Q E h => ?len) (fun cdv ar outer s H vs Q E hr h => ⟨_, (pss_cons (ps_expr (pe_h h_check_prior hr (by decide) (passU (takes_of rfl rfl rfl rfl)) (pa_cons (pe_ixK (K := K) (pv 1) pe_int) (pa_cons (pe_ixK (K := K) (pv 1) pe_int) pa_nil))))
      (pss_cons (ps_set (i := 2) sc_set_prior.nd rfl (Or.inl rfl) (pe_lst (pa_cons pe_int (pa_cons (pe_fldK (K := K) (pv 0)) (pa_cons (pe_fldK (K := K) (pv 0)) pa_nil)))))
      (pss_cons (ps_fldK (K := K) (pv 0) (pe_ixK (K := K) (pv 1) pe_int))
      (pss_cons (ps_fldK (K := K) (pv 0) (pe_ixK (K := K) (pv 1) pe_int))
      (pss_one (ps_ret (pv 2))))))), ?go⟩)
  case len =>
    obtain ⟨a, b, s, t, p, ns, rfl, _⟩ := h
    rfl
  case go =>
    obtain ⟨a, b, s, t, p, ns, rfl, hS, ok, hb, hask, kx, ky⟩ := h
    obtain ⟨x, y, rfl⟩ := two_of hask
    refine q_chk (r := if (y : Int) < 1 ∨ 99 < (y : Int) ∨ (y : Int) < x then some A.xOutsideLimits else none) (by walk_at "ea") ⟨_, _, rfl, rfl⟩ ?_ ?_
    · intro z hz H1 e1
      by_cases hc : (y : Int) < 1 ∨ 99 < (y : Int) ∨ (y : Int) < x
      · rw [if_pos hc] at hz
        cases hz
        exact kx _ (if_pos (show y < 1 ∨ 99 < y ∨ y < x by omega)) H1 e1
      · rw [if_neg hc] at hz
        cases hz
    · intro hz H1 e1
      by_cases hc : (y : Int) < 1 ∨ 99 < (y : Int) ∨ (y : Int) < x
      · rw [if_pos hc] at hz
        cases hz
      · have ky := ky _ _ (if_neg (show ¬ (y < 1 ∨ 99 < y ∨ y < x) by omega))
        have hS1 := hS.mono e1
        walk_at "st"
        intro r H2 hr e2 h2
        have hS2 := hS1.mono e2
        have hb2 := e2 b _ (e1 b _ hb)
        obtain ⟨dx, o2⟩ := hS2.ob
        have hba : b ≠ a := ne_of_some hb2 o2 (by intro z; cases z)
        have hra : r ≠ a := ne_of_some h2 o2 (by intro z; cases z)
        refine q_setI (s' := { s with model := { s.model with priorNum := x } }) hS2 (by walk_at "ev") (by walk_at "ev") T T.nA_Setting_prior_num (by walk_at "pt") rfl rfl fun H3 hS3 b3 => ?_
        have hb3 := b3 b _ hb2 hba
        refine q_setI (s' := { s with model := { s.model with priorNum := x, priorDen := y } }) hS3 (by walk_at "ev") (by walk_at "ev") T T.nA_Setting_prior_den (by walk_at "pt") rfl rfl fun H4 hS4 b4 => ?_
        walk_at "st"
        intro H5 e5
        exact ky H5 r t p (fresh_back e1 hr) (e5 r _ (b4 r _ (b3 r _ h2 hra) hra)) (hS4.mono e5) (.inl rfl) (.inl rfl) (((But.of (e1.trans e2)).trans b3).trans (b4.trans (But.of e5)))
theorem ok_set_stakes {f : Addr} {fd : FuncData} (T : Tx K mg A) (h_check_amounts : Has P w K mg base (L2.CX P w) 1 "check_amounts" ["first", "second"] (sp_check_amounts K A))
    (F : Fun K "set_stakes" "set_stakes" s_set_stakes f fd) : FnOk P w K mg base (L2.CX P w) 2 f fd ["setting", "numbers"] (sp_set_stakes K A) := by
  refine F.okX sc_set_stakes (fun vs H Q E h => ?len) (fun cdv ar outer s H vs Q E hr h => ⟨_, (pss_cons (ps_expr (pe_h h_check_amounts hr (by decide) (passU (takes_of rfl rfl rfl rfl)) (pa_cons (pe_ixK (K := K) (pv 1) pe_int) (pa_cons (pe_ixK (K := K) (pv 1) pe_int) pa_nil))))
      (pss_cons (ps_set (i := 2) sc_set_stakes.nd rfl (Or.inl rfl) (pe_lst (pa_cons pe_int (pa_cons (pe_fldK (K := K) (pv 0)) (pa_cons (pe_fldK (K := K) (pv 0)) pa_nil)))))
      (pss_cons (ps_fldK (K := K) (pv 0) (pe_ixK (K := K) (pv 1) pe_int))
      (pss_cons (ps_fldK (K := K) (pv 0) (pe_ixK (K := K) (pv 1) pe_int))
      (pss_one (ps_ret (pv 2))))))), ?go⟩)
  case len =>
    obtain ⟨a, b, s, t, p, ns, rfl, _⟩ := h
    rfl
  case go =>
    obtain ⟨a, b, s, t, p, ns, rfl, hS, ok, hb, hask, kx, ky⟩ := h
    obtain ⟨x, y, rfl⟩ := two_of hask
    refine q_chk (r := if 999 < (x : Int) ∨ 999 < (y : Int) then some A.xOutsideLimits else none) (by walk_at "ea") ⟨_, _, rfl, rfl⟩ ?_ ?_
    · intro z hz H1 e1
      by_cases hc : 999 < (x : Int) ∨ 999 < (y : Int)
      · rw [if_pos hc] at hz
        cases hz
        exact kx _ (if_pos (show 999 < x ∨ 999 < y by omega)) H1 e1
      · rw [if_neg hc] at hz
        cases hz
    · intro hz H1 e1
      by_cases hc : 999 < (x : Int) ∨ 999 < (y : Int)
      · rw [if_pos hc] at hz
        cases hz
      · have ky := ky _ _ (if_neg (show ¬ (999 < x ∨ 999 < y) by omega))
        have hS1 := hS.mono e1
        walk_at "st"
        intro r H2 hr e2 h2
        have hS2 := hS1.mono e2
        have hb2 := e2 b _ (e1 b _ hb)
        obtain ⟨dx, o2⟩ := hS2.ob
        have hba : b ≠ a := ne_of_some hb2 o2 (by intro z; cases z)
        have hra : r ≠ a := ne_of_some h2 o2 (by intro z; cases z)
        refine q_setI (s' := { s with gain := x }) hS2 (by walk_at "ev") (by walk_at "ev") T T.nA_Setting_gain (by walk_at "pt") rfl rfl fun H3 hS3 b3 => ?_
        have hb3 := b3 b _ hb2 hba
        refine q_setI (s' := { s with gain := x, loss := y }) hS3 (by walk_at "ev") (by walk_at "ev") T T.nA_Setting_loss (by walk_at "pt") rfl rfl fun H4 hS4 b4 => ?_
        walk_at "st"
        intro H5 e5
        exact ky H5 r t p (fresh_back e1 hr) (e5 r _ (b4 r _ (b3 r _ h2 hra) hra)) (hS4.mono e5) (.inl rfl) (.inl rfl) (((But.of (e1.trans e2)).trans b3).trans (b4.trans (But.of e5)))
theorem ok_set_prices {f : Addr} {fd : FuncData} (T : Tx K mg A) (h_check_amounts : Has P w K mg base (L2.CX P w) 1 "check_amounts" ["first", "second"] (sp_check_amounts K A))
    (F : Fun K "set_prices" "set_prices" s_set_prices f fd) : FnOk P w K mg base (L2.CX P w) 2 f fd ["setting", "numbers"] (sp_set_prices K A) := by
  refine F.okX sc_set_prices (fun vs H Q E h => ?len) (fun cdv ar outer s H vs Q E hr h => ⟨_, (pss_cons (ps_expr (pe_h h_check_amounts hr (by decide) (passU (takes_of rfl rfl rfl rfl)) (pa_cons (pe_ixK (K := K) (pv 1) pe_int) (pa_cons (pe_ixK (K := K) (pv 1) pe_int) pa_nil))))
      (pss_cons (ps_set (i := 2) sc_set_prices.nd rfl (Or.inl rfl) (pe_lst (pa_cons pe_int (pa_cons (pe_fldK (K := K) (pv 0)) (pa_cons (pe_fldK (K := K) (pv 0)) pa_nil)))))
      (pss_cons (ps_fldK (K := K) (pv 0) (pe_ixK (K := K) (pv 1) pe_int))
      (pss_cons (ps_fldK (K := K) (pv 0) (pe_ixK (K := K) (pv 1) pe_int))
      (pss_one (ps_ret (pv 2))))))), ?go⟩)
  case len =>
    obtain ⟨a, b, s, t, p, ns, rfl, _⟩ := h
    rfl
  case go =>
    obtain ⟨a, b, s, t, p, ns, rfl, hS, ok, hb, hask, kx, ky⟩ := h
    obtain ⟨x, y, rfl⟩ := two_of hask
    refine q_chk (r := if 999 < (x : Int) ∨ 999 < (y : Int) then some A.xOutsideLimits else none) (by walk_at "ea") ⟨_, _, rfl, rfl⟩ ?_ ?_
    · intro z hz H1 e1
      by_cases hc : 999 < (x : Int) ∨ 999 < (y : Int)
      · rw [if_pos hc] at hz
        cases hz
        exact kx _ (if_pos (show 999 < x ∨ 999 < y by omega)) H1 e1
      · rw [if_neg hc] at hz
        cases hz
    · intro hz H1 e1
      by_cases hc : 999 < (x : Int) ∨ 999 < (y : Int)
      · rw [if_pos hc] at hz
        cases hz
      · have ky := ky _ _ (if_neg (show ¬ (999 < x ∨ 999 < y) by omega))
        have hS1 := hS.mono e1
        walk_at "st"
        intro r H2 hr e2 h2
        have hS2 := hS1.mono e2
        have hb2 := e2 b _ (e1 b _ hb)
        obtain ⟨dx, o2⟩ := hS2.ob
        have hba : b ≠ a := ne_of_some hb2 o2 (by intro z; cases z)
        have hra : r ≠ a := ne_of_some h2 o2 (by intro z; cases z)
        refine q_setI (s' := { s with harmPrice := x }) hS2 (by walk_at "ev") (by walk_at "ev") T T.nA_Setting_harm_price (by walk_at "pt") rfl rfl fun H3 hS3 b3 => ?_
        have hb3 := b3 b _ hb2 hba
        refine q_setI (s' := { s with harmPrice := x, testPrice := y }) hS3 (by walk_at "ev") (by walk_at "ev") T T.nA_Setting_test_price (by walk_at "pt") rfl rfl fun H4 hS4 b4 => ?_
        walk_at "st"
        intro H5 e5
        exact ky H5 r t p (fresh_back e1 hr) (e5 r _ (b4 r _ (b3 r _ h2 hra) hra)) (hS4.mono e5) (.inl rfl) (.inl rfl) (((But.of (e1.trans e2)).trans b3).trans (b4.trans (But.of e5)))
end
end Dt

set_option Elab.async false
set_option linter.all false
set_option maxRecDepth 100000
set_option maxHeartbeats 600000
namespace Dt
open PySem PySem.Spec PyProof.Rows L2 Evl
local macro_rules | `(tactic| walk_at "lk") => `(tactic| first | exact lk_here | (refine (lk_past ?_).trans ?_; (· decide +kernel); walk_at "lk"))
local macro_rules | `(tactic| walk_at "bd") => `(tactic| first | assumption | exact Good.bt (by assumption) | exact Good.bp (by assumption) | exact Good.bn (by assumption) | exact Good.bd (by assumption) | exact Good.bg (by assumption) | exact Good.bl (by assumption) | exact Good.bh (by assumption) | exact Good.bc (by assumption) | exact Good.btw (by assumption) _ | exact Good.bpw (by assumption) _ | exact bd_mul (by walk_at "bd") (by walk_at "bd") | exact bd_add (by walk_at "bd") (by walk_at "bd") | exact bd_sub (by walk_at "bd") (by walk_at "bd"))
local macro_rules | `(tactic| walk_at "cm") => `(tactic| first | assumption | exact bd_cmul (by walk_at "bd") (by walk_at "bd") (by decide))
local macro_rules | `(tactic| walk_at "ev") => `(tactic| first
  | with_reducible exact ev_c
  | ((with_reducible refine' ev_var ?h); (case h => exact rfl))
  | ((with_reducible refine' f_tsum ?e ?h ?t); (case e => walk_at "ev"); (case h => assumption); (case t => assumption))
  | ((with_reducible refine' f_psum ?e ?h ?t); (case e => walk_at "ev"); (case h => assumption); (case t => assumption))
  | ((with_reducible refine' f_tix ?e ?i ?h ?t ?l); (case e => walk_at "ev"); (case i => walk_at "ev"); (case h => assumption); (case t => assumption); (case l => assumption))
  | ((with_reducible refine' f_pix ?e ?i ?h ?t ?g ?l); (case e => walk_at "ev"); (case i => walk_at "ev"); (case h => assumption); (case t => assumption); (case g => assumption); (case l => assumption))
  | ((with_reducible refine' f_count ?e ?h ?t); (case e => walk_at "ev"); (case h => assumption); (case t => assumption))
  | ((with_reducible refine' f_tw ?e ?h ?t); (case e => walk_at "ev"); (case h => assumption); (case t => assumption))
  | ((with_reducible refine' f_pw ?e ?h ?t); (case e => walk_at "ev"); (case h => assumption); (case t => assumption))
  | ((with_reducible refine' f_pn ?e ?h ?t); (case e => walk_at "ev"); (case h => assumption); (case t => assumption))
  | ((with_reducible refine' f_pd ?e ?h ?t); (case e => walk_at "ev"); (case h => assumption); (case t => assumption))
  | ((with_reducible refine' f_ga ?e ?h ?t); (case e => walk_at "ev"); (case h => assumption); (case t => assumption))
  | ((with_reducible refine' f_lo ?e ?h ?t); (case e => walk_at "ev"); (case h => assumption); (case t => assumption))
  | ((with_reducible refine' f_hp ?e ?h ?t); (case e => walk_at "ev"); (case h => assumption); (case t => assumption))
  | ((with_reducible refine' f_tp ?e ?h ?t); (case e => walk_at "ev"); (case h => assumption); (case t => assumption))
  | ((with_reducible refine' ev_gt ?a ?b); (case a => walk_at "ev"); (case b => walk_at "ev"))
  | ((with_reducible refine' ev_lt ?a ?b); (case a => walk_at "ev"); (case b => walk_at "ev"))
  | ((with_reducible refine' ev_ge ?a ?b); (case a => walk_at "ev"); (case b => walk_at "ev"))
  | ((with_reducible refine' ev_le ?a ?b); (case a => walk_at "ev"); (case b => walk_at "ev"))
  | ((with_reducible refine' ev_eqI ?a ?b); (case a => walk_at "ev"); (case b => walk_at "ev"))
  | ((with_reducible refine' ev_neI ?a ?b); (case a => walk_at "ev"); (case b => walk_at "ev"))
  | ((with_reducible refine' ev_add ?a ?b); (case a => walk_at "ev"); (case b => walk_at "ev"))
  | ((with_reducible refine' ev_sub ?a ?b); (case a => walk_at "ev"); (case b => walk_at "ev"))
  | ((with_reducible refine' ev_mul ?a ?b ?c); (case a => walk_at "ev"); (case b => walk_at "ev"); (case c => walk_at "cm"))
  | ((with_reducible refine' ev_div ?a ?b ?c); (case a => walk_at "ev"); (case b => walk_at "ev"); (case c => assumption))
  | ((with_reducible refine' ev_mod ?a ?b ?c); (case a => walk_at "ev"); (case b => walk_at "ev"); (case c => assumption))
  | ((with_reducible refine' ev_absI ?a); (case a => walk_at "ev"))
  | ((with_reducible refine' ev_callH ?a ?s); (case a => walk_at "ea"); (case s => walk_at "sp"))
  | ((with_reducible refine' ev_sumN ?a); (case a => walk_at "el")))
local macro_rules | `(tactic| walk_at "ea") => `(tactic| first
  | with_reducible exact ea_nil
  | ((with_reducible refine' ea_cons ?a ?b); (case a => walk_at "ev"); (case b => walk_at "ea")))
local macro_rules | `(tactic| walk_at "el") => `(tactic| first
  | ((with_reducible refine' el_lst ?a ?b); (case a => walk_at "ea"); (case b => exact Nat.le_of_ble_eq_true rfl))
  | ((with_reducible refine' el_callH ?a ?s); (case a => walk_at "ea"); (case s => walk_at "sp")))
local macro_rules | `(tactic| walk_at "st") => `(tactic| first
  | ((with_reducible refine' q_asg ?e ?k); (case e => walk_at "ev"))
  | ((with_reducible refine' q_asgL ?e ?k); (case e => walk_at "el"))
  | ((with_reducible refine' s_asg ?e ?k); (case e => walk_at "ev"))
  | ((with_reducible refine' s_asgL ?e ?k); (case e => walk_at "el"))
  | ((with_reducible refine' s_ret ?e ?k); (case e => walk_at "ev"))
  | ((with_reducible refine' s_retL ?e ?k); (case e => walk_at "el")))
local macro_rules | `(tactic| walk_at "et") => `(tactic| first
  | ((with_reducible refine' et_test ?e); (case e => walk_at "ev"))
  | ((with_reducible refine' et_or ?e ?f); (case e => walk_at "et"); (case f => (intro _; walk_at "et")))
  | with_reducible exact et_yes)
local macro_rules | `(tactic| walk_at "sp") => `(tactic| assumption)
local macro_rules | `(tactic| walk_at "if") => `(tactic| first
  | ((with_reducible refine' q_when ?e ?k1 ?k2); (case e => walk_at "et"))
  | ((with_reducible refine' s_when ?e ?k1 ?k2); (case e => walk_at "et"))
  | ((with_reducible refine' q_if ?e ?k1 ?k2); (case e => walk_at "et"))
  | ((with_reducible refine' s_if ?e ?k1 ?k2); (case e => walk_at "et")))
local macro_rules | `(tactic| walk_at "pt") => `(tactic| first | exact put_here | (refine put_step ?_ ?_; (· decide +kernel); walk_at "pt"))
local macro_rules | `(tactic| walk_at "ev") => `(tactic| first
  | ((with_reducible refine' ev_ix0 ?e ?h); (case e => walk_at "ev"); (case h => assumption))
  | ((with_reducible refine' ev_ix1 ?e ?h); (case e => walk_at "ev"); (case h => assumption)))
open Kp415 (signalCount)
section
variable {P : Program} {w : World} {K : PySem.W.Frag} {mg : Str → Option Value} {base : Heap} {A : AdT}
theorem ok_set_test_weights {f : Addr} {fd : FuncData} (T : Tx K mg A) (h_check_weights : Has P w K mg base (L2.CX P w) 1 "check_weights" ["weights", "signal_count"] (sp_check_weights K A))
    (F : Fun K "set_test_weights" "set_test_weights" s_set_test_weights f fd) : FnOk P w K mg base (L2.CX P w) 2 f fd ["setting", "weights"] (sp_set_test_weights K A) := by
  refine F.okX sc_set_test_weights (fun vs H Q E h => ?len) (fun cdv ar outer s H vs Q E hr h => ⟨_, (pss_cons (ps_expr (pe_h h_check_weights hr (by decide) (passU (takes_of rfl rfl rfl rfl)) (pa_cons (pv 1) (pa_cons (pe_fldK (K := K) (pv 0)) pa_nil))))
      (pss_cons (ps_fldK (K := K) (pv 0) (pe_callTy (cr_listK (K := K)) (by rfl) T.b_list (by decide +kernel) (pa_cons (pv 1) pa_nil)))
      (pss_one (ps_ret (pe_lst (pa_cons (pe_callB (cr_sumK (K := K)) (by rfl) T.b_sum (by decide +kernel) (pa_cons (pv 1) pa_nil)) pa_nil)))))), ?go⟩)
  case len =>
    obtain ⟨a, b, s, t, p, ns, rfl, _⟩ := h
    rfl
  case go =>
    obtain ⟨a, b, s, t, p, ns, rfl, hS, ok, hb, hask, kx, ky⟩ := h
    refine q_chk (r := if ns.length ≠ signalCount s.model ∨ (∃ x ∈ ns, 99 < x) ∨ (∀ x ∈ ns, x = 0) then some A.xOutsideLimits else none) (by walk_at "ea") ⟨b, ns, signalCount s.model, rfl, hb, ok.n1, rfl⟩ ?_ ?_
    · intro z hz H1 e1
      by_cases hc : ns.length ≠ signalCount s.model ∨ (∃ x ∈ ns, 99 < x) ∨ (∀ x ∈ ns, x = 0)
      · rw [if_pos hc] at hz
        cases hz
        exact kx _ (if_pos hc) H1 e1
      · rw [if_neg hc] at hz
        cases hz
    · intro hz H1 e1
      by_cases hc : ns.length ≠ signalCount s.model ∨ (∃ x ∈ ns, 99 < x) ∨ (∀ x ∈ ns, x = 0)
      · rw [if_pos hc] at hz
        cases hz
      · have ky := ky _ _ (if_neg hc)
        have hl : ns.length = signalCount s.model := Decidable.byContradiction fun z => hc (.inl z)
        have hS1 := hS.mono e1
        have hb1 := e1 b _ hb
        obtain ⟨dx, o1⟩ := hS1.ob
        have hba : b ≠ a := ne_of_some hb1 o1 (by intro z; cases z)
        refine q_setT (s' := { s with model := { s.model with testWeights := ns } }) hS1 (el_listB (by walk_at "ev") hb1) (by walk_at "ev") T T.nA_Setting_test_weights (fun q => ?_) rfl rfl fun q H2 hq hS2 b2 => ?_
        · have e : signalCount s.model = signalCount ({ s with model := { s.model with testWeights := ns } } : Stg).model := hl.symm
          unfold setF
          rw [e]
          walk_at "pt"
        · have hb2 := b2 b _ hb1 hba
          refine s_retL (el_lst (ea_cons (ev_sumB (by walk_at "ev") hb2) ea_nil) (Nat.le_of_ble_eq_true rfl)) fun r H3 hr e3 h3 => ?_
          obtain ⟨dx, o2⟩ := hS2.ob
          have hra : r ≠ a := fun z => by rw [z, o2] at hr; cases hr
          exact ky H3 r q p (fresh_back e1 (b2.free hra hr)) h3 (hS2.mono e3) (.inr (fresh_back e1 hq)) (.inl rfl) ((But.of e1).trans (b2.trans (But.of e3)))
theorem ok_set_production_weights {f : Addr} {fd : FuncData} (T : Tx K mg A) (h_check_weights : Has P w K mg base (L2.CX P w) 1 "check_weights" ["weights", "signal_count"] (sp_check_weights K A))
    (F : Fun K "set_production_weights" "set_production_weights" s_set_production_weights f fd) : FnOk P w K mg base (L2.CX P w) 2 f fd ["setting", "weights"] (sp_set_production_weights K A) := by
  refine F.okX sc_set_production_weights (fun vs H Q E h => ?len) (fun cdv ar outer s H vs Q E hr h => ⟨_, (pss_cons (ps_expr (pe_h h_check_weights hr (by decide) (passU (takes_of rfl rfl rfl rfl)) (pa_cons (pv 1) (pa_cons (pe_fldK (K := K) (pv 0)) pa_nil))))
      (pss_cons (ps_fldK (K := K) (pv 0) (pe_callTy (cr_listK (K := K)) (by rfl) T.b_list (by decide +kernel) (pa_cons (pv 1) pa_nil)))
      (pss_one (ps_ret (pe_lst (pa_cons (pe_callB (cr_sumK (K := K)) (by rfl) T.b_sum (by decide +kernel) (pa_cons (pv 1) pa_nil)) pa_nil)))))), ?go⟩)
  case len =>
    obtain ⟨a, b, s, t, p, ns, rfl, _⟩ := h
    rfl
  case go =>
    obtain ⟨a, b, s, t, p, ns, rfl, hS, ok, hb, hask, kx, ky⟩ := h
    refine q_chk (r := if ns.length ≠ signalCount s.model ∨ (∃ x ∈ ns, 99 < x) ∨ (∀ x ∈ ns, x = 0) then some A.xOutsideLimits else none) (by walk_at "ea") ⟨b, ns, signalCount s.model, rfl, hb, ok.n1, rfl⟩ ?_ ?_
    · intro z hz H1 e1
      by_cases hc : ns.length ≠ signalCount s.model ∨ (∃ x ∈ ns, 99 < x) ∨ (∀ x ∈ ns, x = 0)
      · rw [if_pos hc] at hz
        cases hz
        exact kx _ (if_pos hc) H1 e1
      · rw [if_neg hc] at hz
        cases hz
    · intro hz H1 e1
      by_cases hc : ns.length ≠ signalCount s.model ∨ (∃ x ∈ ns, 99 < x) ∨ (∀ x ∈ ns, x = 0)
      · rw [if_pos hc] at hz
        cases hz
      · have ky := ky _ _ (if_neg hc)
        have hl : ns.length = signalCount s.model := Decidable.byContradiction fun z => hc (.inl z)
        have hS1 := hS.mono e1
        have hb1 := e1 b _ hb
        obtain ⟨dx, o1⟩ := hS1.ob
        have hba : b ≠ a := ne_of_some hb1 o1 (by intro z; cases z)
        refine q_setP (s' := { s with model := { s.model with productionWeights := ns } }) hS1 (el_listB (by walk_at "ev") hb1) (by walk_at "ev") T T.nA_Setting_production_weights (fun q => ?_) rfl rfl fun q H2 hq hS2 b2 => ?_
        · skip
          skip
          skip
          walk_at "pt"
        · have hb2 := b2 b _ hb1 hba
          refine s_retL (el_lst (ea_cons (ev_sumB (by walk_at "ev") hb2) ea_nil) (Nat.le_of_ble_eq_true rfl)) fun r H3 hr e3 h3 => ?_
          obtain ⟨dx, o2⟩ := hS2.ob
          have hra : r ≠ a := fun z => by rw [z, o2] at hr; cases hr
          exact ky H3 r t q (fresh_back e1 (b2.free hra hr)) h3 (hS2.mono e3) (.inl rfl) (.inr (fresh_back e1 hq)) ((But.of e1).trans (b2.trans (But.of e3)))
theorem ok_cheating_value {f : Addr} {fd : FuncData} (T : Tx K mg A) (h_profit_at : Has P w K mg base CX0 3 "profit_at" ["setting", "signals"] (sp_profit_at K A))
    (h_check_signal : Has P w K mg base (L2.CX P w) 1 "check_signal" ["signal", "signal_count"] (sp_check_signal K A))
    (F : Fun K "cheating_value" "cheating_value" s_cheating_value f fd) : FnOk P w K mg base (L2.CX P w) 4 f fd ["setting", "numbers"] (sp_cheating_value K A) := by
  refine F.okX sc_cheating_value (fun vs H Q E h => ?len) (fun cdv ar outer s H vs Q E hr h => ⟨_, (pss_cons (ps_expr (pe_h h_check_signal hr (by decide) (passU (takes_of rfl rfl rfl rfl)) (pa_cons (pe_ixK (K := K) (pv 1) pe_int) (pa_cons (pe_fldK (K := K) (pv 0)) pa_nil))))
      (pss_one (ps_ret (pe_op op_cat (pe_lst (pa_cons pe_int pa_nil)) (pe_h h_profit_at hr (by decide) pass0 (pa_cons (pv 0) (pa_cons (pe_lst (pa_cons (pe_ixK (K := K) (pv 1) pe_int) pa_nil)) pa_nil))))))), ?go⟩)
  case len =>
    obtain ⟨a, b, s, t, p, ns, rfl, _⟩ := h
    rfl
  case go =>
    obtain ⟨a, b, s, t, p, ns, rfl, hS, ok, hb, hask, kx, ky⟩ := h
    obtain ⟨x, rfl⟩ := one_of hask
    refine q_chk (r := if (signalCount s.model : Nat) ≤ (x : Int) then some A.xNoSuchSignal else none) (by walk_at "ea") ⟨_, _, rfl, rfl⟩ ?_ ?_
    · intro z hz H1 e1
      by_cases hc : (signalCount s.model : Nat) ≤ (x : Int)
      · rw [if_pos hc] at hz
        cases hz
        exact kx _ (if_pos (show signalCount s.model ≤ x by omega)) H1 e1
      · rw [if_neg hc] at hz
        cases hz
    · intro hz H1 e1
      by_cases hc : (signalCount s.model : Nat) ≤ (x : Int)
      · rw [if_pos hc] at hz
        cases hz
      · have ky := ky _ _ (if_neg (show ¬ signalCount s.model ≤ x by omega))
        have hS1 := hS.mono e1
        have hb1 := e1 b _ hb
        refine s_retL (el_cat (el_lst (ea_cons ev_c ea_nil) (Nat.le_of_ble_eq_true rfl)) (el_callN (ys := nats [x]) (xs := (low (valNum s x) (valDen s)).map V.int) (el_lst (ea_cons (by walk_at "ev") ea_nil) (Nat.le_of_ble_eq_true rfl)) (by walk_at "ev") fun q H2 e2 h2 => ?_) (Nat.le_of_ble_eq_true rfl)) fun r H3 hr e3 h3 => ?_
        · have sl := sl_profit_at (K := K) (hS1.mono e2) ok.good h2 (show 1 ≤ 5 by decide) (fun i hi => by rw [List.mem_singleton.mp hi]; omega)
          rw [show ([x].map (valNum s)).sum = valNum s x by simp] at sl
          exact sl
        · exact op_get hS ky (fresh_back e1 hr) (e1.trans e3) h3
theorem ok_cheating_signals {f : Addr} {fd : FuncData} (T : Tx K mg A) (h_counted_signals : Has P w K mg base CX0 3 "counted_signals" ["setting"] (sp_counted_signals K A))
    (F : Fun K "cheating_signals" "cheating_signals" s_cheating_signals f fd) : FnOk P w K mg base CX0 4 f fd ["setting", "numbers"] (sp_cheating_signals K A) := by
  refine F.ok sc_cheating_signals (fun vs H Q E h => ?len) (fun cdv ar outer s H vs Q E hr h => ⟨_, (pss_one (ps_ret (pe_h h_counted_signals hr (by decide) pass0 (pa_cons (pv 0) pa_nil)))), ?go⟩)
  case len =>
    obtain ⟨a, b, s, t, p, ns, rfl, _⟩ := h
    rfl
  case go =>
    obtain ⟨a, b, s, t, p, ns, rfl, hS, ok, hb, hask, kx, ky⟩ := h
    have ky := ky _ _ rfl
    refine s_retL (el_callH (by walk_at "ea") (sl_counted (K := K) hS ok.good)) fun r H1 hr e1 h1 => ?_
    exact op_get hS ky hr e1 h1
theorem ok_expected_profit {f : Addr} {fd : FuncData} (T : Tx K mg A) (h_paying_signals : Has P w K mg base CX0 2 "paying_signals" ["setting"] (sp_paying_signals K A))
    (h_profit_at : Has P w K mg base CX0 3 "profit_at" ["setting", "signals"] (sp_profit_at K A))
    (F : Fun K "expected_profit" "expected_profit" s_expected_profit f fd) : FnOk P w K mg base CX0 4 f fd ["setting", "numbers"] (sp_expected_profit K A) := by
  refine F.ok sc_expected_profit (fun vs H Q E h => ?len) (fun cdv ar outer s H vs Q E hr h => ⟨_, (pss_one (ps_ret (pe_op op_cat (pe_lst (pa_cons pe_int pa_nil)) (pe_h h_profit_at hr (by decide) pass0 (pa_cons (pv 0) (pa_cons (pe_h h_paying_signals hr (by decide) pass0 (pa_cons (pv 0) pa_nil)) pa_nil)))))), ?go⟩)
  case len =>
    obtain ⟨a, b, s, t, p, ns, rfl, _⟩ := h
    rfl
  case go =>
    obtain ⟨a, b, s, t, p, ns, rfl, hS, ok, hb, hask, kx, ky⟩ := h
    have ky := ky _ _ rfl
    have sl := sl_paying_signals (K := K) hS ok.good
    refine s_retL (el_cat (el_lst (ea_cons ev_c ea_nil) (Nat.le_of_ble_eq_true rfl)) (el_callN (ys := nats (paying s)) (xs := (low ((paying s).map (valNum s)).sum (valDen s)).map V.int) (by walk_at "el") (by walk_at "ev") fun q H2 e2 h2 => ?_) (Nat.le_of_ble_eq_true rfl)) fun r H3 hr e3 h3 => ?_
    · exact sl_profit_at (K := K) (hS.mono e2) ok.good h2 (paying_len s ok.good) (paying_lt s)
    · exact op_get hS ky hr e3 h3
theorem ok_detection_probability {f : Addr} {fd : FuncData} (T : Tx K mg A) (h_paying_signals : Has P w K mg base CX0 2 "paying_signals" ["setting"] (sp_paying_signals K A))
    (h_joint_test_at : Has P w K mg base CX0 3 "joint_test_at" ["setting", "signals"] (sp_joint_test_at K A))
    (F : Fun K "detection_probability" "detection_probability" s_detection_probability f fd) : FnOk P w K mg base CX0 4 f fd ["setting", "numbers"] (sp_detection_probability K A) := by
  refine F.ok sc_detection_probability (fun vs H Q E h => ?len) (fun cdv ar outer s H vs Q E hr h => ⟨_, (pss_one (ps_ret (pe_op op_cat (pe_lst (pa_cons pe_int pa_nil)) (pe_h h_joint_test_at hr (by decide) pass0 (pa_cons (pv 0) (pa_cons (pe_h h_paying_signals hr (by decide) pass0 (pa_cons (pv 0) pa_nil)) pa_nil)))))), ?go⟩)
  case len =>
    obtain ⟨a, b, s, t, p, ns, rfl, _⟩ := h
    rfl
  case go =>
    obtain ⟨a, b, s, t, p, ns, rfl, hS, ok, hb, hask, kx, ky⟩ := h
    have ky := ky _ _ rfl
    have sl := sl_paying_signals (K := K) hS ok.good
    refine s_retL (el_cat (el_lst (ea_cons ev_c ea_nil) (Nat.le_of_ble_eq_true rfl)) (el_callN (ys := nats (paying s)) (xs := (low (pN s * ((paying s).map (tW s)).sum) (pD s * tS s)).map V.int) (by walk_at "el") (by walk_at "ev") fun q H2 e2 h2 => ?_) (Nat.le_of_ble_eq_true rfl)) fun r H3 hr e3 h3 => ?_
    · exact sl_joint_test_at (K := K) (hS.mono e2) ok.good h2 (paying_len s ok.good) (paying_lt s)
    · exact op_get hS ky hr e3 h3
end
end Dt

set_option Elab.async false
set_option linter.all false
set_option maxRecDepth 100000
set_option maxHeartbeats 600000
namespace Dt
open PySem PySem.Spec PyProof.Rows L2 Evl
local macro_rules | `(tactic| walk_at "lk") => `(tactic| first | exact lk_here | (refine (lk_past ?_).trans ?_; (· decide +kernel); walk_at "lk"))
local macro_rules | `(tactic| walk_at "bd") => `(tactic| first | assumption | exact Good.bt (by assumption) | exact Good.bp (by assumption) | exact Good.bn (by assumption) | exact Good.bd (by assumption) | exact Good.bg (by assumption) | exact Good.bl (by assumption) | exact Good.bh (by assumption) | exact Good.bc (by assumption) | exact Good.btw (by assumption) _ | exact Good.bpw (by assumption) _ | exact bd_mul (by walk_at "bd") (by walk_at "bd") | exact bd_add (by walk_at "bd") (by walk_at "bd") | exact bd_sub (by walk_at "bd") (by walk_at "bd"))
local macro_rules | `(tactic| walk_at "cm") => `(tactic| first | assumption | exact bd_cmul (by walk_at "bd") (by walk_at "bd") (by decide))
local macro_rules | `(tactic| walk_at "ev") => `(tactic| first
  | with_reducible exact ev_c
  | ((with_reducible refine' ev_var ?h); (case h => exact rfl))
  | ((with_reducible refine' f_tsum ?e ?h ?t); (case e => walk_at "ev"); (case h => assumption); (case t => assumption))
  | ((with_reducible refine' f_psum ?e ?h ?t); (case e => walk_at "ev"); (case h => assumption); (case t => assumption))
  | ((with_reducible refine' f_tix ?e ?i ?h ?t ?l); (case e => walk_at "ev"); (case i => walk_at "ev"); (case h => assumption); (case t => assumption); (case l => assumption))
  | ((with_reducible refine' f_pix ?e ?i ?h ?t ?g ?l); (case e => walk_at "ev"); (case i => walk_at "ev"); (case h => assumption); (case t => assumption); (case g => assumption); (case l => assumption))
  | ((with_reducible refine' f_count ?e ?h ?t); (case e => walk_at "ev"); (case h => assumption); (case t => assumption))
  | ((with_reducible refine' f_tw ?e ?h ?t); (case e => walk_at "ev"); (case h => assumption); (case t => assumption))
  | ((with_reducible refine' f_pw ?e ?h ?t); (case e => walk_at "ev"); (case h => assumption); (case t => assumption))
  | ((with_reducible refine' f_pn ?e ?h ?t); (case e => walk_at "ev"); (case h => assumption); (case t => assumption))
  | ((with_reducible refine' f_pd ?e ?h ?t); (case e => walk_at "ev"); (case h => assumption); (case t => assumption))
  | ((with_reducible refine' f_ga ?e ?h ?t); (case e => walk_at "ev"); (case h => assumption); (case t => assumption))
  | ((with_reducible refine' f_lo ?e ?h ?t); (case e => walk_at "ev"); (case h => assumption); (case t => assumption))
  | ((with_reducible refine' f_hp ?e ?h ?t); (case e => walk_at "ev"); (case h => assumption); (case t => assumption))
  | ((with_reducible refine' f_tp ?e ?h ?t); (case e => walk_at "ev"); (case h => assumption); (case t => assumption))
  | ((with_reducible refine' ev_gt ?a ?b); (case a => walk_at "ev"); (case b => walk_at "ev"))
  | ((with_reducible refine' ev_lt ?a ?b); (case a => walk_at "ev"); (case b => walk_at "ev"))
  | ((with_reducible refine' ev_ge ?a ?b); (case a => walk_at "ev"); (case b => walk_at "ev"))
  | ((with_reducible refine' ev_le ?a ?b); (case a => walk_at "ev"); (case b => walk_at "ev"))
  | ((with_reducible refine' ev_eqI ?a ?b); (case a => walk_at "ev"); (case b => walk_at "ev"))
  | ((with_reducible refine' ev_neI ?a ?b); (case a => walk_at "ev"); (case b => walk_at "ev"))
  | ((with_reducible refine' ev_add ?a ?b); (case a => walk_at "ev"); (case b => walk_at "ev"))
  | ((with_reducible refine' ev_sub ?a ?b); (case a => walk_at "ev"); (case b => walk_at "ev"))
  | ((with_reducible refine' ev_mul ?a ?b ?c); (case a => walk_at "ev"); (case b => walk_at "ev"); (case c => walk_at "cm"))
  | ((with_reducible refine' ev_div ?a ?b ?c); (case a => walk_at "ev"); (case b => walk_at "ev"); (case c => assumption))
  | ((with_reducible refine' ev_mod ?a ?b ?c); (case a => walk_at "ev"); (case b => walk_at "ev"); (case c => assumption))
  | ((with_reducible refine' ev_absI ?a); (case a => walk_at "ev"))
  | ((with_reducible refine' ev_callH ?a ?s); (case a => walk_at "ea"); (case s => walk_at "sp"))
  | ((with_reducible refine' ev_sumN ?a); (case a => walk_at "el")))
local macro_rules | `(tactic| walk_at "ea") => `(tactic| first
  | with_reducible exact ea_nil
  | ((with_reducible refine' ea_cons ?a ?b); (case a => walk_at "ev"); (case b => walk_at "ea")))
local macro_rules | `(tactic| walk_at "el") => `(tactic| first
  | ((with_reducible refine' el_lst ?a ?b); (case a => walk_at "ea"); (case b => exact Nat.le_of_ble_eq_true rfl))
  | ((with_reducible refine' el_callH ?a ?s); (case a => walk_at "ea"); (case s => walk_at "sp")))
local macro_rules | `(tactic| walk_at "st") => `(tactic| first
  | ((with_reducible refine' q_asg ?e ?k); (case e => walk_at "ev"))
  | ((with_reducible refine' q_asgL ?e ?k); (case e => walk_at "el"))
  | ((with_reducible refine' s_asg ?e ?k); (case e => walk_at "ev"))
  | ((with_reducible refine' s_asgL ?e ?k); (case e => walk_at "el"))
  | ((with_reducible refine' s_ret ?e ?k); (case e => walk_at "ev"))
  | ((with_reducible refine' s_retL ?e ?k); (case e => walk_at "el")))
local macro_rules | `(tactic| walk_at "et") => `(tactic| first
  | ((with_reducible refine' et_test ?e); (case e => walk_at "ev"))
  | ((with_reducible refine' et_or ?e ?f); (case e => walk_at "et"); (case f => (intro _; walk_at "et")))
  | with_reducible exact et_yes)
local macro_rules | `(tactic| walk_at "sp") => `(tactic| assumption)
local macro_rules | `(tactic| walk_at "if") => `(tactic| first
  | ((with_reducible refine' q_when ?e ?k1 ?k2); (case e => walk_at "et"))
  | ((with_reducible refine' s_when ?e ?k1 ?k2); (case e => walk_at "et"))
  | ((with_reducible refine' q_if ?e ?k1 ?k2); (case e => walk_at "et"))
  | ((with_reducible refine' s_if ?e ?k1 ?k2); (case e => walk_at "et")))
local macro_rules | `(tactic| walk_at "pt") => `(tactic| first | exact put_here | (refine put_step ?_ ?_; (· decide +kernel); walk_at "pt"))
local macro_rules | `(tactic| walk_at "ev") => `(tactic| first
  | ((with_reducible refine' ev_ix0 ?e ?h); (case e => walk_at "ev"); (case h => assumption))
  | ((with_reducible refine' ev_ix1 ?e ?h); (case e => walk_at "ev"); (case h => assumption)))
open Kp415 (signalCount)
def counted (s : Stg) : List Int := ((paying s).length : Int) :: natI (paying s)
def actHarm (s : Stg) (_ns : List Nat) : Out := .yes s (0 :: low ((pD s - pN s) * ((paying s).map (pW s)).sum) (pD s * pS s))
def actCost (s : Stg) (_ns : List Nat) : Out := .yes s (0 :: low (costNum s) (costDen s))
def orDp (s : Stg) (f : List Int → List Int) : Option (List Int) → Out
  | none => .no .dp
  | some q => .yes s (f q)
def actDpAt (s : Stg) (ns : List Nat) : Out := if signalCount s.model ≤ ns.getD 0 0 then .no .sig else orDp s (fun q => 0 :: q) (dpa s (ns.getD 0 0))
def actDp (s : Stg) (_ns : List Nat) : Out := orDp s (fun q => 0 :: q) (dpAll s)
def profL (s : Stg) : List Int := low ((paying s).map (valNum s)).sum (valDen s)
def actPreview (s : Stg) (ns : List Nat) : Out := if ns.length ≠ signalCount s.model ∨ (∃ x ∈ ns, signalCount s.model ≤ x) then .no .lim else orDp s (fun q => 0 :: (q ++ profL (mrg s ns))) (dpAll (mrg s ns))
def actMerge (s : Stg) (ns : List Nat) : Out := if ns.length ≠ signalCount s.model ∨ (∃ x ∈ ns, signalCount s.model ≤ x) then .no .lim else .yes (mrg s ns) (counted (mrg s ns))
def actCheap (s : Stg) (_ns : List Nat) : Out := match bestB s with
  | none => .no .dp
  | some (c, k) => .yes s (0 :: (c ++ k))
def actForPrior (s : Stg) (ns : List Nat) : Out := if ns.getD 1 0 < 1 ∨ 99 < ns.getD 1 0 ∨ ns.getD 1 0 < ns.getD 0 0 then .no .lim else .yes s (counted (sP s (ns.getD 0 0) (ns.getD 1 0)))
def actForStakes (s : Stg) (ns : List Nat) : Out := if 999 < ns.getD 0 0 ∨ 999 < ns.getD 1 0 then .no .lim else .yes s (counted (sS s (ns.getD 0 0) (ns.getD 1 0)))
def actGet (s : Stg) (_ns : List Nat) : Out := .yes s ([((signalCount s.model : Nat) : Int), pN s, pD s, ga s, lo s, hP s, tP s] ++ natI s.model.testWeights ++ natI s.model.productionWeights)
def sp_harm_probability (K : PySem.W.Frag) (A : AdT) : Sp := spOp A (fun _ => True) actHarm
def sp_total_cost (K : PySem.W.Frag) (A : AdT) : Sp := spOp A (fun _ => True) actCost
def sp_deterrent_prior_at (K : PySem.W.Frag) (A : AdT) : Sp := spOp A (fun ns => ns.length = 1) actDpAt
def sp_deterrent_prior (K : PySem.W.Frag) (A : AdT) : Sp := spOp A (fun _ => True) actDp
def sp_preview_merge (K : PySem.W.Frag) (A : AdT) : Sp := spOp A (fun _ => True) actPreview
def sp_merge_signals (K : PySem.W.Frag) (A : AdT) : Sp := spOp A (fun _ => True) actMerge
def sp_cheapest_prior (K : PySem.W.Frag) (A : AdT) : Sp := spOp A (fun _ => True) actCheap
def sp_cheating_signals_for_prior (K : PySem.W.Frag) (A : AdT) : Sp := spOp A (fun ns => ns.length = 2) actForPrior
def sp_cheating_signals_for_stakes (K : PySem.W.Frag) (A : AdT) : Sp := spOp A (fun ns => ns.length = 2) actForStakes
def sp_get_settings (K : PySem.W.Frag) (A : AdT) : Sp := spOp A (fun _ => True) actGet
/-! ### settings that would be, in order -/
theorem okk_mrg {s : Stg} (ok : Okk s) {ns : List Nat} (hl : ns.length = signalCount s.model) (hx : ∀ x ∈ ns, x < signalCount s.model) : Okk (mrg s ns) := by
  have hl : ns.length = s.model.testWeights.length := hl
  have hx : ∀ x ∈ ns, x < s.model.testWeights.length := hx
  have lp := ok.len
  have m1 : (Kp415.mergeWeights s.model.testWeights ns).sum = s.model.testWeights.sum := merge_sum fun k hk => hx _ (getD_mem (by omega))
  have m2 : (Kp415.mergeWeights s.model.productionWeights ns).sum = s.model.productionWeights.sum := merge_sum fun k hk => by have := hx _ (getD_mem (l := ns) (i := k) (by omega)); omega
  have l1 := merge_len s.model.testWeights ns
  have l2 := merge_len s.model.productionWeights ns
  exact ⟨l2.trans (lp.trans l1.symm), by show 0 < (Kp415.mergeWeights s.model.testWeights ns).length; rw [l1]; exact ok.n1, by show (Kp415.mergeWeights s.model.testWeights ns).length ≤ 5; rw [l1]; exact ok.n5,
    by show 0 < (Kp415.mergeWeights s.model.testWeights ns).sum; rw [m1]; exact ok.t0, by show (Kp415.mergeWeights s.model.testWeights ns).sum ≤ 495; rw [m1]; exact ok.t1,
    by show 0 < (Kp415.mergeWeights s.model.productionWeights ns).sum; rw [m2]; exact ok.p0, by show (Kp415.mergeWeights s.model.productionWeights ns).sum ≤ 495; rw [m2]; exact ok.p1, ok.d0, ok.d1, ok.nd, ok.g, ok.l, ok.h, ok.c⟩
theorem okk_sP {s : Stg} (ok : Okk s) {a b : Nat} (h : ¬ (b < 1 ∨ 99 < b ∨ b < a)) : Okk (sP s a b) :=
  ⟨ok.len, ok.n1, ok.n5, ok.t0, ok.t1, ok.p0, ok.p1, by show 0 < b; omega, by show b ≤ 99; omega, by show a ≤ b; omega, ok.g, ok.l, ok.h, ok.c⟩
theorem okk_sS {s : Stg} (ok : Okk s) {a b : Nat} (h : ¬ (999 < a ∨ 999 < b)) : Okk (sS s a b) :=
  ⟨ok.len, ok.n1, ok.n5, ok.t0, ok.t1, ok.p0, ok.p1, ok.d0, ok.d1, ok.nd, by show a ≤ 999; omega, by show b ≤ 999; omega, ok.h, ok.c⟩
theorem good_map {s : Stg} {ns : List Nat} (h : ¬ (ns.length ≠ signalCount s.model ∨ (∃ x ∈ ns, signalCount s.model ≤ x))) : ns.length = signalCount s.model ∧ ∀ x ∈ ns, x < signalCount s.model :=
  ⟨Decidable.byContradiction fun z => h (.inl z), fun x hx => Nat.lt_of_not_le fun z => h (.inr ⟨x, hx, z⟩)⟩
section
variable {P : Program} {w : World} {K : PySem.W.Frag} {mg : Str → Option Value} {base : Heap} {A : AdT}
/-- [..] + existing(..) -/
theorem x_exist {σ : L2.St} {H : Hp} {ta te : TE} {xs : List V} {o : Option (List V)} {E : XK} {Qv : VK} (ha : EvL ta σ H xs) (he : ∀ H1, Ex H H1 → EvP te σ H1 (IsOpt H1 o)) (hz : ∀ ys, o = some ys → xs.length + ys.length ≤ 100000)
    (kn : o = none → ∀ H', Ex H H' → E (.ref A.xNoDeterrentPrior) none H') (ks : ∀ ys, o = some ys → ∀ r H', H r = none → Ex H H' → H' r = some (.lst (xs ++ ys)) → Qv (.ref r) H') : tOp rCat ta (tCallH (sp_existing K A) E (tCons te tNil)) σ H Qv :=
  ha H (Ex.refl H) _ fun p H1 n1 e1 h1 => he H1 e1 H1 (Ex.refl H1) _ fun v H2 e2 hv => by
    cases o with
    | none =>
      obtain rfl : v = .non := hv
      exact ⟨_, rfl, .inl rfl, fun _ H' e' => kn rfl H' ((e1.trans e2).trans e'), fun r h => by cases h⟩
    | some ys =>
      obtain ⟨r, rfl, hr, h2⟩ := hv
      exact ⟨_, rfl, .inr ⟨r, rfl⟩, (fun h => by cases h), fun r' h H' e' => by
        cases h
        exact ⟨p, r, xs, ys, rfl, rfl, (e2.trans e') p _ h1, e' r _ h2, sz_of (hz ys rfl), fun l hl => ks ys rfl l _ (fresh_back ((e1.trans e2).trans e') hl) (((e1.trans e2).trans e').trans (Ex.new hl)) upd_same⟩⟩
theorem dpAll_ok {s : Stg} (g : Good s) {q : List Int} (h : dpAll s = some q) : q.length = 2 := by
  have hm := dp_map g.pos
  rw [h] at hm
  cases hd : Kp416.deterrentPrior s with
  | none => rw [hd] at hm; cases hm
  | some x =>
    rw [hd] at hm
    rw [← Option.some.inj hm]
    rfl
theorem ok_harm_probability {f : Addr} {fd : FuncData} (T : Tx K mg A) (h_paying_signals : Has P w K mg base CX0 2 "paying_signals" ["setting"] (sp_paying_signals K A))
    (h_joint_production_at : Has P w K mg base CX0 3 "joint_production_at" ["setting", "signals"] (sp_joint_production_at K A))
    (F : Fun K "harm_probability" "harm_probability" s_harm_probability f fd) : FnOk P w K mg base CX0 4 f fd ["setting", "numbers"] (sp_harm_probability K A) := by
  refine F.ok sc_harm_probability (fun vs H Q E h => ?len) (fun cdv ar outer s H vs Q E hr h => ⟨_, (pss_one (ps_ret (pe_op op_cat (pe_lst (pa_cons pe_int pa_nil)) (pe_h h_joint_production_at hr (by decide) pass0 (pa_cons (pv 0) (pa_cons (pe_h h_paying_signals hr (by decide) pass0 (pa_cons (pv 0) pa_nil)) pa_nil)))))), ?go⟩)
  case len =>
    obtain ⟨a, b, s, t, p, ns, rfl, _⟩ := h
    rfl
  case go =>
    obtain ⟨a, b, s, t, p, ns, rfl, hS, ok, hb, hask, kx, ky⟩ := h
    have ky := ky _ _ rfl
    have sl := sl_paying_signals (K := K) hS ok.good
    refine s_retL (el_cat (el_lst (ea_cons ev_c ea_nil) (Nat.le_of_ble_eq_true rfl)) (el_callN (ys := nats (paying s)) (xs := (low ((pD s - pN s) * ((paying s).map (pW s)).sum) (pD s * pS s)).map V.int) (by walk_at "el") (by walk_at "ev") fun q H2 e2 h2 => ?_) (Nat.le_of_ble_eq_true rfl)) fun r H3 hr e3 h3 => ?_
    · exact sl_joint_production_at (K := K) (hS.mono e2) ok.good h2 (paying_len s ok.good) (paying_lt s)
    · exact op_get hS ky hr e3 h3
theorem ok_total_cost {f : Addr} {fd : FuncData} (T : Tx K mg A) (h_cost_of : Has P w K mg base CX0 4 "cost_of" ["setting"] (sp_cost_of K A))
    (F : Fun K "total_cost" "total_cost" s_total_cost f fd) : FnOk P w K mg base CX0 5 f fd ["setting", "numbers"] (sp_total_cost K A) := by
  refine F.ok sc_total_cost (fun vs H Q E h => ?len) (fun cdv ar outer s H vs Q E hr h => ⟨_, (pss_one (ps_ret (pe_op op_cat (pe_lst (pa_cons pe_int pa_nil)) (pe_h h_cost_of hr (by decide) pass0 (pa_cons (pv 0) pa_nil))))), ?go⟩)
  case len =>
    obtain ⟨a, b, s, t, p, ns, rfl, _⟩ := h
    rfl
  case go =>
    obtain ⟨a, b, s, t, p, ns, rfl, hS, ok, hb, hask, kx, ky⟩ := h
    have ky := ky _ _ rfl
    refine s_retL (el_cat (el_lst (ea_cons ev_c ea_nil) (Nat.le_of_ble_eq_true rfl)) (el_callH (by walk_at "ea") (sl_cost_of (K := K) hS ok.good)) (Nat.le_of_ble_eq_true rfl)) fun r H3 hr e3 h3 => ?_
    exact op_get hS ky hr e3 h3
theorem ok_deterrent_prior_at {f : Addr} {fd : FuncData} (T : Tx K mg A) (h_check_signal : Has P w K mg base (L2.CX P w) 1 "check_signal" ["signal", "signal_count"] (sp_check_signal K A))
    (h_prior_against : Has P w K mg base CX0 3 "prior_against" ["setting", "signal"] (sp_prior_against K A))
    (h_existing : Has P w K mg base (L2.CX P w) 1 "existing" ["prior"] (sp_existing K A))
    (F : Fun K "deterrent_prior_at" "deterrent_prior_at" s_deterrent_prior_at f fd) : FnOk P w K mg base (L2.CX P w) 4 f fd ["setting", "numbers"] (sp_deterrent_prior_at K A) := by
  refine F.okX sc_deterrent_prior_at (fun vs H Q E h => ?len) (fun cdv ar outer s H vs Q E hr h => ⟨_, (pss_cons (ps_expr (pe_h h_check_signal hr (by decide) (passU (takes_of rfl rfl rfl rfl)) (pa_cons (pe_ixK (K := K) (pv 1) pe_int) (pa_cons (pe_fldK (K := K) (pv 0)) pa_nil))))
      (pss_one (ps_ret (pe_op op_cat (pe_lst (pa_cons pe_int pa_nil)) (pe_h h_existing hr (by decide) (passU (takes_of rfl rfl rfl rfl)) (pa_cons (pe_h h_prior_against hr (by decide) pass0 (pa_cons (pv 0) (pa_cons (pe_ixK (K := K) (pv 1) pe_int) pa_nil))) pa_nil)))))), ?go⟩)
  case len =>
    obtain ⟨a, b, s, t, p, ns, rfl, _⟩ := h
    rfl
  case go =>
    obtain ⟨a, b, s, t, p, ns, rfl, hS, ok, hb, hask, kx, ky⟩ := h
    obtain ⟨x, rfl⟩ := one_of hask
    refine q_chk (r := if (signalCount s.model : Nat) ≤ (x : Int) then some A.xNoSuchSignal else none) (by walk_at "ea") ⟨_, _, rfl, rfl⟩ ?_ ?_
    · intro z hz H1 e1
      by_cases hc : (signalCount s.model : Nat) ≤ (x : Int)
      · rw [if_pos hc] at hz
        cases hz
        exact kx .sig (if_pos (show signalCount s.model ≤ x by omega)) H1 e1
      · rw [if_neg hc] at hz
        cases hz
    · intro hz H1 e1
      by_cases hc : (signalCount s.model : Nat) ≤ (x : Int)
      · rw [if_pos hc] at hz
        cases hz
      · have hx : ¬ signalCount s.model ≤ x := by omega
        have hact : actDpAt s [x] = orDp s (fun q => 0 :: q) (dpa s x) := if_neg hx
        rw [hact] at kx ky
        have hS1 := hS.mono e1
        have hb1 := e1 b _ hb
        refine x_exist (K := K) (A := A) (σ := [some (V.ref a), some (V.ref b)]) (o := (dpa s x).map iV) (xs := [.int 0]) (el_lst (ea_cons ev_c ea_nil) (Nat.le_of_ble_eq_true rfl)) (fun H2 e2 => ep_callH (ea_cons (ev_var rfl) (ea_cons (ev_ix0 (ev_var rfl) (e2 b _ hb1)) ea_nil)) (sp_prior_against_at (K := K) (hS1.mono e2) ok.good (by omega))) ?_ ?_ ?_
        · intro ys hy
          obtain ⟨q, hq, rfl⟩ := Option.map_eq_some_iff.mp hy
          obtain ⟨c, d, hf⟩ := dpa_ok ok.good hq
          rw [hf.eq]
          exact Nat.le_of_ble_eq_true rfl
        · intro hn H2 e2
          rw [Option.map_eq_none_iff] at hn
          exact kx .dp (by rw [hn]; rfl) H2 (e1.trans e2)
        · intro ys hy r H2 hr e2 h2
          obtain ⟨q, hq, rfl⟩ := Option.map_eq_some_iff.mp hy
          exact op_get hS (ky s (0 :: q) (by rw [hq]; rfl)) (fresh_back e1 hr) (e1.trans e2) h2
theorem ok_deterrent_prior {f : Addr} {fd : FuncData} (T : Tx K mg A) (h_prior_against_all : Has P w K mg base CX0 4 "prior_against_all" ["setting"] (sp_prior_against_all K A))
    (h_existing : Has P w K mg base (L2.CX P w) 1 "existing" ["prior"] (sp_existing K A))
    (F : Fun K "deterrent_prior" "deterrent_prior" s_deterrent_prior f fd) : FnOk P w K mg base (L2.CX P w) 5 f fd ["setting", "numbers"] (sp_deterrent_prior K A) := by
  refine F.okX sc_deterrent_prior (fun vs H Q E h => ?len) (fun cdv ar outer s H vs Q E hr h => ⟨_, (pss_one (ps_ret (pe_op op_cat (pe_lst (pa_cons pe_int pa_nil)) (pe_h h_existing hr (by decide) (passU (takes_of rfl rfl rfl rfl)) (pa_cons (pe_h h_prior_against_all hr (by decide) pass0 (pa_cons (pv 0) pa_nil)) pa_nil))))), ?go⟩)
  case len =>
    obtain ⟨a, b, s, t, p, ns, rfl, _⟩ := h
    rfl
  case go =>
    obtain ⟨a, b, s, t, p, ns, rfl, hS, ok, hb, hask, kx, ky⟩ := h
    have hact : actDp s ns = orDp s (fun q => 0 :: q) (dpAll s) := rfl
    rw [hact] at kx ky
    refine x_exist (K := K) (A := A) (σ := [some (V.ref a), some (V.ref b)]) (o := (dpAll s).map iV) (xs := [.int 0]) (el_lst (ea_cons ev_c ea_nil) (Nat.le_of_ble_eq_true rfl)) (fun H2 e2 => ep_callH (ea_cons (ev_var rfl) ea_nil) (sp_prior_against_all_at (K := K) (hS.mono e2) ok.good)) ?_ ?_ ?_
    · intro ys hy
      obtain ⟨q, hq, rfl⟩ := Option.map_eq_some_iff.mp hy
      have hl := dpAll_ok ok.good hq
      unfold iV
      rw [List.length_map, hl]
      exact Nat.le_of_ble_eq_true rfl
    · intro hn H2 e2
      rw [Option.map_eq_none_iff] at hn
      exact kx .dp (by rw [hn]; rfl) H2 e2
    · intro ys hy r H2 hr e2 h2
      obtain ⟨q, hq, rfl⟩ := Option.map_eq_some_iff.mp hy
      exact op_get hS (ky s (0 :: q) (by rw [hq]; rfl)) hr e2 h2
end
end Dt

set_option Elab.async false
set_option linter.all false
set_option maxRecDepth 100000
set_option maxHeartbeats 600000
namespace Dt
open PySem PySem.Spec PyProof.Rows L2 Evl
local macro_rules | `(tactic| walk_at "lk") => `(tactic| first | exact lk_here | (refine (lk_past ?_).trans ?_; (· decide +kernel); walk_at "lk"))
local macro_rules | `(tactic| walk_at "bd") => `(tactic| first | assumption | exact Good.bt (by assumption) | exact Good.bp (by assumption) | exact Good.bn (by assumption) | exact Good.bd (by assumption) | exact Good.bg (by assumption) | exact Good.bl (by assumption) | exact Good.bh (by assumption) | exact Good.bc (by assumption) | exact Good.btw (by assumption) _ | exact Good.bpw (by assumption) _ | exact bd_mul (by walk_at "bd") (by walk_at "bd") | exact bd_add (by walk_at "bd") (by walk_at "bd") | exact bd_sub (by walk_at "bd") (by walk_at "bd"))
local macro_rules | `(tactic| walk_at "cm") => `(tactic| first | assumption | exact bd_cmul (by walk_at "bd") (by walk_at "bd") (by decide))
local macro_rules | `(tactic| walk_at "ev") => `(tactic| first
  | with_reducible exact ev_c
  | ((with_reducible refine' ev_var ?h); (case h => exact rfl))
  | ((with_reducible refine' f_tsum ?e ?h ?t); (case e => walk_at "ev"); (case h => assumption); (case t => assumption))
  | ((with_reducible refine' f_psum ?e ?h ?t); (case e => walk_at "ev"); (case h => assumption); (case t => assumption))
  | ((with_reducible refine' f_tix ?e ?i ?h ?t ?l); (case e => walk_at "ev"); (case i => walk_at "ev"); (case h => assumption); (case t => assumption); (case l => assumption))
  | ((with_reducible refine' f_pix ?e ?i ?h ?t ?g ?l); (case e => walk_at "ev"); (case i => walk_at "ev"); (case h => assumption); (case t => assumption); (case g => assumption); (case l => assumption))
  | ((with_reducible refine' f_count ?e ?h ?t); (case e => walk_at "ev"); (case h => assumption); (case t => assumption))
  | ((with_reducible refine' f_tw ?e ?h ?t); (case e => walk_at "ev"); (case h => assumption); (case t => assumption))
  | ((with_reducible refine' f_pw ?e ?h ?t); (case e => walk_at "ev"); (case h => assumption); (case t => assumption))
  | ((with_reducible refine' f_pn ?e ?h ?t); (case e => walk_at "ev"); (case h => assumption); (case t => assumption))
  | ((with_reducible refine' f_pd ?e ?h ?t); (case e => walk_at "ev"); (case h => assumption); (case t => assumption))
  | ((with_reducible refine' f_ga ?e ?h ?t); (case e => walk_at "ev"); (case h => assumption); (case t => assumption))
  | ((with_reducible refine' f_lo ?e ?h ?t); (case e => walk_at "ev"); (case h => assumption); (case t => assumption))
  | ((with_reducible refine' f_hp ?e ?h ?t); (case e => walk_at "ev"); (case h => assumption); (case t => assumption))
  | ((with_reducible refine' f_tp ?e ?h ?t); (case e => walk_at "ev"); (case h => assumption); (case t => assumption))
  | ((with_reducible refine' ev_gt ?a ?b); (case a => walk_at "ev"); (case b => walk_at "ev"))
  | ((with_reducible refine' ev_lt ?a ?b); (case a => walk_at "ev"); (case b => walk_at "ev"))
  | ((with_reducible refine' ev_ge ?a ?b); (case a => walk_at "ev"); (case b => walk_at "ev"))
  | ((with_reducible refine' ev_le ?a ?b); (case a => walk_at "ev"); (case b => walk_at "ev"))
  | ((with_reducible refine' ev_eqI ?a ?b); (case a => walk_at "ev"); (case b => walk_at "ev"))
  | ((with_reducible refine' ev_neI ?a ?b); (case a => walk_at "ev"); (case b => walk_at "ev"))
  | ((with_reducible refine' ev_add ?a ?b); (case a => walk_at "ev"); (case b => walk_at "ev"))
  | ((with_reducible refine' ev_sub ?a ?b); (case a => walk_at "ev"); (case b => walk_at "ev"))
  | ((with_reducible refine' ev_mul ?a ?b ?c); (case a => walk_at "ev"); (case b => walk_at "ev"); (case c => walk_at "cm"))
  | ((with_reducible refine' ev_div ?a ?b ?c); (case a => walk_at "ev"); (case b => walk_at "ev"); (case c => assumption))
  | ((with_reducible refine' ev_mod ?a ?b ?c); (case a => walk_at "ev"); (case b => walk_at "ev"); (case c => assumption))
  | ((with_reducible refine' ev_absI ?a); (case a => walk_at "ev"))
  | ((with_reducible refine' ev_callH ?a ?s); (case a => walk_at "ea"); (case s => walk_at "sp"))
  | ((with_reducible refine' ev_sumN ?a); (case a => walk_at "el")))
local macro_rules | `(tactic| walk_at "ea") => `(tactic| first
  | with_reducible exact ea_nil
  | ((with_reducible refine' ea_cons ?a ?b); (case a => walk_at "ev"); (case b => walk_at "ea")))
local macro_rules | `(tactic| walk_at "el") => `(tactic| first
  | ((with_reducible refine' el_lst ?a ?b); (case a => walk_at "ea"); (case b => exact Nat.le_of_ble_eq_true rfl))
  | ((with_reducible refine' el_callH ?a ?s); (case a => walk_at "ea"); (case s => walk_at "sp")))
local macro_rules | `(tactic| walk_at "st") => `(tactic| first
  | ((with_reducible refine' q_asg ?e ?k); (case e => walk_at "ev"))
  | ((with_reducible refine' q_asgL ?e ?k); (case e => walk_at "el"))
  | ((with_reducible refine' s_asg ?e ?k); (case e => walk_at "ev"))
  | ((with_reducible refine' s_asgL ?e ?k); (case e => walk_at "el"))
  | ((with_reducible refine' s_ret ?e ?k); (case e => walk_at "ev"))
  | ((with_reducible refine' s_retL ?e ?k); (case e => walk_at "el")))
local macro_rules | `(tactic| walk_at "et") => `(tactic| first
  | ((with_reducible refine' et_test ?e); (case e => walk_at "ev"))
  | ((with_reducible refine' et_or ?e ?f); (case e => walk_at "et"); (case f => (intro _; walk_at "et")))
  | with_reducible exact et_yes)
local macro_rules | `(tactic| walk_at "sp") => `(tactic| assumption)
local macro_rules | `(tactic| walk_at "if") => `(tactic| first
  | ((with_reducible refine' q_when ?e ?k1 ?k2); (case e => walk_at "et"))
  | ((with_reducible refine' s_when ?e ?k1 ?k2); (case e => walk_at "et"))
  | ((with_reducible refine' q_if ?e ?k1 ?k2); (case e => walk_at "et"))
  | ((with_reducible refine' s_if ?e ?k1 ?k2); (case e => walk_at "et")))
local macro_rules | `(tactic| walk_at "pt") => `(tactic| first | exact put_here | (refine put_step ?_ ?_; (· decide +kernel); walk_at "pt"))
local macro_rules | `(tactic| walk_at "ev") => `(tactic| first
  | ((with_reducible refine' ev_ix0 ?e ?h); (case e => walk_at "ev"); (case h => assumption))
  | ((with_reducible refine' ev_ix1 ?e ?h); (case e => walk_at "ev"); (case h => assumption)))
open Kp415 (signalCount)
section
variable {P : Program} {w : World} {K : PySem.W.Frag} {mg : Str → Option Value} {base : Heap} {A : AdT}
theorem sl_profL {H : Hp} {a t p b : Addr} {s : Stg} (h : SetAt A H a s t p) (g : Good s) (hb : H b = some (.lst (nats (paying s)))) : SpL (sp_profit_at K A) [.ref a, .ref b] H ((profL s).map V.int) := sl_profit_at (K := K) h g hb (paying_len s g) (paying_lt s)
theorem ok_preview_merge {f : Addr} {fd : FuncData} (T : Tx K mg A) (h_paying_signals : Has P w K mg base CX0 2 "paying_signals" ["setting"] (sp_paying_signals K A))
    (h_profit_at : Has P w K mg base CX0 3 "profit_at" ["setting", "signals"] (sp_profit_at K A))
    (h_check_mapping : Has P w K mg base (L2.CX P w) 1 "check_mapping" ["mapping", "signal_count"] (sp_check_mapping K A))
    (h_with_merge : Has P w K mg base CX0 4 "with_merge" ["setting", "mapping"] (sp_with_merge K A))
    (h_prior_against_all : Has P w K mg base CX0 4 "prior_against_all" ["setting"] (sp_prior_against_all K A))
    (h_existing : Has P w K mg base (L2.CX P w) 1 "existing" ["prior"] (sp_existing K A))
    (F : Fun K "preview_merge" "preview_merge" s_preview_merge f fd) : FnOk P w K mg base (L2.CX P w) 5 f fd ["setting", "mapping"] (sp_preview_merge K A) := by
  refine F.okX sc_preview_merge (fun vs H Q E h => ?len) (fun cdv ar outer s H vs Q E hr h => ⟨_, (pss_cons (ps_expr (pe_h h_check_mapping hr (by decide) (passU (takes_of rfl rfl rfl rfl)) (pa_cons (pv 1) (pa_cons (pe_fldK (K := K) (pv 0)) pa_nil))))
      (pss_cons (ps_set (i := 2) sc_preview_merge.nd rfl (Or.inl rfl) (pe_h h_with_merge hr (by decide) pass0 (pa_cons (pv 0) (pa_cons (pv 1) pa_nil))))
      (pss_one (ps_ret (pe_op op_cat (pe_op op_cat (pe_lst (pa_cons pe_int pa_nil)) (pe_h h_existing hr (by decide) (passU (takes_of rfl rfl rfl rfl)) (pa_cons (pe_h h_prior_against_all hr (by decide) pass0 (pa_cons (pv 2) pa_nil)) pa_nil))) (pe_h h_profit_at hr (by decide) pass0 (pa_cons (pv 2) (pa_cons (pe_h h_paying_signals hr (by decide) pass0 (pa_cons (pv 2) pa_nil)) pa_nil)))))))), ?go⟩)
  case len =>
    obtain ⟨a, b, s, t, p, ns, rfl, _⟩ := h
    rfl
  case go =>
    obtain ⟨a, b, s, t, p, ns, rfl, hS, ok, hb, hask, kx, ky⟩ := h
    refine q_chk (r := if ns.length ≠ signalCount s.model ∨ (∃ x ∈ ns, signalCount s.model ≤ x) then some A.xOutsideLimits else none) (by walk_at "ea") ⟨b, ns, signalCount s.model, rfl, hb, ok.n1, rfl⟩ ?_ ?_
    · intro z hz H1 e1
      by_cases hc : ns.length ≠ signalCount s.model ∨ (∃ x ∈ ns, signalCount s.model ≤ x)
      · rw [if_pos hc] at hz
        cases hz
        exact kx .lim (if_pos hc) H1 e1
      · rw [if_neg hc] at hz
        cases hz
    · intro hz H1 e1
      by_cases hc : ns.length ≠ signalCount s.model ∨ (∃ x ∈ ns, signalCount s.model ≤ x)
      · rw [if_pos hc] at hz
        cases hz
      · have hact : actPreview s ns = orDp s (fun q => 0 :: (q ++ profL (mrg s ns))) (dpAll (mrg s ns)) := if_neg hc
        rw [hact] at kx ky
        obtain ⟨hl, hx⟩ := good_map hc
        have okm := okk_mrg ok hl hx
        have hS1 := hS.mono e1
        have hb1 := e1 b _ hb
        refine q_asgP (ep_callH (by walk_at "ea") (sp_wmerge (K := K) hS1 ok.good hb1 hl hx)) fun v H2 e2 hv => ?_
        obtain ⟨a2, t2, p2, rfl, hS2, na, nt, np⟩ := hv
        have E2 := e1.trans e2
        refine x_exist (K := K) (A := A) (σ := [some (V.ref a), some (V.ref b), some (V.ref a2)]) (o := (dpAll (mrg s ns)).map iV) (xs := [.int 0]) (el_lst (ea_cons ev_c ea_nil) (Nat.le_of_ble_eq_true rfl)) (fun H3 e3 => ep_callH (ea_cons (ev_var rfl) ea_nil) (sp_prior_against_all_at (K := K) (hS2.mono e3) okm.good)) ?_ ?_ ?_
        · intro ys hy
          obtain ⟨q, hq, rfl⟩ := Option.map_eq_some_iff.mp hy
          have hl := dpAll_ok okm.good hq
          unfold iV
          rw [List.length_map, hl]
          exact Nat.le_of_ble_eq_true rfl
        · intro hn H3 e3
          rw [Option.map_eq_none_iff] at hn
          exact kx .dp (by rw [hn]; rfl) H3 (E2.trans e3)
        · intro ys hy r H3 hr e3 h3
          obtain ⟨q, hq, rfl⟩ := Option.map_eq_some_iff.mp hy
          have hlq := dpAll_ok okm.good hq
          have hS3 := hS2.mono e3
          have sl := sl_paying_signals (K := K) hS3 okm.good
          have el : EvL (tCallH (sp_profit_at K A) E0 (tCons (tVar 2) (tCons (tCallH (sp_paying_signals K A) E0 (tCons (tVar 2) tNil)) tNil))) [some (V.ref a), some (V.ref b), some (V.ref a2)] H3 ((profL (mrg s ns)).map V.int) :=
            el_callN (ys := nats (paying (mrg s ns))) (el_callH (ea_cons (ev_var rfl) ea_nil) sl) (ev_var rfl) fun q H4 e4 h4 => sl_profL (K := K) (hS3.mono e4) okm.good h4
          refine el H3 (Ex.refl H3) _ fun r2 H4 n4 e4 h4 => ⟨r, r2, _, _, rfl, rfl, e4 r _ h3, h4, sz_of ?_, fun l hl4 => ?_⟩
          · rw [List.length_append, List.length_map]
            unfold iV
            rw [List.length_map, hlq]
            exact Nat.le_of_ble_eq_true rfl
          · have E4 := (E2.trans e3).trans e4
            refine op_get hS (ky s (0 :: (q ++ profL (mrg s ns))) (by rw [hq]; rfl)) (fresh_back E4 hl4) (E4.trans (Ex.new hl4)) (upd_same.trans ?_)
            unfold iV
            simp
theorem ok_merge_signals {f : Addr} {fd : FuncData} (T : Tx K mg A) (h_check_mapping : Has P w K mg base (L2.CX P w) 1 "check_mapping" ["mapping", "signal_count"] (sp_check_mapping K A))
    (h_Setting_merge : HasM P w K mg base CX0 2 A.cSetting "merge" ["self", "mapping"] (sp_Setting_merge K A))
    (h_counted_signals : Has P w K mg base CX0 3 "counted_signals" ["setting"] (sp_counted_signals K A))
    (F : Fun K "merge_signals" "merge_signals" s_merge_signals f fd) : FnOk P w K mg base (L2.CX P w) 4 f fd ["setting", "mapping"] (sp_merge_signals K A) := by
  refine F.okX sc_merge_signals (fun vs H Q E h => ?len) (fun cdv ar outer s H vs Q E hr h => ⟨_, (pss_cons (ps_expr (pe_h h_check_mapping hr (by decide) (passU (takes_of rfl rfl rfl rfl)) (pa_cons (pv 1) (pa_cons (pe_fldK (K := K) (pv 0)) pa_nil))))
      (pss_cons (ps_expr (pe_hm (pv 0) T.cl_Setting h_Setting_merge hr (by decide) (E := fun _ => E0) (fun _ _ _ _ _ _ _ h => h.elim) (pa_cons (pv 1) pa_nil)))
      (pss_one (ps_ret (pe_h h_counted_signals hr (by decide) pass0 (pa_cons (pv 0) pa_nil)))))), ?go⟩)
  case len =>
    obtain ⟨a, b, s, t, p, ns, rfl, _⟩ := h
    rfl
  case go =>
    obtain ⟨a, b, s, t, p, ns, rfl, hS, ok, hb, hask, kx, ky⟩ := h
    refine q_chk (r := if ns.length ≠ signalCount s.model ∨ (∃ x ∈ ns, signalCount s.model ≤ x) then some A.xOutsideLimits else none) (by walk_at "ea") ⟨b, ns, signalCount s.model, rfl, hb, ok.n1, rfl⟩ ?_ ?_
    · intro z hz H1 e1
      by_cases hc : ns.length ≠ signalCount s.model ∨ (∃ x ∈ ns, signalCount s.model ≤ x)
      · rw [if_pos hc] at hz
        cases hz
        exact kx .lim (if_pos hc) H1 e1
      · rw [if_neg hc] at hz
        cases hz
    · intro hz H1 e1
      by_cases hc : ns.length ≠ signalCount s.model ∨ (∃ x ∈ ns, signalCount s.model ≤ x)
      · rw [if_pos hc] at hz
        cases hz
      · have ky := ky (mrg s ns) (counted (mrg s ns)) (if_neg hc)
        obtain ⟨hl, hx⟩ := good_map hc
        have okm := okk_mrg ok hl hx
        have hS1 := hS.mono e1
        have hb1 := e1 b _ hb
        refine q_dropM (vs := [.ref b]) (by walk_at "ev") hS1 lk_mrg (by walk_at "ea") fun H2 e2 => ⟨a, s, t, p, b, ns, rfl, hS1.mono e2, ok.good, e2 b _ hb1, hl, hx, fun H3 t3 p3 hS3 nt3 np3 b3 => ?_⟩
        have E2 := e1.trans e2
        refine s_retL (el_callH (by walk_at "ea") (sl_counted (K := K) hS3 okm.good)) fun r H4 hr e4 h4 => ?_
        obtain ⟨dx, o3⟩ := hS3.ob
        have hra : r ≠ a := fun z => by rw [z, o3] at hr; cases hr
        exact ky H4 r t3 p3 (fresh_back E2 (b3.free hra hr)) h4 (hS3.mono e4) (.inr (fresh_back E2 nt3)) (.inr (fresh_back E2 np3)) (((But.of E2).trans b3).trans (But.of e4))
theorem ok_cheapest_prior {f : Addr} {fd : FuncData} (T : Tx K mg A) (h_cheapest_with_cost : Has P w K mg base CX0 5 "cheapest_with_cost" ["setting"] (sp_cheapest_with_cost K A))
    (F : Fun K "cheapest_prior" "cheapest_prior" s_cheapest_prior f fd) : FnOk P w K mg base CX0 6 f fd ["setting", "numbers"] (sp_cheapest_prior K A) := by
  refine F.ok sc_cheapest_prior (fun vs H Q E h => ?len) (fun cdv ar outer s H vs Q E hr h => ⟨_, (pss_cons (ps_set (i := 2) sc_cheapest_prior.nd rfl (Or.inl rfl) (pe_h h_cheapest_with_cost hr (by decide) pass0 (pa_cons (pv 0) pa_nil)))
      (pss_one (ps_ret (pe_op op_cat (pe_op op_cat (pe_lst (pa_cons pe_int pa_nil)) (pe_ixK (K := K) (pv 2) pe_int)) (pe_ixK (K := K) (pv 2) pe_int))))), ?go⟩)
  case len =>
    obtain ⟨a, b, s, t, p, ns, rfl, _⟩ := h
    rfl
  case go =>
    obtain ⟨a, b, s, t, p, ns, rfl, hS, ok, hb, hask, kx, ky⟩ := h
    refine q_asgP (ep_callH (by walk_at "ea") (sp_cheap (K := K) hS ok.good)) fun v H1 e1 hv => ?_
    obtain ⟨q, r1, r2, c, k, hbest, rfl, hq, h1, hr1, hr2⟩ := hv
    have hact : actCheap s ns = .yes s (0 :: (c ++ k)) := by
      unfold actCheap
      rw [hbest]
    have hbi := best_is ok.good.pos
    rw [hbest] at hbi
    have lc : c.length = 2 ∧ k.length = 2 := by
      have := Option.some.inj hbi
      injection this with h1 h2
      rw [h1, h2]
      exact ⟨rfl, rfl⟩
    have ky := ky _ _ hact
    refine s_retL (el_catR (el_catR (xs := [.int 0]) (ys := iV c) (el_lst (ea_cons ev_c ea_nil) (Nat.le_of_ble_eq_true rfl)) (ev_p0 (by walk_at "ev") h1) hr1 (by unfold iV; rw [List.length_map, lc.1]; exact Nat.le_of_ble_eq_true rfl)) (ys := iV k) (ev_p1 (by walk_at "ev") h1) hr2 (by unfold iV; rw [List.length_append, List.length_map, List.length_map, lc.1, lc.2]; exact Nat.le_of_ble_eq_true rfl)) fun r H2 hr e2 h2 => ?_
    refine op_get hS ky (fresh_back e1 hr) (e1.trans e2) (h2.trans ?_)
    unfold iV
    simp
theorem ok_cheating_signals_for_prior {f : Addr} {fd : FuncData} (T : Tx K mg A) (h_check_prior : Has P w K mg base (L2.CX P w) 1 "check_prior" ["num", "den"] (sp_check_prior K A))
    (h_with_prior : Has P w K mg base CX0 4 "with_prior" ["setting", "num", "den"] (sp_with_prior K A))
    (h_counted_signals : Has P w K mg base CX0 3 "counted_signals" ["setting"] (sp_counted_signals K A))
    (F : Fun K "cheating_signals_for_prior" "cheating_signals_for_prior" s_cheating_signals_for_prior f fd) : FnOk P w K mg base (L2.CX P w) 5 f fd ["setting", "numbers"] (sp_cheating_signals_for_prior K A) := by
  refine F.okX sc_cheating_signals_for_prior (fun vs H Q E h => ?len) (fun cdv ar outer s H vs Q E hr h => ⟨_, (pss_cons (ps_expr (pe_h h_check_prior hr (by decide) (passU (takes_of rfl rfl rfl rfl)) (pa_cons (pe_ixK (K := K) (pv 1) pe_int) (pa_cons (pe_ixK (K := K) (pv 1) pe_int) pa_nil))))
      (pss_one (ps_ret (pe_h h_counted_signals hr (by decide) pass0 (pa_cons (pe_h h_with_prior hr (by decide) pass0 (pa_cons (pv 0) (pa_cons (pe_ixK (K := K) (pv 1) pe_int) (pa_cons (pe_ixK (K := K) (pv 1) pe_int) pa_nil)))) pa_nil))))), ?go⟩)
  case len =>
    obtain ⟨a, b, s, t, p, ns, rfl, _⟩ := h
    rfl
  case go =>
    obtain ⟨a, b, s, t, p, ns, rfl, hS, ok, hb, hask, kx, ky⟩ := h
    obtain ⟨x, y, rfl⟩ := two_of hask
    refine q_chk (r := if (y : Int) < 1 ∨ 99 < (y : Int) ∨ (y : Int) < x then some A.xOutsideLimits else none) (by walk_at "ea") ⟨_, _, rfl, rfl⟩ ?_ ?_
    · intro z hz H1 e1
      by_cases hc : (y : Int) < 1 ∨ 99 < (y : Int) ∨ (y : Int) < x
      · rw [if_pos hc] at hz
        cases hz
        exact kx .lim (if_pos (show y < 1 ∨ 99 < y ∨ y < x by omega)) H1 e1
      · rw [if_neg hc] at hz
        cases hz
    · intro hz H1 e1
      by_cases hc : (y : Int) < 1 ∨ 99 < (y : Int) ∨ (y : Int) < x
      · rw [if_pos hc] at hz
        cases hz
      · have hc' : ¬ (y < 1 ∨ 99 < y ∨ y < x) := by omega
        have ky := ky s (counted (sP s x y)) (if_neg hc')
        have hS1 := hS.mono e1
        have hb1 := e1 b _ hb
        refine s_retL (el_callP (ep_callH (by walk_at "ea") (sp_wprior (K := K) (n := x) (m := y) hS1 ok.good)) fun v H2 e2 hv => ?_) fun r H3 hr e3 h3 => op_get hS ky (fresh_back e1 hr) (e1.trans e3) h3
        obtain ⟨a2, t2, p2, rfl, hS2, _⟩ := hv
        exact sl_counted (K := K) hS2 (okk_sP ok hc').good
theorem ok_cheating_signals_for_stakes {f : Addr} {fd : FuncData} (T : Tx K mg A) (h_check_amounts : Has P w K mg base (L2.CX P w) 1 "check_amounts" ["first", "second"] (sp_check_amounts K A))
    (h_with_stakes : Has P w K mg base CX0 4 "with_stakes" ["setting", "gain", "loss"] (sp_with_stakes K A))
    (h_counted_signals : Has P w K mg base CX0 3 "counted_signals" ["setting"] (sp_counted_signals K A))
    (F : Fun K "cheating_signals_for_stakes" "cheating_signals_for_stakes" s_cheating_signals_for_stakes f fd) : FnOk P w K mg base (L2.CX P w) 5 f fd ["setting", "numbers"] (sp_cheating_signals_for_stakes K A) := by
  refine F.okX sc_cheating_signals_for_stakes (fun vs H Q E h => ?len) (fun cdv ar outer s H vs Q E hr h => ⟨_, (pss_cons (ps_expr (pe_h h_check_amounts hr (by decide) (passU (takes_of rfl rfl rfl rfl)) (pa_cons (pe_ixK (K := K) (pv 1) pe_int) (pa_cons (pe_ixK (K := K) (pv 1) pe_int) pa_nil))))
      (pss_one (ps_ret (pe_h h_counted_signals hr (by decide) pass0 (pa_cons (pe_h h_with_stakes hr (by decide) pass0 (pa_cons (pv 0) (pa_cons (pe_ixK (K := K) (pv 1) pe_int) (pa_cons (pe_ixK (K := K) (pv 1) pe_int) pa_nil)))) pa_nil))))), ?go⟩)
  case len =>
    obtain ⟨a, b, s, t, p, ns, rfl, _⟩ := h
    rfl
  case go =>
    obtain ⟨a, b, s, t, p, ns, rfl, hS, ok, hb, hask, kx, ky⟩ := h
    obtain ⟨x, y, rfl⟩ := two_of hask
    refine q_chk (r := if 999 < (x : Int) ∨ 999 < (y : Int) then some A.xOutsideLimits else none) (by walk_at "ea") ⟨_, _, rfl, rfl⟩ ?_ ?_
    · intro z hz H1 e1
      by_cases hc : 999 < (x : Int) ∨ 999 < (y : Int)
      · rw [if_pos hc] at hz
        cases hz
        exact kx .lim (if_pos (show 999 < x ∨ 999 < y by omega)) H1 e1
      · rw [if_neg hc] at hz
        cases hz
    · intro hz H1 e1
      by_cases hc : 999 < (x : Int) ∨ 999 < (y : Int)
      · rw [if_pos hc] at hz
        cases hz
      · have hc' : ¬ (999 < x ∨ 999 < y) := by omega
        have ky := ky s (counted (sS s x y)) (if_neg hc')
        have hS1 := hS.mono e1
        have hb1 := e1 b _ hb
        refine s_retL (el_callP (ep_callH (by walk_at "ea") (sp_wstakes (K := K) (n := x) (m := y) hS1 ok.good)) fun v H2 e2 hv => ?_) fun r H3 hr e3 h3 => op_get hS ky (fresh_back e1 hr) (e1.trans e3) h3
        obtain ⟨a2, t2, p2, rfl, hS2, _⟩ := hv
        exact sl_counted (K := K) hS2 (okk_sS ok hc').good
theorem ok_get_settings {f : Addr} {fd : FuncData} (T : Tx K mg A) 
    (F : Fun K "get_settings" "get_settings" s_get_settings f fd) : FnOk P w K mg base CX0 1 f fd ["setting", "numbers"] (sp_get_settings K A) := by
  refine F.ok sc_get_settings (fun vs H Q E h => ?len) (fun cdv ar outer s H vs Q E hr h => ⟨_, (pss_cons (ps_set (i := 2) sc_get_settings.nd rfl (Or.inl rfl) (pe_lst (pa_cons (pe_fldK (K := K) (pv 0)) (pa_cons (pe_fldK (K := K) (pv 0)) (pa_cons (pe_fldK (K := K) (pv 0)) (pa_cons (pe_fldK (K := K) (pv 0)) (pa_cons (pe_fldK (K := K) (pv 0)) pa_nil)))))))
      (pss_one (ps_ret (pe_op op_cat (pe_op op_cat (pe_op op_cat (pv 2) (pe_lst (pa_cons (pe_fldK (K := K) (pv 0)) (pa_cons (pe_fldK (K := K) (pv 0)) pa_nil)))) (pe_fldK (K := K) (pv 0))) (pe_fldK (K := K) (pv 0)))))), ?go⟩)
  case len =>
    obtain ⟨a, b, s, t, p, ns, rfl, _⟩ := h
    rfl
  case go =>
    obtain ⟨a, b, s, t, p, ns, rfl, hS, ok, hb, hask, kx, ky⟩ := h
    have ky := ky _ _ rfl
    refine q_asgL (xs := [.int ((signalCount s.model : Nat) : Int), .int (pN s), .int (pD s), .int (ga s), .int (lo s)]) (by walk_at "el") fun q H1 hq e1 h1 => ?_
    have hS1 := hS.mono e1
    have n5 := ok.n5
    have lp := ok.len
    have lt : (nats s.model.testWeights).length ≤ 5 := by rw [nats_len]; omega
    have lq : (nats s.model.productionWeights).length ≤ 5 := by rw [nats_len]; omega
    have c1 : EvL (tOp rCat (tVar 2) (tLst (tCons (tFld K (tVar 0) "harm_price") (tCons (tFld K (tVar 0) "test_price") tNil)))) [some (V.ref a), some (V.ref b), some (V.ref q)] H1 ([.int ((signalCount s.model : Nat) : Int), .int (pN s), .int (pD s), .int (ga s), .int (lo s)] ++ [.int (hP s), .int (tP s)]) :=
      el_catL (ev_var rfl) h1 (el_lst (ea_cons (f_hp (ev_var rfl) hS1 T) (ea_cons (f_tp (ev_var rfl) hS1 T) ea_nil)) (Nat.le_of_ble_eq_true rfl)) (Nat.le_of_ble_eq_true rfl)
    refine s_retL (el_catR (el_catR c1 (f_tw (ev_var rfl) hS1 T) hS1.tw (by show 7 + _ ≤ _; omega)) (f_pw (ev_var rfl) hS1 T) hS1.pw (by rw [List.length_append]; show 7 + _ + _ ≤ _; omega)) fun r H2 hr e2 h2 => ?_
    refine op_get hS ky (fresh_back e1 hr) (e1.trans e2) (h2.trans ?_)
    rw [nats_eq, nats_eq, List.map_append, List.map_append]
    rfl
end
end Dt

set_option Elab.async false
set_option linter.all false
set_option maxRecDepth 100000
set_option maxHeartbeats 600000
namespace Dt
open PySem PySem.Spec PyProof.Rows L2 Evl
local macro_rules | `(tactic| walk_at "lk") => `(tactic| first | exact lk_here | (refine (lk_past ?_).trans ?_; (· decide +kernel); walk_at "lk"))
local macro_rules | `(tactic| walk_at "bd") => `(tactic| first | assumption | exact Good.bt (by assumption) | exact Good.bp (by assumption) | exact Good.bn (by assumption) | exact Good.bd (by assumption) | exact Good.bg (by assumption) | exact Good.bl (by assumption) | exact Good.bh (by assumption) | exact Good.bc (by assumption) | exact Good.btw (by assumption) _ | exact Good.bpw (by assumption) _ | exact bd_mul (by walk_at "bd") (by walk_at "bd") | exact bd_add (by walk_at "bd") (by walk_at "bd") | exact bd_sub (by walk_at "bd") (by walk_at "bd"))
local macro_rules | `(tactic| walk_at "cm") => `(tactic| first | assumption | exact bd_cmul (by walk_at "bd") (by walk_at "bd") (by decide))
local macro_rules | `(tactic| walk_at "ev") => `(tactic| first
  | with_reducible exact ev_c
  | ((with_reducible refine' ev_var ?h); (case h => exact rfl))
  | ((with_reducible refine' f_tsum ?e ?h ?t); (case e => walk_at "ev"); (case h => assumption); (case t => assumption))
  | ((with_reducible refine' f_psum ?e ?h ?t); (case e => walk_at "ev"); (case h => assumption); (case t => assumption))
  | ((with_reducible refine' f_tix ?e ?i ?h ?t ?l); (case e => walk_at "ev"); (case i => walk_at "ev"); (case h => assumption); (case t => assumption); (case l => assumption))
  | ((with_reducible refine' f_pix ?e ?i ?h ?t ?g ?l); (case e => walk_at "ev"); (case i => walk_at "ev"); (case h => assumption); (case t => assumption); (case g => assumption); (case l => assumption))
  | ((with_reducible refine' f_count ?e ?h ?t); (case e => walk_at "ev"); (case h => assumption); (case t => assumption))
  | ((with_reducible refine' f_tw ?e ?h ?t); (case e => walk_at "ev"); (case h => assumption); (case t => assumption))
  | ((with_reducible refine' f_pw ?e ?h ?t); (case e => walk_at "ev"); (case h => assumption); (case t => assumption))
  | ((with_reducible refine' f_pn ?e ?h ?t); (case e => walk_at "ev"); (case h => assumption); (case t => assumption))
  | ((with_reducible refine' f_pd ?e ?h ?t); (case e => walk_at "ev"); (case h => assumption); (case t => assumption))
  | ((with_reducible refine' f_ga ?e ?h ?t); (case e => walk_at "ev"); (case h => assumption); (case t => assumption))
  | ((with_reducible refine' f_lo ?e ?h ?t); (case e => walk_at "ev"); (case h => assumption); (case t => assumption))
  | ((with_reducible refine' f_hp ?e ?h ?t); (case e => walk_at "ev"); (case h => assumption); (case t => assumption))
  | ((with_reducible refine' f_tp ?e ?h ?t); (case e => walk_at "ev"); (case h => assumption); (case t => assumption))
  | ((with_reducible refine' ev_gt ?a ?b); (case a => walk_at "ev"); (case b => walk_at "ev"))
  | ((with_reducible refine' ev_lt ?a ?b); (case a => walk_at "ev"); (case b => walk_at "ev"))
  | ((with_reducible refine' ev_ge ?a ?b); (case a => walk_at "ev"); (case b => walk_at "ev"))
  | ((with_reducible refine' ev_le ?a ?b); (case a => walk_at "ev"); (case b => walk_at "ev"))
  | ((with_reducible refine' ev_eqI ?a ?b); (case a => walk_at "ev"); (case b => walk_at "ev"))
  | ((with_reducible refine' ev_neI ?a ?b); (case a => walk_at "ev"); (case b => walk_at "ev"))
  | ((with_reducible refine' ev_add ?a ?b); (case a => walk_at "ev"); (case b => walk_at "ev"))
  | ((with_reducible refine' ev_sub ?a ?b); (case a => walk_at "ev"); (case b => walk_at "ev"))
  | ((with_reducible refine' ev_mul ?a ?b ?c); (case a => walk_at "ev"); (case b => walk_at "ev"); (case c => walk_at "cm"))
  | ((with_reducible refine' ev_div ?a ?b ?c); (case a => walk_at "ev"); (case b => walk_at "ev"); (case c => assumption))
  | ((with_reducible refine' ev_mod ?a ?b ?c); (case a => walk_at "ev"); (case b => walk_at "ev"); (case c => assumption))
  | ((with_reducible refine' ev_absI ?a); (case a => walk_at "ev"))
  | ((with_reducible refine' ev_callH ?a ?s); (case a => walk_at "ea"); (case s => walk_at "sp"))
  | ((with_reducible refine' ev_sumN ?a); (case a => walk_at "el")))
local macro_rules | `(tactic| walk_at "ea") => `(tactic| first
  | with_reducible exact ea_nil
  | ((with_reducible refine' ea_cons ?a ?b); (case a => walk_at "ev"); (case b => walk_at "ea")))
local macro_rules | `(tactic| walk_at "el") => `(tactic| first
  | ((with_reducible refine' el_lst ?a ?b); (case a => walk_at "ea"); (case b => exact Nat.le_of_ble_eq_true rfl))
  | ((with_reducible refine' el_callH ?a ?s); (case a => walk_at "ea"); (case s => walk_at "sp")))
local macro_rules | `(tactic| walk_at "st") => `(tactic| first
  | ((with_reducible refine' q_asg ?e ?k); (case e => walk_at "ev"))
  | ((with_reducible refine' q_asgL ?e ?k); (case e => walk_at "el"))
  | ((with_reducible refine' s_asg ?e ?k); (case e => walk_at "ev"))
  | ((with_reducible refine' s_asgL ?e ?k); (case e => walk_at "el"))
  | ((with_reducible refine' s_ret ?e ?k); (case e => walk_at "ev"))
  | ((with_reducible refine' s_retL ?e ?k); (case e => walk_at "el")))
local macro_rules | `(tactic| walk_at "et") => `(tactic| first
  | ((with_reducible refine' et_test ?e); (case e => walk_at "ev"))
  | ((with_reducible refine' et_or ?e ?f); (case e => walk_at "et"); (case f => (intro _; walk_at "et")))
  | with_reducible exact et_yes)
local macro_rules | `(tactic| walk_at "sp") => `(tactic| assumption)
local macro_rules | `(tactic| walk_at "if") => `(tactic| first
  | ((with_reducible refine' q_when ?e ?k1 ?k2); (case e => walk_at "et"))
  | ((with_reducible refine' s_when ?e ?k1 ?k2); (case e => walk_at "et"))
  | ((with_reducible refine' q_if ?e ?k1 ?k2); (case e => walk_at "et"))
  | ((with_reducible refine' s_if ?e ?k1 ?k2); (case e => walk_at "et")))
local macro_rules | `(tactic| walk_at "pt") => `(tactic| first | exact put_here | (refine put_step ?_ ?_; (· decide +kernel); walk_at "pt"))
local macro_rules | `(tactic| walk_at "ev") => `(tactic| first
  | ((with_reducible refine' ev_ix0 ?e ?h); (case e => walk_at "ev"); (case h => assumption))
  | ((with_reducible refine' ev_ix1 ?e ?h); (case e => walk_at "ev"); (case h => assumption)))
open Kp415 (signalCount)
def askOf : Nat → List Nat → Prop
  | 3, ns => ns.length = 2
  | 4, ns => ns.length = 2
  | 5, ns => ns.length = 2
  | 6, ns => ns.length = 1
  | 9, ns => ns.length = 1
  | 13, ns => ns.length = 1
  | 18, ns => ns.length = 2
  | 19, ns => ns.length = 2
  | _, _ => True
def actOf : Nat → Stg → List Nat → Out
  | 1 => actSetT
  | 2 => actSetP
  | 3 => actPrior
  | 4 => actStakes
  | 5 => actPrices
  | 6 => actValue
  | 7 => actSignals
  | 8 => actProfit
  | 9 => actProfitOf
  | 10 => actDetect
  | 11 => actHarm
  | 12 => actCost
  | 13 => actDpAt
  | 14 => actDp
  | 15 => actPreview
  | 16 => actMerge
  | 17 => actCheap
  | 18 => actForPrior
  | 19 => actForStakes
  | _ => actGet
def opMax : Nat := 20
def sp_operate (K : PySem.W.Frag) (A : AdT) : Sp := fun vs H Q E => ∃ a k b, vs = [.ref a, .int ((k : Nat) : Int), .ref b] ∧ 1 ≤ k ∧ k ≤ opMax ∧ spOp A (askOf k) (actOf k) [.ref a, .ref b] H Q E
/-- where the operations stand, by their numbers -/
structure Disp (P : Program) (w : World) (K : PySem.W.Frag) (mg : Str → Option Value) (base : Heap) (A : AdT) (lv : Nat) (fo : Nat → Addr) : Prop where
  at_ : ∀ k : Nat, 1 ≤ k → k ≤ opMax → KDi K A.dOPERATIONS (k : Int) (.ref (fo k))
  held : ∀ k : Nat, 1 ≤ k → k ≤ opMax → HeldX P w K mg base (L2.CX P w) lv (fo k) (spOp A (askOf k) (actOf k))
theorem s_retX {X : Addr → Sp → Prop} {E : XK} {tf : TE} {tr : TA} {σ : L2.St} {H : Hp} {D : Ends} {f : Addr} {sp : Sp} {vs : List V} (hf : Ev tf σ H (.ref f)) (hS : X f sp) (ha : EvA tr σ H vs) (k : ∀ H1, Ex H H1 → sp vs H1 D.rt E) : tRet (tCallX X E tf tr) D σ H :=
  hf H (Ex.refl H) _ fun H1 e1 => ⟨f, sp, rfl, hS, ha H1 e1 _ fun H2 e2 => k H2 (e1.trans e2)⟩
theorem ev_kdi {K : PySem.W.Frag} {σ : L2.St} {H : Hp} {ta tb : TE} {D : Addr} {i : Int} {v : V} (ha : Ev ta σ H (.ref D)) (hb : Ev tb σ H (.int i)) (h : KDi K D i v) : Ev (tOp (rIxDi K) ta tb) σ H v :=
  ev_op ha hb fun H1 e Q q => ⟨D, i, v, rfl, rfl, h, q H1 (Ex.refl H1)⟩
theorem pow_le {n x : Nat} : (2 : Int) ^ n ≤ (x : Int) ↔ 2 ^ n ≤ x := by
  have e : ((2 : Int) ^ n) = ((2 ^ n : Nat) : Int) := by simp
  rw [e]
  omega
theorem shr_and (m i : Nat) : (decide (Builtin.bitAnd ((m : Int) / 2 ^ ((i : Int)).toNat) 1 = 1)) = (m / 2 ^ i % 2 == 1) := by
  rw [bitAnd_m1, Int.toNat_natCast]
  have e : ((2 : Int) ^ i) = ((2 ^ i : Nat) : Int) := by simp
  rw [e, ← Int.natCast_ediv]
  have e2 : ((m / 2 ^ i : Nat) : Int) % 2 = ((m / 2 ^ i % 2 : Nat) : Int) := by simp
  rw [e2]
  cases h : (m / 2 ^ i % 2 == 1) with
  | true =>
    have := eq_of_beq h
    rw [this]
    rfl
  | false =>
    refine decide_eq_false fun z => ?_
    have : m / 2 ^ i % 2 = 1 := by omega
    rw [this] at h
    cases h
section
variable {P : Program} {w : World} {K : PySem.W.Frag} {mg : Str → Option Value} {base : Heap} {A : AdT}
/-- a def that raises nothing among those that may -/
theorem FnOk_up {CX : CXT} {k : Nat} {f : Addr} {fd : FuncData} {ps : List Str} {sp : Sp} (F : FnOk P w K mg base CX0 k f fd ps sp) : FnOk P w K mg base CX k f fd ps sp :=
  ⟨F.len, fun ar outer s H args us vs Q E hr he hb hv hs => codeAny_mono (F.run ar outer s H args us vs Q E hr he hb hv hs) fun r s' h => by
    cases r with
    | error e => exact False.elim h
    | ok fl => cases fl <;> exact h⟩
theorem ok_expected_profit_of {f : Addr} {fd : FuncData} (T : Tx K mg A) (h_profit_at : Has P w K mg base CX0 3 "profit_at" ["setting", "signals"] (sp_profit_at K A))
    (h_check_signal_set : Has P w K mg base (L2.CX P w) 1 "check_signal_set" ["mask", "signal_count"] (sp_check_signal_set K A))
    (F : Fun K "expected_profit_of" "expected_profit_of" s_expected_profit_of f fd) : FnOk P w K mg base (L2.CX P w) 4 f fd ["setting", "numbers"] (sp_expected_profit_of K A) := by
  refine F.okX sc_expected_profit_of (fun vs H Q E h => ?len) (fun cdv ar outer s H vs Q E hr h => ⟨_, (pss_cons (ps_set (i := 2) sc_expected_profit_of.nd rfl (Or.inr rfl) (pe_ixK (K := K) (pv 1) pe_int))
      (pss_cons (ps_expr (pe_h h_check_signal_set hr (by decide) (passU (takes_of rfl rfl rfl rfl)) (pa_cons (pv 2) (pa_cons (pe_fldK (K := K) (pv 0)) pa_nil))))
      (pss_cons (ps_setLc (i := 3) (own := [("signal", 4)]) (g := gName 4) (by rfl) sc_expected_profit_of.nd rfl rfl (sw_true rfl rfl rfl (by decide +kernel)) (pi_range1 (by rfl) T.b_range (pa_cons (pe_fldK (K := K) (pv 0)) pa_nil)) (blkOk_by (N := n_expected_profit_of) (sc := defScope s_expected_profit_of) (by decide +kernel)) (fun _ _ _ _ _ => pg_name (i := 4) sc_expected_profit_of.nd rfl (Or.inl rfl)) (fun _ _ _ _ _ => (pts_one (by exact (pt_cmpR op_eq (pe_op o_and (pe_op o_shr (pv 2) (pv 4)) pe_int) pe_int (nomark _))))) (fun _ _ _ _ _ => (by exact (pv 4))))
      (pss_one (ps_ret (pe_op op_cat (pe_lst (pa_cons pe_int pa_nil)) (pe_h h_profit_at hr (by decide) pass0 (pa_cons (pv 0) (pa_cons (pv 3) pa_nil))))))))), ?go⟩)
  case len =>
    obtain ⟨a, b, s, t, p, ns, rfl, _⟩ := h
    rfl
  case go =>
    obtain ⟨a, b, s, t, p, ns, rfl, hS, ok, hb, hask, kx, ky⟩ := h
    obtain ⟨x, rfl⟩ := one_of hask
    have n5 : signalCount s.model ≤ 5 := ok.n5
    walk_at "st"
    intro H1 e1
    have hS1 := hS.mono e1
    have hb1 := e1 b _ hb
    refine q_chk (r := if 2 ^ signalCount s.model ≤ (x : Int) then some A.xOutsideLimits else none) (by walk_at "ea") ⟨_, _, rfl, by omega, by omega, rfl⟩ ?_ ?_
    · intro z hz H2 e2
      by_cases hc : 2 ^ signalCount s.model ≤ (x : Int)
      · rw [if_pos hc] at hz
        cases hz
        exact kx .lim (if_pos (pow_le.mp hc)) H2 (e1.trans e2)
      · rw [if_neg hc] at hz
        cases hz
    · intro hz H2 e2
      by_cases hc : 2 ^ signalCount s.model ≤ (x : Int)
      · rw [if_pos hc] at hz
        cases hz
      · have ky := ky _ _ (if_neg (fun z => hc (pow_le.mpr z)))
        have hS2 := hS1.mono e2
        refine q_asgL (el_cR (n := signalCount s.model) (fun i => x / 2 ^ i % 2 == 1) (fun i => V.int ((i : Nat) : Int)) (by walk_at "ea") (by omega) (fun _ => rfl) (fun i H3 e3 hi => ?_) (fun i H3 e3 hi _ => ?_)) fun q H3 hq e3 h3 => ?_
        · rw [← shr_and]
          exact et_test (ev_eqI (ev_and (ev_shr (by walk_at "ev") (by walk_at "ev") (by omega)) ev_c) ev_c)
        · walk_at "ev"
        · have hS3 := hS2.mono e3
          have sl := sl_profit_at (K := K) hS3 ok.good (l := members s x) h3 (members_len s ok.good x) (members_lt s x)
          refine s_retL (el_cat (el_lst (ea_cons ev_c ea_nil) (Nat.le_of_ble_eq_true rfl)) (el_callH (by walk_at "ea") sl) (Nat.le_of_ble_eq_true rfl)) fun r H4 hr e4 h4 => ?_
          exact op_get hS ky (fresh_back e1 (fresh_back e2 (fresh_back e3 hr))) (((e1.trans e2).trans e3).trans e4) h4
def OpX (A : AdT) (fo : Nat → Addr) : Addr → Sp → Prop := fun f sp => ∃ k, 1 ≤ k ∧ k ≤ opMax ∧ f = fo k ∧ sp = spOp A (askOf k) (actOf k)
theorem opX_held {lv : Nat} {fo : Nat → Addr} (hD : Disp P w K mg base A lv fo) : ∀ f sp, OpX A fo f sp → HeldX P w K mg base (L2.CX P w) lv f sp := fun f sp h => by
  obtain ⟨k, h1, h2, rfl, rfl⟩ := h
  exact hD.held k h1 h2
theorem ok_operate {f : Addr} {fd : FuncData} (T : Tx K mg A) {fo : Nat → Addr} (hD : Disp P w K mg base A 6 fo)
    (F : Fun K "operate" "operate" s_operate f fd) : FnOk P w K mg base (L2.CX P w) 7 f fd ["setting", "number", "numbers"] (sp_operate K A) := by
  refine F.okX sc_operate (fun vs H Q E h => ?len) (fun cdv ar outer s H vs Q E hr h => ⟨_, (pss_one (ps_ret (pe_callX (pe_ixD (K := K) (pe_glob (v := .ref A.dOPERATIONS) rfl T.g_OPERATIONS rfl) (pv 1)) (opX_held hD) hr (by decide) (passU (takes_of rfl rfl rfl rfl)) (pa_cons (pv 0) (pa_cons (pv 2) pa_nil))))), ?go⟩)
  case len =>
    obtain ⟨a, k, b, rfl, _⟩ := h
    rfl
  case go =>
    obtain ⟨a, k, b, rfl, k1, k2, hsp⟩ := h
    exact s_retX (ev_kdi ev_c (by walk_at "ev") (hD.at_ k k1 k2)) ⟨k, k1, k2, rfl, rfl⟩ (by walk_at "ea") fun H1 e1 => spOp_mono hsp e1
end
end Dt

set_option Elab.async false
set_option linter.all false
set_option maxRecDepth 100000
set_option maxHeartbeats 600000
namespace Dt
open PySem PySem.Spec PyProof.Rows L2 Evl
local macro_rules | `(tactic| walk_at "lk") => `(tactic| first | exact lk_here | (refine (lk_past ?_).trans ?_; (· decide +kernel); walk_at "lk"))
local macro_rules | `(tactic| walk_at "bd") => `(tactic| first | assumption | exact Good.bt (by assumption) | exact Good.bp (by assumption) | exact Good.bn (by assumption) | exact Good.bd (by assumption) | exact Good.bg (by assumption) | exact Good.bl (by assumption) | exact Good.bh (by assumption) | exact Good.bc (by assumption) | exact Good.btw (by assumption) _ | exact Good.bpw (by assumption) _ | exact bd_mul (by walk_at "bd") (by walk_at "bd") | exact bd_add (by walk_at "bd") (by walk_at "bd") | exact bd_sub (by walk_at "bd") (by walk_at "bd"))
local macro_rules | `(tactic| walk_at "cm") => `(tactic| first | assumption | exact bd_cmul (by walk_at "bd") (by walk_at "bd") (by decide))
local macro_rules | `(tactic| walk_at "ev") => `(tactic| first
  | with_reducible exact ev_c
  | ((with_reducible refine' ev_var ?h); (case h => exact rfl))
  | ((with_reducible refine' f_tsum ?e ?h ?t); (case e => walk_at "ev"); (case h => assumption); (case t => assumption))
  | ((with_reducible refine' f_psum ?e ?h ?t); (case e => walk_at "ev"); (case h => assumption); (case t => assumption))
  | ((with_reducible refine' f_tix ?e ?i ?h ?t ?l); (case e => walk_at "ev"); (case i => walk_at "ev"); (case h => assumption); (case t => assumption); (case l => assumption))
  | ((with_reducible refine' f_pix ?e ?i ?h ?t ?g ?l); (case e => walk_at "ev"); (case i => walk_at "ev"); (case h => assumption); (case t => assumption); (case g => assumption); (case l => assumption))
  | ((with_reducible refine' f_count ?e ?h ?t); (case e => walk_at "ev"); (case h => assumption); (case t => assumption))
  | ((with_reducible refine' f_tw ?e ?h ?t); (case e => walk_at "ev"); (case h => assumption); (case t => assumption))
  | ((with_reducible refine' f_pw ?e ?h ?t); (case e => walk_at "ev"); (case h => assumption); (case t => assumption))
  | ((with_reducible refine' f_pn ?e ?h ?t); (case e => walk_at "ev"); (case h => assumption); (case t => assumption))
  | ((with_reducible refine' f_pd ?e ?h ?t); (case e => walk_at "ev"); (case h => assumption); (case t => assumption))
  | ((with_reducible refine' f_ga ?e ?h ?t); (case e => walk_at "ev"); (case h => assumption); (case t => assumption))
  | ((with_reducible refine' f_lo ?e ?h ?t); (case e => walk_at "ev"); (case h => assumption); (case t => assumption))
  | ((with_reducible refine' f_hp ?e ?h ?t); (case e => walk_at "ev"); (case h => assumption); (case t => assumption))
  | ((with_reducible refine' f_tp ?e ?h ?t); (case e => walk_at "ev"); (case h => assumption); (case t => assumption))
  | ((with_reducible refine' ev_gt ?a ?b); (case a => walk_at "ev"); (case b => walk_at "ev"))
  | ((with_reducible refine' ev_lt ?a ?b); (case a => walk_at "ev"); (case b => walk_at "ev"))
  | ((with_reducible refine' ev_ge ?a ?b); (case a => walk_at "ev"); (case b => walk_at "ev"))
  | ((with_reducible refine' ev_le ?a ?b); (case a => walk_at "ev"); (case b => walk_at "ev"))
  | ((with_reducible refine' ev_eqI ?a ?b); (case a => walk_at "ev"); (case b => walk_at "ev"))
  | ((with_reducible refine' ev_neI ?a ?b); (case a => walk_at "ev"); (case b => walk_at "ev"))
  | ((with_reducible refine' ev_add ?a ?b); (case a => walk_at "ev"); (case b => walk_at "ev"))
  | ((with_reducible refine' ev_sub ?a ?b); (case a => walk_at "ev"); (case b => walk_at "ev"))
  | ((with_reducible refine' ev_mul ?a ?b ?c); (case a => walk_at "ev"); (case b => walk_at "ev"); (case c => walk_at "cm"))
  | ((with_reducible refine' ev_div ?a ?b ?c); (case a => walk_at "ev"); (case b => walk_at "ev"); (case c => assumption))
  | ((with_reducible refine' ev_mod ?a ?b ?c); (case a => walk_at "ev"); (case b => walk_at "ev"); (case c => assumption))
  | ((with_reducible refine' ev_absI ?a); (case a => walk_at "ev"))
  | ((with_reducible refine' ev_callH ?a ?s); (case a => walk_at "ea"); (case s => walk_at "sp"))
  | ((with_reducible refine' ev_sumN ?a); (case a => walk_at "el")))
local macro_rules | `(tactic| walk_at "ea") => `(tactic| first
  | with_reducible exact ea_nil
  | ((with_reducible refine' ea_cons ?a ?b); (case a => walk_at "ev"); (case b => walk_at "ea")))
local macro_rules | `(tactic| walk_at "el") => `(tactic| first
  | ((with_reducible refine' el_lst ?a ?b); (case a => walk_at "ea"); (case b => exact Nat.le_of_ble_eq_true rfl))
  | ((with_reducible refine' el_callH ?a ?s); (case a => walk_at "ea"); (case s => walk_at "sp")))
local macro_rules | `(tactic| walk_at "st") => `(tactic| first
  | ((with_reducible refine' q_asg ?e ?k); (case e => walk_at "ev"))
  | ((with_reducible refine' q_asgL ?e ?k); (case e => walk_at "el"))
  | ((with_reducible refine' s_asg ?e ?k); (case e => walk_at "ev"))
  | ((with_reducible refine' s_asgL ?e ?k); (case e => walk_at "el"))
  | ((with_reducible refine' s_ret ?e ?k); (case e => walk_at "ev"))
  | ((with_reducible refine' s_retL ?e ?k); (case e => walk_at "el")))
local macro_rules | `(tactic| walk_at "et") => `(tactic| first
  | ((with_reducible refine' et_test ?e); (case e => walk_at "ev"))
  | ((with_reducible refine' et_or ?e ?f); (case e => walk_at "et"); (case f => (intro _; walk_at "et")))
  | with_reducible exact et_yes)
local macro_rules | `(tactic| walk_at "sp") => `(tactic| assumption)
local macro_rules | `(tactic| walk_at "if") => `(tactic| first
  | ((with_reducible refine' q_when ?e ?k1 ?k2); (case e => walk_at "et"))
  | ((with_reducible refine' s_when ?e ?k1 ?k2); (case e => walk_at "et"))
  | ((with_reducible refine' q_if ?e ?k1 ?k2); (case e => walk_at "et"))
  | ((with_reducible refine' s_if ?e ?k1 ?k2); (case e => walk_at "et")))
local macro_rules | `(tactic| walk_at "pt") => `(tactic| first | exact put_here | (refine put_step ?_ ?_; (· decide +kernel); walk_at "pt"))
local macro_rules | `(tactic| walk_at "ev") => `(tactic| first
  | ((with_reducible refine' ev_ix0 ?e ?h); (case e => walk_at "ev"); (case h => assumption))
  | ((with_reducible refine' ev_ix1 ?e ?h); (case e => walk_at "ev"); (case h => assumption)))
open Kp415 (signalCount)
/-- the instance in the heap; behind it the places that belong to it -/
def InAt (A : AdT) (H : Hp) (o : Addr) : Option Stg → List Addr → Prop
  | none, fp => (∃ dx, H o = some (.ins A.cInstance dx [("setting", .non)])) ∧ fp = []
  | some s, fp => ∃ a t p, (∃ dx, H o = some (.ins A.cInstance dx [("setting", .ref a)])) ∧ SetAt A H a s t p ∧ fp = [a, t, p]
theorem InAt.mono {A : AdT} {H H' : Hp} {o : Addr} {st : Option Stg} {fp : List Addr} (h : InAt A H o st fp) (e : Ex H H') : InAt A H' o st fp := by
  cases st with
  | none =>
    obtain ⟨⟨dx, h1⟩, h2⟩ := h
    exact ⟨⟨dx, e o _ h1⟩, h2⟩
  | some s =>
    obtain ⟨a, t, p, ⟨dx, h1⟩, h2, h3⟩ := h
    exact ⟨a, t, p, ⟨dx, e o _ h1⟩, h2.mono e, h3⟩
theorem InAt.ob {A : AdT} {H : Hp} {o : Addr} {st : Option Stg} {fp : List Addr} (h : InAt A H o st fp) : ∃ dx v, H o = some (.ins A.cInstance dx [("setting", v)]) := by
  cases st with
  | none =>
    obtain ⟨⟨dx, h1⟩, _⟩ := h
    exact ⟨dx, _, h1⟩
  | some s =>
    obtain ⟨a, t, p, ⟨dx, h1⟩, _, _⟩ := h
    exact ⟨dx, _, h1⟩
def OkSt (st : Option Stg) : Prop := ∀ s, st = some s → Okk s
def askAll (k : Nat) (ns : List Nat) : Prop := if k = 0 then ns.length = 1 else askOf k ns
def doIt (k : Nat) (st : Option Stg) (ns : List Nat) : Out :=
  if k = 0 then (if ns.getD 0 0 < 1 ∨ 5 < ns.getD 0 0 then .no .lim else .yes (fresh (ns.getD 0 0)) [0]) else match st with
    | none => .no .set
    | some s => actOf k s ns
def ansOf (st : Option Stg) : Out → Option Stg × List Int
  | .no x => (st, [erC x])
  | .yes s xs => (some s, xs)
/-- what an operation may change: the instance and what belongs to it -/
def Away (o : Addr) (fp : List Addr) (H H' : Hp) : Prop := ∀ c u, H c = some u → c ≠ o → c ∉ fp → H' c = some u
def sp_Instance_init (K : PySem.W.Frag) (A : AdT) : Sp := fun vs H Q _ => ∃ o dx, vs = [.ref o] ∧ H o = some (.ins A.cInstance dx []) ∧ ∀ H', InAt A H' o none [] → But o H H' → Q .non H'
def sp_Instance_perform (K : PySem.W.Frag) (A : AdT) : Sp := fun vs H Q E => ∃ o k b ns st fp, vs = [.ref o, .int ((k : Nat) : Int), .ref b] ∧ k ≤ opMax ∧ askAll k ns ∧ InAt A H o st fp ∧ OkSt st ∧ H b = some (.lst (nats ns)) ∧
  (∀ x, doIt k st ns = .no x → ∀ H', Ex H H' → E (.ref (erA A x)) none H') ∧
  (∀ s' xs, doIt k st ns = .yes s' xs → ∀ H' r fp', H r = none → H' r = some (.lst (xs.map V.int)) → InAt A H' o (some s') fp' → (∀ x ∈ fp', x ∈ fp ∨ H x = none) → Away o fp H H' → Q (.ref r) H')
def sp_Instance_answer (K : PySem.W.Frag) (A : AdT) : Sp := fun vs H Q _ => ∃ o k b ns st fp, vs = [.ref o, .int ((k : Nat) : Int), .ref b] ∧ k ≤ opMax ∧ askAll k ns ∧ InAt A H o st fp ∧ OkSt st ∧ H b = some (.lst (nats ns)) ∧
  ∀ H' r fp', H r = none → H' r = some (.lst ((ansOf st (doIt k st ns)).2.map V.int)) → InAt A H' o (ansOf st (doIt k st ns)).1 fp' → (∀ x ∈ fp', x ∈ fp ∨ H x = none) → Away o fp H H' → Q (.ref r) H'
section
variable {P : Program} {w : World} {K : PySem.W.Frag} {mg : Str → Option Value} {base : Heap} {A : AdT}
theorem ev_setting {σ : L2.St} {H : Hp} {ta : TE} {o dx : Addr} {v : V} (he : Ev ta σ H (.ref o)) (h : H o = some (.ins A.cInstance dx [("setting", v)])) (T : Tx K mg A) : Ev (tFld K ta "setting") σ H v :=
  ev_fld he h T.cl_Instance T.nA_Instance_setting lk_here
theorem ok_Instance_init {f : Addr} {fd : FuncData} (T : Tx K mg A) 
    (F : Fun K "__init__" "Instance.__init__" s_Instance_init f fd) : FnOk P w K mg base CX0 1 f fd ["self"] (sp_Instance_init K A) := by
  refine F.ok sc_Instance_init (fun vs H Q E h => ?len) (fun cdv ar outer s H vs Q E hr h => ⟨_, (pss_one (ps_fldK (K := K) (pv 0) pe_non)), ?go⟩)
  case len =>
    obtain ⟨o, dx, rfl, _⟩ := h
    rfl
  case go =>
    obtain ⟨o, dx, rfl, ho, k⟩ := h
    exact s_fldNew [] (by walk_at "ev") (by walk_at "ev") ho T.cl_Instance T.nA_Instance_setting rfl (by decide +kernel) fun H1 e1 => k _ ⟨⟨dx, upd_same⟩, rfl⟩ (But.upd e1)
theorem ok_Instance_perform {f : Addr} {fd : FuncData} (T : Tx K mg A) (h_create : Has P w K mg base (L2.CX P w) 3 "create" ["signal_count"] (sp_create K A))
    (h_operate : Has P w K mg base (L2.CX P w) 7 "operate" ["setting", "number", "numbers"] (sp_operate K A))
    (F : Fun K "perform" "Instance.perform" s_Instance_perform f fd) : FnOk P w K mg base (L2.CX P w) 8 f fd ["self", "number", "numbers"] (sp_Instance_perform K A) := by
  refine F.okX sc_Instance_perform (fun vs H Q E h => ?len) (fun cdv ar outer s H vs Q E hr h => ⟨_, (pss_cons (ps_if (pt_cmpR op_eq (pv 1) pe_int (nomark _)) (pss_cons (ps_fldK (K := K) (pv 0) (pe_h h_create hr (by decide) (passU (takes_of rfl rfl rfl rfl)) (pa_cons (pe_ixK (K := K) (pv 2) pe_int) pa_nil)))
      (pss_one (ps_ret (pe_lst (pa_cons pe_int pa_nil))))) pss_nil)
      (pss_cons (ps_if (pt_cmpR o_isN (pe_fldK (K := K) (pv 0)) pe_non (nomark _)) (pss_one (ps_raise rfl (takes_of rfl rfl rfl rfl) (pmk_own0 PySem.F.excBase_Exception T.x_NoSetting T.g_NoSetting T.k_NoSetting (raises_own T.bs_NoSetting T.ty_NoSetting) (by exact rfl)))) pss_nil)
      (pss_one (ps_ret (pe_h h_operate hr (by decide) (passU (takes_of rfl rfl rfl rfl)) (pa_cons (pe_fldK (K := K) (pv 0)) (pa_cons (pv 1) (pa_cons (pv 2) pa_nil)))))))), ?go⟩)
  case len =>
    obtain ⟨o, k, b, ns, st, fp, rfl, _⟩ := h
    rfl
  case go =>
    obtain ⟨o, k, b, ns, st, fp, rfl, hk, hask, hI, hok, hb, kx, ky⟩ := h
    refine q_when (et_test (ev_eqI (by walk_at "ev") (by walk_at "ev"))) ?_ ?_
    · intro hc H1 e1
      have hk0 : k = 0 := by
        have := of_decide_eq_true hc
        omega
      subst hk0
      unfold askAll at hask
      rw [if_pos rfl] at hask
      obtain ⟨n, rfl⟩ := one_of hask
      have hb1 := e1 b _ hb
      obtain ⟨dx, v, ho⟩ := hI.ob
      refine q_fldC (vs := [.int (n : Int)]) (by walk_at "ea") fun H2 e2 => ⟨n, rfl, fun hn H3 e3 => ?_, fun hn H3 a t p hS na nt np e3 => ?_⟩
      · exact kx .lim (by unfold doIt; rw [if_pos rfl]; exact if_pos hn) H3 ((e1.trans e2).trans e3)
      · have E3 := (e1.trans e2).trans e3
        have ho3 := E3 o _ ho
        refine ⟨_, rfl, o, A.cInstance, dx, _, rfl, ho3, T.cl_Instance, T.nA_Instance_setting, (by show 1 < 1000; decide), ?_⟩
        rw [show putF "setting" (V.ref a) [(("setting" : Str), v)] = [(("setting" : Str), V.ref a)] from put_here]
        refine s_retL (el_lst (ea_cons ev_c ea_nil) (Nat.le_of_ble_eq_true rfl)) fun r H4 hr e4 h4 => ?_
        have na' := fresh_back (e1.trans e2) na
        have nt' := fresh_back (e1.trans e2) nt
        have np' := fresh_back (e1.trans e2) np
        have ao : a ≠ o := fun z => by rw [z, ho] at na'; cases na'
        have to : t ≠ o := fun z => by rw [z, ho] at nt'; cases nt'
        have po : p ≠ o := fun z => by rw [z, ho] at np'; cases np'
        have ro := ne_upd hr
        have hr' : H r = none := fresh_back E3 (by rw [upd_ne ro] at hr; exact hr)
        obtain ⟨dx2, hob⟩ := hS.ob
        refine ky (fresh n) [0] (by unfold doIt; rw [if_pos rfl]; exact if_neg (by show ¬ (n < 1 ∨ 5 < n); omega)) H4 r [a, t, p] hr' h4 ⟨a, t, p, ⟨dx, e4 o _ upd_same⟩, ⟨⟨dx2, e4 a _ (by rw [upd_ne ao]; exact hob)⟩, e4 t _ (by rw [upd_ne to]; exact hS.tw), e4 p _ (by rw [upd_ne po]; exact hS.pw)⟩, rfl⟩ ?_ ?_
        · intro x hx
          rcases List.mem_cons.mp hx with rfl | hx
          · exact .inr na'
          · rcases List.mem_cons.mp hx with rfl | hx
            · exact .inr nt'
            · rw [List.mem_singleton.mp hx]
              exact .inr np'
        · intro c u hc hn _
          exact e4 c _ (by rw [upd_ne hn]; exact E3 c _ hc)
    · intro hc H1 e1
      have hk0 : k ≠ 0 := by
        have := of_decide_eq_false hc
        omega
      unfold askAll at hask
      rw [if_neg hk0] at hask
      have hb1 := e1 b _ hb
      cases st with
      | none =>
        obtain ⟨⟨dx, ho⟩, rfl⟩ := hI
        refine q_when (et_test (ev_isN (ev_setting (by walk_at "ev") (e1 o _ ho) T))) ?_ ?_
        · intro _ H2 e2
          exact kx .set (by unfold doIt; rw [if_neg hk0]) H2 (e1.trans e2)
        · intro hf
          cases hf
      | some s =>
        obtain ⟨a, t, p, ⟨dx, ho⟩, hS, rfl⟩ := hI
        refine q_when (et_test (ev_isN (ev_setting (by walk_at "ev") (e1 o _ ho) T))) ?_ ?_
        · intro hf
          cases hf
        · intro _ H2 e2
          have E2 := e1.trans e2
          have hS2 := hS.mono E2
          obtain ⟨dx2, hob⟩ := hS.ob
          have oa : o ≠ a := ne_of_some ho hob (by intro z; injection z with z1 z2 z3; cases z3)
          refine s_retC (vs := [.ref a, .int (k : Int), .ref b]) (ea_cons (ev_setting (by walk_at "ev") (E2 o _ ho) T) (by walk_at "ea")) fun H3 e3 => ?_
          have E3 := E2.trans e3
          refine ⟨a, k, b, rfl, by omega, hk, a, b, s, t, p, ns, rfl, hS.mono E3, hok s rfl, E3 b _ hb, hask, fun x hx H' e' => kx x (by unfold doIt; rw [if_neg hk0]; exact hx) H' (E3.trans e'), fun s' xs hy H' r t' p' hr h1 h2 h3 h4 h5 => ?_⟩
          refine ky s' xs (by unfold doIt; rw [if_neg hk0]; exact hy) H' r [a, t', p'] (fresh_back E3 hr) h1 ⟨a, t', p', ⟨dx, h5 o _ (E3 o _ ho) oa⟩, h2, rfl⟩ ?_ ?_
          · intro x hx
            rcases List.mem_cons.mp hx with rfl | hx
            · exact .inl (List.mem_cons_self)
            · rcases List.mem_cons.mp hx with rfl | hx
              · rcases h3 with rfl | h3
                · exact .inl (by simp)
                · exact .inr (fresh_back E3 h3)
              · rw [List.mem_singleton.mp hx]
                rcases h4 with rfl | h4
                · exact .inl (by simp)
                · exact .inr (fresh_back E3 h4)
          · intro c u hc hn hf
            exact h5 c _ (E3 c _ hc) (fun z => hf (by rw [z]; exact List.mem_cons_self))
theorem ok_Instance_answer {f : Addr} {fd : FuncData} (T : Tx K mg A) (h_Instance_perform : HasM P w K mg base (L2.CX P w) 8 A.cInstance "perform" ["self", "number", "numbers"] (sp_Instance_perform K A))
    (F : Fun K "answer" "Instance.answer" s_Instance_answer f fd) : FnOk P w K mg base CX0 9 f fd ["self", "number", "numbers"] (sp_Instance_answer K A) := by
  refine F.ok sc_Instance_answer (fun vs H Q E h => ?len) (fun cdv ar outer s H vs Q E hr h => ⟨_, (pss_one (ps_try_many rfl rfl takes_none5 (fun W pn xe tk _ => (pss_one (ps_ret (pe_hm (pv 0) T.cl_Instance h_Instance_perform hr (by decide) (fun σ => passAt tk σ) (pa_cons (pv 1) (pa_cons (pv 2) pa_nil)))))) (HdsOk.cons ⟨rfl, by decide, Or.inl T.g_NoSetting⟩ (fun _ _ _ _ _ _ _ => (pss_one (ps_ret (pe_lst (pa_cons (pe_un un_neg pe_int) pa_nil))))) (HdsOk.cons ⟨rfl, by decide, Or.inl T.g_NoSuchSignal⟩ (fun _ _ _ _ _ _ _ => (pss_one (ps_ret (pe_lst (pa_cons (pe_un un_neg pe_int) pa_nil))))) (HdsOk.cons ⟨rfl, by decide, Or.inl T.g_OutsideLimits⟩ (fun _ _ _ _ _ _ _ => (pss_one (ps_ret (pe_lst (pa_cons (pe_un un_neg pe_int) pa_nil))))) (HdsOk.cons ⟨rfl, by decide, Or.inl T.g_NoDeterrentPrior⟩ (fun _ _ _ _ _ _ _ => (pss_one (ps_ret (pe_lst (pa_cons (pe_un un_neg pe_int) pa_nil))))) HdsOk.nil)))))), ?go⟩)
  case len =>
    obtain ⟨o, k, b, ns, st, fp, rfl, _⟩ := h
    rfl
  case go =>
    obtain ⟨o, k, b, ns, st, fp, rfl, hk, hask, hI, hok, hb, ky⟩ := h
    obtain ⟨dx, v, ho⟩ := hI.ob
    have no : ∀ x, doIt k st ns = .no x → ∀ H1, Ex H H1 → ∀ i : Int, -i = erC x → ∀ {D : Ends} {σ : L2.St}, (∀ v H', (∃ r, v = V.ref r ∧ H r = none ∧ H' r = some (.lst [V.int (erC x)]) ∧ Ex H H') → D.rt v H') →
        tRet (tLst (tCons (tUn (rU fun i => .int (-i)) (tC (.int i))) tNil)) D σ H1 := by
      intro x hx H1 e1 i hi D σ hD
      refine s_retL (el_lst (ea_cons (ev_un ev_c ru_neg) ea_nil) (Nat.le_of_ble_eq_true rfl)) fun r H2 hr e2 h2 => ?_
      refine hD _ _ ⟨r, rfl, fresh_back e1 hr, ?_, e1.trans e2⟩
      rw [← hi]
      exact h2
    have fin : ∀ x, doIt k st ns = .no x → ∀ v H', (∃ r, v = V.ref r ∧ H r = none ∧ H' r = some (.lst [V.int (erC x)]) ∧ Ex H H') → Q v H' := by
      rintro x hx v H' ⟨r, rfl, hr, h2, e⟩
      refine ky H' r fp hr ?_ ?_ (fun x hx => .inl hx) fun c u hc _ _ => e c u hc
      · rw [hx]
        exact h2
      · rw [hx]
        exact hI.mono e
    refine s_retM (vs := [.int (k : Int), .ref b]) (by walk_at "ev") ho ((lk_past (by decide +kernel)).trans rfl) (by walk_at "ea") fun H2 E2 => ?_
    refine ⟨o, k, b, ns, st, fp, rfl, hk, hask, hI.mono E2, hok, E2 b _ hb, fun x hx H' e' => ?_, fun s' xs hy H' r fp' hr h1 h2 h3 h4 => ?_⟩
    · have E := E2.trans e'
      cases x with
      | set => exact ⟨true, T.e_NoSetting_NoSetting, fun _ _ _ => no .set hx H' E 11 rfl (fin .set hx), fun q => Bool.noConfusion q⟩
      | sig => exact ⟨false, T.e_NoSuchSignal_NoSetting, fun q => Bool.noConfusion q, fun _ => ⟨true, T.e_NoSuchSignal_NoSuchSignal, fun _ _ _ => no .sig hx H' E 2 rfl (fin .sig hx), fun q => Bool.noConfusion q⟩⟩
      | lim => exact ⟨false, T.e_OutsideLimits_NoSetting, fun q => Bool.noConfusion q, fun _ => ⟨false, T.e_OutsideLimits_NoSuchSignal, fun q => Bool.noConfusion q, fun _ => ⟨true, T.e_OutsideLimits_OutsideLimits, fun _ _ _ => no .lim hx H' E 22 rfl (fin .lim hx), fun q => Bool.noConfusion q⟩⟩⟩
      | dp => exact ⟨false, T.e_NoDeterrentPrior_NoSetting, fun q => Bool.noConfusion q, fun _ => ⟨false, T.e_NoDeterrentPrior_NoSuchSignal, fun q => Bool.noConfusion q, fun _ => ⟨false, T.e_NoDeterrentPrior_OutsideLimits, fun q => Bool.noConfusion q, fun _ => ⟨true, T.e_NoDeterrentPrior_NoDeterrentPrior, fun _ _ _ => no .dp hx H' E 33 rfl (fin .dp hx), fun q => Bool.noConfusion q⟩⟩⟩⟩
    · refine ky H' r fp' (fresh_back E2 hr) ?_ ?_ (fun x hx => (h3 x hx).imp id (fresh_back E2)) fun c u hc hn hf => h4 c u (E2 c u hc) hn hf
      · rw [hy]
        exact h1
      · rw [hy]
        exact h2
end
end Dt

set_option Elab.async false
set_option linter.all false
set_option maxRecDepth 100000
set_option maxHeartbeats 600000
namespace Dt
open PySem PySem.Spec PyProof.Rows L2 Evl
local macro_rules | `(tactic| walk_at "lk") => `(tactic| first | exact lk_here | (refine (lk_past ?_).trans ?_; (· decide +kernel); walk_at "lk"))
local macro_rules | `(tactic| walk_at "bd") => `(tactic| first | assumption | exact Good.bt (by assumption) | exact Good.bp (by assumption) | exact Good.bn (by assumption) | exact Good.bd (by assumption) | exact Good.bg (by assumption) | exact Good.bl (by assumption) | exact Good.bh (by assumption) | exact Good.bc (by assumption) | exact Good.btw (by assumption) _ | exact Good.bpw (by assumption) _ | exact bd_mul (by walk_at "bd") (by walk_at "bd") | exact bd_add (by walk_at "bd") (by walk_at "bd") | exact bd_sub (by walk_at "bd") (by walk_at "bd"))
local macro_rules | `(tactic| walk_at "cm") => `(tactic| first | assumption | exact bd_cmul (by walk_at "bd") (by walk_at "bd") (by decide))
local macro_rules | `(tactic| walk_at "ev") => `(tactic| first
  | with_reducible exact ev_c
  | ((with_reducible refine' ev_var ?h); (case h => exact rfl))
  | ((with_reducible refine' f_tsum ?e ?h ?t); (case e => walk_at "ev"); (case h => assumption); (case t => assumption))
  | ((with_reducible refine' f_psum ?e ?h ?t); (case e => walk_at "ev"); (case h => assumption); (case t => assumption))
  | ((with_reducible refine' f_tix ?e ?i ?h ?t ?l); (case e => walk_at "ev"); (case i => walk_at "ev"); (case h => assumption); (case t => assumption); (case l => assumption))
  | ((with_reducible refine' f_pix ?e ?i ?h ?t ?g ?l); (case e => walk_at "ev"); (case i => walk_at "ev"); (case h => assumption); (case t => assumption); (case g => assumption); (case l => assumption))
  | ((with_reducible refine' f_count ?e ?h ?t); (case e => walk_at "ev"); (case h => assumption); (case t => assumption))
  | ((with_reducible refine' f_tw ?e ?h ?t); (case e => walk_at "ev"); (case h => assumption); (case t => assumption))
  | ((with_reducible refine' f_pw ?e ?h ?t); (case e => walk_at "ev"); (case h => assumption); (case t => assumption))
  | ((with_reducible refine' f_pn ?e ?h ?t); (case e => walk_at "ev"); (case h => assumption); (case t => assumption))
  | ((with_reducible refine' f_pd ?e ?h ?t); (case e => walk_at "ev"); (case h => assumption); (case t => assumption))
  | ((with_reducible refine' f_ga ?e ?h ?t); (case e => walk_at "ev"); (case h => assumption); (case t => assumption))
  | ((with_reducible refine' f_lo ?e ?h ?t); (case e => walk_at "ev"); (case h => assumption); (case t => assumption))
  | ((with_reducible refine' f_hp ?e ?h ?t); (case e => walk_at "ev"); (case h => assumption); (case t => assumption))
  | ((with_reducible refine' f_tp ?e ?h ?t); (case e => walk_at "ev"); (case h => assumption); (case t => assumption))
  | ((with_reducible refine' ev_gt ?a ?b); (case a => walk_at "ev"); (case b => walk_at "ev"))
  | ((with_reducible refine' ev_lt ?a ?b); (case a => walk_at "ev"); (case b => walk_at "ev"))
  | ((with_reducible refine' ev_ge ?a ?b); (case a => walk_at "ev"); (case b => walk_at "ev"))
  | ((with_reducible refine' ev_le ?a ?b); (case a => walk_at "ev"); (case b => walk_at "ev"))
  | ((with_reducible refine' ev_eqI ?a ?b); (case a => walk_at "ev"); (case b => walk_at "ev"))
  | ((with_reducible refine' ev_neI ?a ?b); (case a => walk_at "ev"); (case b => walk_at "ev"))
  | ((with_reducible refine' ev_add ?a ?b); (case a => walk_at "ev"); (case b => walk_at "ev"))
  | ((with_reducible refine' ev_sub ?a ?b); (case a => walk_at "ev"); (case b => walk_at "ev"))
  | ((with_reducible refine' ev_mul ?a ?b ?c); (case a => walk_at "ev"); (case b => walk_at "ev"); (case c => walk_at "cm"))
  | ((with_reducible refine' ev_div ?a ?b ?c); (case a => walk_at "ev"); (case b => walk_at "ev"); (case c => assumption))
  | ((with_reducible refine' ev_mod ?a ?b ?c); (case a => walk_at "ev"); (case b => walk_at "ev"); (case c => assumption))
  | ((with_reducible refine' ev_absI ?a); (case a => walk_at "ev"))
  | ((with_reducible refine' ev_callH ?a ?s); (case a => walk_at "ea"); (case s => walk_at "sp"))
  | ((with_reducible refine' ev_sumN ?a); (case a => walk_at "el")))
local macro_rules | `(tactic| walk_at "ea") => `(tactic| first
  | with_reducible exact ea_nil
  | ((with_reducible refine' ea_cons ?a ?b); (case a => walk_at "ev"); (case b => walk_at "ea")))
local macro_rules | `(tactic| walk_at "el") => `(tactic| first
  | ((with_reducible refine' el_lst ?a ?b); (case a => walk_at "ea"); (case b => exact Nat.le_of_ble_eq_true rfl))
  | ((with_reducible refine' el_callH ?a ?s); (case a => walk_at "ea"); (case s => walk_at "sp")))
local macro_rules | `(tactic| walk_at "st") => `(tactic| first
  | ((with_reducible refine' q_asg ?e ?k); (case e => walk_at "ev"))
  | ((with_reducible refine' q_asgL ?e ?k); (case e => walk_at "el"))
  | ((with_reducible refine' s_asg ?e ?k); (case e => walk_at "ev"))
  | ((with_reducible refine' s_asgL ?e ?k); (case e => walk_at "el"))
  | ((with_reducible refine' s_ret ?e ?k); (case e => walk_at "ev"))
  | ((with_reducible refine' s_retL ?e ?k); (case e => walk_at "el")))
local macro_rules | `(tactic| walk_at "et") => `(tactic| first
  | ((with_reducible refine' et_test ?e); (case e => walk_at "ev"))
  | ((with_reducible refine' et_or ?e ?f); (case e => walk_at "et"); (case f => (intro _; walk_at "et")))
  | with_reducible exact et_yes)
local macro_rules | `(tactic| walk_at "sp") => `(tactic| assumption)
local macro_rules | `(tactic| walk_at "if") => `(tactic| first
  | ((with_reducible refine' q_when ?e ?k1 ?k2); (case e => walk_at "et"))
  | ((with_reducible refine' s_when ?e ?k1 ?k2); (case e => walk_at "et"))
  | ((with_reducible refine' q_if ?e ?k1 ?k2); (case e => walk_at "et"))
  | ((with_reducible refine' s_if ?e ?k1 ?k2); (case e => walk_at "et")))
local macro_rules | `(tactic| walk_at "pt") => `(tactic| first | exact put_here | (refine put_step ?_ ?_; (· decide +kernel); walk_at "pt"))
local macro_rules | `(tactic| walk_at "ev") => `(tactic| first
  | ((with_reducible refine' ev_ix0 ?e ?h); (case e => walk_at "ev"); (case h => assumption))
  | ((with_reducible refine' ev_ix1 ?e ?h); (case e => walk_at "ev"); (case h => assumption)))
open Kp415 (signalCount)
abbrev Cl := Nat × List Nat
def flat1 (c : Cl) : List Nat := c.1 :: c.2.length :: (c.2 ++ [0])
def flat : List Cl → List Nat
  | [] => []
  | c :: r => flat1 c ++ flat r
theorem flat_app : ∀ (x y : List Cl), flat (x ++ y) = flat x ++ flat y
  | [], _ => rfl
  | c :: r, y => by
    show flat1 c ++ flat (r ++ y) = (flat1 c ++ flat r) ++ flat y
    rw [flat_app r y, List.append_assoc]
theorem flat1_len (c : Cl) : (flat1 c).length = c.2.length + 3 := by
  unfold flat1
  simp
def stepM (st : Option Stg) (c : Cl) : Option Stg × List Int := ansOf st (doIt c.1 st c.2)
def stA : Option Stg → List Cl → Option Stg
  | st, [] => st
  | st, c :: r => stA (stepM st c).1 r
def rpl : Option Stg → List Cl → List Int
  | _, [] => []
  | st, c :: r => ((stepM st c).2.length : Int) :: ((stepM st c).2 ++ rpl (stepM st c).1 r)
theorem stA_snoc : ∀ (l : List Cl) (st : Option Stg) (c : Cl), stA st (l ++ [c]) = (stepM (stA st l) c).1
  | [], _, _ => rfl
  | d :: l, st, c => stA_snoc l (stepM st d).1 c
theorem rpl_snoc : ∀ (l : List Cl) (st : Option Stg) (c : Cl), rpl st (l ++ [c]) = rpl st l ++ (((stepM (stA st l) c).2.length : Int) :: (stepM (stA st l) c).2)
  | [], st, c => by
    show ((stepM st c).2.length : Int) :: ((stepM st c).2 ++ []) = _
    rw [List.append_nil]
    rfl
  | d :: l, st, c => by
    show ((stepM st d).2.length : Int) :: ((stepM st d).2 ++ rpl (stepM st d).1 (l ++ [c])) = ((stepM st d).2.length : Int) :: ((stepM st d).2 ++ rpl (stepM st d).1 l) ++ _
    rw [rpl_snoc l]
    simp only [List.cons_append, List.append_assoc]
    rfl
/-- a call that the document lets be handed in -/
def CallOk (c : Cl) : Prop := c.1 ≤ opMax ∧ askAll c.1 c.2
/-! ### what stands where in the flat list -/
theorem at_here (P : List Nat) (k : Nat) (R : List Nat) : atI (nats (P ++ k :: R)) ((P.length : Nat) : Int) = some (.int (k : Int)) := by
  have h := nats_at (l := P ++ k :: R) (i := P.length) (by rw [List.length_append, List.length_cons]; omega)
  rw [h, List.getD_eq_getElem?_getD, List.getElem?_append_right (Nat.le_refl _), Nat.sub_self]
  rfl
theorem at_next (P : List Nat) (k n : Nat) (R : List Nat) : atI (nats (P ++ k :: n :: R)) (((P.length : Nat) : Int) + 1) = some (.int (n : Int)) := by
  have h := at_here (P ++ [k]) n R
  rw [List.append_assoc, List.length_append] at h
  exact h
theorem cut_here (P : List Nat) (k n : Nat) (ns R : List Nat) : cutV (nats (P ++ k :: n :: (ns ++ R))) (some (((P.length : Nat) : Int) + 2)) (some (((P.length : Nat) : Int) + 2 + ((ns.length : Nat) : Int))) = nats ns := by
  have e1 : ((P.length : Nat) : Int) + 2 = ((P.length + 2 : Nat) : Int) := by omega
  have e2 : ((P.length : Nat) : Int) + 2 + ((ns.length : Nat) : Int) = ((P.length + 2 + ns.length : Nat) : Int) := by omega
  unfold cutV
  rw [e2, e1, HT.sIx_nat, HT.sIx_nat, nats_len]
  have hl : (P ++ k :: n :: (ns ++ R)).length = P.length + 2 + ns.length + R.length := by simp; omega
  rw [hl, Nat.min_eq_left (by omega), Nat.min_eq_left (by omega)]
  have e3 : P ++ k :: n :: (ns ++ R) = (P ++ [k, n]) ++ (ns ++ R) := by simp
  have e4 : (nats (P ++ k :: n :: (ns ++ R))).drop (P.length + 2) = nats (ns ++ R) := by
    rw [e3]
    unfold nats
    rw [List.map_append]
    have : ((P ++ [k, n]).map fun (x : Nat) => V.int (x : Int)).length = P.length + 2 := by simp
    rw [← this, List.drop_left]
  rw [e4, Nat.add_sub_cancel_left]
  unfold nats
  rw [List.map_append]
  have : (ns.map fun (x : Nat) => V.int (x : Int)).length = ns.length := by simp
  rw [← this, List.take_left]
section
variable {K : PySem.W.Frag} {σ : L2.St} {H : Hp} {ta t1 t2 : TE} {D : Ends} {tz : TS} {a C dx : Addr} {fs : List (Str × V)} {v1 : V} {xs ys : List V}
theorem q_asgMN {sp : Sp} {m : Str} {E : L2.St → XK} {i : Nat} (ha : Ev ta σ H (.ref a)) (ho : H a = some (.ins C dx fs)) (hl : fs.lookup m = none) (h1 : Ev t1 σ H v1) (h2 : EvL t2 σ H ys)
    (k : ∀ q H1, H q = none → Ex H H1 → H1 q = some (.lst ys) → sp [.ref a, v1, .ref q] H1 (fun v H2 => tz D (σ.set i (some v)) H2) (E σ)) : tSeq (tAsg (tMethH C m sp E ta (tCons t1 (tCons t2 tNil))) (gName i)) tz D σ H :=
  ha H (Ex.refl H) _ fun H1 e1 => ⟨a, dx, fs, rfl, e1 a _ ho, hl, h1 H1 e1 _ fun H2 e2 => h2 H2 (e1.trans e2) _ fun q H3 hq e3 h3 => k q H3 (fresh_back (e1.trans e2) hq) ((e1.trans e2).trans e3) h3⟩
theorem q_ext {l r : Addr} (hl : H l = some (.lst xs)) (hr : H r = some (.lst ys)) (ha : Ev ta σ H (.ref l)) (hb : Ev t1 σ H (.ref r)) (hz : xs.length + ys.length ≤ 100000) (k : ∀ H1, Ex H H1 → tz D σ (upd H1 l (.lst (xs ++ ys)))) :
    tSeq (tDrop (tBM K "list" rExtend ta (tCons t1 tNil))) tz D σ H := ha H (Ex.refl H) _ fun H1 e1 =>
  ⟨Or.inl ⟨rfl, xs, sq_of (e1 l _ hl)⟩, hb H1 e1 _ fun H2 e2 => ⟨l, r, xs, ys, rfl, rfl, (e1.trans e2) l _ hl, (e1.trans e2) r _ hr, sz_of hz, k H2 (e1.trans e2)⟩⟩
end
end Dt

set_option Elab.async false
set_option linter.all false
set_option maxRecDepth 100000
set_option maxHeartbeats 600000
namespace Dt
open PySem PySem.Spec PyProof.Rows L2 Evl
local macro_rules | `(tactic| walk_at "lk") => `(tactic| first | exact lk_here | (refine (lk_past ?_).trans ?_; (· decide +kernel); walk_at "lk"))
local macro_rules | `(tactic| walk_at "bd") => `(tactic| first | assumption | exact Good.bt (by assumption) | exact Good.bp (by assumption) | exact Good.bn (by assumption) | exact Good.bd (by assumption) | exact Good.bg (by assumption) | exact Good.bl (by assumption) | exact Good.bh (by assumption) | exact Good.bc (by assumption) | exact Good.btw (by assumption) _ | exact Good.bpw (by assumption) _ | exact bd_mul (by walk_at "bd") (by walk_at "bd") | exact bd_add (by walk_at "bd") (by walk_at "bd") | exact bd_sub (by walk_at "bd") (by walk_at "bd"))
local macro_rules | `(tactic| walk_at "cm") => `(tactic| first | assumption | exact bd_cmul (by walk_at "bd") (by walk_at "bd") (by decide))
local macro_rules | `(tactic| walk_at "ev") => `(tactic| first
  | with_reducible exact ev_c
  | ((with_reducible refine' ev_var ?h); (case h => exact rfl))
  | ((with_reducible refine' f_tsum ?e ?h ?t); (case e => walk_at "ev"); (case h => assumption); (case t => assumption))
  | ((with_reducible refine' f_psum ?e ?h ?t); (case e => walk_at "ev"); (case h => assumption); (case t => assumption))
  | ((with_reducible refine' f_tix ?e ?i ?h ?t ?l); (case e => walk_at "ev"); (case i => walk_at "ev"); (case h => assumption); (case t => assumption); (case l => assumption))
  | ((with_reducible refine' f_pix ?e ?i ?h ?t ?g ?l); (case e => walk_at "ev"); (case i => walk_at "ev"); (case h => assumption); (case t => assumption); (case g => assumption); (case l => assumption))
  | ((with_reducible refine' f_count ?e ?h ?t); (case e => walk_at "ev"); (case h => assumption); (case t => assumption))
  | ((with_reducible refine' f_tw ?e ?h ?t); (case e => walk_at "ev"); (case h => assumption); (case t => assumption))
  | ((with_reducible refine' f_pw ?e ?h ?t); (case e => walk_at "ev"); (case h => assumption); (case t => assumption))
  | ((with_reducible refine' f_pn ?e ?h ?t); (case e => walk_at "ev"); (case h => assumption); (case t => assumption))
  | ((with_reducible refine' f_pd ?e ?h ?t); (case e => walk_at "ev"); (case h => assumption); (case t => assumption))
  | ((with_reducible refine' f_ga ?e ?h ?t); (case e => walk_at "ev"); (case h => assumption); (case t => assumption))
  | ((with_reducible refine' f_lo ?e ?h ?t); (case e => walk_at "ev"); (case h => assumption); (case t => assumption))
  | ((with_reducible refine' f_hp ?e ?h ?t); (case e => walk_at "ev"); (case h => assumption); (case t => assumption))
  | ((with_reducible refine' f_tp ?e ?h ?t); (case e => walk_at "ev"); (case h => assumption); (case t => assumption))
  | ((with_reducible refine' ev_gt ?a ?b); (case a => walk_at "ev"); (case b => walk_at "ev"))
  | ((with_reducible refine' ev_lt ?a ?b); (case a => walk_at "ev"); (case b => walk_at "ev"))
  | ((with_reducible refine' ev_ge ?a ?b); (case a => walk_at "ev"); (case b => walk_at "ev"))
  | ((with_reducible refine' ev_le ?a ?b); (case a => walk_at "ev"); (case b => walk_at "ev"))
  | ((with_reducible refine' ev_eqI ?a ?b); (case a => walk_at "ev"); (case b => walk_at "ev"))
  | ((with_reducible refine' ev_neI ?a ?b); (case a => walk_at "ev"); (case b => walk_at "ev"))
  | ((with_reducible refine' ev_add ?a ?b); (case a => walk_at "ev"); (case b => walk_at "ev"))
  | ((with_reducible refine' ev_sub ?a ?b); (case a => walk_at "ev"); (case b => walk_at "ev"))
  | ((with_reducible refine' ev_mul ?a ?b ?c); (case a => walk_at "ev"); (case b => walk_at "ev"); (case c => walk_at "cm"))
  | ((with_reducible refine' ev_div ?a ?b ?c); (case a => walk_at "ev"); (case b => walk_at "ev"); (case c => assumption))
  | ((with_reducible refine' ev_mod ?a ?b ?c); (case a => walk_at "ev"); (case b => walk_at "ev"); (case c => assumption))
  | ((with_reducible refine' ev_absI ?a); (case a => walk_at "ev"))
  | ((with_reducible refine' ev_callH ?a ?s); (case a => walk_at "ea"); (case s => walk_at "sp"))
  | ((with_reducible refine' ev_sumN ?a); (case a => walk_at "el")))
local macro_rules | `(tactic| walk_at "ea") => `(tactic| first
  | with_reducible exact ea_nil
  | ((with_reducible refine' ea_cons ?a ?b); (case a => walk_at "ev"); (case b => walk_at "ea")))
local macro_rules | `(tactic| walk_at "el") => `(tactic| first
  | ((with_reducible refine' el_lst ?a ?b); (case a => walk_at "ea"); (case b => exact Nat.le_of_ble_eq_true rfl))
  | ((with_reducible refine' el_callH ?a ?s); (case a => walk_at "ea"); (case s => walk_at "sp")))
local macro_rules | `(tactic| walk_at "st") => `(tactic| first
  | ((with_reducible refine' q_asg ?e ?k); (case e => walk_at "ev"))
  | ((with_reducible refine' q_asgL ?e ?k); (case e => walk_at "el"))
  | ((with_reducible refine' s_asg ?e ?k); (case e => walk_at "ev"))
  | ((with_reducible refine' s_asgL ?e ?k); (case e => walk_at "el"))
  | ((with_reducible refine' s_ret ?e ?k); (case e => walk_at "ev"))
  | ((with_reducible refine' s_retL ?e ?k); (case e => walk_at "el")))
local macro_rules | `(tactic| walk_at "et") => `(tactic| first
  | ((with_reducible refine' et_test ?e); (case e => walk_at "ev"))
  | ((with_reducible refine' et_or ?e ?f); (case e => walk_at "et"); (case f => (intro _; walk_at "et")))
  | with_reducible exact et_yes)
local macro_rules | `(tactic| walk_at "sp") => `(tactic| assumption)
local macro_rules | `(tactic| walk_at "if") => `(tactic| first
  | ((with_reducible refine' q_when ?e ?k1 ?k2); (case e => walk_at "et"))
  | ((with_reducible refine' s_when ?e ?k1 ?k2); (case e => walk_at "et"))
  | ((with_reducible refine' q_if ?e ?k1 ?k2); (case e => walk_at "et"))
  | ((with_reducible refine' s_if ?e ?k1 ?k2); (case e => walk_at "et")))
local macro_rules | `(tactic| walk_at "pt") => `(tactic| first | exact put_here | (refine put_step ?_ ?_; (· decide +kernel); walk_at "pt"))
local macro_rules | `(tactic| walk_at "ev") => `(tactic| first
  | ((with_reducible refine' ev_ix0 ?e ?h); (case e => walk_at "ev"); (case h => assumption))
  | ((with_reducible refine' ev_ix1 ?e ?h); (case e => walk_at "ev"); (case h => assumption)))
open Kp415 (signalCount)
theorem sum_le99 : ∀ l : List Nat, (∀ x ∈ l, x ≤ 99) → l.sum ≤ 99 * l.length
  | [], _ => by simp
  | a :: l, h => by
    have h1 := h a List.mem_cons_self
    have h2 := sum_le99 l fun x hx => h x (List.mem_cons_of_mem _ hx)
    rw [List.sum_cons, List.length_cons]
    omega
theorem sum_pos_of : ∀ l : List Nat, ¬ (∀ x ∈ l, x = 0) → 0 < l.sum
  | [], h => absurd (fun x hx => by cases hx) h
  | a :: l, h => by
    rw [List.sum_cons]
    by_cases ha : a = 0
    · have := sum_pos_of l fun z => h fun x hx => by
        rcases List.mem_cons.mp hx with rfl | hx
        · exact ha
        · exact z x hx
      omega
    · omega
theorem sum_rep1 (n : Nat) : (List.replicate n 1).sum = n := by
  induction n with
  | zero => rfl
  | succ n ih => rw [List.replicate_succ, List.sum_cons, ih]; omega
theorem fresh_ok {n : Nat} (h : ¬ (n < 1 ∨ 5 < n)) : Okk (fresh n) := by
  have e := sum_rep1 n
  constructor <;> simp only [fresh, List.length_replicate] <;> first | omega | (rw [e]; omega) | decide
/-- an act keeps the setting in order and answers little -/
def ActOk (act : Stg → List Nat → Out) : Prop := ∀ s ns s' xs, Okk s → act s ns = .yes s' xs → Okk s' ∧ xs.length ≤ 17
theorem get_ok {s s' : Stg} {xs ys : List Int} (ok : Okk s) (hl : xs.length ≤ 17) (h : Out.yes s xs = Out.yes s' ys) : Okk s' ∧ ys.length ≤ 17 := by
  cases h
  exact ⟨ok, hl⟩
theorem if_yes {c : Prop} [Decidable c] {x : Err} {o : Out} {s' : Stg} {xs : List Int} (h : (if c then Out.no x else o) = .yes s' xs) : ¬ c ∧ o = .yes s' xs := by
  by_cases hc : c
  · rw [if_pos hc] at h
    cases h
  · rw [if_neg hc] at h
    exact ⟨hc, h⟩
theorem okT : ActOk actSetT := fun s ns s' xs ok h => by
  obtain ⟨hc, h⟩ := if_yes h
  have hl : ns.length = signalCount s.model := Decidable.byContradiction fun z => hc (.inl z)
  have hl' : ns.length = s.model.testWeights.length := hl
  have h9 : ∀ x ∈ ns, x ≤ 99 := fun x hx => Nat.le_of_not_lt fun z => hc (.inr (.inl ⟨x, hx, z⟩))
  have hs := sum_le99 ns h9
  have h0 := sum_pos_of ns fun z => hc (.inr (.inr z))
  have := ok.n1
  have := ok.n5
  cases h
  exact ⟨⟨ok.len.trans hl.symm, by show 0 < ns.length; omega, by show ns.length ≤ 5; omega, h0, by show ns.sum ≤ 495; omega, ok.p0, ok.p1, ok.d0, ok.d1, ok.nd, ok.g, ok.l, ok.h, ok.c⟩, by show 1 ≤ 17; decide⟩
theorem okP : ActOk actSetP := fun s ns s' xs ok h => by
  obtain ⟨hc, h⟩ := if_yes h
  have hl : ns.length = signalCount s.model := Decidable.byContradiction fun z => hc (.inl z)
  have hl' : ns.length = s.model.testWeights.length := hl
  have h9 : ∀ x ∈ ns, x ≤ 99 := fun x hx => Nat.le_of_not_lt fun z => hc (.inr (.inl ⟨x, hx, z⟩))
  have hs := sum_le99 ns h9
  have h0 := sum_pos_of ns fun z => hc (.inr (.inr z))
  have := ok.n1
  have := ok.n5
  cases h
  exact ⟨⟨hl, ok.n1, ok.n5, ok.t0, ok.t1, h0, by show ns.sum ≤ 495; omega, ok.d0, ok.d1, ok.nd, ok.g, ok.l, ok.h, ok.c⟩, by show 1 ≤ 17; decide⟩
theorem okPrior : ActOk actPrior := fun s ns s' xs ok h => by
  obtain ⟨hc, h⟩ := if_yes h
  cases h
  exact ⟨⟨ok.len, ok.n1, ok.n5, ok.t0, ok.t1, ok.p0, ok.p1, by show 0 < ns.getD 1 0; omega, by show ns.getD 1 0 ≤ 99; omega, by show ns.getD 0 0 ≤ ns.getD 1 0; omega, ok.g, ok.l, ok.h, ok.c⟩, by show 3 ≤ 17; decide⟩
theorem okStakes : ActOk actStakes := fun s ns s' xs ok h => by
  obtain ⟨hc, h⟩ := if_yes h
  cases h
  exact ⟨⟨ok.len, ok.n1, ok.n5, ok.t0, ok.t1, ok.p0, ok.p1, ok.d0, ok.d1, ok.nd, by show ns.getD 0 0 ≤ 999; omega, by show ns.getD 1 0 ≤ 999; omega, ok.h, ok.c⟩, by show 3 ≤ 17; decide⟩
theorem okPrices : ActOk actPrices := fun s ns s' xs ok h => by
  obtain ⟨hc, h⟩ := if_yes h
  cases h
  exact ⟨⟨ok.len, ok.n1, ok.n5, ok.t0, ok.t1, ok.p0, ok.p1, ok.d0, ok.d1, ok.nd, ok.g, ok.l, by show ns.getD 0 0 ≤ 999; omega, by show ns.getD 1 0 ≤ 999; omega⟩, by show 3 ≤ 17; decide⟩
theorem okValue : ActOk actValue := fun s ns s' xs ok h => by
  obtain ⟨hc, h⟩ := if_yes h
  exact get_ok ok (by show 3 ≤ 17; decide) h
theorem okSignals : ActOk actSignals := fun s ns s' xs ok h => get_ok ok (by
  have := paying_len s ok.good
  unfold natI
  rw [List.length_cons, List.length_map]
  omega) h
theorem okProfit : ActOk actProfit := fun s ns s' xs ok h => get_ok ok (by show 3 ≤ 17; decide) h
theorem okProfitOf : ActOk actProfitOf := fun s ns s' xs ok h => by
  obtain ⟨hc, h⟩ := if_yes h
  exact get_ok ok (by show 3 ≤ 17; decide) h
theorem okDetect : ActOk actDetect := fun s ns s' xs ok h => get_ok ok (by show 3 ≤ 17; decide) h
theorem okHarm : ActOk actHarm := fun s ns s' xs ok h => get_ok ok (by show 3 ≤ 17; decide) h
theorem okCost : ActOk actCost := fun s ns s' xs ok h => get_ok ok (by show 3 ≤ 17; decide) h
theorem dp_yes {s s' : Stg} {f : List Int → List Int} {o : Option (List Int)} {xs : List Int} (ok : Okk s) (hf : ∀ q, o = some q → (f q).length ≤ 17) (h : orDp s f o = .yes s' xs) : Okk s' ∧ xs.length ≤ 17 := by
  cases o with
  | none => cases h
  | some q => exact get_ok ok (hf q rfl) h
theorem okDpAt : ActOk actDpAt := fun s ns s' xs ok h => by
  obtain ⟨hc, h⟩ := if_yes h
  refine dp_yes ok (fun q hq => ?_) h
  obtain ⟨c, d, hf⟩ := dpa_ok ok.good hq
  rw [hf.eq]
  exact Nat.le_of_ble_eq_true rfl
theorem okDp : ActOk actDp := fun s ns s' xs ok h => by
  refine dp_yes ok (fun q hq => ?_) h
  have := dpAll_ok ok.good hq
  rw [List.length_cons, this]
  decide
theorem okPreview : ActOk actPreview := fun s ns s' xs ok h => by
  obtain ⟨hc, h⟩ := if_yes h
  obtain ⟨hl, hx⟩ := good_map hc
  refine dp_yes ok (fun q hq => ?_) h
  have := dpAll_ok (okk_mrg ok hl hx).good hq
  rw [List.length_cons, List.length_append, this]
  exact Nat.le_of_ble_eq_true rfl
theorem counted_len {s : Stg} (ok : Okk s) : (counted s).length ≤ 17 := by
  have := paying_len s ok.good
  unfold counted natI
  rw [List.length_cons, List.length_map]
  omega
theorem okMerge : ActOk actMerge := fun s ns s' xs ok h => by
  obtain ⟨hc, h⟩ := if_yes h
  obtain ⟨hl, hx⟩ := good_map hc
  cases h
  exact ⟨okk_mrg ok hl hx, counted_len (okk_mrg ok hl hx)⟩
theorem okCheap : ActOk actCheap := fun s ns s' xs ok h => by
  unfold actCheap at h
  rw [best_is ok.good.pos] at h
  exact get_ok ok (by show 5 ≤ 17; decide) h
theorem okForPrior : ActOk actForPrior := fun s ns s' xs ok h => by
  obtain ⟨hc, h⟩ := if_yes h
  exact get_ok ok (counted_len (okk_sP ok hc)) h
theorem okForStakes : ActOk actForStakes := fun s ns s' xs ok h => by
  obtain ⟨hc, h⟩ := if_yes h
  exact get_ok ok (counted_len (okk_sS ok hc)) h
theorem okGet : ActOk actGet := fun s ns s' xs ok h => get_ok ok (by
  have := ok.n5
  have := ok.len
  unfold natI
  rw [List.length_append, List.length_append, List.length_map, List.length_map]
  show 7 + _ + _ ≤ 17
  omega) h
theorem ok_act (k : Nat) : ActOk (actOf k) := by
  unfold actOf
  split
  · exact okT
  · exact okP
  · exact okPrior
  · exact okStakes
  · exact okPrices
  · exact okValue
  · exact okSignals
  · exact okProfit
  · exact okProfitOf
  · exact okDetect
  · exact okHarm
  · exact okCost
  · exact okDpAt
  · exact okDp
  · exact okPreview
  · exact okMerge
  · exact okCheap
  · exact okForPrior
  · exact okForStakes
  · exact okGet
theorem ok_step {st : Option Stg} (hok : OkSt st) (c : Cl) : OkSt (stepM st c).1 ∧ (stepM st c).2.length ≤ 17 := by
  unfold stepM doIt
  by_cases hk : c.1 = 0
  · rw [if_pos hk]
    by_cases hb : c.2.getD 0 0 < 1 ∨ 5 < c.2.getD 0 0
    · rw [if_pos hb]
      exact ⟨hok, by show 1 ≤ 17; decide⟩
    · rw [if_neg hb]
      exact ⟨fun s e => by cases e; exact fresh_ok hb, by show 1 ≤ 17; decide⟩
  · rw [if_neg hk]
    cases st with
    | none => exact ⟨hok, by show 1 ≤ 17; decide⟩
    | some s =>
      show OkSt (ansOf (some s) (actOf c.1 s c.2)).1 ∧ (ansOf (some s) (actOf c.1 s c.2)).2.length ≤ 17
      cases h : actOf c.1 s c.2 with
      | no x => exact ⟨hok, by show 1 ≤ 17; decide⟩
      | yes s' xs =>
        have q := ok_act c.1 s c.2 s' xs (hok s rfl) h
        exact ⟨fun s e => by cases e; exact q.1, q.2⟩
theorem rpl_len : ∀ (l : List Cl) (st : Option Stg), OkSt st → (rpl st l).length ≤ 18 * l.length ∧ OkSt (stA st l)
  | [], _, h => ⟨Nat.le_refl _, h⟩
  | c :: l, st, h => by
    have q := ok_step h c
    have r := rpl_len l (stepM st c).1 q.1
    refine ⟨?_, r.2⟩
    show (((stepM st c).2.length : Int) :: ((stepM st c).2 ++ rpl (stepM st c).1 l)).length ≤ _
    rw [List.length_cons, List.length_append, List.length_cons]
    have := q.2
    have := r.1
    omega
def sp_answers (K : PySem.W.Frag) (A : AdT) : Sp := fun vs H Q _ => ∃ a cs, vs = [.ref a] ∧ SqL K H a (nats (flat cs)) ∧ cs.length ≤ 60 ∧ (∀ c ∈ cs, CallOk c) ∧ ∀ H' l, H' l = some (.lst ((rpl none cs).map V.int)) → Q (.ref l) H'
section
variable {P : Program} {w : World} {K : PySem.W.Frag} {mg : Str → Option Value} {base : Heap} {A : AdT}
theorem ok_answers {f : Addr} {fd : FuncData} (T : Tx K mg A) (h_Instance_init : HasI P w K mg base CX0 1 "Instance" A.cInstance ["self"] (sp_Instance_init K A))
    (h_Instance_answer : HasM P w K mg base CX0 9 A.cInstance "answer" ["self", "number", "numbers"] (sp_Instance_answer K A))
    (F : Fun K "answers" "answers" s_answers f fd) : FnOk P w K mg base CX0 10 f fd ["calls"] (sp_answers K A) := by
  refine F.ok sc_answers (fun vs H Q E h => ?len) (fun cdv ar outer s H vs Q E hr h => ⟨_, (pss_cons (ps_set (i := 1) sc_answers.nd rfl (Or.inl rfl) (pe_mk0 h_Instance_init hr (by decide) pass0 ))
      (pss_cons (ps_set (i := 2) sc_answers.nd rfl (Or.inl rfl) (pe_lst pa_nil))
      (pss_cons (ps_set (i := 3) sc_answers.nd rfl (Or.inl rfl) pe_int)
      (pss_cons (ps_while PassesOwn.never (pt_cmpR o_lt (pv 3) (pe_callB (cr_lenK (K := K)) (by rfl) T.b_len (by decide +kernel) (pa_cons (pv 0) pa_nil)) (nomark _)) (pss_cons (ps_set (i := 4) sc_answers.nd rfl (Or.inl rfl) (pe_op o_add (pv 3) pe_int))
      (pss_cons (ps_set (i := 5) sc_answers.nd rfl (Or.inl rfl) (pe_op o_add (pv 4) (pe_ixK (K := K) (pv 0) (pe_op o_add (pv 3) pe_int))))
      (pss_cons (ps_set (i := 6) sc_answers.nd rfl (Or.inl rfl) (pe_hm (pv 1) T.cl_Instance h_Instance_answer hr (by decide) (E := fun _ => E0) (fun _ _ _ _ _ _ _ h => h.elim) (pa_cons (pe_ixK (K := K) (pv 0) (pv 3)) (pa_cons (pe_slK (K := K) (pv 0) (po_some (pv 4)) (po_some (pv 5))) pa_nil))))
      (pss_cons (ps_expr (pe_bmK (K := K) PySem.F.plainAttrs_list PySem.F.slot_list_append PySem.F.type_list_append mt_append (pv 2) (pa_cons (pe_callB (cr_lenK (K := K)) (by rfl) T.b_len (by decide +kernel) (pa_cons (pv 6) pa_nil)) pa_nil)))
      (pss_cons (ps_expr (pe_bmK (K := K) PySem.F.plainAttrs_list PySem.F.slot_list_extend PySem.F.type_list_extend mt_extend (pv 2) (pa_cons (pv 6) pa_nil)))
      (pss_one (ps_set (i := 3) sc_answers.nd rfl (Or.inl rfl) (pe_op o_add (pv 5) pe_int)))))))))
      (pss_one (ps_ret (pv 2))))))), ?go⟩)
  case len =>
    obtain ⟨a, cs, rfl, _⟩ := h
    rfl
  case go =>
    obtain ⟨a, cs, rfl, hL, hc, hall, k⟩ := h
    intro o dx no nd ne
    refine ⟨o, dx, rfl, upd_same, fun H1 hI hB => ⟨rfl, ?_⟩⟩
    have e1 : Ex H H1 := fun b u hb => by
      have n1 : b ≠ o := ne_of_none hb no
      refine hB b u ?_ n1
      rw [upd_ne n1, upd_ne (ne_of_none hb nd)]
      exact hb
    refine q_asgL (el_lst ea_nil (Nat.le_of_ble_eq_true rfl)) fun l H2 hl e2 h2 => ?_
    refine q_asg ev_c fun H3 e3 => ?_
    have E3 := (e1.trans e2).trans e3
    have hl0 : H l = none := fresh_back e1 hl
    obtain ⟨⟨dx1, hob⟩, _⟩ := hI
    have lo : l ≠ o := fun z => by rw [z, hob] at hl; cases hl
    refine q_while (fun m σ H' => ∃ pre rest v4 v5 v6 fp, cs = pre ++ rest ∧ m = rest.length ∧ σ = [some (V.ref a), some (V.ref o), some (V.ref l), some (V.int (((flat pre).length : Nat) : Int)), v4, v5, v6] ∧
        InAt A H' o (stA none pre) fp ∧ H' l = some (.lst ((rpl none pre).map V.int)) ∧ l ∉ fp ∧ (∀ x ∈ fp, H x = none) ∧ Ex H H') cs.length
      ⟨[], cs, none, none, none, [], rfl, rfl, rfl, ⟨⟨dx1, e3 o _ (e2 o _ hob)⟩, rfl⟩, e3 l _ h2, by simp, by simp, E3⟩ ?_
    rintro m σ' H' ⟨pre, rest, v4, v5, v6, fp, hcs, rfl, rfl, hI', hl', hlf, hfp, e'⟩
    have hL' := ex_l e' hL
    refine ⟨_, et_test (ev_lt (by walk_at "ev") (ev_len (by walk_at "ev") hL')), fun hb H4 e4 => ?_, fun hb H4 e4 => ?_⟩
    · rw [nats_len] at hb
      cases rest with
      | nil =>
        rw [hcs, List.append_nil] at hb
        exact absurd (of_decide_eq_true hb) (by omega)
      | cons c rest =>
        have hcl : pre.length + 1 + rest.length ≤ 60 := by
          have : cs.length = pre.length + (rest.length + 1) := by rw [hcs, List.length_append, List.length_cons]
          omega
        have hpre := rpl_len pre none (fun s e => by cases e)
        have hst := ok_step hpre.2 c
        have hco : CallOk c := hall c (by rw [hcs]; simp)
        obtain ⟨ck, cn⟩ := c
        refine ⟨fun σ H' => ∃ v4 v5 v6 fp, σ = [some (V.ref a), some (V.ref o), some (V.ref l), some (V.int (((flat (pre ++ [(ck, cn)])).length : Nat) : Int)), v4, v5, v6] ∧
          InAt A H' o (stA none (pre ++ [(ck, cn)])) fp ∧ H' l = some (.lst ((rpl none (pre ++ [(ck, cn)])).map V.int)) ∧ l ∉ fp ∧ (∀ x ∈ fp, H x = none) ∧ Ex H H',
          fun σ2 H2 ⟨v4, v5, v6, fp, q1, q2, q3, q4, q5, q6⟩ => ⟨rest.length, by simp, pre ++ [(ck, cn)], rest, v4, v5, v6, fp, by rw [hcs]; simp, rfl, q1, q2, q3, q4, q5, q6⟩, ?_⟩
        have eL : flat cs = flat pre ++ ck :: cn.length :: (cn ++ (0 :: flat rest)) := by
          rw [hcs, flat_app]
          show flat pre ++ (flat1 (ck, cn) ++ flat rest) = _
          unfold flat1
          simp
        rw [eL] at hL'
        have hL4 := ex_l e4 hL'
        walk_at "st"
        intro H5 e5
        have hL5 := ex_l e5 hL4
        refine q_asg (ev_add (by walk_at "ev") (ev_ixL (by walk_at "ev") (by walk_at "ev") hL5 (at_next _ _ _ _))) fun H6 e6 => ?_
        have hL6 := ex_l e6 hL5
        have E6 := (e4.trans e5).trans e6
        have hI6 := hI'.mono E6
        have hl6 := E6 l _ hl'
        obtain ⟨dx6, v6', ho6⟩ := hI6.ob
        have sl := el_sl (K := K) (σ := [some (V.ref a), some (V.ref o), some (V.ref l), some (V.int (((flat pre).length : Nat) : Int)), some (V.int (((flat pre).length : Nat) + 2)), some (V.int (((flat pre).length : Nat) + 2 + ((cn.length : Nat) : Int))), v6]) (H := H6) (te := tVar 0) (tl := tPart (tVar 4)) (th := tPart (tVar 5)) (by walk_at "ev") (eo_some (by walk_at "ev")) (eo_some (by walk_at "ev")) hL6
        rw [cut_here] at sl
        refine q_asgMN (by walk_at "ev") ho6 ((lk_past (by decide +kernel)).trans rfl) (ev_ixL (by walk_at "ev") (by walk_at "ev") hL6 (at_here _ _ _)) sl fun q H7 hq e7 h7 => ?_
        refine ⟨o, ck, q, cn, stA none pre, fp, rfl, hco.1, hco.2, hI6.mono e7, hpre.2, h7, fun H8 r fp' hr h8 hI8 hfp8 haw => ?_⟩
        have E7 := E6.trans e7
        have hl7 := e7 l _ hl6
        have hl8 := haw l _ hl7 lo hlf
        have lr : r ≠ l := fun z => by rw [z, hl7] at hr; cases hr
        have rl : ((rpl none pre).map V.int).length ≤ 18 * pre.length := by rw [List.length_map]; exact hpre.1
        have hlen := hst.2
        have hE8 : Ex H H8 := fun b u hb => haw b u (E7 b _ (e' b _ hb)) (ne_of_none hb no) (fun z => by
          have := hfp b z
          rw [hb] at this
          cases this)
        refine q_app (K := K) hl8 (by walk_at "ev") (ev_len (by walk_at "ev") (sq_of h8)) (by omega) fun H9 e9 => ?_
        have h9 : (upd H9 l (.lst ((rpl none pre).map V.int ++ [V.int (((ansOf (stA none pre) (doIt ck (stA none pre) cn)).2.map V.int).length : Int)]))) r = some (.lst ((ansOf (stA none pre) (doIt ck (stA none pre) cn)).2.map V.int)) := by
          rw [upd_ne lr]
          exact e9 r _ h8
        have hlen' : (ansOf (stA none pre) (doIt ck (stA none pre) cn)).2.length ≤ 17 := hlen
        refine q_ext (K := K) upd_same h9 (by walk_at "ev") (by walk_at "ev") (by rw [List.length_append, List.length_map]; simp only [List.length_singleton]; rw [List.length_map] at rl ⊢; omega) fun H10 e10 => ?_
        refine s_asg (ev_add (by walk_at "ev") ev_c) fun H11 e11 => ?_
        have fin : ∀ b u, H8 b = some u → b ≠ l → H11 b = some u := fun b u hb hn => e11 b _ (by
          rw [upd_ne hn]
          refine e10 b _ ?_
          rw [upd_ne hn]
          exact e9 b _ hb)
        have nfp : ∀ x ∈ fp', x ≠ l := fun x hx z => by
          rcases hfp8 x hx with h | h
          · exact hlf (by rw [← z]; exact h)
          · rw [z, hl7] at h
            cases h
        refine ⟨some (V.int (((flat pre).length : Nat) + 2)), some (V.int (((flat pre).length : Nat) + 2 + ((cn.length : Nat) : Int))), some (V.ref r), fp', ?_, ?_, ?_, fun z => nfp l z rfl, fun x hx => ?_, fun b u hb => fin b u (hE8 b u hb) (ne_of_none hb hl0)⟩
        · have e : (((flat (pre ++ [(ck, cn)])).length : Nat) : Int) = ((flat pre).length : Nat) + 2 + ((cn.length : Nat) : Int) + 1 := by
            rw [flat_app, List.length_append]
            show (((flat pre).length + (flat1 (ck, cn) ++ []).length : Nat) : Int) = _
            rw [List.append_nil, show (flat1 (ck, cn)).length = cn.length + 3 from flat1_len _]
            omega
          rw [e]
          rfl
        · rw [stA_snoc]
          have hI9 : InAt A H8 o (stepM (stA none pre) (ck, cn)).1 fp' := hI8
          revert hI9
          cases (stepM (stA none pre) (ck, cn)).1 with
          | none =>
            rintro ⟨⟨dx, h1⟩, h2⟩
            exact ⟨⟨dx, fin o _ h1 (fun z => lo z.symm)⟩, h2⟩
          | some s =>
            rintro ⟨a2, t2, p2, ⟨dx, h1⟩, hS, h2⟩
            subst h2
            obtain ⟨dy, hy⟩ := hS.ob
            exact ⟨a2, t2, p2, ⟨dx, fin o _ h1 (fun z => lo z.symm)⟩, ⟨⟨dy, fin a2 _ hy (nfp a2 (by simp))⟩, fin t2 _ hS.tw (nfp t2 (by simp)), fin p2 _ hS.pw (nfp p2 (by simp))⟩, rfl⟩
        · rw [rpl_snoc]
          refine (e11 l _ upd_same).trans ?_
          rw [List.map_append, List.map_cons, List.length_map, List.append_assoc]
          rfl
        · rcases hfp8 x hx with h | h
          · exact hfp x h
          · exact fresh_back (e'.trans E7) h
    · cases rest with
      | nil =>
        rw [List.append_nil] at hcs
        subst hcs
        refine s_ret (by walk_at "ev") fun H5 e5 => ?_
        exact k H5 l (e5 l _ (e4 l _ hl'))
      | cons c rest =>
        rw [nats_len, hcs, flat_app, List.length_append] at hb
        refine absurd (of_decide_eq_false hb) ?_
        have : 3 ≤ (flat (c :: rest)).length := by
          show 3 ≤ (flat1 c ++ flat rest).length
          rw [List.length_append, flat1_len]
          omega
        omega
end
end Dt

set_option Elab.async false
set_option linter.all false
set_option maxRecDepth 100000
set_option maxHeartbeats 600000
namespace Dt
open PySem PySem.Spec PyProof.Rows L2 Evl
local macro_rules | `(tactic| walk_at "lk") => `(tactic| first | exact lk_here | (refine (lk_past ?_).trans ?_; (· decide +kernel); walk_at "lk"))
local macro_rules | `(tactic| walk_at "bd") => `(tactic| first | assumption | exact Good.bt (by assumption) | exact Good.bp (by assumption) | exact Good.bn (by assumption) | exact Good.bd (by assumption) | exact Good.bg (by assumption) | exact Good.bl (by assumption) | exact Good.bh (by assumption) | exact Good.bc (by assumption) | exact Good.btw (by assumption) _ | exact Good.bpw (by assumption) _ | exact bd_mul (by walk_at "bd") (by walk_at "bd") | exact bd_add (by walk_at "bd") (by walk_at "bd") | exact bd_sub (by walk_at "bd") (by walk_at "bd"))
local macro_rules | `(tactic| walk_at "cm") => `(tactic| first | assumption | exact bd_cmul (by walk_at "bd") (by walk_at "bd") (by decide))
local macro_rules | `(tactic| walk_at "ev") => `(tactic| first
  | with_reducible exact ev_c
  | ((with_reducible refine' ev_var ?h); (case h => exact rfl))
  | ((with_reducible refine' f_tsum ?e ?h ?t); (case e => walk_at "ev"); (case h => assumption); (case t => assumption))
  | ((with_reducible refine' f_psum ?e ?h ?t); (case e => walk_at "ev"); (case h => assumption); (case t => assumption))
  | ((with_reducible refine' f_tix ?e ?i ?h ?t ?l); (case e => walk_at "ev"); (case i => walk_at "ev"); (case h => assumption); (case t => assumption); (case l => assumption))
  | ((with_reducible refine' f_pix ?e ?i ?h ?t ?g ?l); (case e => walk_at "ev"); (case i => walk_at "ev"); (case h => assumption); (case t => assumption); (case g => assumption); (case l => assumption))
  | ((with_reducible refine' f_count ?e ?h ?t); (case e => walk_at "ev"); (case h => assumption); (case t => assumption))
  | ((with_reducible refine' f_tw ?e ?h ?t); (case e => walk_at "ev"); (case h => assumption); (case t => assumption))
  | ((with_reducible refine' f_pw ?e ?h ?t); (case e => walk_at "ev"); (case h => assumption); (case t => assumption))
  | ((with_reducible refine' f_pn ?e ?h ?t); (case e => walk_at "ev"); (case h => assumption); (case t => assumption))
  | ((with_reducible refine' f_pd ?e ?h ?t); (case e => walk_at "ev"); (case h => assumption); (case t => assumption))
  | ((with_reducible refine' f_ga ?e ?h ?t); (case e => walk_at "ev"); (case h => assumption); (case t => assumption))
  | ((with_reducible refine' f_lo ?e ?h ?t); (case e => walk_at "ev"); (case h => assumption); (case t => assumption))
  | ((with_reducible refine' f_hp ?e ?h ?t); (case e => walk_at "ev"); (case h => assumption); (case t => assumption))
  | ((with_reducible refine' f_tp ?e ?h ?t); (case e => walk_at "ev"); (case h => assumption); (case t => assumption))
  | ((with_reducible refine' ev_gt ?a ?b); (case a => walk_at "ev"); (case b => walk_at "ev"))
  | ((with_reducible refine' ev_lt ?a ?b); (case a => walk_at "ev"); (case b => walk_at "ev"))
  | ((with_reducible refine' ev_ge ?a ?b); (case a => walk_at "ev"); (case b => walk_at "ev"))
  | ((with_reducible refine' ev_le ?a ?b); (case a => walk_at "ev"); (case b => walk_at "ev"))
  | ((with_reducible refine' ev_eqI ?a ?b); (case a => walk_at "ev"); (case b => walk_at "ev"))
  | ((with_reducible refine' ev_neI ?a ?b); (case a => walk_at "ev"); (case b => walk_at "ev"))
  | ((with_reducible refine' ev_add ?a ?b); (case a => walk_at "ev"); (case b => walk_at "ev"))
  | ((with_reducible refine' ev_sub ?a ?b); (case a => walk_at "ev"); (case b => walk_at "ev"))
  | ((with_reducible refine' ev_mul ?a ?b ?c); (case a => walk_at "ev"); (case b => walk_at "ev"); (case c => walk_at "cm"))
  | ((with_reducible refine' ev_div ?a ?b ?c); (case a => walk_at "ev"); (case b => walk_at "ev"); (case c => assumption))
  | ((with_reducible refine' ev_mod ?a ?b ?c); (case a => walk_at "ev"); (case b => walk_at "ev"); (case c => assumption))
  | ((with_reducible refine' ev_absI ?a); (case a => walk_at "ev"))
  | ((with_reducible refine' ev_callH ?a ?s); (case a => walk_at "ea"); (case s => walk_at "sp"))
  | ((with_reducible refine' ev_sumN ?a); (case a => walk_at "el")))
local macro_rules | `(tactic| walk_at "ea") => `(tactic| first
  | with_reducible exact ea_nil
  | ((with_reducible refine' ea_cons ?a ?b); (case a => walk_at "ev"); (case b => walk_at "ea")))
local macro_rules | `(tactic| walk_at "el") => `(tactic| first
  | ((with_reducible refine' el_lst ?a ?b); (case a => walk_at "ea"); (case b => exact Nat.le_of_ble_eq_true rfl))
  | ((with_reducible refine' el_callH ?a ?s); (case a => walk_at "ea"); (case s => walk_at "sp")))
local macro_rules | `(tactic| walk_at "st") => `(tactic| first
  | ((with_reducible refine' q_asg ?e ?k); (case e => walk_at "ev"))
  | ((with_reducible refine' q_asgL ?e ?k); (case e => walk_at "el"))
  | ((with_reducible refine' s_asg ?e ?k); (case e => walk_at "ev"))
  | ((with_reducible refine' s_asgL ?e ?k); (case e => walk_at "el"))
  | ((with_reducible refine' s_ret ?e ?k); (case e => walk_at "ev"))
  | ((with_reducible refine' s_retL ?e ?k); (case e => walk_at "el")))
local macro_rules | `(tactic| walk_at "et") => `(tactic| first
  | ((with_reducible refine' et_test ?e); (case e => walk_at "ev"))
  | ((with_reducible refine' et_or ?e ?f); (case e => walk_at "et"); (case f => (intro _; walk_at "et")))
  | with_reducible exact et_yes)
local macro_rules | `(tactic| walk_at "sp") => `(tactic| assumption)
local macro_rules | `(tactic| walk_at "if") => `(tactic| first
  | ((with_reducible refine' q_when ?e ?k1 ?k2); (case e => walk_at "et"))
  | ((with_reducible refine' s_when ?e ?k1 ?k2); (case e => walk_at "et"))
  | ((with_reducible refine' q_if ?e ?k1 ?k2); (case e => walk_at "et"))
  | ((with_reducible refine' s_if ?e ?k1 ?k2); (case e => walk_at "et")))
local macro_rules | `(tactic| walk_at "pt") => `(tactic| first | exact put_here | (refine put_step ?_ ?_; (· decide +kernel); walk_at "pt"))
local macro_rules | `(tactic| walk_at "ev") => `(tactic| first
  | ((with_reducible refine' ev_ix0 ?e ?h); (case e => walk_at "ev"); (case h => assumption))
  | ((with_reducible refine' ev_ix1 ?e ?h); (case e => walk_at "ev"); (case h => assumption)))
open Kp415 (signalCount)
theorem natI_toNat (l : List Nat) : (natI l).map Int.toNat = l := by
  unfold natI
  rw [List.map_map]
  have : (Int.toNat ∘ fun (x : Nat) => (x : Int)) = id := by
    funext x
    exact Int.toNat_natCast x
  rw [this, List.map_id]
theorem natI_of {l : List Int} (h : ∀ x ∈ l, 0 ≤ x) : natI (l.map Int.toNat) = l := by
  unfold natI
  rw [List.map_map]
  have : ∀ x ∈ l, ((fun (x : Nat) => (x : Int)) ∘ Int.toNat) x = x := fun x hx => by
    show ((x.toNat : Nat) : Int) = x
    have := h x hx
    omega
  exact (List.map_congr_left this).trans (List.map_id _)
/-- a call as the specification has it -/
def cOf (c : Cl) : List (List Int) := [(c.1 : Int) :: natI c.2]
/-- a call that the document lets be handed in: its number, its numbers -/
def AskC (c : Cl) : Prop := c.1 ≤ 20 ∧ (if c.1 = 1 ∨ c.1 = 2 ∨ c.1 = 15 ∨ c.1 = 16 then c.2.length ≤ 8
  else if c.1 = 0 ∨ c.1 = 6 ∨ c.1 = 9 ∨ c.1 = 13 then c.2.length = 1
  else if c.1 = 3 ∨ c.1 = 4 ∨ c.1 = 5 ∨ c.1 = 18 ∨ c.1 = 19 then c.2.length = 2 else c.2.length = 0)
theorem nat_of {z : Int} (h : Kp416Neutral.natural z = true) : 0 ≤ z := by
  unfold Kp416Neutral.natural at h
  rw [Bool.and_eq_true] at h
  exact of_decide_eq_true h.1
theorem nats_of {l : List Int} (h : (l.all Kp416Neutral.natural && decide (l.length ≤ 8)) = true) : natI (l.map Int.toNat) = l ∧ (l.map Int.toNat).length ≤ 8 := by
  rw [Bool.and_eq_true] at h
  refine ⟨natI_of fun x hx => nat_of (List.all_eq_true.mp h.1 x hx), ?_⟩
  rw [List.length_map]
  exact of_decide_eq_true h.2
theorem ask_one {c : List (List Int)} (h : Kp416Neutral.asked1 c = true) : ∃ d, AskC d ∧ c = cOf d := by
  unfold Kp416Neutral.asked1 at h
  have two : ∀ (k : Nat) (a b : Int), (Kp416Neutral.natural a && Kp416Neutral.natural b) = true → [[(k : Int), a, b]] = cOf (k, [a.toNat, b.toNat]) := fun k a b h => by
    rw [Bool.and_eq_true] at h
    have h1 := nat_of h.1
    have h2 := nat_of h.2
    show [[(k : Int), a, b]] = [[(k : Int), ((a.toNat : Nat) : Int), ((b.toNat : Nat) : Int)]]
    rw [Int.toNat_of_nonneg h1, Int.toNat_of_nonneg h2]
  have one : ∀ (k : Nat) (a : Int), Kp416Neutral.natural a = true → [[(k : Int), a]] = cOf (k, [a.toNat]) := fun k a h => by
    have h1 := nat_of h
    show [[(k : Int), a]] = [[(k : Int), ((a.toNat : Nat) : Int)]]
    rw [Int.toNat_of_nonneg h1]
  have many : ∀ (k : Nat) (l : List Int), (l.all Kp416Neutral.natural && decide (l.length ≤ 8)) = true → [(k : Int) :: l] = cOf (k, l.map Int.toNat) := fun k l h => by
    show [(k : Int) :: l] = [(k : Int) :: natI (l.map Int.toNat)]
    rw [(nats_of h).1]
  split at h
  · exact ⟨(0, _), by simp [AskC], one 0 _ h⟩
  · exact ⟨(1, _), by simpa [AskC] using (nats_of h).2, many 1 _ h⟩
  · exact ⟨(2, _), by simpa [AskC] using (nats_of h).2, many 2 _ h⟩
  · exact ⟨(3, _), by simp [AskC], two 3 _ _ h⟩
  · exact ⟨(4, _), by simp [AskC], two 4 _ _ h⟩
  · exact ⟨(5, _), by simp [AskC], two 5 _ _ h⟩
  · exact ⟨(6, _), by simp [AskC], one 6 _ h⟩
  · exact ⟨(7, []), by simp [AskC], rfl⟩
  · exact ⟨(8, []), by simp [AskC], rfl⟩
  · exact ⟨(9, _), by simp [AskC], one 9 _ h⟩
  · exact ⟨(10, []), by simp [AskC], rfl⟩
  · exact ⟨(11, []), by simp [AskC], rfl⟩
  · exact ⟨(12, []), by simp [AskC], rfl⟩
  · exact ⟨(13, _), by simp [AskC], one 13 _ h⟩
  · exact ⟨(14, []), by simp [AskC], rfl⟩
  · exact ⟨(15, _), by simpa [AskC] using (nats_of h).2, many 15 _ h⟩
  · exact ⟨(16, _), by simpa [AskC] using (nats_of h).2, many 16 _ h⟩
  · exact ⟨(17, []), by simp [AskC], rfl⟩
  · exact ⟨(18, _), by simp [AskC], two 18 _ _ h⟩
  · exact ⟨(19, _), by simp [AskC], two 19 _ _ h⟩
  · exact ⟨(20, []), by simp [AskC], rfl⟩
  · cases h
theorem ask_all : ∀ {l : List (List (List Int))}, l.all Kp416Neutral.asked1 = true → ∃ ds : List Cl, (∀ d ∈ ds, AskC d) ∧ l = ds.map cOf
  | [], _ => ⟨[], by simp, rfl⟩
  | c :: l, h => by
    rw [List.all_cons, Bool.and_eq_true] at h
    obtain ⟨d, h1, rfl⟩ := ask_one h.1
    obtain ⟨ds, h2, rfl⟩ := ask_all h.2
    exact ⟨d :: ds, fun x hx => by
      rcases List.mem_cons.mp hx with rfl | hx
      · exact h1
      · exact h2 x hx, rfl⟩
theorem put_flat : ∀ ds : List Cl, PyWide.put (ds.map cOf) = natI (flat ds)
  | [] => rfl
  | d :: ds => by
    show PyWide.put1 (cOf d) ++ PyWide.put (ds.map cOf) = natI (flat1 d ++ flat ds)
    rw [put_flat ds]
    unfold natI
    rw [List.map_append]
    congr 1
    show (d.1 : Int) :: (((natI d.2).length : Int) :: natI d.2 ++ [(0 : Int)]) = (flat1 d).map fun (x : Nat) => (x : Int)
    unfold flat1 natI
    simp
/-- what is asked: the calls -/
theorem asked_is {l : List Int} (h : PyKp416.answers_asked l = true) : ∃ ds : List Cl, l = natI (flat ds) ∧ ds.length ≤ 60 ∧ (∀ d ∈ ds, AskC d) ∧ PyKp416.answers l = PyFlat.told (PyFlat.played Kp416Neutral.step Kp416Neutral.start (ds.map cOf)) := by
  unfold PyKp416.answers_asked at h
  cases hc : PyKp416.calls l with
  | none => rw [hc] at h; cases h
  | some cs =>
    rw [hc] at h
    have h' : (PyFlat.atMost 60 cs && Kp416Neutral.asked cs && PyFlat.short 10000000 (PyKp416.answers l)) = true := h
    rw [Bool.and_eq_true, Bool.and_eq_true] at h'
    have h60 : cs.length ≤ 60 := of_decide_eq_true h'.1.1
    have ha : (!cs.isEmpty && (decide (cs.length ≤ 60) && cs.all Kp416Neutral.asked1)) = true := h'.1.2
    rw [Bool.and_eq_true, Bool.and_eq_true] at ha
    obtain ⟨ds, h1, rfl⟩ := ask_all ha.2.2
    have hp := (PyWide.put_calls l.length l _ hc).1
    rw [List.length_map] at h60
    refine ⟨ds, hp.trans (put_flat ds), h60, h1, ?_⟩
    unfold PyKp416.answers
    rw [hc]
/-- where each step is ours, the whole answer is -/
theorem told_is (hstep : ∀ (st : Option Stg) (d : Cl), OkSt st → AskC d → Kp416Neutral.step st (cOf d) = stepM st d) : ∀ (ds : List Cl) (st : Option Stg), OkSt st → (∀ d ∈ ds, AskC d) → PyFlat.told (PyFlat.played Kp416Neutral.step st (ds.map cOf)) = rpl st ds
  | [], _, _, _ => rfl
  | d :: ds, st, ok, h => by
    have e := hstep st d ok (h d List.mem_cons_self)
    have q := ok_step ok d
    show ((Kp416Neutral.step st (cOf d)).2.length : Int) :: (Kp416Neutral.step st (cOf d)).2 ++ PyFlat.told (PyFlat.played Kp416Neutral.step (Kp416Neutral.step st (cOf d)).1 (ds.map cOf)) = ((stepM st d).2.length : Int) :: ((stepM st d).2 ++ rpl (stepM st d).1 ds)
    rw [e, told_is hstep ds _ q.1 fun x hx => h x (List.mem_cons_of_mem _ hx)]
    rfl
end Dt

set_option Elab.async false
set_option linter.all false
set_option maxRecDepth 100000
set_option maxHeartbeats 600000
namespace Dt
open PySem PySem.Spec PyProof.Rows L2 Evl
local macro_rules | `(tactic| walk_at "lk") => `(tactic| first | exact lk_here | (refine (lk_past ?_).trans ?_; (· decide +kernel); walk_at "lk"))
local macro_rules | `(tactic| walk_at "bd") => `(tactic| first | assumption | exact Good.bt (by assumption) | exact Good.bp (by assumption) | exact Good.bn (by assumption) | exact Good.bd (by assumption) | exact Good.bg (by assumption) | exact Good.bl (by assumption) | exact Good.bh (by assumption) | exact Good.bc (by assumption) | exact Good.btw (by assumption) _ | exact Good.bpw (by assumption) _ | exact bd_mul (by walk_at "bd") (by walk_at "bd") | exact bd_add (by walk_at "bd") (by walk_at "bd") | exact bd_sub (by walk_at "bd") (by walk_at "bd"))
local macro_rules | `(tactic| walk_at "cm") => `(tactic| first | assumption | exact bd_cmul (by walk_at "bd") (by walk_at "bd") (by decide))
local macro_rules | `(tactic| walk_at "ev") => `(tactic| first
  | with_reducible exact ev_c
  | ((with_reducible refine' ev_var ?h); (case h => exact rfl))
  | ((with_reducible refine' f_tsum ?e ?h ?t); (case e => walk_at "ev"); (case h => assumption); (case t => assumption))
  | ((with_reducible refine' f_psum ?e ?h ?t); (case e => walk_at "ev"); (case h => assumption); (case t => assumption))
  | ((with_reducible refine' f_tix ?e ?i ?h ?t ?l); (case e => walk_at "ev"); (case i => walk_at "ev"); (case h => assumption); (case t => assumption); (case l => assumption))
  | ((with_reducible refine' f_pix ?e ?i ?h ?t ?g ?l); (case e => walk_at "ev"); (case i => walk_at "ev"); (case h => assumption); (case t => assumption); (case g => assumption); (case l => assumption))
  | ((with_reducible refine' f_count ?e ?h ?t); (case e => walk_at "ev"); (case h => assumption); (case t => assumption))
  | ((with_reducible refine' f_tw ?e ?h ?t); (case e => walk_at "ev"); (case h => assumption); (case t => assumption))
  | ((with_reducible refine' f_pw ?e ?h ?t); (case e => walk_at "ev"); (case h => assumption); (case t => assumption))
  | ((with_reducible refine' f_pn ?e ?h ?t); (case e => walk_at "ev"); (case h => assumption); (case t => assumption))
  | ((with_reducible refine' f_pd ?e ?h ?t); (case e => walk_at "ev"); (case h => assumption); (case t => assumption))
  | ((with_reducible refine' f_ga ?e ?h ?t); (case e => walk_at "ev"); (case h => assumption); (case t => assumption))
  | ((with_reducible refine' f_lo ?e ?h ?t); (case e => walk_at "ev"); (case h => assumption); (case t => assumption))
  | ((with_reducible refine' f_hp ?e ?h ?t); (case e => walk_at "ev"); (case h => assumption); (case t => assumption))
  | ((with_reducible refine' f_tp ?e ?h ?t); (case e => walk_at "ev"); (case h => assumption); (case t => assumption))
  | ((with_reducible refine' ev_gt ?a ?b); (case a => walk_at "ev"); (case b => walk_at "ev"))
  | ((with_reducible refine' ev_lt ?a ?b); (case a => walk_at "ev"); (case b => walk_at "ev"))
  | ((with_reducible refine' ev_ge ?a ?b); (case a => walk_at "ev"); (case b => walk_at "ev"))
  | ((with_reducible refine' ev_le ?a ?b); (case a => walk_at "ev"); (case b => walk_at "ev"))
  | ((with_reducible refine' ev_eqI ?a ?b); (case a => walk_at "ev"); (case b => walk_at "ev"))
  | ((with_reducible refine' ev_neI ?a ?b); (case a => walk_at "ev"); (case b => walk_at "ev"))
  | ((with_reducible refine' ev_add ?a ?b); (case a => walk_at "ev"); (case b => walk_at "ev"))
  | ((with_reducible refine' ev_sub ?a ?b); (case a => walk_at "ev"); (case b => walk_at "ev"))
  | ((with_reducible refine' ev_mul ?a ?b ?c); (case a => walk_at "ev"); (case b => walk_at "ev"); (case c => walk_at "cm"))
  | ((with_reducible refine' ev_div ?a ?b ?c); (case a => walk_at "ev"); (case b => walk_at "ev"); (case c => assumption))
  | ((with_reducible refine' ev_mod ?a ?b ?c); (case a => walk_at "ev"); (case b => walk_at "ev"); (case c => assumption))
  | ((with_reducible refine' ev_absI ?a); (case a => walk_at "ev"))
  | ((with_reducible refine' ev_callH ?a ?s); (case a => walk_at "ea"); (case s => walk_at "sp"))
  | ((with_reducible refine' ev_sumN ?a); (case a => walk_at "el")))
local macro_rules | `(tactic| walk_at "ea") => `(tactic| first
  | with_reducible exact ea_nil
  | ((with_reducible refine' ea_cons ?a ?b); (case a => walk_at "ev"); (case b => walk_at "ea")))
local macro_rules | `(tactic| walk_at "el") => `(tactic| first
  | ((with_reducible refine' el_lst ?a ?b); (case a => walk_at "ea"); (case b => exact Nat.le_of_ble_eq_true rfl))
  | ((with_reducible refine' el_callH ?a ?s); (case a => walk_at "ea"); (case s => walk_at "sp")))
local macro_rules | `(tactic| walk_at "st") => `(tactic| first
  | ((with_reducible refine' q_asg ?e ?k); (case e => walk_at "ev"))
  | ((with_reducible refine' q_asgL ?e ?k); (case e => walk_at "el"))
  | ((with_reducible refine' s_asg ?e ?k); (case e => walk_at "ev"))
  | ((with_reducible refine' s_asgL ?e ?k); (case e => walk_at "el"))
  | ((with_reducible refine' s_ret ?e ?k); (case e => walk_at "ev"))
  | ((with_reducible refine' s_retL ?e ?k); (case e => walk_at "el")))
local macro_rules | `(tactic| walk_at "et") => `(tactic| first
  | ((with_reducible refine' et_test ?e); (case e => walk_at "ev"))
  | ((with_reducible refine' et_or ?e ?f); (case e => walk_at "et"); (case f => (intro _; walk_at "et")))
  | with_reducible exact et_yes)
local macro_rules | `(tactic| walk_at "sp") => `(tactic| assumption)
local macro_rules | `(tactic| walk_at "if") => `(tactic| first
  | ((with_reducible refine' q_when ?e ?k1 ?k2); (case e => walk_at "et"))
  | ((with_reducible refine' s_when ?e ?k1 ?k2); (case e => walk_at "et"))
  | ((with_reducible refine' q_if ?e ?k1 ?k2); (case e => walk_at "et"))
  | ((with_reducible refine' s_if ?e ?k1 ?k2); (case e => walk_at "et")))
local macro_rules | `(tactic| walk_at "pt") => `(tactic| first | exact put_here | (refine put_step ?_ ?_; (· decide +kernel); walk_at "pt"))
local macro_rules | `(tactic| walk_at "ev") => `(tactic| first
  | ((with_reducible refine' ev_ix0 ?e ?h); (case e => walk_at "ev"); (case h => assumption))
  | ((with_reducible refine' ev_ix1 ?e ?h); (case e => walk_at "ev"); (case h => assumption)))
open Kp415 (signalCount)
theorem nstep {st : Option Stg} {c : List (List Int)} {x : Kp416.Call} (h : Kp416Neutral.callOf c = some x) : Kp416Neutral.step st c = ((Kp416.step st x).1, (Kp416.step st x).2.num :: (Kp416.step st x).2.nums) := by
  unfold Kp416Neutral.step
  rw [h]
theorem tn (n : Nat) : ((n : Nat) : Int).toNat = n := Int.toNat_natCast n
theorem len0 {l : List Nat} (h : l.length = 0) : l = [] := List.length_eq_zero_iff.mp h
/-- the call that a number and its numbers are -/
def callIs : Nat → List Nat → Option Kp416.Call
  | 0, [a] => some (.create a)
  | 1, l => some (.setTestWeights l)
  | 2, l => some (.setProductionWeights l)
  | 3, [a, b] => some (.setPrior a b)
  | 4, [a, b] => some (.setStakes a b)
  | 5, [a, b] => some (.setPrices a b)
  | 6, [a] => some (.cheatingValue a)
  | 7, [] => some .cheatingSignals
  | 8, [] => some .expectedProfit
  | 9, [a] => some (.expectedProfitOf a)
  | 10, [] => some .detectionProbability
  | 11, [] => some .harmProbability
  | 12, [] => some .totalCost
  | 13, [a] => some (.deterrentPriorAt a)
  | 14, [] => some .deterrentPrior
  | 15, l => some (.previewMerge l)
  | 16, l => some (.mergeSignals l)
  | 17, [] => some .cheapestPrior
  | 18, [a, b] => some (.cheatingSignalsForPrior a b)
  | 19, [a, b] => some (.cheatingSignalsForStakes a b)
  | 20, [] => some .getSettings
  | _, _ => none
theorem call_is {k : Nat} {ns : List Nat} {x : Kp416.Call} (h : callIs k ns = some x) : Kp416Neutral.callOf (cOf (k, ns)) = some x := by
  unfold callIs at h
  split at h <;> first
    | (cases h; show some _ = some _; simp [tn, natI_toNat]; done)
    | (cases h; rfl)
    | cases h
theorem step_is {st : Option Stg} {k : Nat} {ns : List Nat} {x : Kp416.Call} (h : callIs k ns = some x) : Kp416Neutral.step st (cOf (k, ns)) = ((Kp416.step st x).1, (Kp416.step st x).2.num :: (Kp416.step st x).2.nums) := nstep (call_is h)
theorem valid_w {s : Stg} {ns : List Nat} : Kp415.validWeights s.model ns = true ↔ ¬ (ns.length ≠ signalCount s.model ∨ (∃ x ∈ ns, 99 < x) ∨ (∀ x ∈ ns, x = 0)) := by
  unfold Kp415.validWeights
  rw [Bool.and_eq_true, Bool.and_eq_true, decide_eq_true_eq, decide_eq_true_eq]
  constructor
  · rintro ⟨⟨h1, h2⟩, h3⟩ (h | ⟨x, hx, h⟩ | h)
    · exact h h1
    · have := of_decide_eq_true (List.all_eq_true.mp h2 x hx)
      omega
    · have : ns.sum = 0 := by
        clear h1 h2 h3
        induction ns with
        | nil => rfl
        | cons a l ih =>
          rw [List.sum_cons, h a List.mem_cons_self, ih fun x hx => h x (List.mem_cons_of_mem _ hx)]
      omega
  · intro h
    refine ⟨⟨Decidable.byContradiction fun z => h (.inl z), List.all_eq_true.mpr fun x hx => decide_eq_true (Nat.le_of_not_lt fun z => h (.inr (.inl ⟨x, hx, z⟩)))⟩, sum_pos_of ns fun z => h (.inr (.inr z))⟩
theorem valid_f {a b : Nat} : Kp415.validFraction a b = true ↔ ¬ (b < 1 ∨ 99 < b ∨ b < a) := by
  unfold Kp415.validFraction
  rw [Bool.and_eq_true, Bool.and_eq_true, decide_eq_true_eq, decide_eq_true_eq, decide_eq_true_eq]
  omega
theorem valid_a {a b : Nat} : (Kp416.validAmount a && Kp416.validAmount b) = true ↔ ¬ (999 < a ∨ 999 < b) := by
  unfold Kp416.validAmount
  rw [Bool.and_eq_true, decide_eq_true_eq, decide_eq_true_eq]
  omega
/-- an act of ours is the specification's step -/
def ActIs (act : Stg → List Nat → Out) (x : List Nat → Option Kp416.Call) : Prop := ∀ s ns c, Okk s → x ns = some c → ansOf (some s) (act s ns) = ((Kp416.step (some s) c).1, (Kp416.step (some s) c).2.num :: (Kp416.step (some s) c).2.nums)
theorem is_setT : ActIs actSetT (callIs 1) := fun s ns c ok h => by
  cases h
  unfold actSetT
  show _ = (((if Kp415.validWeights s.model ns = true then _ else _ : Kp416.State × Kp416.Ans)).1, _ :: _)
  by_cases hc : ns.length ≠ signalCount s.model ∨ (∃ x ∈ ns, 99 < x) ∨ (∀ x ∈ ns, x = 0)
  · have hv : ¬ Kp415.validWeights s.model ns = true := fun z => valid_w.mp z hc
    rw [if_pos hc]
    simp only [Kp416.step, if_neg hv]
    rfl
  · have hv : Kp415.validWeights s.model ns = true := valid_w.mpr hc
    rw [if_neg hc]
    simp only [Kp416.step, if_pos hv]
    rfl
theorem is_setP : ActIs actSetP (callIs 2) := fun s ns c ok h => by
  cases h
  unfold actSetP
  by_cases hc : ns.length ≠ signalCount s.model ∨ (∃ x ∈ ns, 99 < x) ∨ (∀ x ∈ ns, x = 0)
  · have hv : ¬ Kp415.validWeights s.model ns = true := fun z => valid_w.mp z hc
    rw [if_pos hc]
    simp only [Kp416.step, if_neg hv]
    rfl
  · have hv : Kp415.validWeights s.model ns = true := valid_w.mpr hc
    rw [if_neg hc]
    simp only [Kp416.step, if_pos hv]
    rfl
theorem call_two {k : Nat} {f : Nat → Nat → Kp416.Call} {ns : List Nat} {c : Kp416.Call} (h : (match ns with | [a, b] => some (f a b) | _ => none) = some c) : ∃ a b, ns = [a, b] ∧ c = f a b := by
  match ns, h with
  | [a, b], h => exact ⟨a, b, rfl, (Option.some.inj h).symm⟩
theorem is_prior : ActIs actPrior (callIs 3) := fun s ns c ok h => by
  match ns, h with
  | [a, b], h =>
    cases h
    unfold actPrior
    show ansOf (some s) (if b < 1 ∨ 99 < b ∨ b < a then Out.no .lim else _) = _
    by_cases hc : b < 1 ∨ 99 < b ∨ b < a
    · have hv : ¬ Kp415.validFraction a b = true := fun z => valid_f.mp z hc
      rw [if_pos hc]
      simp only [Kp416.step, if_neg hv]
      rfl
    · have hv : Kp415.validFraction a b = true := valid_f.mpr hc
      rw [if_neg hc]
      simp only [Kp416.step, if_pos hv]
      rfl
theorem is_stakes : ActIs actStakes (callIs 4) := fun s ns c ok h => by
  match ns, h with
  | [a, b], h =>
    cases h
    unfold actStakes
    show ansOf (some s) (if 999 < a ∨ 999 < b then Out.no .lim else _) = _
    by_cases hc : 999 < a ∨ 999 < b
    · have hv : ¬ (Kp416.validAmount a && Kp416.validAmount b) = true := fun z => valid_a.mp z hc
      rw [if_pos hc]
      simp only [Kp416.step, if_neg hv]
      rfl
    · have hv : (Kp416.validAmount a && Kp416.validAmount b) = true := valid_a.mpr hc
      rw [if_neg hc]
      simp only [Kp416.step, if_pos hv]
      rfl
theorem is_prices : ActIs actPrices (callIs 5) := fun s ns c ok h => by
  match ns, h with
  | [a, b], h =>
    cases h
    unfold actPrices
    show ansOf (some s) (if 999 < a ∨ 999 < b then Out.no .lim else _) = _
    by_cases hc : 999 < a ∨ 999 < b
    · have hv : ¬ (Kp416.validAmount a && Kp416.validAmount b) = true := fun z => valid_a.mp z hc
      rw [if_pos hc]
      simp only [Kp416.step, if_neg hv]
      rfl
    · have hv : (Kp416.validAmount a && Kp416.validAmount b) = true := valid_a.mpr hc
      rw [if_neg hc]
      simp only [Kp416.step, if_pos hv]
      rfl
theorem is_value : ActIs actValue (callIs 6) := fun s ns c ok h => by
  match ns, h with
  | [a], h =>
    cases h
    unfold actValue
    show ansOf (some s) (if signalCount s.model ≤ a then Out.no .sig else _) = _
    by_cases hc : signalCount s.model ≤ a
    · have hv : ¬ Kp415.isSignal s.model a = true := by unfold Kp415.isSignal; rw [decide_eq_true_eq]; omega
      rw [if_pos hc]
      simp only [Kp416.step, if_neg hv]
      rfl
    · have hv : Kp415.isSignal s.model a = true := by unfold Kp415.isSignal; rw [decide_eq_true_eq]; omega
      rw [if_neg hc]
      simp only [Kp416.step, if_pos hv]
      show (some s, 0 :: low (valNum s a) (valDen s)) = (some s, 0 :: Kp416.fraction (Kp416.cheatingValue s a))
      rw [value_low ok.good.pos]
theorem is_signals : ActIs actSignals (callIs 7) := fun s ns c ok h => by
  match ns, h with
  | [], h =>
    cases h
    show (some s, ((paying s).length : Int) :: natI (paying s)) = (some s, ((Kp416.cheatingSignals s).length : Int) :: natI (Kp416.cheatingSignals s))
    rw [cheating_eq ok.good.pos]
theorem is_profit : ActIs actProfit (callIs 8) := fun s ns c ok h => by
  match ns, h with
  | [], h =>
    cases h
    show (some s, 0 :: low ((paying s).map (valNum s)).sum (valDen s)) = (some s, 0 :: Kp416.fraction (Kp416.sumOver (Kp416.cheatingValue s) (Kp416.cheatingSignals s)))
    rw [profit_at ok.good.pos, cheating_eq ok.good.pos]
theorem is_profitOf : ActIs actProfitOf (callIs 9) := fun s ns c ok h => by
  match ns, h with
  | [a], h =>
    cases h
    unfold actProfitOf
    show ansOf (some s) (if 2 ^ signalCount s.model ≤ a then Out.no .lim else _) = _
    by_cases hc : 2 ^ signalCount s.model ≤ a
    · rw [if_pos hc]
      simp only [Kp416.step, if_pos hc]
      rfl
    · rw [if_neg hc]
      simp only [Kp416.step, if_neg hc]
      show (some s, 0 :: low ((members s a).map (valNum s)).sum (valDen s)) = (some s, 0 :: Kp416.fraction (Kp416.sumOver (Kp416.cheatingValue s) (members s a)))
      rw [profit_at ok.good.pos]
theorem is_detect : ActIs actDetect (callIs 10) := fun s ns c ok h => by
  match ns, h with
  | [], h =>
    cases h
    show (some s, 0 :: low (pN s * ((paying s).map (tW s)).sum) (pD s * tS s)) = (some s, 0 :: Kp416.fraction (Kp416.sumOver (Kp415.jointTest s.model) (Kp416.cheatingSignals s)))
    rw [jt_sum ok.good.pos, cheating_eq ok.good.pos]
end Dt

set_option Elab.async false
set_option linter.all false
set_option maxRecDepth 100000
set_option maxHeartbeats 600000
namespace Dt
open PySem PySem.Spec PyProof.Rows L2 Evl
local macro_rules | `(tactic| walk_at "lk") => `(tactic| first | exact lk_here | (refine (lk_past ?_).trans ?_; (· decide +kernel); walk_at "lk"))
local macro_rules | `(tactic| walk_at "bd") => `(tactic| first | assumption | exact Good.bt (by assumption) | exact Good.bp (by assumption) | exact Good.bn (by assumption) | exact Good.bd (by assumption) | exact Good.bg (by assumption) | exact Good.bl (by assumption) | exact Good.bh (by assumption) | exact Good.bc (by assumption) | exact Good.btw (by assumption) _ | exact Good.bpw (by assumption) _ | exact bd_mul (by walk_at "bd") (by walk_at "bd") | exact bd_add (by walk_at "bd") (by walk_at "bd") | exact bd_sub (by walk_at "bd") (by walk_at "bd"))
local macro_rules | `(tactic| walk_at "cm") => `(tactic| first | assumption | exact bd_cmul (by walk_at "bd") (by walk_at "bd") (by decide))
local macro_rules | `(tactic| walk_at "ev") => `(tactic| first
  | with_reducible exact ev_c
  | ((with_reducible refine' ev_var ?h); (case h => exact rfl))
  | ((with_reducible refine' f_tsum ?e ?h ?t); (case e => walk_at "ev"); (case h => assumption); (case t => assumption))
  | ((with_reducible refine' f_psum ?e ?h ?t); (case e => walk_at "ev"); (case h => assumption); (case t => assumption))
  | ((with_reducible refine' f_tix ?e ?i ?h ?t ?l); (case e => walk_at "ev"); (case i => walk_at "ev"); (case h => assumption); (case t => assumption); (case l => assumption))
  | ((with_reducible refine' f_pix ?e ?i ?h ?t ?g ?l); (case e => walk_at "ev"); (case i => walk_at "ev"); (case h => assumption); (case t => assumption); (case g => assumption); (case l => assumption))
  | ((with_reducible refine' f_count ?e ?h ?t); (case e => walk_at "ev"); (case h => assumption); (case t => assumption))
  | ((with_reducible refine' f_tw ?e ?h ?t); (case e => walk_at "ev"); (case h => assumption); (case t => assumption))
  | ((with_reducible refine' f_pw ?e ?h ?t); (case e => walk_at "ev"); (case h => assumption); (case t => assumption))
  | ((with_reducible refine' f_pn ?e ?h ?t); (case e => walk_at "ev"); (case h => assumption); (case t => assumption))
  | ((with_reducible refine' f_pd ?e ?h ?t); (case e => walk_at "ev"); (case h => assumption); (case t => assumption))
  | ((with_reducible refine' f_ga ?e ?h ?t); (case e => walk_at "ev"); (case h => assumption); (case t => assumption))
  | ((with_reducible refine' f_lo ?e ?h ?t); (case e => walk_at "ev"); (case h => assumption); (case t => assumption))
  | ((with_reducible refine' f_hp ?e ?h ?t); (case e => walk_at "ev"); (case h => assumption); (case t => assumption))
  | ((with_reducible refine' f_tp ?e ?h ?t); (case e => walk_at "ev"); (case h => assumption); (case t => assumption))
  | ((with_reducible refine' ev_gt ?a ?b); (case a => walk_at "ev"); (case b => walk_at "ev"))
  | ((with_reducible refine' ev_lt ?a ?b); (case a => walk_at "ev"); (case b => walk_at "ev"))
  | ((with_reducible refine' ev_ge ?a ?b); (case a => walk_at "ev"); (case b => walk_at "ev"))
  | ((with_reducible refine' ev_le ?a ?b); (case a => walk_at "ev"); (case b => walk_at "ev"))
  | ((with_reducible refine' ev_eqI ?a ?b); (case a => walk_at "ev"); (case b => walk_at "ev"))
  | ((with_reducible refine' ev_neI ?a ?b); (case a => walk_at "ev"); (case b => walk_at "ev"))
  | ((with_reducible refine' ev_add ?a ?b); (case a => walk_at "ev"); (case b => walk_at "ev"))
  | ((with_reducible refine' ev_sub ?a ?b); (case a => walk_at "ev"); (case b => walk_at "ev"))
  | ((with_reducible refine' ev_mul ?a ?b ?c); (case a => walk_at "ev"); (case b => walk_at "ev"); (case c => walk_at "cm"))
  | ((with_reducible refine' ev_div ?a ?b ?c); (case a => walk_at "ev"); (case b => walk_at "ev"); (case c => assumption))
  | ((with_reducible refine' ev_mod ?a ?b ?c); (case a => walk_at "ev"); (case b => walk_at "ev"); (case c => assumption))
  | ((with_reducible refine' ev_absI ?a); (case a => walk_at "ev"))
  | ((with_reducible refine' ev_callH ?a ?s); (case a => walk_at "ea"); (case s => walk_at "sp"))
  | ((with_reducible refine' ev_sumN ?a); (case a => walk_at "el")))
local macro_rules | `(tactic| walk_at "ea") => `(tactic| first
  | with_reducible exact ea_nil
  | ((with_reducible refine' ea_cons ?a ?b); (case a => walk_at "ev"); (case b => walk_at "ea")))
local macro_rules | `(tactic| walk_at "el") => `(tactic| first
  | ((with_reducible refine' el_lst ?a ?b); (case a => walk_at "ea"); (case b => exact Nat.le_of_ble_eq_true rfl))
  | ((with_reducible refine' el_callH ?a ?s); (case a => walk_at "ea"); (case s => walk_at "sp")))
local macro_rules | `(tactic| walk_at "st") => `(tactic| first
  | ((with_reducible refine' q_asg ?e ?k); (case e => walk_at "ev"))
  | ((with_reducible refine' q_asgL ?e ?k); (case e => walk_at "el"))
  | ((with_reducible refine' s_asg ?e ?k); (case e => walk_at "ev"))
  | ((with_reducible refine' s_asgL ?e ?k); (case e => walk_at "el"))
  | ((with_reducible refine' s_ret ?e ?k); (case e => walk_at "ev"))
  | ((with_reducible refine' s_retL ?e ?k); (case e => walk_at "el")))
local macro_rules | `(tactic| walk_at "et") => `(tactic| first
  | ((with_reducible refine' et_test ?e); (case e => walk_at "ev"))
  | ((with_reducible refine' et_or ?e ?f); (case e => walk_at "et"); (case f => (intro _; walk_at "et")))
  | with_reducible exact et_yes)
local macro_rules | `(tactic| walk_at "sp") => `(tactic| assumption)
local macro_rules | `(tactic| walk_at "if") => `(tactic| first
  | ((with_reducible refine' q_when ?e ?k1 ?k2); (case e => walk_at "et"))
  | ((with_reducible refine' s_when ?e ?k1 ?k2); (case e => walk_at "et"))
  | ((with_reducible refine' q_if ?e ?k1 ?k2); (case e => walk_at "et"))
  | ((with_reducible refine' s_if ?e ?k1 ?k2); (case e => walk_at "et")))
local macro_rules | `(tactic| walk_at "pt") => `(tactic| first | exact put_here | (refine put_step ?_ ?_; (· decide +kernel); walk_at "pt"))
local macro_rules | `(tactic| walk_at "ev") => `(tactic| first
  | ((with_reducible refine' ev_ix0 ?e ?h); (case e => walk_at "ev"); (case h => assumption))
  | ((with_reducible refine' ev_ix1 ?e ?h); (case e => walk_at "ev"); (case h => assumption)))
open Kp415 (signalCount)
theorem is_harm : ActIs actHarm (callIs 11) := fun s ns c ok h => by
  match ns, h with
  | [], h =>
    cases h
    show (some s, 0 :: low ((pD s - pN s) * ((paying s).map (pW s)).sum) (pD s * pS s)) = (some s, 0 :: Kp416.fraction (Kp416.sumOver (Kp415.jointProduction s.model) (Kp416.cheatingSignals s)))
    rw [harm_low ok.good.pos, cheating_eq ok.good.pos]
theorem is_cost : ActIs actCost (callIs 12) := fun s ns c ok h => by
  match ns, h with
  | [], h =>
    cases h
    show (some s, 0 :: low (costNum s) (costDen s)) = (some s, 0 :: Kp416.fraction (Kp416.totalCost s))
    rw [cost_low ok.good.pos]
theorem orDp_is {s : Stg} {o : Option Rat} : ansOf (some s) (orDp s (fun q => 0 :: q) (o.map Kp416.fraction)) = (some s, (Kp416.optionalFraction o).num :: (Kp416.optionalFraction o).nums) := by
  cases o <;> rfl
theorem is_dpAt : ActIs actDpAt (callIs 13) := fun s ns c ok h => by
  match ns, h with
  | [a], h =>
    cases h
    unfold actDpAt
    show ansOf (some s) (if signalCount s.model ≤ a then Out.no .sig else orDp s (fun q => 0 :: q) (dpa s a)) = _
    by_cases hc : signalCount s.model ≤ a
    · have hv : ¬ Kp415.isSignal s.model a = true := by unfold Kp415.isSignal; rw [decide_eq_true_eq]; omega
      rw [if_pos hc]
      simp only [Kp416.step, if_neg hv]
      rfl
    · have hv : Kp415.isSignal s.model a = true := by unfold Kp415.isSignal; rw [decide_eq_true_eq]; omega
      rw [if_neg hc, ← dpa_map ok.good.pos]
      simp only [Kp416.step, if_pos hv]
      exact orDp_is
theorem is_dp : ActIs actDp (callIs 14) := fun s ns c ok h => by
  match ns, h with
  | [], h =>
    cases h
    unfold actDp
    rw [← dp_map ok.good.pos]
    exact orDp_is
theorem valid_m {s : Stg} {ns : List Nat} : Kp415.validMapping s.model ns = true ↔ ¬ (ns.length ≠ signalCount s.model ∨ (∃ x ∈ ns, signalCount s.model ≤ x)) := by
  unfold Kp415.validMapping
  rw [Bool.and_eq_true, decide_eq_true_eq]
  constructor
  · rintro ⟨h1, h2⟩ (h | ⟨x, hx, h⟩)
    · exact h h1
    · have := List.all_eq_true.mp h2 x hx
      unfold Kp415.isSignal at this
      have := of_decide_eq_true this
      omega
  · intro h
    obtain ⟨hl, hx⟩ := good_map h
    refine ⟨hl, List.all_eq_true.mpr fun x hm => ?_⟩
    unfold Kp415.isSignal
    exact decide_eq_true (hx x hm)
theorem counted_is {s : Stg} (g : Pos s) : counted s = (Kp416.listResult (Kp416.cheatingSignals s)).num :: (Kp416.listResult (Kp416.cheatingSignals s)).nums := by
  rw [cheating_eq g]
  rfl
theorem is_preview : ActIs actPreview (callIs 15) := fun s ns c ok h => by
  cases h
  unfold actPreview
  by_cases hc : ns.length ≠ signalCount s.model ∨ (∃ x ∈ ns, signalCount s.model ≤ x)
  · have hv : Kp415.validMapping s.model ns = false := by
      have : ¬ Kp415.validMapping s.model ns = true := fun z => valid_m.mp z hc
      simpa using this
    rw [if_pos hc]
    simp only [Kp416.step, if_pos hv]
    rfl
  · have hv : ¬ Kp415.validMapping s.model ns = false := by
      rw [valid_m.mpr hc]
      decide
    obtain ⟨hl, hx⟩ := good_map hc
    have g := (okk_mrg ok hl hx).good.pos
    rw [if_neg hc, ← dp_map g]
    simp only [Kp416.step, if_neg hv]
    have hp : profL (mrg s ns) = Kp416.fraction (Kp416.expectedProfit (Kp416.merged s ns)) := by
      unfold Kp416.expectedProfit
      show profL (mrg s ns) = Kp416.fraction (Kp416.sumOver (Kp416.cheatingValue (mrg s ns)) (Kp416.cheatingSignals (mrg s ns)))
      rw [profit_at g, cheating_eq g]
      rfl
    rw [← hp]
    show ansOf (some s) (orDp s (fun q => 0 :: (q ++ profL (mrg s ns))) ((Kp416.deterrentPrior (mrg s ns)).map Kp416.fraction)) = _
    unfold mrg
    cases Kp416.deterrentPrior (Kp416.merged s ns) <;> rfl
theorem is_merge : ActIs actMerge (callIs 16) := fun s ns c ok h => by
  cases h
  unfold actMerge
  by_cases hc : ns.length ≠ signalCount s.model ∨ (∃ x ∈ ns, signalCount s.model ≤ x)
  · have hv : ¬ Kp415.validMapping s.model ns = true := fun z => valid_m.mp z hc
    rw [if_pos hc]
    simp only [Kp416.step, if_neg hv]
    rfl
  · have hv : Kp415.validMapping s.model ns = true := valid_m.mpr hc
    obtain ⟨hl, hx⟩ := good_map hc
    rw [if_neg hc]
    simp only [Kp416.step, if_pos hv]
    show (some (mrg s ns), counted (mrg s ns)) = _
    rw [counted_is (okk_mrg ok hl hx).good.pos]
    rfl
theorem is_cheap : ActIs actCheap (callIs 17) := fun s ns c ok h => by
  match ns, h with
  | [], h =>
    cases h
    unfold actCheap
    rw [best_is ok.good.pos]
    rfl
theorem is_forPrior : ActIs actForPrior (callIs 18) := fun s ns c ok h => by
  match ns, h with
  | [a, b], h =>
    cases h
    unfold actForPrior
    show ansOf (some s) (if b < 1 ∨ 99 < b ∨ b < a then Out.no .lim else .yes s (counted (sP s a b))) = _
    by_cases hc : b < 1 ∨ 99 < b ∨ b < a
    · have hv : ¬ Kp415.validFraction a b = true := fun z => valid_f.mp z hc
      rw [if_pos hc]
      simp only [Kp416.step, if_neg hv]
      rfl
    · have hv : Kp415.validFraction a b = true := valid_f.mpr hc
      rw [if_neg hc, counted_is (okk_sP ok hc).good.pos]
      simp only [Kp416.step, if_pos hv]
      rfl
theorem is_forStakes : ActIs actForStakes (callIs 19) := fun s ns c ok h => by
  match ns, h with
  | [a, b], h =>
    cases h
    unfold actForStakes
    show ansOf (some s) (if 999 < a ∨ 999 < b then Out.no .lim else .yes s (counted (sS s a b))) = _
    by_cases hc : 999 < a ∨ 999 < b
    · have hv : ¬ (Kp416.validAmount a && Kp416.validAmount b) = true := fun z => valid_a.mp z hc
      rw [if_pos hc]
      simp only [Kp416.step, if_neg hv]
      rfl
    · have hv : (Kp416.validAmount a && Kp416.validAmount b) = true := valid_a.mpr hc
      rw [if_neg hc, counted_is (okk_sS ok hc).good.pos]
      simp only [Kp416.step, if_pos hv]
      rfl
theorem is_get : ActIs actGet (callIs 20) := fun s ns c ok h => by
  match ns, h with
  | [], h =>
    cases h
    show (some s, [((signalCount s.model : Nat) : Int), pN s, pD s, ga s, lo s, hP s, tP s] ++ natI s.model.testWeights ++ natI s.model.productionWeights) = (some s, (((signalCount s.model : Nat) : Int)) :: ([(s.model.priorNum : Int), (s.model.priorDen : Int), (s.gain : Int), (s.loss : Int), (s.harmPrice : Int), (s.testPrice : Int)] ++ (s.model.testWeights ++ s.model.productionWeights).map fun (x : Nat) => (x : Int)))
    rw [List.map_append]
    simp only [List.append_assoc]
    rfl
theorem is_act : ∀ k : Nat, 1 ≤ k → k ≤ 20 → ActIs (actOf k) (callIs k)
  | 1, _, _ => is_setT
  | 2, _, _ => is_setP
  | 3, _, _ => is_prior
  | 4, _, _ => is_stakes
  | 5, _, _ => is_prices
  | 6, _, _ => is_value
  | 7, _, _ => is_signals
  | 8, _, _ => is_profit
  | 9, _, _ => is_profitOf
  | 10, _, _ => is_detect
  | 11, _, _ => is_harm
  | 12, _, _ => is_cost
  | 13, _, _ => is_dpAt
  | 14, _, _ => is_dp
  | 15, _, _ => is_preview
  | 16, _, _ => is_merge
  | 17, _, _ => is_cheap
  | 18, _, _ => is_forPrior
  | 19, _, _ => is_forStakes
  | 20, _, _ => is_get
  | n + 21, _, h => absurd h (by omega)
theorem callIs_of {k : Nat} {ns : List Nat} (h : AskC (k, ns)) : (∃ x, callIs k ns = some x) ∧ CallOk (k, ns) := by
  obtain ⟨hk, h⟩ := h
  have hk : k ≤ 20 := hk
  have one : ns.length = 1 → ∃ a, ns = [a] := one_of
  have two : ns.length = 2 → ∃ a b, ns = [a, b] := two_of
  have hk' : k ≤ opMax := hk
  match k, hk, hk', h with
  | 0, _, q, h => obtain ⟨a, rfl⟩ := one (by simpa using h); exact ⟨⟨_, rfl⟩, q, rfl⟩
  | 1, _, q, h => exact ⟨⟨_, rfl⟩, q, trivial⟩
  | 2, _, q, h => exact ⟨⟨_, rfl⟩, q, trivial⟩
  | 3, _, q, h => obtain ⟨a, b, rfl⟩ := two (by simpa using h); exact ⟨⟨_, rfl⟩, q, rfl⟩
  | 4, _, q, h => obtain ⟨a, b, rfl⟩ := two (by simpa using h); exact ⟨⟨_, rfl⟩, q, rfl⟩
  | 5, _, q, h => obtain ⟨a, b, rfl⟩ := two (by simpa using h); exact ⟨⟨_, rfl⟩, q, rfl⟩
  | 6, _, q, h => obtain ⟨a, rfl⟩ := one (by simpa using h); exact ⟨⟨_, rfl⟩, q, rfl⟩
  | 7, _, q, h => obtain rfl := len0 (by simpa using h); exact ⟨⟨_, rfl⟩, q, trivial⟩
  | 8, _, q, h => obtain rfl := len0 (by simpa using h); exact ⟨⟨_, rfl⟩, q, trivial⟩
  | 9, _, q, h => obtain ⟨a, rfl⟩ := one (by simpa using h); exact ⟨⟨_, rfl⟩, q, rfl⟩
  | 10, _, q, h => obtain rfl := len0 (by simpa using h); exact ⟨⟨_, rfl⟩, q, trivial⟩
  | 11, _, q, h => obtain rfl := len0 (by simpa using h); exact ⟨⟨_, rfl⟩, q, trivial⟩
  | 12, _, q, h => obtain rfl := len0 (by simpa using h); exact ⟨⟨_, rfl⟩, q, trivial⟩
  | 13, _, q, h => obtain ⟨a, rfl⟩ := one (by simpa using h); exact ⟨⟨_, rfl⟩, q, rfl⟩
  | 14, _, q, h => obtain rfl := len0 (by simpa using h); exact ⟨⟨_, rfl⟩, q, trivial⟩
  | 15, _, q, h => exact ⟨⟨_, rfl⟩, q, trivial⟩
  | 16, _, q, h => exact ⟨⟨_, rfl⟩, q, trivial⟩
  | 17, _, q, h => obtain rfl := len0 (by simpa using h); exact ⟨⟨_, rfl⟩, q, trivial⟩
  | 18, _, q, h => obtain ⟨a, b, rfl⟩ := two (by simpa using h); exact ⟨⟨_, rfl⟩, q, rfl⟩
  | 19, _, q, h => obtain ⟨a, b, rfl⟩ := two (by simpa using h); exact ⟨⟨_, rfl⟩, q, rfl⟩
  | 20, _, q, h => obtain rfl := len0 (by simpa using h); exact ⟨⟨_, rfl⟩, q, trivial⟩
  | n + 21, hk, _, _ => exact absurd hk (by omega)
theorem callOk_of {d : Cl} (h : AskC d) : CallOk d := (callIs_of (k := d.1) (ns := d.2) h).2
theorem step_none {k : Nat} {ns : List Nat} {x : Kp416.Call} (hk : k ≠ 0) (h : callIs k ns = some x) : Kp416.step none x = (none, Kp416.single (-11)) := by
  unfold callIs at h
  split at h <;> first
    | exact absurd rfl hk
    | (cases h; rfl)
    | cases h
theorem spec_step (st : Option Stg) (d : Cl) (ok : OkSt st) (h : AskC d) : Kp416Neutral.step st (cOf d) = stepM st d := by
  obtain ⟨k, ns⟩ := d
  obtain ⟨⟨x, hx⟩, _⟩ := callIs_of h
  have hk : k ≤ 20 := h.1
  rw [step_is hx]
  unfold stepM doIt
  by_cases h0 : k = 0
  · subst h0
    rw [if_pos rfl]
    match ns, hx with
    | [a], hx =>
      cases hx
      show _ = ansOf st (if a < 1 ∨ 5 < a then Out.no .lim else .yes (fresh a) [0])
      by_cases hc : a < 1 ∨ 5 < a
      · have hc' : a < 1 ∨ Kp415.maxSignals < a := hc
        rw [if_pos hc]
        simp only [Kp416.step, if_pos hc']
        rfl
      · have hc' : ¬ (a < 1 ∨ Kp415.maxSignals < a) := hc
        rw [if_neg hc]
        simp only [Kp416.step, if_neg hc']
        rfl
  · rw [if_neg h0]
    cases st with
    | none =>
      rw [step_none h0 hx]
      rfl
    | some s => exact (is_act k (by omega) hk s ns x (ok s rfl) hx).symm
end Dt

set_option Elab.async false
set_option linter.all false
set_option maxRecDepth 100000
set_option maxHeartbeats 4000000
namespace Dt
open PySem PySem.Spec PyProof.Rows L2 Evl
local macro_rules | `(tactic| walk_at "lk") => `(tactic| first | exact lk_here | (refine (lk_past ?_).trans ?_; (· decide +kernel); walk_at "lk"))
local macro_rules | `(tactic| walk_at "bd") => `(tactic| first | assumption | exact Good.bt (by assumption) | exact Good.bp (by assumption) | exact Good.bn (by assumption) | exact Good.bd (by assumption) | exact Good.bg (by assumption) | exact Good.bl (by assumption) | exact Good.bh (by assumption) | exact Good.bc (by assumption) | exact Good.btw (by assumption) _ | exact Good.bpw (by assumption) _ | exact bd_mul (by walk_at "bd") (by walk_at "bd") | exact bd_add (by walk_at "bd") (by walk_at "bd") | exact bd_sub (by walk_at "bd") (by walk_at "bd"))
local macro_rules | `(tactic| walk_at "cm") => `(tactic| first | assumption | exact bd_cmul (by walk_at "bd") (by walk_at "bd") (by decide))
local macro_rules | `(tactic| walk_at "ev") => `(tactic| first
  | with_reducible exact ev_c
  | ((with_reducible refine' ev_var ?h); (case h => exact rfl))
  | ((with_reducible refine' f_tsum ?e ?h ?t); (case e => walk_at "ev"); (case h => assumption); (case t => assumption))
  | ((with_reducible refine' f_psum ?e ?h ?t); (case e => walk_at "ev"); (case h => assumption); (case t => assumption))
  | ((with_reducible refine' f_tix ?e ?i ?h ?t ?l); (case e => walk_at "ev"); (case i => walk_at "ev"); (case h => assumption); (case t => assumption); (case l => assumption))
  | ((with_reducible refine' f_pix ?e ?i ?h ?t ?g ?l); (case e => walk_at "ev"); (case i => walk_at "ev"); (case h => assumption); (case t => assumption); (case g => assumption); (case l => assumption))
  | ((with_reducible refine' f_count ?e ?h ?t); (case e => walk_at "ev"); (case h => assumption); (case t => assumption))
  | ((with_reducible refine' f_tw ?e ?h ?t); (case e => walk_at "ev"); (case h => assumption); (case t => assumption))
  | ((with_reducible refine' f_pw ?e ?h ?t); (case e => walk_at "ev"); (case h => assumption); (case t => assumption))
  | ((with_reducible refine' f_pn ?e ?h ?t); (case e => walk_at "ev"); (case h => assumption); (case t => assumption))
  | ((with_reducible refine' f_pd ?e ?h ?t); (case e => walk_at "ev"); (case h => assumption); (case t => assumption))
  | ((with_reducible refine' f_ga ?e ?h ?t); (case e => walk_at "ev"); (case h => assumption); (case t => assumption))
  | ((with_reducible refine' f_lo ?e ?h ?t); (case e => walk_at "ev"); (case h => assumption); (case t => assumption))
  | ((with_reducible refine' f_hp ?e ?h ?t); (case e => walk_at "ev"); (case h => assumption); (case t => assumption))
  | ((with_reducible refine' f_tp ?e ?h ?t); (case e => walk_at "ev"); (case h => assumption); (case t => assumption))
  | ((with_reducible refine' ev_gt ?a ?b); (case a => walk_at "ev"); (case b => walk_at "ev"))
  | ((with_reducible refine' ev_lt ?a ?b); (case a => walk_at "ev"); (case b => walk_at "ev"))
  | ((with_reducible refine' ev_ge ?a ?b); (case a => walk_at "ev"); (case b => walk_at "ev"))
  | ((with_reducible refine' ev_le ?a ?b); (case a => walk_at "ev"); (case b => walk_at "ev"))
  | ((with_reducible refine' ev_eqI ?a ?b); (case a => walk_at "ev"); (case b => walk_at "ev"))
  | ((with_reducible refine' ev_neI ?a ?b); (case a => walk_at "ev"); (case b => walk_at "ev"))
  | ((with_reducible refine' ev_add ?a ?b); (case a => walk_at "ev"); (case b => walk_at "ev"))
  | ((with_reducible refine' ev_sub ?a ?b); (case a => walk_at "ev"); (case b => walk_at "ev"))
  | ((with_reducible refine' ev_mul ?a ?b ?c); (case a => walk_at "ev"); (case b => walk_at "ev"); (case c => walk_at "cm"))
  | ((with_reducible refine' ev_div ?a ?b ?c); (case a => walk_at "ev"); (case b => walk_at "ev"); (case c => assumption))
  | ((with_reducible refine' ev_mod ?a ?b ?c); (case a => walk_at "ev"); (case b => walk_at "ev"); (case c => assumption))
  | ((with_reducible refine' ev_absI ?a); (case a => walk_at "ev"))
  | ((with_reducible refine' ev_callH ?a ?s); (case a => walk_at "ea"); (case s => walk_at "sp"))
  | ((with_reducible refine' ev_sumN ?a); (case a => walk_at "el")))
local macro_rules | `(tactic| walk_at "ea") => `(tactic| first
  | with_reducible exact ea_nil
  | ((with_reducible refine' ea_cons ?a ?b); (case a => walk_at "ev"); (case b => walk_at "ea")))
local macro_rules | `(tactic| walk_at "el") => `(tactic| first
  | ((with_reducible refine' el_lst ?a ?b); (case a => walk_at "ea"); (case b => exact Nat.le_of_ble_eq_true rfl))
  | ((with_reducible refine' el_callH ?a ?s); (case a => walk_at "ea"); (case s => walk_at "sp")))
local macro_rules | `(tactic| walk_at "st") => `(tactic| first
  | ((with_reducible refine' q_asg ?e ?k); (case e => walk_at "ev"))
  | ((with_reducible refine' q_asgL ?e ?k); (case e => walk_at "el"))
  | ((with_reducible refine' s_asg ?e ?k); (case e => walk_at "ev"))
  | ((with_reducible refine' s_asgL ?e ?k); (case e => walk_at "el"))
  | ((with_reducible refine' s_ret ?e ?k); (case e => walk_at "ev"))
  | ((with_reducible refine' s_retL ?e ?k); (case e => walk_at "el")))
local macro_rules | `(tactic| walk_at "et") => `(tactic| first
  | ((with_reducible refine' et_test ?e); (case e => walk_at "ev"))
  | ((with_reducible refine' et_or ?e ?f); (case e => walk_at "et"); (case f => (intro _; walk_at "et")))
  | with_reducible exact et_yes)
local macro_rules | `(tactic| walk_at "sp") => `(tactic| assumption)
local macro_rules | `(tactic| walk_at "if") => `(tactic| first
  | ((with_reducible refine' q_when ?e ?k1 ?k2); (case e => walk_at "et"))
  | ((with_reducible refine' s_when ?e ?k1 ?k2); (case e => walk_at "et"))
  | ((with_reducible refine' q_if ?e ?k1 ?k2); (case e => walk_at "et"))
  | ((with_reducible refine' s_if ?e ?k1 ?k2); (case e => walk_at "et")))
local macro_rules | `(tactic| walk_at "pt") => `(tactic| first | exact put_here | (refine put_step ?_ ?_; (· decide +kernel); walk_at "pt"))
local macro_rules | `(tactic| walk_at "ev") => `(tactic| first
  | ((with_reducible refine' ev_ix0 ?e ?h); (case e => walk_at "ev"); (case h => assumption))
  | ((with_reducible refine' ev_ix1 ?e ?h); (case e => walk_at "ev"); (case h => assumption)))
open Kp415 (signalCount)
theorem HeldX.mono {P : Program} {w : World} {K : PySem.W.Frag} {mg : Str → Option Value} {base : Heap} {CX : CXT} {j k : Nat} {f : Addr} {sp : Sp} (h : HeldX P w K mg base CX j f sp) (e : j ≤ k) : HeldX P w K mg base CX k f sp := by
  obtain ⟨fd, ps, F, a, b⟩ := h.ex
  exact ⟨fd, ps, F.mono e, a, b⟩
theorem Has.up {P : Program} {w : World} {K : PySem.W.Frag} {mg : Str → Option Value} {base : Heap} {CX : CXT} {k : Nat} {x : Str} {ps : List Str} {sp : Sp} (h : Has P w K mg base CX0 k x ps sp) : Has P w K mg base CX k x ps sp := by
  obtain ⟨f, fd, a, b, c, F⟩ := h.ex
  exact ⟨f, fd, a, b, c, FnOk_up F⟩
theorem bi_common_divisor : ∀ (kV doc pm : Value) (an : Option Addr) (cdv ct : Value) (us : List Value), us.length = (["left", "right"] : List Str).length → bindArgs (PySem.W.fnOf "common_divisor" "common_divisor" (defArgs s_common_divisor) (defBody s_common_divisor) (defScope s_common_divisor) .none kV doc pm an cdv ct) ⟨us, []⟩ = pure ((["left", "right"] : List Str).zip us) := fun _ _ _ _ _ _ us hl => match us, hl with | [_, _], _ => rfl
theorem bi_lowest_terms : ∀ (kV doc pm : Value) (an : Option Addr) (cdv ct : Value) (us : List Value), us.length = (["top", "bottom"] : List Str).length → bindArgs (PySem.W.fnOf "lowest_terms" "lowest_terms" (defArgs s_lowest_terms) (defBody s_lowest_terms) (defScope s_lowest_terms) .none kV doc pm an cdv ct) ⟨us, []⟩ = pure ((["top", "bottom"] : List Str).zip us) := fun _ _ _ _ _ _ us hl => match us, hl with | [_, _], _ => rfl
theorem bi_is_less : ∀ (kV doc pm : Value) (an : Option Addr) (cdv ct : Value) (us : List Value), us.length = (["left", "right"] : List Str).length → bindArgs (PySem.W.fnOf "is_less" "is_less" (defArgs s_is_less) (defBody s_is_less) (defScope s_is_less) .none kV doc pm an cdv ct) ⟨us, []⟩ = pure ((["left", "right"] : List Str).zip us) := fun _ _ _ _ _ _ us hl => match us, hl with | [_, _], _ => rfl
theorem bi_value_denominator : ∀ (kV doc pm : Value) (an : Option Addr) (cdv ct : Value) (us : List Value), us.length = (["setting"] : List Str).length → bindArgs (PySem.W.fnOf "value_denominator" "value_denominator" (defArgs s_value_denominator) (defBody s_value_denominator) (defScope s_value_denominator) .none kV doc pm an cdv ct) ⟨us, []⟩ = pure ((["setting"] : List Str).zip us) := fun _ _ _ _ _ _ us hl => match us, hl with | [_], _ => rfl
theorem bi_value_numerator : ∀ (kV doc pm : Value) (an : Option Addr) (cdv ct : Value) (us : List Value), us.length = (["setting", "signal"] : List Str).length → bindArgs (PySem.W.fnOf "value_numerator" "value_numerator" (defArgs s_value_numerator) (defBody s_value_numerator) (defScope s_value_numerator) .none kV doc pm an cdv ct) ⟨us, []⟩ = pure ((["setting", "signal"] : List Str).zip us) := fun _ _ _ _ _ _ us hl => match us, hl with | [_, _], _ => rfl
theorem bi_paying_signals : ∀ (kV doc pm : Value) (an : Option Addr) (cdv ct : Value) (us : List Value), us.length = (["setting"] : List Str).length → bindArgs (PySem.W.fnOf "paying_signals" "paying_signals" (defArgs s_paying_signals) (defBody s_paying_signals) (defScope s_paying_signals) .none kV doc pm an cdv ct) ⟨us, []⟩ = pure ((["setting"] : List Str).zip us) := fun _ _ _ _ _ _ us hl => match us, hl with | [_], _ => rfl
theorem bi_profit_at : ∀ (kV doc pm : Value) (an : Option Addr) (cdv ct : Value) (us : List Value), us.length = (["setting", "signals"] : List Str).length → bindArgs (PySem.W.fnOf "profit_at" "profit_at" (defArgs s_profit_at) (defBody s_profit_at) (defScope s_profit_at) .none kV doc pm an cdv ct) ⟨us, []⟩ = pure ((["setting", "signals"] : List Str).zip us) := fun _ _ _ _ _ _ us hl => match us, hl with | [_, _], _ => rfl
theorem bi_joint_test_at : ∀ (kV doc pm : Value) (an : Option Addr) (cdv ct : Value) (us : List Value), us.length = (["setting", "signals"] : List Str).length → bindArgs (PySem.W.fnOf "joint_test_at" "joint_test_at" (defArgs s_joint_test_at) (defBody s_joint_test_at) (defScope s_joint_test_at) .none kV doc pm an cdv ct) ⟨us, []⟩ = pure ((["setting", "signals"] : List Str).zip us) := fun _ _ _ _ _ _ us hl => match us, hl with | [_, _], _ => rfl
theorem bi_joint_production_at : ∀ (kV doc pm : Value) (an : Option Addr) (cdv ct : Value) (us : List Value), us.length = (["setting", "signals"] : List Str).length → bindArgs (PySem.W.fnOf "joint_production_at" "joint_production_at" (defArgs s_joint_production_at) (defBody s_joint_production_at) (defScope s_joint_production_at) .none kV doc pm an cdv ct) ⟨us, []⟩ = pure ((["setting", "signals"] : List Str).zip us) := fun _ _ _ _ _ _ us hl => match us, hl with | [_, _], _ => rfl
theorem bi_check_signal_count : ∀ (kV doc pm : Value) (an : Option Addr) (cdv ct : Value) (us : List Value), us.length = (["signal_count"] : List Str).length → bindArgs (PySem.W.fnOf "check_signal_count" "check_signal_count" (defArgs s_check_signal_count) (defBody s_check_signal_count) (defScope s_check_signal_count) .none kV doc pm an cdv ct) ⟨us, []⟩ = pure ((["signal_count"] : List Str).zip us) := fun _ _ _ _ _ _ us hl => match us, hl with | [_], _ => rfl
theorem bi_check_signal : ∀ (kV doc pm : Value) (an : Option Addr) (cdv ct : Value) (us : List Value), us.length = (["signal", "signal_count"] : List Str).length → bindArgs (PySem.W.fnOf "check_signal" "check_signal" (defArgs s_check_signal) (defBody s_check_signal) (defScope s_check_signal) .none kV doc pm an cdv ct) ⟨us, []⟩ = pure ((["signal", "signal_count"] : List Str).zip us) := fun _ _ _ _ _ _ us hl => match us, hl with | [_, _], _ => rfl
theorem bi_check_signal_set : ∀ (kV doc pm : Value) (an : Option Addr) (cdv ct : Value) (us : List Value), us.length = (["mask", "signal_count"] : List Str).length → bindArgs (PySem.W.fnOf "check_signal_set" "check_signal_set" (defArgs s_check_signal_set) (defBody s_check_signal_set) (defScope s_check_signal_set) .none kV doc pm an cdv ct) ⟨us, []⟩ = pure ((["mask", "signal_count"] : List Str).zip us) := fun _ _ _ _ _ _ us hl => match us, hl with | [_, _], _ => rfl
theorem bi_check_mapping : ∀ (kV doc pm : Value) (an : Option Addr) (cdv ct : Value) (us : List Value), us.length = (["mapping", "signal_count"] : List Str).length → bindArgs (PySem.W.fnOf "check_mapping" "check_mapping" (defArgs s_check_mapping) (defBody s_check_mapping) (defScope s_check_mapping) .none kV doc pm an cdv ct) ⟨us, []⟩ = pure ((["mapping", "signal_count"] : List Str).zip us) := fun _ _ _ _ _ _ us hl => match us, hl with | [_, _], _ => rfl
theorem bi_check_weights : ∀ (kV doc pm : Value) (an : Option Addr) (cdv ct : Value) (us : List Value), us.length = (["weights", "signal_count"] : List Str).length → bindArgs (PySem.W.fnOf "check_weights" "check_weights" (defArgs s_check_weights) (defBody s_check_weights) (defScope s_check_weights) .none kV doc pm an cdv ct) ⟨us, []⟩ = pure ((["weights", "signal_count"] : List Str).zip us) := fun _ _ _ _ _ _ us hl => match us, hl with | [_, _], _ => rfl
theorem bi_check_prior : ∀ (kV doc pm : Value) (an : Option Addr) (cdv ct : Value) (us : List Value), us.length = (["num", "den"] : List Str).length → bindArgs (PySem.W.fnOf "check_prior" "check_prior" (defArgs s_check_prior) (defBody s_check_prior) (defScope s_check_prior) .none kV doc pm an cdv ct) ⟨us, []⟩ = pure ((["num", "den"] : List Str).zip us) := fun _ _ _ _ _ _ us hl => match us, hl with | [_, _], _ => rfl
theorem bi_check_amounts : ∀ (kV doc pm : Value) (an : Option Addr) (cdv ct : Value) (us : List Value), us.length = (["first", "second"] : List Str).length → bindArgs (PySem.W.fnOf "check_amounts" "check_amounts" (defArgs s_check_amounts) (defBody s_check_amounts) (defScope s_check_amounts) .none kV doc pm an cdv ct) ⟨us, []⟩ = pure ((["first", "second"] : List Str).zip us) := fun _ _ _ _ _ _ us hl => match us, hl with | [_, _], _ => rfl
theorem bi_Setting_init : ∀ (kV doc pm : Value) (an : Option Addr) (cdv ct : Value) (us : List Value), us.length = (["self", "signal_count"] : List Str).length → bindArgs (PySem.W.fnOf "__init__" "Setting.__init__" (defArgs s_Setting_init) (defBody s_Setting_init) (defScope s_Setting_init) .none kV doc pm an cdv ct) ⟨us, []⟩ = pure ((["self", "signal_count"] : List Str).zip us) := fun _ _ _ _ _ _ us hl => match us, hl with | [_, _], _ => rfl
theorem bi_Setting_duplicate : ∀ (kV doc pm : Value) (an : Option Addr) (cdv ct : Value) (us : List Value), us.length = (["self"] : List Str).length → bindArgs (PySem.W.fnOf "duplicate" "Setting.duplicate" (defArgs s_Setting_duplicate) (defBody s_Setting_duplicate) (defScope s_Setting_duplicate) .none kV doc pm an cdv ct) ⟨us, []⟩ = pure ((["self"] : List Str).zip us) := fun _ _ _ _ _ _ us hl => match us, hl with | [_], _ => rfl
theorem bi_Setting_merge : ∀ (kV doc pm : Value) (an : Option Addr) (cdv ct : Value) (us : List Value), us.length = (["self", "mapping"] : List Str).length → bindArgs (PySem.W.fnOf "merge" "Setting.merge" (defArgs s_Setting_merge) (defBody s_Setting_merge) (defScope s_Setting_merge) .none kV doc pm an cdv ct) ⟨us, []⟩ = pure ((["self", "mapping"] : List Str).zip us) := fun _ _ _ _ _ _ us hl => match us, hl with | [_, _], _ => rfl
theorem bi_merged_weights : ∀ (kV doc pm : Value) (an : Option Addr) (cdv ct : Value) (us : List Value), us.length = (["weights", "mapping"] : List Str).length → bindArgs (PySem.W.fnOf "merged_weights" "merged_weights" (defArgs s_merged_weights) (defBody s_merged_weights) (defScope s_merged_weights) .none kV doc pm an cdv ct) ⟨us, []⟩ = pure ((["weights", "mapping"] : List Str).zip us) := fun _ _ _ _ _ _ us hl => match us, hl with | [_, _], _ => rfl
theorem bi_with_prior : ∀ (kV doc pm : Value) (an : Option Addr) (cdv ct : Value) (us : List Value), us.length = (["setting", "num", "den"] : List Str).length → bindArgs (PySem.W.fnOf "with_prior" "with_prior" (defArgs s_with_prior) (defBody s_with_prior) (defScope s_with_prior) .none kV doc pm an cdv ct) ⟨us, []⟩ = pure ((["setting", "num", "den"] : List Str).zip us) := fun _ _ _ _ _ _ us hl => match us, hl with | [_, _, _], _ => rfl
theorem bi_with_stakes : ∀ (kV doc pm : Value) (an : Option Addr) (cdv ct : Value) (us : List Value), us.length = (["setting", "gain", "loss"] : List Str).length → bindArgs (PySem.W.fnOf "with_stakes" "with_stakes" (defArgs s_with_stakes) (defBody s_with_stakes) (defScope s_with_stakes) .none kV doc pm an cdv ct) ⟨us, []⟩ = pure ((["setting", "gain", "loss"] : List Str).zip us) := fun _ _ _ _ _ _ us hl => match us, hl with | [_, _, _], _ => rfl
theorem bi_with_merge : ∀ (kV doc pm : Value) (an : Option Addr) (cdv ct : Value) (us : List Value), us.length = (["setting", "mapping"] : List Str).length → bindArgs (PySem.W.fnOf "with_merge" "with_merge" (defArgs s_with_merge) (defBody s_with_merge) (defScope s_with_merge) .none kV doc pm an cdv ct) ⟨us, []⟩ = pure ((["setting", "mapping"] : List Str).zip us) := fun _ _ _ _ _ _ us hl => match us, hl with | [_, _], _ => rfl
theorem bi_cost_of : ∀ (kV doc pm : Value) (an : Option Addr) (cdv ct : Value) (us : List Value), us.length = (["setting"] : List Str).length → bindArgs (PySem.W.fnOf "cost_of" "cost_of" (defArgs s_cost_of) (defBody s_cost_of) (defScope s_cost_of) .none kV doc pm an cdv ct) ⟨us, []⟩ = pure ((["setting"] : List Str).zip us) := fun _ _ _ _ _ _ us hl => match us, hl with | [_], _ => rfl
theorem bi_prior_against : ∀ (kV doc pm : Value) (an : Option Addr) (cdv ct : Value) (us : List Value), us.length = (["setting", "signal"] : List Str).length → bindArgs (PySem.W.fnOf "prior_against" "prior_against" (defArgs s_prior_against) (defBody s_prior_against) (defScope s_prior_against) .none kV doc pm an cdv ct) ⟨us, []⟩ = pure ((["setting", "signal"] : List Str).zip us) := fun _ _ _ _ _ _ us hl => match us, hl with | [_, _], _ => rfl
theorem bi_prior_against_all : ∀ (kV doc pm : Value) (an : Option Addr) (cdv ct : Value) (us : List Value), us.length = (["setting"] : List Str).length → bindArgs (PySem.W.fnOf "prior_against_all" "prior_against_all" (defArgs s_prior_against_all) (defBody s_prior_against_all) (defScope s_prior_against_all) .none kV doc pm an cdv ct) ⟨us, []⟩ = pure ((["setting"] : List Str).zip us) := fun _ _ _ _ _ _ us hl => match us, hl with | [_], _ => rfl
theorem bi_priors_to_compare : ∀ (kV doc pm : Value) (an : Option Addr) (cdv ct : Value) (us : List Value), us.length = (["setting"] : List Str).length → bindArgs (PySem.W.fnOf "priors_to_compare" "priors_to_compare" (defArgs s_priors_to_compare) (defBody s_priors_to_compare) (defScope s_priors_to_compare) .none kV doc pm an cdv ct) ⟨us, []⟩ = pure ((["setting"] : List Str).zip us) := fun _ _ _ _ _ _ us hl => match us, hl with | [_], _ => rfl
theorem bi_cheapest_with_cost : ∀ (kV doc pm : Value) (an : Option Addr) (cdv ct : Value) (us : List Value), us.length = (["setting"] : List Str).length → bindArgs (PySem.W.fnOf "cheapest_with_cost" "cheapest_with_cost" (defArgs s_cheapest_with_cost) (defBody s_cheapest_with_cost) (defScope s_cheapest_with_cost) .none kV doc pm an cdv ct) ⟨us, []⟩ = pure ((["setting"] : List Str).zip us) := fun _ _ _ _ _ _ us hl => match us, hl with | [_], _ => rfl
theorem bi_create : ∀ (kV doc pm : Value) (an : Option Addr) (cdv ct : Value) (us : List Value), us.length = (["signal_count"] : List Str).length → bindArgs (PySem.W.fnOf "create" "create" (defArgs s_create) (defBody s_create) (defScope s_create) .none kV doc pm an cdv ct) ⟨us, []⟩ = pure ((["signal_count"] : List Str).zip us) := fun _ _ _ _ _ _ us hl => match us, hl with | [_], _ => rfl
theorem bi_set_test_weights : ∀ (kV doc pm : Value) (an : Option Addr) (cdv ct : Value) (us : List Value), us.length = (["setting", "weights"] : List Str).length → bindArgs (PySem.W.fnOf "set_test_weights" "set_test_weights" (defArgs s_set_test_weights) (defBody s_set_test_weights) (defScope s_set_test_weights) .none kV doc pm an cdv ct) ⟨us, []⟩ = pure ((["setting", "weights"] : List Str).zip us) := fun _ _ _ _ _ _ us hl => match us, hl with | [_, _], _ => rfl
theorem bi_set_production_weights : ∀ (kV doc pm : Value) (an : Option Addr) (cdv ct : Value) (us : List Value), us.length = (["setting", "weights"] : List Str).length → bindArgs (PySem.W.fnOf "set_production_weights" "set_production_weights" (defArgs s_set_production_weights) (defBody s_set_production_weights) (defScope s_set_production_weights) .none kV doc pm an cdv ct) ⟨us, []⟩ = pure ((["setting", "weights"] : List Str).zip us) := fun _ _ _ _ _ _ us hl => match us, hl with | [_, _], _ => rfl
theorem bi_set_prior : ∀ (kV doc pm : Value) (an : Option Addr) (cdv ct : Value) (us : List Value), us.length = (["setting", "numbers"] : List Str).length → bindArgs (PySem.W.fnOf "set_prior" "set_prior" (defArgs s_set_prior) (defBody s_set_prior) (defScope s_set_prior) .none kV doc pm an cdv ct) ⟨us, []⟩ = pure ((["setting", "numbers"] : List Str).zip us) := fun _ _ _ _ _ _ us hl => match us, hl with | [_, _], _ => rfl
theorem bi_set_stakes : ∀ (kV doc pm : Value) (an : Option Addr) (cdv ct : Value) (us : List Value), us.length = (["setting", "numbers"] : List Str).length → bindArgs (PySem.W.fnOf "set_stakes" "set_stakes" (defArgs s_set_stakes) (defBody s_set_stakes) (defScope s_set_stakes) .none kV doc pm an cdv ct) ⟨us, []⟩ = pure ((["setting", "numbers"] : List Str).zip us) := fun _ _ _ _ _ _ us hl => match us, hl with | [_, _], _ => rfl
theorem bi_set_prices : ∀ (kV doc pm : Value) (an : Option Addr) (cdv ct : Value) (us : List Value), us.length = (["setting", "numbers"] : List Str).length → bindArgs (PySem.W.fnOf "set_prices" "set_prices" (defArgs s_set_prices) (defBody s_set_prices) (defScope s_set_prices) .none kV doc pm an cdv ct) ⟨us, []⟩ = pure ((["setting", "numbers"] : List Str).zip us) := fun _ _ _ _ _ _ us hl => match us, hl with | [_, _], _ => rfl
theorem bi_cheating_value : ∀ (kV doc pm : Value) (an : Option Addr) (cdv ct : Value) (us : List Value), us.length = (["setting", "numbers"] : List Str).length → bindArgs (PySem.W.fnOf "cheating_value" "cheating_value" (defArgs s_cheating_value) (defBody s_cheating_value) (defScope s_cheating_value) .none kV doc pm an cdv ct) ⟨us, []⟩ = pure ((["setting", "numbers"] : List Str).zip us) := fun _ _ _ _ _ _ us hl => match us, hl with | [_, _], _ => rfl
theorem bi_counted_signals : ∀ (kV doc pm : Value) (an : Option Addr) (cdv ct : Value) (us : List Value), us.length = (["setting"] : List Str).length → bindArgs (PySem.W.fnOf "counted_signals" "counted_signals" (defArgs s_counted_signals) (defBody s_counted_signals) (defScope s_counted_signals) .none kV doc pm an cdv ct) ⟨us, []⟩ = pure ((["setting"] : List Str).zip us) := fun _ _ _ _ _ _ us hl => match us, hl with | [_], _ => rfl
theorem bi_cheating_signals : ∀ (kV doc pm : Value) (an : Option Addr) (cdv ct : Value) (us : List Value), us.length = (["setting", "numbers"] : List Str).length → bindArgs (PySem.W.fnOf "cheating_signals" "cheating_signals" (defArgs s_cheating_signals) (defBody s_cheating_signals) (defScope s_cheating_signals) .none kV doc pm an cdv ct) ⟨us, []⟩ = pure ((["setting", "numbers"] : List Str).zip us) := fun _ _ _ _ _ _ us hl => match us, hl with | [_, _], _ => rfl
theorem bi_expected_profit : ∀ (kV doc pm : Value) (an : Option Addr) (cdv ct : Value) (us : List Value), us.length = (["setting", "numbers"] : List Str).length → bindArgs (PySem.W.fnOf "expected_profit" "expected_profit" (defArgs s_expected_profit) (defBody s_expected_profit) (defScope s_expected_profit) .none kV doc pm an cdv ct) ⟨us, []⟩ = pure ((["setting", "numbers"] : List Str).zip us) := fun _ _ _ _ _ _ us hl => match us, hl with | [_, _], _ => rfl
theorem bi_expected_profit_of : ∀ (kV doc pm : Value) (an : Option Addr) (cdv ct : Value) (us : List Value), us.length = (["setting", "numbers"] : List Str).length → bindArgs (PySem.W.fnOf "expected_profit_of" "expected_profit_of" (defArgs s_expected_profit_of) (defBody s_expected_profit_of) (defScope s_expected_profit_of) .none kV doc pm an cdv ct) ⟨us, []⟩ = pure ((["setting", "numbers"] : List Str).zip us) := fun _ _ _ _ _ _ us hl => match us, hl with | [_, _], _ => rfl
theorem bi_detection_probability : ∀ (kV doc pm : Value) (an : Option Addr) (cdv ct : Value) (us : List Value), us.length = (["setting", "numbers"] : List Str).length → bindArgs (PySem.W.fnOf "detection_probability" "detection_probability" (defArgs s_detection_probability) (defBody s_detection_probability) (defScope s_detection_probability) .none kV doc pm an cdv ct) ⟨us, []⟩ = pure ((["setting", "numbers"] : List Str).zip us) := fun _ _ _ _ _ _ us hl => match us, hl with | [_, _], _ => rfl
theorem bi_harm_probability : ∀ (kV doc pm : Value) (an : Option Addr) (cdv ct : Value) (us : List Value), us.length = (["setting", "numbers"] : List Str).length → bindArgs (PySem.W.fnOf "harm_probability" "harm_probability" (defArgs s_harm_probability) (defBody s_harm_probability) (defScope s_harm_probability) .none kV doc pm an cdv ct) ⟨us, []⟩ = pure ((["setting", "numbers"] : List Str).zip us) := fun _ _ _ _ _ _ us hl => match us, hl with | [_, _], _ => rfl
theorem bi_total_cost : ∀ (kV doc pm : Value) (an : Option Addr) (cdv ct : Value) (us : List Value), us.length = (["setting", "numbers"] : List Str).length → bindArgs (PySem.W.fnOf "total_cost" "total_cost" (defArgs s_total_cost) (defBody s_total_cost) (defScope s_total_cost) .none kV doc pm an cdv ct) ⟨us, []⟩ = pure ((["setting", "numbers"] : List Str).zip us) := fun _ _ _ _ _ _ us hl => match us, hl with | [_, _], _ => rfl
theorem bi_existing : ∀ (kV doc pm : Value) (an : Option Addr) (cdv ct : Value) (us : List Value), us.length = (["prior"] : List Str).length → bindArgs (PySem.W.fnOf "existing" "existing" (defArgs s_existing) (defBody s_existing) (defScope s_existing) .none kV doc pm an cdv ct) ⟨us, []⟩ = pure ((["prior"] : List Str).zip us) := fun _ _ _ _ _ _ us hl => match us, hl with | [_], _ => rfl
theorem bi_deterrent_prior_at : ∀ (kV doc pm : Value) (an : Option Addr) (cdv ct : Value) (us : List Value), us.length = (["setting", "numbers"] : List Str).length → bindArgs (PySem.W.fnOf "deterrent_prior_at" "deterrent_prior_at" (defArgs s_deterrent_prior_at) (defBody s_deterrent_prior_at) (defScope s_deterrent_prior_at) .none kV doc pm an cdv ct) ⟨us, []⟩ = pure ((["setting", "numbers"] : List Str).zip us) := fun _ _ _ _ _ _ us hl => match us, hl with | [_, _], _ => rfl
theorem bi_deterrent_prior : ∀ (kV doc pm : Value) (an : Option Addr) (cdv ct : Value) (us : List Value), us.length = (["setting", "numbers"] : List Str).length → bindArgs (PySem.W.fnOf "deterrent_prior" "deterrent_prior" (defArgs s_deterrent_prior) (defBody s_deterrent_prior) (defScope s_deterrent_prior) .none kV doc pm an cdv ct) ⟨us, []⟩ = pure ((["setting", "numbers"] : List Str).zip us) := fun _ _ _ _ _ _ us hl => match us, hl with | [_, _], _ => rfl
theorem bi_preview_merge : ∀ (kV doc pm : Value) (an : Option Addr) (cdv ct : Value) (us : List Value), us.length = (["setting", "mapping"] : List Str).length → bindArgs (PySem.W.fnOf "preview_merge" "preview_merge" (defArgs s_preview_merge) (defBody s_preview_merge) (defScope s_preview_merge) .none kV doc pm an cdv ct) ⟨us, []⟩ = pure ((["setting", "mapping"] : List Str).zip us) := fun _ _ _ _ _ _ us hl => match us, hl with | [_, _], _ => rfl
theorem bi_merge_signals : ∀ (kV doc pm : Value) (an : Option Addr) (cdv ct : Value) (us : List Value), us.length = (["setting", "mapping"] : List Str).length → bindArgs (PySem.W.fnOf "merge_signals" "merge_signals" (defArgs s_merge_signals) (defBody s_merge_signals) (defScope s_merge_signals) .none kV doc pm an cdv ct) ⟨us, []⟩ = pure ((["setting", "mapping"] : List Str).zip us) := fun _ _ _ _ _ _ us hl => match us, hl with | [_, _], _ => rfl
theorem bi_cheapest_prior : ∀ (kV doc pm : Value) (an : Option Addr) (cdv ct : Value) (us : List Value), us.length = (["setting", "numbers"] : List Str).length → bindArgs (PySem.W.fnOf "cheapest_prior" "cheapest_prior" (defArgs s_cheapest_prior) (defBody s_cheapest_prior) (defScope s_cheapest_prior) .none kV doc pm an cdv ct) ⟨us, []⟩ = pure ((["setting", "numbers"] : List Str).zip us) := fun _ _ _ _ _ _ us hl => match us, hl with | [_, _], _ => rfl
theorem bi_cheating_signals_for_prior : ∀ (kV doc pm : Value) (an : Option Addr) (cdv ct : Value) (us : List Value), us.length = (["setting", "numbers"] : List Str).length → bindArgs (PySem.W.fnOf "cheating_signals_for_prior" "cheating_signals_for_prior" (defArgs s_cheating_signals_for_prior) (defBody s_cheating_signals_for_prior) (defScope s_cheating_signals_for_prior) .none kV doc pm an cdv ct) ⟨us, []⟩ = pure ((["setting", "numbers"] : List Str).zip us) := fun _ _ _ _ _ _ us hl => match us, hl with | [_, _], _ => rfl
theorem bi_cheating_signals_for_stakes : ∀ (kV doc pm : Value) (an : Option Addr) (cdv ct : Value) (us : List Value), us.length = (["setting", "numbers"] : List Str).length → bindArgs (PySem.W.fnOf "cheating_signals_for_stakes" "cheating_signals_for_stakes" (defArgs s_cheating_signals_for_stakes) (defBody s_cheating_signals_for_stakes) (defScope s_cheating_signals_for_stakes) .none kV doc pm an cdv ct) ⟨us, []⟩ = pure ((["setting", "numbers"] : List Str).zip us) := fun _ _ _ _ _ _ us hl => match us, hl with | [_, _], _ => rfl
theorem bi_get_settings : ∀ (kV doc pm : Value) (an : Option Addr) (cdv ct : Value) (us : List Value), us.length = (["setting", "numbers"] : List Str).length → bindArgs (PySem.W.fnOf "get_settings" "get_settings" (defArgs s_get_settings) (defBody s_get_settings) (defScope s_get_settings) .none kV doc pm an cdv ct) ⟨us, []⟩ = pure ((["setting", "numbers"] : List Str).zip us) := fun _ _ _ _ _ _ us hl => match us, hl with | [_, _], _ => rfl
theorem bi_operate : ∀ (kV doc pm : Value) (an : Option Addr) (cdv ct : Value) (us : List Value), us.length = (["setting", "number", "numbers"] : List Str).length → bindArgs (PySem.W.fnOf "operate" "operate" (defArgs s_operate) (defBody s_operate) (defScope s_operate) .none kV doc pm an cdv ct) ⟨us, []⟩ = pure ((["setting", "number", "numbers"] : List Str).zip us) := fun _ _ _ _ _ _ us hl => match us, hl with | [_, _, _], _ => rfl
theorem bi_Instance_init : ∀ (kV doc pm : Value) (an : Option Addr) (cdv ct : Value) (us : List Value), us.length = (["self"] : List Str).length → bindArgs (PySem.W.fnOf "__init__" "Instance.__init__" (defArgs s_Instance_init) (defBody s_Instance_init) (defScope s_Instance_init) .none kV doc pm an cdv ct) ⟨us, []⟩ = pure ((["self"] : List Str).zip us) := fun _ _ _ _ _ _ us hl => match us, hl with | [_], _ => rfl
theorem bi_Instance_perform : ∀ (kV doc pm : Value) (an : Option Addr) (cdv ct : Value) (us : List Value), us.length = (["self", "number", "numbers"] : List Str).length → bindArgs (PySem.W.fnOf "perform" "Instance.perform" (defArgs s_Instance_perform) (defBody s_Instance_perform) (defScope s_Instance_perform) .none kV doc pm an cdv ct) ⟨us, []⟩ = pure ((["self", "number", "numbers"] : List Str).zip us) := fun _ _ _ _ _ _ us hl => match us, hl with | [_, _, _], _ => rfl
theorem bi_Instance_answer : ∀ (kV doc pm : Value) (an : Option Addr) (cdv ct : Value) (us : List Value), us.length = (["self", "number", "numbers"] : List Str).length → bindArgs (PySem.W.fnOf "answer" "Instance.answer" (defArgs s_Instance_answer) (defBody s_Instance_answer) (defScope s_Instance_answer) .none kV doc pm an cdv ct) ⟨us, []⟩ = pure ((["self", "number", "numbers"] : List Str).zip us) := fun _ _ _ _ _ _ us hl => match us, hl with | [_, _, _], _ => rfl
theorem bi_answers : ∀ (kV doc pm : Value) (an : Option Addr) (cdv ct : Value) (us : List Value), us.length = (["calls"] : List Str).length → bindArgs (PySem.W.fnOf "answers" "answers" (defArgs s_answers) (defBody s_answers) (defScope s_answers) .none kV doc pm an cdv ct) ⟨us, []⟩ = pure ((["calls"] : List Str).zip us) := fun _ _ _ _ _ _ us hl => match us, hl with | [_], _ => rfl
structure Tp (K : PySem.W.Frag) (mg : Str → Option Value) (A : AdT) : Prop where
  at_common_divisor : At K mg "common_divisor" s_common_divisor ["left", "right"]
  at_lowest_terms : At K mg "lowest_terms" s_lowest_terms ["top", "bottom"]
  at_is_less : At K mg "is_less" s_is_less ["left", "right"]
  at_value_denominator : At K mg "value_denominator" s_value_denominator ["setting"]
  at_value_numerator : At K mg "value_numerator" s_value_numerator ["setting", "signal"]
  at_paying_signals : At K mg "paying_signals" s_paying_signals ["setting"]
  at_profit_at : At K mg "profit_at" s_profit_at ["setting", "signals"]
  at_joint_test_at : At K mg "joint_test_at" s_joint_test_at ["setting", "signals"]
  at_joint_production_at : At K mg "joint_production_at" s_joint_production_at ["setting", "signals"]
  at_check_signal_count : At K mg "check_signal_count" s_check_signal_count ["signal_count"]
  at_check_signal : At K mg "check_signal" s_check_signal ["signal", "signal_count"]
  at_check_signal_set : At K mg "check_signal_set" s_check_signal_set ["mask", "signal_count"]
  at_check_mapping : At K mg "check_mapping" s_check_mapping ["mapping", "signal_count"]
  at_check_weights : At K mg "check_weights" s_check_weights ["weights", "signal_count"]
  at_check_prior : At K mg "check_prior" s_check_prior ["num", "den"]
  at_check_amounts : At K mg "check_amounts" s_check_amounts ["first", "second"]
  at_Setting_init : AtI K mg "Setting" A.cSetting "Setting.__init__" s_Setting_init ["self", "signal_count"]
  at_Setting_duplicate : AtM K A.cSetting "duplicate" "Setting.duplicate" s_Setting_duplicate ["self"]
  at_Setting_merge : AtM K A.cSetting "merge" "Setting.merge" s_Setting_merge ["self", "mapping"]
  at_merged_weights : At K mg "merged_weights" s_merged_weights ["weights", "mapping"]
  at_with_prior : At K mg "with_prior" s_with_prior ["setting", "num", "den"]
  at_with_stakes : At K mg "with_stakes" s_with_stakes ["setting", "gain", "loss"]
  at_with_merge : At K mg "with_merge" s_with_merge ["setting", "mapping"]
  at_cost_of : At K mg "cost_of" s_cost_of ["setting"]
  at_prior_against : At K mg "prior_against" s_prior_against ["setting", "signal"]
  at_prior_against_all : At K mg "prior_against_all" s_prior_against_all ["setting"]
  at_priors_to_compare : At K mg "priors_to_compare" s_priors_to_compare ["setting"]
  at_cheapest_with_cost : At K mg "cheapest_with_cost" s_cheapest_with_cost ["setting"]
  at_create : At K mg "create" s_create ["signal_count"]
  at_set_test_weights : At K mg "set_test_weights" s_set_test_weights ["setting", "weights"]
  at_set_production_weights : At K mg "set_production_weights" s_set_production_weights ["setting", "weights"]
  at_set_prior : At K mg "set_prior" s_set_prior ["setting", "numbers"]
  at_set_stakes : At K mg "set_stakes" s_set_stakes ["setting", "numbers"]
  at_set_prices : At K mg "set_prices" s_set_prices ["setting", "numbers"]
  at_cheating_value : At K mg "cheating_value" s_cheating_value ["setting", "numbers"]
  at_counted_signals : At K mg "counted_signals" s_counted_signals ["setting"]
  at_cheating_signals : At K mg "cheating_signals" s_cheating_signals ["setting", "numbers"]
  at_expected_profit : At K mg "expected_profit" s_expected_profit ["setting", "numbers"]
  at_expected_profit_of : At K mg "expected_profit_of" s_expected_profit_of ["setting", "numbers"]
  at_detection_probability : At K mg "detection_probability" s_detection_probability ["setting", "numbers"]
  at_harm_probability : At K mg "harm_probability" s_harm_probability ["setting", "numbers"]
  at_total_cost : At K mg "total_cost" s_total_cost ["setting", "numbers"]
  at_existing : At K mg "existing" s_existing ["prior"]
  at_deterrent_prior_at : At K mg "deterrent_prior_at" s_deterrent_prior_at ["setting", "numbers"]
  at_deterrent_prior : At K mg "deterrent_prior" s_deterrent_prior ["setting", "numbers"]
  at_preview_merge : At K mg "preview_merge" s_preview_merge ["setting", "mapping"]
  at_merge_signals : At K mg "merge_signals" s_merge_signals ["setting", "mapping"]
  at_cheapest_prior : At K mg "cheapest_prior" s_cheapest_prior ["setting", "numbers"]
  at_cheating_signals_for_prior : At K mg "cheating_signals_for_prior" s_cheating_signals_for_prior ["setting", "numbers"]
  at_cheating_signals_for_stakes : At K mg "cheating_signals_for_stakes" s_cheating_signals_for_stakes ["setting", "numbers"]
  at_get_settings : At K mg "get_settings" s_get_settings ["setting", "numbers"]
  at_operate : At K mg "operate" s_operate ["setting", "number", "numbers"]
  at_Instance_init : AtI K mg "Instance" A.cInstance "Instance.__init__" s_Instance_init ["self"]
  at_Instance_perform : AtM K A.cInstance "perform" "Instance.perform" s_Instance_perform ["self", "number", "numbers"]
  at_Instance_answer : AtM K A.cInstance "answer" "Instance.answer" s_Instance_answer ["self", "number", "numbers"]
  at_answers : At K mg "answers" s_answers ["calls"]
  dsp : ∃ fo : Nat → Addr, (∀ k : Nat, 1 ≤ k → k ≤ 20 → KDi K A.dOPERATIONS (k : Int) (.ref (fo k))) ∧ mg "set_test_weights" = some (.ref (fo 1)) ∧ mg "set_production_weights" = some (.ref (fo 2)) ∧ mg "set_prior" = some (.ref (fo 3)) ∧ mg "set_stakes" = some (.ref (fo 4)) ∧ mg "set_prices" = some (.ref (fo 5)) ∧ mg "cheating_value" = some (.ref (fo 6)) ∧ mg "cheating_signals" = some (.ref (fo 7)) ∧ mg "expected_profit" = some (.ref (fo 8)) ∧ mg "expected_profit_of" = some (.ref (fo 9)) ∧ mg "detection_probability" = some (.ref (fo 10)) ∧ mg "harm_probability" = some (.ref (fo 11)) ∧ mg "total_cost" = some (.ref (fo 12)) ∧ mg "deterrent_prior_at" = some (.ref (fo 13)) ∧ mg "deterrent_prior" = some (.ref (fo 14)) ∧ mg "preview_merge" = some (.ref (fo 15)) ∧ mg "merge_signals" = some (.ref (fo 16)) ∧ mg "cheapest_prior" = some (.ref (fo 17)) ∧ mg "cheating_signals_for_prior" = some (.ref (fo 18)) ∧ mg "cheating_signals_for_stakes" = some (.ref (fo 19)) ∧ mg "get_settings" = some (.ref (fo 20))
section
variable {P : Program} {w : World} {K : PySem.W.Frag} {mg : Str → Option Value} {base : Heap} {A : AdT}
theorem chain (T : Tx K mg A) (tp : Tp K mg A) : HasI P w K mg base CX0 1 "Instance" A.cInstance ["self"] (sp_Instance_init K A) ∧ HasM P w K mg base CX0 9 A.cInstance "answer" ["self", "number", "numbers"] (sp_Instance_answer K A) := by
  have h_common_divisor : Has P w K mg base CX0 1 "common_divisor" ["left", "right"] (sp_common_divisor K A) := tp.at_common_divisor.has fun f fd F => ok_common_divisor T  F
  have h_is_less : Has P w K mg base CX0 1 "is_less" ["left", "right"] (sp_is_less K A) := tp.at_is_less.has fun f fd F => ok_is_less T  F
  have h_value_denominator : Has P w K mg base CX0 1 "value_denominator" ["setting"] (sp_value_denominator K A) := tp.at_value_denominator.has fun f fd F => ok_value_denominator T  F
  have h_value_numerator : Has P w K mg base CX0 1 "value_numerator" ["setting", "signal"] (sp_value_numerator K A) := tp.at_value_numerator.has fun f fd F => ok_value_numerator T  F
  have h_check_signal_count : Has P w K mg base (L2.CX P w) 1 "check_signal_count" ["signal_count"] (sp_check_signal_count K A) := tp.at_check_signal_count.has fun f fd F => ok_check_signal_count T  F
  have h_check_signal : Has P w K mg base (L2.CX P w) 1 "check_signal" ["signal", "signal_count"] (sp_check_signal K A) := tp.at_check_signal.has fun f fd F => ok_check_signal T  F
  have h_check_signal_set : Has P w K mg base (L2.CX P w) 1 "check_signal_set" ["mask", "signal_count"] (sp_check_signal_set K A) := tp.at_check_signal_set.has fun f fd F => ok_check_signal_set T  F
  have h_check_mapping : Has P w K mg base (L2.CX P w) 1 "check_mapping" ["mapping", "signal_count"] (sp_check_mapping K A) := tp.at_check_mapping.has fun f fd F => ok_check_mapping T  F
  have h_check_weights : Has P w K mg base (L2.CX P w) 1 "check_weights" ["weights", "signal_count"] (sp_check_weights K A) := tp.at_check_weights.has fun f fd F => ok_check_weights T  F
  have h_check_prior : Has P w K mg base (L2.CX P w) 1 "check_prior" ["num", "den"] (sp_check_prior K A) := tp.at_check_prior.has fun f fd F => ok_check_prior T  F
  have h_check_amounts : Has P w K mg base (L2.CX P w) 1 "check_amounts" ["first", "second"] (sp_check_amounts K A) := tp.at_check_amounts.has fun f fd F => ok_check_amounts T  F
  have h_Setting_init : HasI P w K mg base CX0 1 "Setting" A.cSetting ["self", "signal_count"] (sp_Setting_init K A) := tp.at_Setting_init.has fun f fd F => ok_Setting_init T  F
  have h_merged_weights : Has P w K mg base CX0 1 "merged_weights" ["weights", "mapping"] (sp_merged_weights K A) := tp.at_merged_weights.has fun f fd F => ok_merged_weights T  F
  have h_existing : Has P w K mg base (L2.CX P w) 1 "existing" ["prior"] (sp_existing K A) := tp.at_existing.has fun f fd F => ok_existing T  F
  have h_get_settings : Has P w K mg base CX0 1 "get_settings" ["setting", "numbers"] (sp_get_settings K A) := tp.at_get_settings.has fun f fd F => ok_get_settings T  F
  have h_Instance_init : HasI P w K mg base CX0 1 "Instance" A.cInstance ["self"] (sp_Instance_init K A) := tp.at_Instance_init.has fun f fd F => ok_Instance_init T  F
  have h_lowest_terms : Has P w K mg base CX0 2 "lowest_terms" ["top", "bottom"] (sp_lowest_terms K A) := tp.at_lowest_terms.has fun f fd F => ok_lowest_terms T h_common_divisor F
  have h_paying_signals : Has P w K mg base CX0 2 "paying_signals" ["setting"] (sp_paying_signals K A) := tp.at_paying_signals.has fun f fd F => ok_paying_signals T h_value_numerator F
  have h_Setting_merge : HasM P w K mg base CX0 2 A.cSetting "merge" ["self", "mapping"] (sp_Setting_merge K A) := tp.at_Setting_merge.has fun f fd F => ok_Setting_merge T h_merged_weights F
  have h_set_test_weights : Has P w K mg base (L2.CX P w) 2 "set_test_weights" ["setting", "weights"] (sp_set_test_weights K A) := tp.at_set_test_weights.has fun f fd F => ok_set_test_weights T h_check_weights F
  have h_set_production_weights : Has P w K mg base (L2.CX P w) 2 "set_production_weights" ["setting", "weights"] (sp_set_production_weights K A) := tp.at_set_production_weights.has fun f fd F => ok_set_production_weights T h_check_weights F
  have h_set_prior : Has P w K mg base (L2.CX P w) 2 "set_prior" ["setting", "numbers"] (sp_set_prior K A) := tp.at_set_prior.has fun f fd F => ok_set_prior T h_check_prior F
  have h_set_stakes : Has P w K mg base (L2.CX P w) 2 "set_stakes" ["setting", "numbers"] (sp_set_stakes K A) := tp.at_set_stakes.has fun f fd F => ok_set_stakes T h_check_amounts F
  have h_set_prices : Has P w K mg base (L2.CX P w) 2 "set_prices" ["setting", "numbers"] (sp_set_prices K A) := tp.at_set_prices.has fun f fd F => ok_set_prices T h_check_amounts F
  have h_profit_at : Has P w K mg base CX0 3 "profit_at" ["setting", "signals"] (sp_profit_at K A) := tp.at_profit_at.has fun f fd F => ok_profit_at T h_lowest_terms h_value_denominator h_value_numerator F
  have h_joint_test_at : Has P w K mg base CX0 3 "joint_test_at" ["setting", "signals"] (sp_joint_test_at K A) := tp.at_joint_test_at.has fun f fd F => ok_joint_test_at T h_lowest_terms F
  have h_joint_production_at : Has P w K mg base CX0 3 "joint_production_at" ["setting", "signals"] (sp_joint_production_at K A) := tp.at_joint_production_at.has fun f fd F => ok_joint_production_at T h_lowest_terms F
  have h_Setting_duplicate : HasM P w K mg base CX0 3 A.cSetting "duplicate" ["self"] (sp_Setting_duplicate K A) := tp.at_Setting_duplicate.has fun f fd F => ok_Setting_duplicate T h_Setting_init F
  have h_prior_against : Has P w K mg base CX0 3 "prior_against" ["setting", "signal"] (sp_prior_against K A) := tp.at_prior_against.has fun f fd F => ok_prior_against T h_lowest_terms F
  have h_create : Has P w K mg base (L2.CX P w) 3 "create" ["signal_count"] (sp_create K A) := tp.at_create.has fun f fd F => ok_create T h_check_signal_count h_Setting_init F
  have h_counted_signals : Has P w K mg base CX0 3 "counted_signals" ["setting"] (sp_counted_signals K A) := tp.at_counted_signals.has fun f fd F => ok_counted_signals T h_paying_signals F
  have h_with_prior : Has P w K mg base CX0 4 "with_prior" ["setting", "num", "den"] (sp_with_prior K A) := tp.at_with_prior.has fun f fd F => ok_with_prior T h_Setting_duplicate F
  have h_with_stakes : Has P w K mg base CX0 4 "with_stakes" ["setting", "gain", "loss"] (sp_with_stakes K A) := tp.at_with_stakes.has fun f fd F => ok_with_stakes T h_Setting_duplicate F
  have h_with_merge : Has P w K mg base CX0 4 "with_merge" ["setting", "mapping"] (sp_with_merge K A) := tp.at_with_merge.has fun f fd F => ok_with_merge T h_Setting_duplicate h_Setting_merge F
  have h_cost_of : Has P w K mg base CX0 4 "cost_of" ["setting"] (sp_cost_of K A) := tp.at_cost_of.has fun f fd F => ok_cost_of T h_lowest_terms h_paying_signals h_joint_production_at F
  have h_prior_against_all : Has P w K mg base CX0 4 "prior_against_all" ["setting"] (sp_prior_against_all K A) := tp.at_prior_against_all.has fun f fd F => ok_prior_against_all T h_is_less h_prior_against F
  have h_priors_to_compare : Has P w K mg base CX0 4 "priors_to_compare" ["setting"] (sp_priors_to_compare K A) := tp.at_priors_to_compare.has fun f fd F => ok_priors_to_compare T h_prior_against F
  have h_cheating_value : Has P w K mg base (L2.CX P w) 4 "cheating_value" ["setting", "numbers"] (sp_cheating_value K A) := tp.at_cheating_value.has fun f fd F => ok_cheating_value T h_profit_at h_check_signal F
  have h_cheating_signals : Has P w K mg base CX0 4 "cheating_signals" ["setting", "numbers"] (sp_cheating_signals K A) := tp.at_cheating_signals.has fun f fd F => ok_cheating_signals T h_counted_signals F
  have h_expected_profit : Has P w K mg base CX0 4 "expected_profit" ["setting", "numbers"] (sp_expected_profit K A) := tp.at_expected_profit.has fun f fd F => ok_expected_profit T h_paying_signals h_profit_at F
  have h_expected_profit_of : Has P w K mg base (L2.CX P w) 4 "expected_profit_of" ["setting", "numbers"] (sp_expected_profit_of K A) := tp.at_expected_profit_of.has fun f fd F => ok_expected_profit_of T h_profit_at h_check_signal_set F
  have h_detection_probability : Has P w K mg base CX0 4 "detection_probability" ["setting", "numbers"] (sp_detection_probability K A) := tp.at_detection_probability.has fun f fd F => ok_detection_probability T h_paying_signals h_joint_test_at F
  have h_harm_probability : Has P w K mg base CX0 4 "harm_probability" ["setting", "numbers"] (sp_harm_probability K A) := tp.at_harm_probability.has fun f fd F => ok_harm_probability T h_paying_signals h_joint_production_at F
  have h_deterrent_prior_at : Has P w K mg base (L2.CX P w) 4 "deterrent_prior_at" ["setting", "numbers"] (sp_deterrent_prior_at K A) := tp.at_deterrent_prior_at.has fun f fd F => ok_deterrent_prior_at T h_check_signal h_prior_against h_existing F
  have h_merge_signals : Has P w K mg base (L2.CX P w) 4 "merge_signals" ["setting", "mapping"] (sp_merge_signals K A) := tp.at_merge_signals.has fun f fd F => ok_merge_signals T h_check_mapping h_Setting_merge h_counted_signals F
  have h_cheapest_with_cost : Has P w K mg base CX0 5 "cheapest_with_cost" ["setting"] (sp_cheapest_with_cost K A) := tp.at_cheapest_with_cost.has fun f fd F => ok_cheapest_with_cost T h_is_less h_with_prior h_cost_of h_priors_to_compare F
  have h_total_cost : Has P w K mg base CX0 5 "total_cost" ["setting", "numbers"] (sp_total_cost K A) := tp.at_total_cost.has fun f fd F => ok_total_cost T h_cost_of F
  have h_deterrent_prior : Has P w K mg base (L2.CX P w) 5 "deterrent_prior" ["setting", "numbers"] (sp_deterrent_prior K A) := tp.at_deterrent_prior.has fun f fd F => ok_deterrent_prior T h_prior_against_all h_existing F
  have h_preview_merge : Has P w K mg base (L2.CX P w) 5 "preview_merge" ["setting", "mapping"] (sp_preview_merge K A) := tp.at_preview_merge.has fun f fd F => ok_preview_merge T h_paying_signals h_profit_at h_check_mapping h_with_merge h_prior_against_all h_existing F
  have h_cheating_signals_for_prior : Has P w K mg base (L2.CX P w) 5 "cheating_signals_for_prior" ["setting", "numbers"] (sp_cheating_signals_for_prior K A) := tp.at_cheating_signals_for_prior.has fun f fd F => ok_cheating_signals_for_prior T h_check_prior h_with_prior h_counted_signals F
  have h_cheating_signals_for_stakes : Has P w K mg base (L2.CX P w) 5 "cheating_signals_for_stakes" ["setting", "numbers"] (sp_cheating_signals_for_stakes K A) := tp.at_cheating_signals_for_stakes.has fun f fd F => ok_cheating_signals_for_stakes T h_check_amounts h_with_stakes h_counted_signals F
  have h_cheapest_prior : Has P w K mg base CX0 6 "cheapest_prior" ["setting", "numbers"] (sp_cheapest_prior K A) := tp.at_cheapest_prior.has fun f fd F => ok_cheapest_prior T h_cheapest_with_cost F
  obtain ⟨fo, hk, g1, g2, g3, g4, g5, g6, g7, g8, g9, g10, g11, g12, g13, g14, g15, g16, g17, g18, g19, g20⟩ := tp.dsp
  have hD : Disp P w K mg base A 6 fo := ⟨hk, fun k h1 h2 => by
    match k, h1, h2 with
    | 1, _, _ => exact (h_set_test_weights.held g1).mono (by decide)
    | 2, _, _ => exact (h_set_production_weights.held g2).mono (by decide)
    | 3, _, _ => exact (h_set_prior.held g3).mono (by decide)
    | 4, _, _ => exact (h_set_stakes.held g4).mono (by decide)
    | 5, _, _ => exact (h_set_prices.held g5).mono (by decide)
    | 6, _, _ => exact (h_cheating_value.held g6).mono (by decide)
    | 7, _, _ => exact (h_cheating_signals.up.held g7).mono (by decide)
    | 8, _, _ => exact (h_expected_profit.up.held g8).mono (by decide)
    | 9, _, _ => exact (h_expected_profit_of.held g9).mono (by decide)
    | 10, _, _ => exact (h_detection_probability.up.held g10).mono (by decide)
    | 11, _, _ => exact (h_harm_probability.up.held g11).mono (by decide)
    | 12, _, _ => exact (h_total_cost.up.held g12).mono (by decide)
    | 13, _, _ => exact (h_deterrent_prior_at.held g13).mono (by decide)
    | 14, _, _ => exact (h_deterrent_prior.held g14).mono (by decide)
    | 15, _, _ => exact (h_preview_merge.held g15).mono (by decide)
    | 16, _, _ => exact (h_merge_signals.held g16).mono (by decide)
    | 17, _, _ => exact (h_cheapest_prior.up.held g17).mono (by decide)
    | 18, _, _ => exact (h_cheating_signals_for_prior.held g18).mono (by decide)
    | 19, _, _ => exact (h_cheating_signals_for_stakes.held g19).mono (by decide)
    | 20, _, _ => exact (h_get_settings.up.held g20).mono (by decide)
    | n + 21, _, h => exact absurd (show n + 21 ≤ 20 from h) (by omega)⟩
  have h_operate : Has P w K mg base (L2.CX P w) 7 "operate" ["setting", "number", "numbers"] (sp_operate K A) := tp.at_operate.has fun f fd F => ok_operate T hD F
  have h_Instance_perform : HasM P w K mg base (L2.CX P w) 8 A.cInstance "perform" ["self", "number", "numbers"] (sp_Instance_perform K A) := tp.at_Instance_perform.has fun f fd F => ok_Instance_perform T h_create h_operate F
  have h_Instance_answer : HasM P w K mg base CX0 9 A.cInstance "answer" ["self", "number", "numbers"] (sp_Instance_answer K A) := tp.at_Instance_answer.has fun f fd F => ok_Instance_answer T h_Instance_perform F
  exact ⟨h_Instance_init, h_Instance_answer⟩
end
theorem all_mk {P : Program} {w : World} {K : PySem.W.Frag} {h : Heap} {mg : Str → Option Value} {fa : Addr} (X : K.In h) (G : h.Ns mainGlobals mg) (hfa : mg "answers" = some (.ref fa))
    {cSetting : Addr} {cInstance : Addr} {xNoSetting : Addr} {xNoSuchSignal : Addr} {xOutsideLimits : Addr} {xNoDeterrentPrior : Addr} {dOPERATIONS : Addr} {f_common_divisor : Addr} {od_common_divisor an_common_divisor : Option Addr} {sl_common_divisor : Array (Option Value)} {oc_common_divisor kV_common_divisor dc_common_divisor pm_common_divisor cd_common_divisor ct_common_divisor : Value} {f_lowest_terms : Addr} {od_lowest_terms an_lowest_terms : Option Addr} {sl_lowest_terms : Array (Option Value)} {oc_lowest_terms kV_lowest_terms dc_lowest_terms pm_lowest_terms cd_lowest_terms ct_lowest_terms : Value} {f_is_less : Addr} {od_is_less an_is_less : Option Addr} {sl_is_less : Array (Option Value)} {oc_is_less kV_is_less dc_is_less pm_is_less cd_is_less ct_is_less : Value} {f_value_denominator : Addr} {od_value_denominator an_value_denominator : Option Addr} {sl_value_denominator : Array (Option Value)} {oc_value_denominator kV_value_denominator dc_value_denominator pm_value_denominator cd_value_denominator ct_value_denominator : Value} {f_value_numerator : Addr} {od_value_numerator an_value_numerator : Option Addr} {sl_value_numerator : Array (Option Value)} {oc_value_numerator kV_value_numerator dc_value_numerator pm_value_numerator cd_value_numerator ct_value_numerator : Value} {f_paying_signals : Addr} {od_paying_signals an_paying_signals : Option Addr} {sl_paying_signals : Array (Option Value)} {oc_paying_signals kV_paying_signals dc_paying_signals pm_paying_signals cd_paying_signals ct_paying_signals : Value} {f_profit_at : Addr} {od_profit_at an_profit_at : Option Addr} {sl_profit_at : Array (Option Value)} {oc_profit_at kV_profit_at dc_profit_at pm_profit_at cd_profit_at ct_profit_at : Value} {f_joint_test_at : Addr} {od_joint_test_at an_joint_test_at : Option Addr} {sl_joint_test_at : Array (Option Value)} {oc_joint_test_at kV_joint_test_at dc_joint_test_at pm_joint_test_at cd_joint_test_at ct_joint_test_at : Value} {f_joint_production_at : Addr} {od_joint_production_at an_joint_production_at : Option Addr} {sl_joint_production_at : Array (Option Value)} {oc_joint_production_at kV_joint_production_at dc_joint_production_at pm_joint_production_at cd_joint_production_at ct_joint_production_at : Value} {f_check_signal_count : Addr} {od_check_signal_count an_check_signal_count : Option Addr} {sl_check_signal_count : Array (Option Value)} {oc_check_signal_count kV_check_signal_count dc_check_signal_count pm_check_signal_count cd_check_signal_count ct_check_signal_count : Value} {f_check_signal : Addr} {od_check_signal an_check_signal : Option Addr} {sl_check_signal : Array (Option Value)} {oc_check_signal kV_check_signal dc_check_signal pm_check_signal cd_check_signal ct_check_signal : Value} {f_check_signal_set : Addr} {od_check_signal_set an_check_signal_set : Option Addr} {sl_check_signal_set : Array (Option Value)} {oc_check_signal_set kV_check_signal_set dc_check_signal_set pm_check_signal_set cd_check_signal_set ct_check_signal_set : Value} {f_check_mapping : Addr} {od_check_mapping an_check_mapping : Option Addr} {sl_check_mapping : Array (Option Value)} {oc_check_mapping kV_check_mapping dc_check_mapping pm_check_mapping cd_check_mapping ct_check_mapping : Value} {f_check_weights : Addr} {od_check_weights an_check_weights : Option Addr} {sl_check_weights : Array (Option Value)} {oc_check_weights kV_check_weights dc_check_weights pm_check_weights cd_check_weights ct_check_weights : Value} {f_check_prior : Addr} {od_check_prior an_check_prior : Option Addr} {sl_check_prior : Array (Option Value)} {oc_check_prior kV_check_prior dc_check_prior pm_check_prior cd_check_prior ct_check_prior : Value} {f_check_amounts : Addr} {od_check_amounts an_check_amounts : Option Addr} {sl_check_amounts : Array (Option Value)} {oc_check_amounts kV_check_amounts dc_check_amounts pm_check_amounts cd_check_amounts ct_check_amounts : Value} {f_Setting_init : Addr} {od_Setting_init an_Setting_init : Option Addr} {sl_Setting_init : Array (Option Value)} {oc_Setting_init kV_Setting_init dc_Setting_init pm_Setting_init cd_Setting_init ct_Setting_init : Value} {f_Setting_duplicate : Addr} {od_Setting_duplicate an_Setting_duplicate : Option Addr} {sl_Setting_duplicate : Array (Option Value)} {oc_Setting_duplicate kV_Setting_duplicate dc_Setting_duplicate pm_Setting_duplicate cd_Setting_duplicate ct_Setting_duplicate : Value} {f_Setting_merge : Addr} {od_Setting_merge an_Setting_merge : Option Addr} {sl_Setting_merge : Array (Option Value)} {oc_Setting_merge kV_Setting_merge dc_Setting_merge pm_Setting_merge cd_Setting_merge ct_Setting_merge : Value} {f_merged_weights : Addr} {od_merged_weights an_merged_weights : Option Addr} {sl_merged_weights : Array (Option Value)} {oc_merged_weights kV_merged_weights dc_merged_weights pm_merged_weights cd_merged_weights ct_merged_weights : Value} {f_with_prior : Addr} {od_with_prior an_with_prior : Option Addr} {sl_with_prior : Array (Option Value)} {oc_with_prior kV_with_prior dc_with_prior pm_with_prior cd_with_prior ct_with_prior : Value} {f_with_stakes : Addr} {od_with_stakes an_with_stakes : Option Addr} {sl_with_stakes : Array (Option Value)} {oc_with_stakes kV_with_stakes dc_with_stakes pm_with_stakes cd_with_stakes ct_with_stakes : Value} {f_with_merge : Addr} {od_with_merge an_with_merge : Option Addr} {sl_with_merge : Array (Option Value)} {oc_with_merge kV_with_merge dc_with_merge pm_with_merge cd_with_merge ct_with_merge : Value} {f_cost_of : Addr} {od_cost_of an_cost_of : Option Addr} {sl_cost_of : Array (Option Value)} {oc_cost_of kV_cost_of dc_cost_of pm_cost_of cd_cost_of ct_cost_of : Value} {f_prior_against : Addr} {od_prior_against an_prior_against : Option Addr} {sl_prior_against : Array (Option Value)} {oc_prior_against kV_prior_against dc_prior_against pm_prior_against cd_prior_against ct_prior_against : Value} {f_prior_against_all : Addr} {od_prior_against_all an_prior_against_all : Option Addr} {sl_prior_against_all : Array (Option Value)} {oc_prior_against_all kV_prior_against_all dc_prior_against_all pm_prior_against_all cd_prior_against_all ct_prior_against_all : Value} {f_priors_to_compare : Addr} {od_priors_to_compare an_priors_to_compare : Option Addr} {sl_priors_to_compare : Array (Option Value)} {oc_priors_to_compare kV_priors_to_compare dc_priors_to_compare pm_priors_to_compare cd_priors_to_compare ct_priors_to_compare : Value} {f_cheapest_with_cost : Addr} {od_cheapest_with_cost an_cheapest_with_cost : Option Addr} {sl_cheapest_with_cost : Array (Option Value)} {oc_cheapest_with_cost kV_cheapest_with_cost dc_cheapest_with_cost pm_cheapest_with_cost cd_cheapest_with_cost ct_cheapest_with_cost : Value} {f_create : Addr} {od_create an_create : Option Addr} {sl_create : Array (Option Value)} {oc_create kV_create dc_create pm_create cd_create ct_create : Value} {f_set_test_weights : Addr} {od_set_test_weights an_set_test_weights : Option Addr} {sl_set_test_weights : Array (Option Value)} {oc_set_test_weights kV_set_test_weights dc_set_test_weights pm_set_test_weights cd_set_test_weights ct_set_test_weights : Value} {f_set_production_weights : Addr} {od_set_production_weights an_set_production_weights : Option Addr} {sl_set_production_weights : Array (Option Value)} {oc_set_production_weights kV_set_production_weights dc_set_production_weights pm_set_production_weights cd_set_production_weights ct_set_production_weights : Value} {f_set_prior : Addr} {od_set_prior an_set_prior : Option Addr} {sl_set_prior : Array (Option Value)} {oc_set_prior kV_set_prior dc_set_prior pm_set_prior cd_set_prior ct_set_prior : Value} {f_set_stakes : Addr} {od_set_stakes an_set_stakes : Option Addr} {sl_set_stakes : Array (Option Value)} {oc_set_stakes kV_set_stakes dc_set_stakes pm_set_stakes cd_set_stakes ct_set_stakes : Value} {f_set_prices : Addr} {od_set_prices an_set_prices : Option Addr} {sl_set_prices : Array (Option Value)} {oc_set_prices kV_set_prices dc_set_prices pm_set_prices cd_set_prices ct_set_prices : Value} {f_cheating_value : Addr} {od_cheating_value an_cheating_value : Option Addr} {sl_cheating_value : Array (Option Value)} {oc_cheating_value kV_cheating_value dc_cheating_value pm_cheating_value cd_cheating_value ct_cheating_value : Value} {f_counted_signals : Addr} {od_counted_signals an_counted_signals : Option Addr} {sl_counted_signals : Array (Option Value)} {oc_counted_signals kV_counted_signals dc_counted_signals pm_counted_signals cd_counted_signals ct_counted_signals : Value} {f_cheating_signals : Addr} {od_cheating_signals an_cheating_signals : Option Addr} {sl_cheating_signals : Array (Option Value)} {oc_cheating_signals kV_cheating_signals dc_cheating_signals pm_cheating_signals cd_cheating_signals ct_cheating_signals : Value} {f_expected_profit : Addr} {od_expected_profit an_expected_profit : Option Addr} {sl_expected_profit : Array (Option Value)} {oc_expected_profit kV_expected_profit dc_expected_profit pm_expected_profit cd_expected_profit ct_expected_profit : Value} {f_expected_profit_of : Addr} {od_expected_profit_of an_expected_profit_of : Option Addr} {sl_expected_profit_of : Array (Option Value)} {oc_expected_profit_of kV_expected_profit_of dc_expected_profit_of pm_expected_profit_of cd_expected_profit_of ct_expected_profit_of : Value} {f_detection_probability : Addr} {od_detection_probability an_detection_probability : Option Addr} {sl_detection_probability : Array (Option Value)} {oc_detection_probability kV_detection_probability dc_detection_probability pm_detection_probability cd_detection_probability ct_detection_probability : Value} {f_harm_probability : Addr} {od_harm_probability an_harm_probability : Option Addr} {sl_harm_probability : Array (Option Value)} {oc_harm_probability kV_harm_probability dc_harm_probability pm_harm_probability cd_harm_probability ct_harm_probability : Value} {f_total_cost : Addr} {od_total_cost an_total_cost : Option Addr} {sl_total_cost : Array (Option Value)} {oc_total_cost kV_total_cost dc_total_cost pm_total_cost cd_total_cost ct_total_cost : Value} {f_existing : Addr} {od_existing an_existing : Option Addr} {sl_existing : Array (Option Value)} {oc_existing kV_existing dc_existing pm_existing cd_existing ct_existing : Value} {f_deterrent_prior_at : Addr} {od_deterrent_prior_at an_deterrent_prior_at : Option Addr} {sl_deterrent_prior_at : Array (Option Value)} {oc_deterrent_prior_at kV_deterrent_prior_at dc_deterrent_prior_at pm_deterrent_prior_at cd_deterrent_prior_at ct_deterrent_prior_at : Value} {f_deterrent_prior : Addr} {od_deterrent_prior an_deterrent_prior : Option Addr} {sl_deterrent_prior : Array (Option Value)} {oc_deterrent_prior kV_deterrent_prior dc_deterrent_prior pm_deterrent_prior cd_deterrent_prior ct_deterrent_prior : Value} {f_preview_merge : Addr} {od_preview_merge an_preview_merge : Option Addr} {sl_preview_merge : Array (Option Value)} {oc_preview_merge kV_preview_merge dc_preview_merge pm_preview_merge cd_preview_merge ct_preview_merge : Value} {f_merge_signals : Addr} {od_merge_signals an_merge_signals : Option Addr} {sl_merge_signals : Array (Option Value)} {oc_merge_signals kV_merge_signals dc_merge_signals pm_merge_signals cd_merge_signals ct_merge_signals : Value} {f_cheapest_prior : Addr} {od_cheapest_prior an_cheapest_prior : Option Addr} {sl_cheapest_prior : Array (Option Value)} {oc_cheapest_prior kV_cheapest_prior dc_cheapest_prior pm_cheapest_prior cd_cheapest_prior ct_cheapest_prior : Value} {f_cheating_signals_for_prior : Addr} {od_cheating_signals_for_prior an_cheating_signals_for_prior : Option Addr} {sl_cheating_signals_for_prior : Array (Option Value)} {oc_cheating_signals_for_prior kV_cheating_signals_for_prior dc_cheating_signals_for_prior pm_cheating_signals_for_prior cd_cheating_signals_for_prior ct_cheating_signals_for_prior : Value} {f_cheating_signals_for_stakes : Addr} {od_cheating_signals_for_stakes an_cheating_signals_for_stakes : Option Addr} {sl_cheating_signals_for_stakes : Array (Option Value)} {oc_cheating_signals_for_stakes kV_cheating_signals_for_stakes dc_cheating_signals_for_stakes pm_cheating_signals_for_stakes cd_cheating_signals_for_stakes ct_cheating_signals_for_stakes : Value} {f_get_settings : Addr} {od_get_settings an_get_settings : Option Addr} {sl_get_settings : Array (Option Value)} {oc_get_settings kV_get_settings dc_get_settings pm_get_settings cd_get_settings ct_get_settings : Value} {f_operate : Addr} {od_operate an_operate : Option Addr} {sl_operate : Array (Option Value)} {oc_operate kV_operate dc_operate pm_operate cd_operate ct_operate : Value} {f_Instance_init : Addr} {od_Instance_init an_Instance_init : Option Addr} {sl_Instance_init : Array (Option Value)} {oc_Instance_init kV_Instance_init dc_Instance_init pm_Instance_init cd_Instance_init ct_Instance_init : Value} {f_Instance_perform : Addr} {od_Instance_perform an_Instance_perform : Option Addr} {sl_Instance_perform : Array (Option Value)} {oc_Instance_perform kV_Instance_perform dc_Instance_perform pm_Instance_perform cd_Instance_perform ct_Instance_perform : Value} {f_Instance_answer : Addr} {od_Instance_answer an_Instance_answer : Option Addr} {sl_Instance_answer : Array (Option Value)} {oc_Instance_answer kV_Instance_answer dc_Instance_answer pm_Instance_answer cd_Instance_answer ct_Instance_answer : Value} {f_answers : Addr} {od_answers an_answers : Option Addr} {sl_answers : Array (Option Value)} {oc_answers kV_answers dc_answers pm_answers cd_answers ct_answers : Value} {tk_MOST_SIGNALS : Tok} {tk_LARGEST_WEIGHT : Tok} {tk_LARGEST_PRIOR_DEN : Tok} {tk_LARGEST_AMOUNT : Tok} {n_OPERATIONS : Nat} {tk1_OPERATIONS : Tok} {tk2_OPERATIONS : Tok} {tk3_OPERATIONS : Tok} {tk4_OPERATIONS : Tok} {tk5_OPERATIONS : Tok} {tk6_OPERATIONS : Tok} {tk7_OPERATIONS : Tok} {tk8_OPERATIONS : Tok} {tk9_OPERATIONS : Tok} {tk10_OPERATIONS : Tok} {tk11_OPERATIONS : Tok} {tk12_OPERATIONS : Tok} {tk13_OPERATIONS : Tok} {tk14_OPERATIONS : Tok} {tk15_OPERATIONS : Tok} {tk16_OPERATIONS : Tok} {tk17_OPERATIONS : Tok} {tk18_OPERATIONS : Tok} {tk19_OPERATIONS : Tok} {tk20_OPERATIONS : Tok}
    (a_Setting : PySem.W.nsIn K mainGlobals "Setting" = some (some (.ref cSetting)))
    (a_Instance : PySem.W.nsIn K mainGlobals "Instance" = some (some (.ref cInstance)))
    (a_NoSetting : PySem.W.nsIn K mainGlobals "NoSetting" = some (some (.ref xNoSetting)))
    (a_NoSuchSignal : PySem.W.nsIn K mainGlobals "NoSuchSignal" = some (some (.ref xNoSuchSignal)))
    (a_OutsideLimits : PySem.W.nsIn K mainGlobals "OutsideLimits" = some (some (.ref xOutsideLimits)))
    (a_NoDeterrentPrior : PySem.W.nsIn K mainGlobals "NoDeterrentPrior" = some (some (.ref xNoDeterrentPrior)))
    (a_common_divisor : PySem.W.nsIn K mainGlobals "common_divisor" = some (some (.ref f_common_divisor)))
    (l_common_divisor : K.lookup f_common_divisor = some ⟨oc_common_divisor, od_common_divisor, .func (PySem.W.fnOf "common_divisor" "common_divisor" (defArgs s_common_divisor) (defBody s_common_divisor) (defScope s_common_divisor) .none kV_common_divisor dc_common_divisor pm_common_divisor an_common_divisor cd_common_divisor ct_common_divisor), sl_common_divisor⟩)
    (c_common_divisor : PySem.W.codeIn K cd_common_divisor "common_divisor" = true)
    (k_common_divisor : PySem.W.keepIn K (.ref f_common_divisor) = true)
    (a_lowest_terms : PySem.W.nsIn K mainGlobals "lowest_terms" = some (some (.ref f_lowest_terms)))
    (l_lowest_terms : K.lookup f_lowest_terms = some ⟨oc_lowest_terms, od_lowest_terms, .func (PySem.W.fnOf "lowest_terms" "lowest_terms" (defArgs s_lowest_terms) (defBody s_lowest_terms) (defScope s_lowest_terms) .none kV_lowest_terms dc_lowest_terms pm_lowest_terms an_lowest_terms cd_lowest_terms ct_lowest_terms), sl_lowest_terms⟩)
    (c_lowest_terms : PySem.W.codeIn K cd_lowest_terms "lowest_terms" = true)
    (k_lowest_terms : PySem.W.keepIn K (.ref f_lowest_terms) = true)
    (a_is_less : PySem.W.nsIn K mainGlobals "is_less" = some (some (.ref f_is_less)))
    (l_is_less : K.lookup f_is_less = some ⟨oc_is_less, od_is_less, .func (PySem.W.fnOf "is_less" "is_less" (defArgs s_is_less) (defBody s_is_less) (defScope s_is_less) .none kV_is_less dc_is_less pm_is_less an_is_less cd_is_less ct_is_less), sl_is_less⟩)
    (c_is_less : PySem.W.codeIn K cd_is_less "is_less" = true)
    (k_is_less : PySem.W.keepIn K (.ref f_is_less) = true)
    (a_value_denominator : PySem.W.nsIn K mainGlobals "value_denominator" = some (some (.ref f_value_denominator)))
    (l_value_denominator : K.lookup f_value_denominator = some ⟨oc_value_denominator, od_value_denominator, .func (PySem.W.fnOf "value_denominator" "value_denominator" (defArgs s_value_denominator) (defBody s_value_denominator) (defScope s_value_denominator) .none kV_value_denominator dc_value_denominator pm_value_denominator an_value_denominator cd_value_denominator ct_value_denominator), sl_value_denominator⟩)
    (c_value_denominator : PySem.W.codeIn K cd_value_denominator "value_denominator" = true)
    (k_value_denominator : PySem.W.keepIn K (.ref f_value_denominator) = true)
    (a_value_numerator : PySem.W.nsIn K mainGlobals "value_numerator" = some (some (.ref f_value_numerator)))
    (l_value_numerator : K.lookup f_value_numerator = some ⟨oc_value_numerator, od_value_numerator, .func (PySem.W.fnOf "value_numerator" "value_numerator" (defArgs s_value_numerator) (defBody s_value_numerator) (defScope s_value_numerator) .none kV_value_numerator dc_value_numerator pm_value_numerator an_value_numerator cd_value_numerator ct_value_numerator), sl_value_numerator⟩)
    (c_value_numerator : PySem.W.codeIn K cd_value_numerator "value_numerator" = true)
    (k_value_numerator : PySem.W.keepIn K (.ref f_value_numerator) = true)
    (a_paying_signals : PySem.W.nsIn K mainGlobals "paying_signals" = some (some (.ref f_paying_signals)))
    (l_paying_signals : K.lookup f_paying_signals = some ⟨oc_paying_signals, od_paying_signals, .func (PySem.W.fnOf "paying_signals" "paying_signals" (defArgs s_paying_signals) (defBody s_paying_signals) (defScope s_paying_signals) .none kV_paying_signals dc_paying_signals pm_paying_signals an_paying_signals cd_paying_signals ct_paying_signals), sl_paying_signals⟩)
    (c_paying_signals : PySem.W.codeIn K cd_paying_signals "paying_signals" = true)
    (k_paying_signals : PySem.W.keepIn K (.ref f_paying_signals) = true)
    (a_profit_at : PySem.W.nsIn K mainGlobals "profit_at" = some (some (.ref f_profit_at)))
    (l_profit_at : K.lookup f_profit_at = some ⟨oc_profit_at, od_profit_at, .func (PySem.W.fnOf "profit_at" "profit_at" (defArgs s_profit_at) (defBody s_profit_at) (defScope s_profit_at) .none kV_profit_at dc_profit_at pm_profit_at an_profit_at cd_profit_at ct_profit_at), sl_profit_at⟩)
    (c_profit_at : PySem.W.codeIn K cd_profit_at "profit_at" = true)
    (k_profit_at : PySem.W.keepIn K (.ref f_profit_at) = true)
    (a_joint_test_at : PySem.W.nsIn K mainGlobals "joint_test_at" = some (some (.ref f_joint_test_at)))
    (l_joint_test_at : K.lookup f_joint_test_at = some ⟨oc_joint_test_at, od_joint_test_at, .func (PySem.W.fnOf "joint_test_at" "joint_test_at" (defArgs s_joint_test_at) (defBody s_joint_test_at) (defScope s_joint_test_at) .none kV_joint_test_at dc_joint_test_at pm_joint_test_at an_joint_test_at cd_joint_test_at ct_joint_test_at), sl_joint_test_at⟩)
    (c_joint_test_at : PySem.W.codeIn K cd_joint_test_at "joint_test_at" = true)
    (k_joint_test_at : PySem.W.keepIn K (.ref f_joint_test_at) = true)
    (a_joint_production_at : PySem.W.nsIn K mainGlobals "joint_production_at" = some (some (.ref f_joint_production_at)))
    (l_joint_production_at : K.lookup f_joint_production_at = some ⟨oc_joint_production_at, od_joint_production_at, .func (PySem.W.fnOf "joint_production_at" "joint_production_at" (defArgs s_joint_production_at) (defBody s_joint_production_at) (defScope s_joint_production_at) .none kV_joint_production_at dc_joint_production_at pm_joint_production_at an_joint_production_at cd_joint_production_at ct_joint_production_at), sl_joint_production_at⟩)
    (c_joint_production_at : PySem.W.codeIn K cd_joint_production_at "joint_production_at" = true)
    (k_joint_production_at : PySem.W.keepIn K (.ref f_joint_production_at) = true)
    (a_check_signal_count : PySem.W.nsIn K mainGlobals "check_signal_count" = some (some (.ref f_check_signal_count)))
    (l_check_signal_count : K.lookup f_check_signal_count = some ⟨oc_check_signal_count, od_check_signal_count, .func (PySem.W.fnOf "check_signal_count" "check_signal_count" (defArgs s_check_signal_count) (defBody s_check_signal_count) (defScope s_check_signal_count) .none kV_check_signal_count dc_check_signal_count pm_check_signal_count an_check_signal_count cd_check_signal_count ct_check_signal_count), sl_check_signal_count⟩)
    (c_check_signal_count : PySem.W.codeIn K cd_check_signal_count "check_signal_count" = true)
    (k_check_signal_count : PySem.W.keepIn K (.ref f_check_signal_count) = true)
    (a_check_signal : PySem.W.nsIn K mainGlobals "check_signal" = some (some (.ref f_check_signal)))
    (l_check_signal : K.lookup f_check_signal = some ⟨oc_check_signal, od_check_signal, .func (PySem.W.fnOf "check_signal" "check_signal" (defArgs s_check_signal) (defBody s_check_signal) (defScope s_check_signal) .none kV_check_signal dc_check_signal pm_check_signal an_check_signal cd_check_signal ct_check_signal), sl_check_signal⟩)
    (c_check_signal : PySem.W.codeIn K cd_check_signal "check_signal" = true)
    (k_check_signal : PySem.W.keepIn K (.ref f_check_signal) = true)
    (a_check_signal_set : PySem.W.nsIn K mainGlobals "check_signal_set" = some (some (.ref f_check_signal_set)))
    (l_check_signal_set : K.lookup f_check_signal_set = some ⟨oc_check_signal_set, od_check_signal_set, .func (PySem.W.fnOf "check_signal_set" "check_signal_set" (defArgs s_check_signal_set) (defBody s_check_signal_set) (defScope s_check_signal_set) .none kV_check_signal_set dc_check_signal_set pm_check_signal_set an_check_signal_set cd_check_signal_set ct_check_signal_set), sl_check_signal_set⟩)
    (c_check_signal_set : PySem.W.codeIn K cd_check_signal_set "check_signal_set" = true)
    (k_check_signal_set : PySem.W.keepIn K (.ref f_check_signal_set) = true)
    (a_check_mapping : PySem.W.nsIn K mainGlobals "check_mapping" = some (some (.ref f_check_mapping)))
    (l_check_mapping : K.lookup f_check_mapping = some ⟨oc_check_mapping, od_check_mapping, .func (PySem.W.fnOf "check_mapping" "check_mapping" (defArgs s_check_mapping) (defBody s_check_mapping) (defScope s_check_mapping) .none kV_check_mapping dc_check_mapping pm_check_mapping an_check_mapping cd_check_mapping ct_check_mapping), sl_check_mapping⟩)
    (c_check_mapping : PySem.W.codeIn K cd_check_mapping "check_mapping" = true)
    (k_check_mapping : PySem.W.keepIn K (.ref f_check_mapping) = true)
    (a_check_weights : PySem.W.nsIn K mainGlobals "check_weights" = some (some (.ref f_check_weights)))
    (l_check_weights : K.lookup f_check_weights = some ⟨oc_check_weights, od_check_weights, .func (PySem.W.fnOf "check_weights" "check_weights" (defArgs s_check_weights) (defBody s_check_weights) (defScope s_check_weights) .none kV_check_weights dc_check_weights pm_check_weights an_check_weights cd_check_weights ct_check_weights), sl_check_weights⟩)
    (c_check_weights : PySem.W.codeIn K cd_check_weights "check_weights" = true)
    (k_check_weights : PySem.W.keepIn K (.ref f_check_weights) = true)
    (a_check_prior : PySem.W.nsIn K mainGlobals "check_prior" = some (some (.ref f_check_prior)))
    (l_check_prior : K.lookup f_check_prior = some ⟨oc_check_prior, od_check_prior, .func (PySem.W.fnOf "check_prior" "check_prior" (defArgs s_check_prior) (defBody s_check_prior) (defScope s_check_prior) .none kV_check_prior dc_check_prior pm_check_prior an_check_prior cd_check_prior ct_check_prior), sl_check_prior⟩)
    (c_check_prior : PySem.W.codeIn K cd_check_prior "check_prior" = true)
    (k_check_prior : PySem.W.keepIn K (.ref f_check_prior) = true)
    (a_check_amounts : PySem.W.nsIn K mainGlobals "check_amounts" = some (some (.ref f_check_amounts)))
    (l_check_amounts : K.lookup f_check_amounts = some ⟨oc_check_amounts, od_check_amounts, .func (PySem.W.fnOf "check_amounts" "check_amounts" (defArgs s_check_amounts) (defBody s_check_amounts) (defScope s_check_amounts) .none kV_check_amounts dc_check_amounts pm_check_amounts an_check_amounts cd_check_amounts ct_check_amounts), sl_check_amounts⟩)
    (c_check_amounts : PySem.W.codeIn K cd_check_amounts "check_amounts" = true)
    (k_check_amounts : PySem.W.keepIn K (.ref f_check_amounts) = true)
    (a_Setting_init : PySem.W.findIn K (.ref cSetting) "__init__" = some (some (.ref f_Setting_init)))
    (i_Setting_init : PySem.W.isFn K (.ref f_Setting_init) = true)
    (l_Setting_init : K.lookup f_Setting_init = some ⟨oc_Setting_init, od_Setting_init, .func (PySem.W.fnOf "__init__" "Setting.__init__" (defArgs s_Setting_init) (defBody s_Setting_init) (defScope s_Setting_init) .none kV_Setting_init dc_Setting_init pm_Setting_init an_Setting_init cd_Setting_init ct_Setting_init), sl_Setting_init⟩)
    (c_Setting_init : PySem.W.codeIn K cd_Setting_init "Setting.__init__" = true)
    (k_Setting_init : PySem.W.keepIn K (.ref f_Setting_init) = true)
    (a_Setting_duplicate : PySem.W.findIn K (.ref cSetting) "duplicate" = some (some (.ref f_Setting_duplicate)))
    (i_Setting_duplicate : PySem.W.isFn K (.ref f_Setting_duplicate) = true)
    (l_Setting_duplicate : K.lookup f_Setting_duplicate = some ⟨oc_Setting_duplicate, od_Setting_duplicate, .func (PySem.W.fnOf "duplicate" "Setting.duplicate" (defArgs s_Setting_duplicate) (defBody s_Setting_duplicate) (defScope s_Setting_duplicate) .none kV_Setting_duplicate dc_Setting_duplicate pm_Setting_duplicate an_Setting_duplicate cd_Setting_duplicate ct_Setting_duplicate), sl_Setting_duplicate⟩)
    (c_Setting_duplicate : PySem.W.codeIn K cd_Setting_duplicate "Setting.duplicate" = true)
    (k_Setting_duplicate : PySem.W.keepIn K (.ref f_Setting_duplicate) = true)
    (a_Setting_merge : PySem.W.findIn K (.ref cSetting) "merge" = some (some (.ref f_Setting_merge)))
    (i_Setting_merge : PySem.W.isFn K (.ref f_Setting_merge) = true)
    (l_Setting_merge : K.lookup f_Setting_merge = some ⟨oc_Setting_merge, od_Setting_merge, .func (PySem.W.fnOf "merge" "Setting.merge" (defArgs s_Setting_merge) (defBody s_Setting_merge) (defScope s_Setting_merge) .none kV_Setting_merge dc_Setting_merge pm_Setting_merge an_Setting_merge cd_Setting_merge ct_Setting_merge), sl_Setting_merge⟩)
    (c_Setting_merge : PySem.W.codeIn K cd_Setting_merge "Setting.merge" = true)
    (k_Setting_merge : PySem.W.keepIn K (.ref f_Setting_merge) = true)
    (a_merged_weights : PySem.W.nsIn K mainGlobals "merged_weights" = some (some (.ref f_merged_weights)))
    (l_merged_weights : K.lookup f_merged_weights = some ⟨oc_merged_weights, od_merged_weights, .func (PySem.W.fnOf "merged_weights" "merged_weights" (defArgs s_merged_weights) (defBody s_merged_weights) (defScope s_merged_weights) .none kV_merged_weights dc_merged_weights pm_merged_weights an_merged_weights cd_merged_weights ct_merged_weights), sl_merged_weights⟩)
    (c_merged_weights : PySem.W.codeIn K cd_merged_weights "merged_weights" = true)
    (k_merged_weights : PySem.W.keepIn K (.ref f_merged_weights) = true)
    (a_with_prior : PySem.W.nsIn K mainGlobals "with_prior" = some (some (.ref f_with_prior)))
    (l_with_prior : K.lookup f_with_prior = some ⟨oc_with_prior, od_with_prior, .func (PySem.W.fnOf "with_prior" "with_prior" (defArgs s_with_prior) (defBody s_with_prior) (defScope s_with_prior) .none kV_with_prior dc_with_prior pm_with_prior an_with_prior cd_with_prior ct_with_prior), sl_with_prior⟩)
    (c_with_prior : PySem.W.codeIn K cd_with_prior "with_prior" = true)
    (k_with_prior : PySem.W.keepIn K (.ref f_with_prior) = true)
    (a_with_stakes : PySem.W.nsIn K mainGlobals "with_stakes" = some (some (.ref f_with_stakes)))
    (l_with_stakes : K.lookup f_with_stakes = some ⟨oc_with_stakes, od_with_stakes, .func (PySem.W.fnOf "with_stakes" "with_stakes" (defArgs s_with_stakes) (defBody s_with_stakes) (defScope s_with_stakes) .none kV_with_stakes dc_with_stakes pm_with_stakes an_with_stakes cd_with_stakes ct_with_stakes), sl_with_stakes⟩)
    (c_with_stakes : PySem.W.codeIn K cd_with_stakes "with_stakes" = true)
    (k_with_stakes : PySem.W.keepIn K (.ref f_with_stakes) = true)
    (a_with_merge : PySem.W.nsIn K mainGlobals "with_merge" = some (some (.ref f_with_merge)))
    (l_with_merge : K.lookup f_with_merge = some ⟨oc_with_merge, od_with_merge, .func (PySem.W.fnOf "with_merge" "with_merge" (defArgs s_with_merge) (defBody s_with_merge) (defScope s_with_merge) .none kV_with_merge dc_with_merge pm_with_merge an_with_merge cd_with_merge ct_with_merge), sl_with_merge⟩)
    (c_with_merge : PySem.W.codeIn K cd_with_merge "with_merge" = true)
    (k_with_merge : PySem.W.keepIn K (.ref f_with_merge) = true)
    (a_cost_of : PySem.W.nsIn K mainGlobals "cost_of" = some (some (.ref f_cost_of)))
    (l_cost_of : K.lookup f_cost_of = some ⟨oc_cost_of, od_cost_of, .func (PySem.W.fnOf "cost_of" "cost_of" (defArgs s_cost_of) (defBody s_cost_of) (defScope s_cost_of) .none kV_cost_of dc_cost_of pm_cost_of an_cost_of cd_cost_of ct_cost_of), sl_cost_of⟩)
    (c_cost_of : PySem.W.codeIn K cd_cost_of "cost_of" = true)
    (k_cost_of : PySem.W.keepIn K (.ref f_cost_of) = true)
    (a_prior_against : PySem.W.nsIn K mainGlobals "prior_against" = some (some (.ref f_prior_against)))
    (l_prior_against : K.lookup f_prior_against = some ⟨oc_prior_against, od_prior_against, .func (PySem.W.fnOf "prior_against" "prior_against" (defArgs s_prior_against) (defBody s_prior_against) (defScope s_prior_against) .none kV_prior_against dc_prior_against pm_prior_against an_prior_against cd_prior_against ct_prior_against), sl_prior_against⟩)
    (c_prior_against : PySem.W.codeIn K cd_prior_against "prior_against" = true)
    (k_prior_against : PySem.W.keepIn K (.ref f_prior_against) = true)
    (a_prior_against_all : PySem.W.nsIn K mainGlobals "prior_against_all" = some (some (.ref f_prior_against_all)))
    (l_prior_against_all : K.lookup f_prior_against_all = some ⟨oc_prior_against_all, od_prior_against_all, .func (PySem.W.fnOf "prior_against_all" "prior_against_all" (defArgs s_prior_against_all) (defBody s_prior_against_all) (defScope s_prior_against_all) .none kV_prior_against_all dc_prior_against_all pm_prior_against_all an_prior_against_all cd_prior_against_all ct_prior_against_all), sl_prior_against_all⟩)
    (c_prior_against_all : PySem.W.codeIn K cd_prior_against_all "prior_against_all" = true)
    (k_prior_against_all : PySem.W.keepIn K (.ref f_prior_against_all) = true)
    (a_priors_to_compare : PySem.W.nsIn K mainGlobals "priors_to_compare" = some (some (.ref f_priors_to_compare)))
    (l_priors_to_compare : K.lookup f_priors_to_compare = some ⟨oc_priors_to_compare, od_priors_to_compare, .func (PySem.W.fnOf "priors_to_compare" "priors_to_compare" (defArgs s_priors_to_compare) (defBody s_priors_to_compare) (defScope s_priors_to_compare) .none kV_priors_to_compare dc_priors_to_compare pm_priors_to_compare an_priors_to_compare cd_priors_to_compare ct_priors_to_compare), sl_priors_to_compare⟩)
    (c_priors_to_compare : PySem.W.codeIn K cd_priors_to_compare "priors_to_compare" = true)
    (k_priors_to_compare : PySem.W.keepIn K (.ref f_priors_to_compare) = true)
    (a_cheapest_with_cost : PySem.W.nsIn K mainGlobals "cheapest_with_cost" = some (some (.ref f_cheapest_with_cost)))
    (l_cheapest_with_cost : K.lookup f_cheapest_with_cost = some ⟨oc_cheapest_with_cost, od_cheapest_with_cost, .func (PySem.W.fnOf "cheapest_with_cost" "cheapest_with_cost" (defArgs s_cheapest_with_cost) (defBody s_cheapest_with_cost) (defScope s_cheapest_with_cost) .none kV_cheapest_with_cost dc_cheapest_with_cost pm_cheapest_with_cost an_cheapest_with_cost cd_cheapest_with_cost ct_cheapest_with_cost), sl_cheapest_with_cost⟩)
    (c_cheapest_with_cost : PySem.W.codeIn K cd_cheapest_with_cost "cheapest_with_cost" = true)
    (k_cheapest_with_cost : PySem.W.keepIn K (.ref f_cheapest_with_cost) = true)
    (a_create : PySem.W.nsIn K mainGlobals "create" = some (some (.ref f_create)))
    (l_create : K.lookup f_create = some ⟨oc_create, od_create, .func (PySem.W.fnOf "create" "create" (defArgs s_create) (defBody s_create) (defScope s_create) .none kV_create dc_create pm_create an_create cd_create ct_create), sl_create⟩)
    (c_create : PySem.W.codeIn K cd_create "create" = true)
    (k_create : PySem.W.keepIn K (.ref f_create) = true)
    (a_set_test_weights : PySem.W.nsIn K mainGlobals "set_test_weights" = some (some (.ref f_set_test_weights)))
    (l_set_test_weights : K.lookup f_set_test_weights = some ⟨oc_set_test_weights, od_set_test_weights, .func (PySem.W.fnOf "set_test_weights" "set_test_weights" (defArgs s_set_test_weights) (defBody s_set_test_weights) (defScope s_set_test_weights) .none kV_set_test_weights dc_set_test_weights pm_set_test_weights an_set_test_weights cd_set_test_weights ct_set_test_weights), sl_set_test_weights⟩)
    (c_set_test_weights : PySem.W.codeIn K cd_set_test_weights "set_test_weights" = true)
    (k_set_test_weights : PySem.W.keepIn K (.ref f_set_test_weights) = true)
    (a_set_production_weights : PySem.W.nsIn K mainGlobals "set_production_weights" = some (some (.ref f_set_production_weights)))
    (l_set_production_weights : K.lookup f_set_production_weights = some ⟨oc_set_production_weights, od_set_production_weights, .func (PySem.W.fnOf "set_production_weights" "set_production_weights" (defArgs s_set_production_weights) (defBody s_set_production_weights) (defScope s_set_production_weights) .none kV_set_production_weights dc_set_production_weights pm_set_production_weights an_set_production_weights cd_set_production_weights ct_set_production_weights), sl_set_production_weights⟩)
    (c_set_production_weights : PySem.W.codeIn K cd_set_production_weights "set_production_weights" = true)
    (k_set_production_weights : PySem.W.keepIn K (.ref f_set_production_weights) = true)
    (a_set_prior : PySem.W.nsIn K mainGlobals "set_prior" = some (some (.ref f_set_prior)))
    (l_set_prior : K.lookup f_set_prior = some ⟨oc_set_prior, od_set_prior, .func (PySem.W.fnOf "set_prior" "set_prior" (defArgs s_set_prior) (defBody s_set_prior) (defScope s_set_prior) .none kV_set_prior dc_set_prior pm_set_prior an_set_prior cd_set_prior ct_set_prior), sl_set_prior⟩)
    (c_set_prior : PySem.W.codeIn K cd_set_prior "set_prior" = true)
    (k_set_prior : PySem.W.keepIn K (.ref f_set_prior) = true)
    (a_set_stakes : PySem.W.nsIn K mainGlobals "set_stakes" = some (some (.ref f_set_stakes)))
    (l_set_stakes : K.lookup f_set_stakes = some ⟨oc_set_stakes, od_set_stakes, .func (PySem.W.fnOf "set_stakes" "set_stakes" (defArgs s_set_stakes) (defBody s_set_stakes) (defScope s_set_stakes) .none kV_set_stakes dc_set_stakes pm_set_stakes an_set_stakes cd_set_stakes ct_set_stakes), sl_set_stakes⟩)
    (c_set_stakes : PySem.W.codeIn K cd_set_stakes "set_stakes" = true)
    (k_set_stakes : PySem.W.keepIn K (.ref f_set_stakes) = true)
    (a_set_prices : PySem.W.nsIn K mainGlobals "set_prices" = some (some (.ref f_set_prices)))
    (l_set_prices : K.lookup f_set_prices = some ⟨oc_set_prices, od_set_prices, .func (PySem.W.fnOf "set_prices" "set_prices" (defArgs s_set_prices) (defBody s_set_prices) (defScope s_set_prices) .none kV_set_prices dc_set_prices pm_set_prices an_set_prices cd_set_prices ct_set_prices), sl_set_prices⟩)
    (c_set_prices : PySem.W.codeIn K cd_set_prices "set_prices" = true)
    (k_set_prices : PySem.W.keepIn K (.ref f_set_prices) = true)
    (a_cheating_value : PySem.W.nsIn K mainGlobals "cheating_value" = some (some (.ref f_cheating_value)))
    (l_cheating_value : K.lookup f_cheating_value = some ⟨oc_cheating_value, od_cheating_value, .func (PySem.W.fnOf "cheating_value" "cheating_value" (defArgs s_cheating_value) (defBody s_cheating_value) (defScope s_cheating_value) .none kV_cheating_value dc_cheating_value pm_cheating_value an_cheating_value cd_cheating_value ct_cheating_value), sl_cheating_value⟩)
    (c_cheating_value : PySem.W.codeIn K cd_cheating_value "cheating_value" = true)
    (k_cheating_value : PySem.W.keepIn K (.ref f_cheating_value) = true)
    (a_counted_signals : PySem.W.nsIn K mainGlobals "counted_signals" = some (some (.ref f_counted_signals)))
    (l_counted_signals : K.lookup f_counted_signals = some ⟨oc_counted_signals, od_counted_signals, .func (PySem.W.fnOf "counted_signals" "counted_signals" (defArgs s_counted_signals) (defBody s_counted_signals) (defScope s_counted_signals) .none kV_counted_signals dc_counted_signals pm_counted_signals an_counted_signals cd_counted_signals ct_counted_signals), sl_counted_signals⟩)
    (c_counted_signals : PySem.W.codeIn K cd_counted_signals "counted_signals" = true)
    (k_counted_signals : PySem.W.keepIn K (.ref f_counted_signals) = true)
    (a_cheating_signals : PySem.W.nsIn K mainGlobals "cheating_signals" = some (some (.ref f_cheating_signals)))
    (l_cheating_signals : K.lookup f_cheating_signals = some ⟨oc_cheating_signals, od_cheating_signals, .func (PySem.W.fnOf "cheating_signals" "cheating_signals" (defArgs s_cheating_signals) (defBody s_cheating_signals) (defScope s_cheating_signals) .none kV_cheating_signals dc_cheating_signals pm_cheating_signals an_cheating_signals cd_cheating_signals ct_cheating_signals), sl_cheating_signals⟩)
    (c_cheating_signals : PySem.W.codeIn K cd_cheating_signals "cheating_signals" = true)
    (k_cheating_signals : PySem.W.keepIn K (.ref f_cheating_signals) = true)
    (a_expected_profit : PySem.W.nsIn K mainGlobals "expected_profit" = some (some (.ref f_expected_profit)))
    (l_expected_profit : K.lookup f_expected_profit = some ⟨oc_expected_profit, od_expected_profit, .func (PySem.W.fnOf "expected_profit" "expected_profit" (defArgs s_expected_profit) (defBody s_expected_profit) (defScope s_expected_profit) .none kV_expected_profit dc_expected_profit pm_expected_profit an_expected_profit cd_expected_profit ct_expected_profit), sl_expected_profit⟩)
    (c_expected_profit : PySem.W.codeIn K cd_expected_profit "expected_profit" = true)
    (k_expected_profit : PySem.W.keepIn K (.ref f_expected_profit) = true)
    (a_expected_profit_of : PySem.W.nsIn K mainGlobals "expected_profit_of" = some (some (.ref f_expected_profit_of)))
    (l_expected_profit_of : K.lookup f_expected_profit_of = some ⟨oc_expected_profit_of, od_expected_profit_of, .func (PySem.W.fnOf "expected_profit_of" "expected_profit_of" (defArgs s_expected_profit_of) (defBody s_expected_profit_of) (defScope s_expected_profit_of) .none kV_expected_profit_of dc_expected_profit_of pm_expected_profit_of an_expected_profit_of cd_expected_profit_of ct_expected_profit_of), sl_expected_profit_of⟩)
    (c_expected_profit_of : PySem.W.codeIn K cd_expected_profit_of "expected_profit_of" = true)
    (k_expected_profit_of : PySem.W.keepIn K (.ref f_expected_profit_of) = true)
    (a_detection_probability : PySem.W.nsIn K mainGlobals "detection_probability" = some (some (.ref f_detection_probability)))
    (l_detection_probability : K.lookup f_detection_probability = some ⟨oc_detection_probability, od_detection_probability, .func (PySem.W.fnOf "detection_probability" "detection_probability" (defArgs s_detection_probability) (defBody s_detection_probability) (defScope s_detection_probability) .none kV_detection_probability dc_detection_probability pm_detection_probability an_detection_probability cd_detection_probability ct_detection_probability), sl_detection_probability⟩)
    (c_detection_probability : PySem.W.codeIn K cd_detection_probability "detection_probability" = true)
    (k_detection_probability : PySem.W.keepIn K (.ref f_detection_probability) = true)
    (a_harm_probability : PySem.W.nsIn K mainGlobals "harm_probability" = some (some (.ref f_harm_probability)))
    (l_harm_probability : K.lookup f_harm_probability = some ⟨oc_harm_probability, od_harm_probability, .func (PySem.W.fnOf "harm_probability" "harm_probability" (defArgs s_harm_probability) (defBody s_harm_probability) (defScope s_harm_probability) .none kV_harm_probability dc_harm_probability pm_harm_probability an_harm_probability cd_harm_probability ct_harm_probability), sl_harm_probability⟩)
    (c_harm_probability : PySem.W.codeIn K cd_harm_probability "harm_probability" = true)
    (k_harm_probability : PySem.W.keepIn K (.ref f_harm_probability) = true)
    (a_total_cost : PySem.W.nsIn K mainGlobals "total_cost" = some (some (.ref f_total_cost)))
    (l_total_cost : K.lookup f_total_cost = some ⟨oc_total_cost, od_total_cost, .func (PySem.W.fnOf "total_cost" "total_cost" (defArgs s_total_cost) (defBody s_total_cost) (defScope s_total_cost) .none kV_total_cost dc_total_cost pm_total_cost an_total_cost cd_total_cost ct_total_cost), sl_total_cost⟩)
    (c_total_cost : PySem.W.codeIn K cd_total_cost "total_cost" = true)
    (k_total_cost : PySem.W.keepIn K (.ref f_total_cost) = true)
    (a_existing : PySem.W.nsIn K mainGlobals "existing" = some (some (.ref f_existing)))
    (l_existing : K.lookup f_existing = some ⟨oc_existing, od_existing, .func (PySem.W.fnOf "existing" "existing" (defArgs s_existing) (defBody s_existing) (defScope s_existing) .none kV_existing dc_existing pm_existing an_existing cd_existing ct_existing), sl_existing⟩)
    (c_existing : PySem.W.codeIn K cd_existing "existing" = true)
    (k_existing : PySem.W.keepIn K (.ref f_existing) = true)
    (a_deterrent_prior_at : PySem.W.nsIn K mainGlobals "deterrent_prior_at" = some (some (.ref f_deterrent_prior_at)))
    (l_deterrent_prior_at : K.lookup f_deterrent_prior_at = some ⟨oc_deterrent_prior_at, od_deterrent_prior_at, .func (PySem.W.fnOf "deterrent_prior_at" "deterrent_prior_at" (defArgs s_deterrent_prior_at) (defBody s_deterrent_prior_at) (defScope s_deterrent_prior_at) .none kV_deterrent_prior_at dc_deterrent_prior_at pm_deterrent_prior_at an_deterrent_prior_at cd_deterrent_prior_at ct_deterrent_prior_at), sl_deterrent_prior_at⟩)
    (c_deterrent_prior_at : PySem.W.codeIn K cd_deterrent_prior_at "deterrent_prior_at" = true)
    (k_deterrent_prior_at : PySem.W.keepIn K (.ref f_deterrent_prior_at) = true)
    (a_deterrent_prior : PySem.W.nsIn K mainGlobals "deterrent_prior" = some (some (.ref f_deterrent_prior)))
    (l_deterrent_prior : K.lookup f_deterrent_prior = some ⟨oc_deterrent_prior, od_deterrent_prior, .func (PySem.W.fnOf "deterrent_prior" "deterrent_prior" (defArgs s_deterrent_prior) (defBody s_deterrent_prior) (defScope s_deterrent_prior) .none kV_deterrent_prior dc_deterrent_prior pm_deterrent_prior an_deterrent_prior cd_deterrent_prior ct_deterrent_prior), sl_deterrent_prior⟩)
    (c_deterrent_prior : PySem.W.codeIn K cd_deterrent_prior "deterrent_prior" = true)
    (k_deterrent_prior : PySem.W.keepIn K (.ref f_deterrent_prior) = true)
    (a_preview_merge : PySem.W.nsIn K mainGlobals "preview_merge" = some (some (.ref f_preview_merge)))
    (l_preview_merge : K.lookup f_preview_merge = some ⟨oc_preview_merge, od_preview_merge, .func (PySem.W.fnOf "preview_merge" "preview_merge" (defArgs s_preview_merge) (defBody s_preview_merge) (defScope s_preview_merge) .none kV_preview_merge dc_preview_merge pm_preview_merge an_preview_merge cd_preview_merge ct_preview_merge), sl_preview_merge⟩)
    (c_preview_merge : PySem.W.codeIn K cd_preview_merge "preview_merge" = true)
    (k_preview_merge : PySem.W.keepIn K (.ref f_preview_merge) = true)
    (a_merge_signals : PySem.W.nsIn K mainGlobals "merge_signals" = some (some (.ref f_merge_signals)))
    (l_merge_signals : K.lookup f_merge_signals = some ⟨oc_merge_signals, od_merge_signals, .func (PySem.W.fnOf "merge_signals" "merge_signals" (defArgs s_merge_signals) (defBody s_merge_signals) (defScope s_merge_signals) .none kV_merge_signals dc_merge_signals pm_merge_signals an_merge_signals cd_merge_signals ct_merge_signals), sl_merge_signals⟩)
    (c_merge_signals : PySem.W.codeIn K cd_merge_signals "merge_signals" = true)
    (k_merge_signals : PySem.W.keepIn K (.ref f_merge_signals) = true)
    (a_cheapest_prior : PySem.W.nsIn K mainGlobals "cheapest_prior" = some (some (.ref f_cheapest_prior)))
    (l_cheapest_prior : K.lookup f_cheapest_prior = some ⟨oc_cheapest_prior, od_cheapest_prior, .func (PySem.W.fnOf "cheapest_prior" "cheapest_prior" (defArgs s_cheapest_prior) (defBody s_cheapest_prior) (defScope s_cheapest_prior) .none kV_cheapest_prior dc_cheapest_prior pm_cheapest_prior an_cheapest_prior cd_cheapest_prior ct_cheapest_prior), sl_cheapest_prior⟩)
    (c_cheapest_prior : PySem.W.codeIn K cd_cheapest_prior "cheapest_prior" = true)
    (k_cheapest_prior : PySem.W.keepIn K (.ref f_cheapest_prior) = true)
    (a_cheating_signals_for_prior : PySem.W.nsIn K mainGlobals "cheating_signals_for_prior" = some (some (.ref f_cheating_signals_for_prior)))
    (l_cheating_signals_for_prior : K.lookup f_cheating_signals_for_prior = some ⟨oc_cheating_signals_for_prior, od_cheating_signals_for_prior, .func (PySem.W.fnOf "cheating_signals_for_prior" "cheating_signals_for_prior" (defArgs s_cheating_signals_for_prior) (defBody s_cheating_signals_for_prior) (defScope s_cheating_signals_for_prior) .none kV_cheating_signals_for_prior dc_cheating_signals_for_prior pm_cheating_signals_for_prior an_cheating_signals_for_prior cd_cheating_signals_for_prior ct_cheating_signals_for_prior), sl_cheating_signals_for_prior⟩)
    (c_cheating_signals_for_prior : PySem.W.codeIn K cd_cheating_signals_for_prior "cheating_signals_for_prior" = true)
    (k_cheating_signals_for_prior : PySem.W.keepIn K (.ref f_cheating_signals_for_prior) = true)
    (a_cheating_signals_for_stakes : PySem.W.nsIn K mainGlobals "cheating_signals_for_stakes" = some (some (.ref f_cheating_signals_for_stakes)))
    (l_cheating_signals_for_stakes : K.lookup f_cheating_signals_for_stakes = some ⟨oc_cheating_signals_for_stakes, od_cheating_signals_for_stakes, .func (PySem.W.fnOf "cheating_signals_for_stakes" "cheating_signals_for_stakes" (defArgs s_cheating_signals_for_stakes) (defBody s_cheating_signals_for_stakes) (defScope s_cheating_signals_for_stakes) .none kV_cheating_signals_for_stakes dc_cheating_signals_for_stakes pm_cheating_signals_for_stakes an_cheating_signals_for_stakes cd_cheating_signals_for_stakes ct_cheating_signals_for_stakes), sl_cheating_signals_for_stakes⟩)
    (c_cheating_signals_for_stakes : PySem.W.codeIn K cd_cheating_signals_for_stakes "cheating_signals_for_stakes" = true)
    (k_cheating_signals_for_stakes : PySem.W.keepIn K (.ref f_cheating_signals_for_stakes) = true)
    (a_get_settings : PySem.W.nsIn K mainGlobals "get_settings" = some (some (.ref f_get_settings)))
    (l_get_settings : K.lookup f_get_settings = some ⟨oc_get_settings, od_get_settings, .func (PySem.W.fnOf "get_settings" "get_settings" (defArgs s_get_settings) (defBody s_get_settings) (defScope s_get_settings) .none kV_get_settings dc_get_settings pm_get_settings an_get_settings cd_get_settings ct_get_settings), sl_get_settings⟩)
    (c_get_settings : PySem.W.codeIn K cd_get_settings "get_settings" = true)
    (k_get_settings : PySem.W.keepIn K (.ref f_get_settings) = true)
    (a_operate : PySem.W.nsIn K mainGlobals "operate" = some (some (.ref f_operate)))
    (l_operate : K.lookup f_operate = some ⟨oc_operate, od_operate, .func (PySem.W.fnOf "operate" "operate" (defArgs s_operate) (defBody s_operate) (defScope s_operate) .none kV_operate dc_operate pm_operate an_operate cd_operate ct_operate), sl_operate⟩)
    (c_operate : PySem.W.codeIn K cd_operate "operate" = true)
    (k_operate : PySem.W.keepIn K (.ref f_operate) = true)
    (a_Instance_init : PySem.W.findIn K (.ref cInstance) "__init__" = some (some (.ref f_Instance_init)))
    (i_Instance_init : PySem.W.isFn K (.ref f_Instance_init) = true)
    (l_Instance_init : K.lookup f_Instance_init = some ⟨oc_Instance_init, od_Instance_init, .func (PySem.W.fnOf "__init__" "Instance.__init__" (defArgs s_Instance_init) (defBody s_Instance_init) (defScope s_Instance_init) .none kV_Instance_init dc_Instance_init pm_Instance_init an_Instance_init cd_Instance_init ct_Instance_init), sl_Instance_init⟩)
    (c_Instance_init : PySem.W.codeIn K cd_Instance_init "Instance.__init__" = true)
    (k_Instance_init : PySem.W.keepIn K (.ref f_Instance_init) = true)
    (a_Instance_perform : PySem.W.findIn K (.ref cInstance) "perform" = some (some (.ref f_Instance_perform)))
    (i_Instance_perform : PySem.W.isFn K (.ref f_Instance_perform) = true)
    (l_Instance_perform : K.lookup f_Instance_perform = some ⟨oc_Instance_perform, od_Instance_perform, .func (PySem.W.fnOf "perform" "Instance.perform" (defArgs s_Instance_perform) (defBody s_Instance_perform) (defScope s_Instance_perform) .none kV_Instance_perform dc_Instance_perform pm_Instance_perform an_Instance_perform cd_Instance_perform ct_Instance_perform), sl_Instance_perform⟩)
    (c_Instance_perform : PySem.W.codeIn K cd_Instance_perform "Instance.perform" = true)
    (k_Instance_perform : PySem.W.keepIn K (.ref f_Instance_perform) = true)
    (a_Instance_answer : PySem.W.findIn K (.ref cInstance) "answer" = some (some (.ref f_Instance_answer)))
    (i_Instance_answer : PySem.W.isFn K (.ref f_Instance_answer) = true)
    (l_Instance_answer : K.lookup f_Instance_answer = some ⟨oc_Instance_answer, od_Instance_answer, .func (PySem.W.fnOf "answer" "Instance.answer" (defArgs s_Instance_answer) (defBody s_Instance_answer) (defScope s_Instance_answer) .none kV_Instance_answer dc_Instance_answer pm_Instance_answer an_Instance_answer cd_Instance_answer ct_Instance_answer), sl_Instance_answer⟩)
    (c_Instance_answer : PySem.W.codeIn K cd_Instance_answer "Instance.answer" = true)
    (k_Instance_answer : PySem.W.keepIn K (.ref f_Instance_answer) = true)
    (a_answers : PySem.W.nsIn K mainGlobals "answers" = some (some (.ref f_answers)))
    (l_answers : K.lookup f_answers = some ⟨oc_answers, od_answers, .func (PySem.W.fnOf "answers" "answers" (defArgs s_answers) (defBody s_answers) (defScope s_answers) .none kV_answers dc_answers pm_answers an_answers cd_answers ct_answers), sl_answers⟩)
    (c_answers : PySem.W.codeIn K cd_answers "answers" = true)
    (k_answers : PySem.W.keepIn K (.ref f_answers) = true)
    (pg_Setting : PySem.W.plainGet K cSetting Str.empty = true)
    (hd_Setting : PySem.W.hasDictIn K cSetting = true)
    (po_Setting : PySem.W.plainOver K cSetting = true)
    (sa_Setting : PySem.W.findIn K (.ref cSetting) "__setattr__" = some (some (.builtin "object.__setattr__")))
    (mk_Setting : PySem.W.makesIn K cSetting = true)
    (kc_Setting : PySem.W.keepIn K (.ref cSetting) = true)
    (n_Setting_signal_count : PySem.W.findIn K (.ref cSetting) "signal_count" = some none)
    (n_Setting_test_weights : PySem.W.findIn K (.ref cSetting) "test_weights" = some none)
    (n_Setting_production_weights : PySem.W.findIn K (.ref cSetting) "production_weights" = some none)
    (n_Setting_prior_num : PySem.W.findIn K (.ref cSetting) "prior_num" = some none)
    (n_Setting_prior_den : PySem.W.findIn K (.ref cSetting) "prior_den" = some none)
    (n_Setting_gain : PySem.W.findIn K (.ref cSetting) "gain" = some none)
    (n_Setting_loss : PySem.W.findIn K (.ref cSetting) "loss" = some none)
    (n_Setting_harm_price : PySem.W.findIn K (.ref cSetting) "harm_price" = some none)
    (n_Setting_test_price : PySem.W.findIn K (.ref cSetting) "test_price" = some none)
    (pg_Instance : PySem.W.plainGet K cInstance Str.empty = true)
    (hd_Instance : PySem.W.hasDictIn K cInstance = true)
    (po_Instance : PySem.W.plainOver K cInstance = true)
    (sa_Instance : PySem.W.findIn K (.ref cInstance) "__setattr__" = some (some (.builtin "object.__setattr__")))
    (mk_Instance : PySem.W.makesIn K cInstance = true)
    (kc_Instance : PySem.W.keepIn K (.ref cInstance) = true)
    (n_Instance_setting : PySem.W.findIn K (.ref cInstance) "setting" = some none)
    (x_NoSetting : PySem.W.excIn K xNoSetting [.type "Exception", .type "BaseException", .type "object"] "Exception.__new__" = true)
    (k_NoSetting : PySem.W.keepIn K (.ref xNoSetting) = true)
    (b_NoSetting : PySem.W.subIn K (.ref xNoSetting) (.type "BaseException") = some true)
    (t_NoSetting : PySem.W.typeIn K (.ref xNoSetting) = some (.type "type"))
    (i_NoSetting : PySem.W.isClsIn K xNoSetting = true)
    (x_NoSuchSignal : PySem.W.excIn K xNoSuchSignal [.type "Exception", .type "BaseException", .type "object"] "Exception.__new__" = true)
    (k_NoSuchSignal : PySem.W.keepIn K (.ref xNoSuchSignal) = true)
    (b_NoSuchSignal : PySem.W.subIn K (.ref xNoSuchSignal) (.type "BaseException") = some true)
    (t_NoSuchSignal : PySem.W.typeIn K (.ref xNoSuchSignal) = some (.type "type"))
    (i_NoSuchSignal : PySem.W.isClsIn K xNoSuchSignal = true)
    (x_OutsideLimits : PySem.W.excIn K xOutsideLimits [.type "Exception", .type "BaseException", .type "object"] "Exception.__new__" = true)
    (k_OutsideLimits : PySem.W.keepIn K (.ref xOutsideLimits) = true)
    (b_OutsideLimits : PySem.W.subIn K (.ref xOutsideLimits) (.type "BaseException") = some true)
    (t_OutsideLimits : PySem.W.typeIn K (.ref xOutsideLimits) = some (.type "type"))
    (i_OutsideLimits : PySem.W.isClsIn K xOutsideLimits = true)
    (x_NoDeterrentPrior : PySem.W.excIn K xNoDeterrentPrior [.type "Exception", .type "BaseException", .type "object"] "Exception.__new__" = true)
    (k_NoDeterrentPrior : PySem.W.keepIn K (.ref xNoDeterrentPrior) = true)
    (b_NoDeterrentPrior : PySem.W.subIn K (.ref xNoDeterrentPrior) (.type "BaseException") = some true)
    (t_NoDeterrentPrior : PySem.W.typeIn K (.ref xNoDeterrentPrior) = some (.type "type"))
    (i_NoDeterrentPrior : PySem.W.isClsIn K xNoDeterrentPrior = true)
    (s_NoSetting_NoSetting : PySem.W.subIn K (.ref xNoSetting) (.ref xNoSetting) = some true)
    (s_NoSetting_NoSuchSignal : PySem.W.subIn K (.ref xNoSetting) (.ref xNoSuchSignal) = some false)
    (s_NoSetting_OutsideLimits : PySem.W.subIn K (.ref xNoSetting) (.ref xOutsideLimits) = some false)
    (s_NoSetting_NoDeterrentPrior : PySem.W.subIn K (.ref xNoSetting) (.ref xNoDeterrentPrior) = some false)
    (s_NoSuchSignal_NoSetting : PySem.W.subIn K (.ref xNoSuchSignal) (.ref xNoSetting) = some false)
    (s_NoSuchSignal_NoSuchSignal : PySem.W.subIn K (.ref xNoSuchSignal) (.ref xNoSuchSignal) = some true)
    (s_NoSuchSignal_OutsideLimits : PySem.W.subIn K (.ref xNoSuchSignal) (.ref xOutsideLimits) = some false)
    (s_NoSuchSignal_NoDeterrentPrior : PySem.W.subIn K (.ref xNoSuchSignal) (.ref xNoDeterrentPrior) = some false)
    (s_OutsideLimits_NoSetting : PySem.W.subIn K (.ref xOutsideLimits) (.ref xNoSetting) = some false)
    (s_OutsideLimits_NoSuchSignal : PySem.W.subIn K (.ref xOutsideLimits) (.ref xNoSuchSignal) = some false)
    (s_OutsideLimits_OutsideLimits : PySem.W.subIn K (.ref xOutsideLimits) (.ref xOutsideLimits) = some true)
    (s_OutsideLimits_NoDeterrentPrior : PySem.W.subIn K (.ref xOutsideLimits) (.ref xNoDeterrentPrior) = some false)
    (s_NoDeterrentPrior_NoSetting : PySem.W.subIn K (.ref xNoDeterrentPrior) (.ref xNoSetting) = some false)
    (s_NoDeterrentPrior_NoSuchSignal : PySem.W.subIn K (.ref xNoDeterrentPrior) (.ref xNoSuchSignal) = some false)
    (s_NoDeterrentPrior_OutsideLimits : PySem.W.subIn K (.ref xNoDeterrentPrior) (.ref xOutsideLimits) = some false)
    (s_NoDeterrentPrior_NoDeterrentPrior : PySem.W.subIn K (.ref xNoDeterrentPrior) (.ref xNoDeterrentPrior) = some true)
    (bi_sum : PySem.W.nsIn K mainGlobals "sum" = some none)
    (bi_enumerate : PySem.W.nsIn K mainGlobals "enumerate" = some none)
    (bi_range : PySem.W.nsIn K mainGlobals "range" = some none)
    (bi_list : PySem.W.nsIn K mainGlobals "list" = some none)
    (bi_abs : PySem.W.nsIn K mainGlobals "abs" = some none)
    (bi_len : PySem.W.nsIn K mainGlobals "len" = some none)
    (bi_max : PySem.W.nsIn K mainGlobals "max" = some none)
    (co_MOST_SIGNALS : PySem.W.nsIn K mainGlobals "MOST_SIGNALS" = some (some (.int 5 tk_MOST_SIGNALS)))
    (co_LARGEST_WEIGHT : PySem.W.nsIn K mainGlobals "LARGEST_WEIGHT" = some (some (.int 99 tk_LARGEST_WEIGHT)))
    (co_LARGEST_PRIOR_DEN : PySem.W.nsIn K mainGlobals "LARGEST_PRIOR_DEN" = some (some (.int 99 tk_LARGEST_PRIOR_DEN)))
    (co_LARGEST_AMOUNT : PySem.W.nsIn K mainGlobals "LARGEST_AMOUNT" = some (some (.int 999 tk_LARGEST_AMOUNT)))
    (a_OPERATIONS : PySem.W.nsIn K mainGlobals "OPERATIONS" = some (some (.ref dOPERATIONS)))
    (l_OPERATIONS : K.lookup dOPERATIONS = some ⟨.type "dict", none, .dict #[⟨1, .int 1 tk1_OPERATIONS, .ref f_set_test_weights⟩, ⟨2, .int 2 tk2_OPERATIONS, .ref f_set_production_weights⟩, ⟨3, .int 3 tk3_OPERATIONS, .ref f_set_prior⟩, ⟨4, .int 4 tk4_OPERATIONS, .ref f_set_stakes⟩, ⟨5, .int 5 tk5_OPERATIONS, .ref f_set_prices⟩, ⟨6, .int 6 tk6_OPERATIONS, .ref f_cheating_value⟩, ⟨7, .int 7 tk7_OPERATIONS, .ref f_cheating_signals⟩, ⟨8, .int 8 tk8_OPERATIONS, .ref f_expected_profit⟩, ⟨9, .int 9 tk9_OPERATIONS, .ref f_expected_profit_of⟩, ⟨10, .int 10 tk10_OPERATIONS, .ref f_detection_probability⟩, ⟨11, .int 11 tk11_OPERATIONS, .ref f_harm_probability⟩, ⟨12, .int 12 tk12_OPERATIONS, .ref f_total_cost⟩, ⟨13, .int 13 tk13_OPERATIONS, .ref f_deterrent_prior_at⟩, ⟨14, .int 14 tk14_OPERATIONS, .ref f_deterrent_prior⟩, ⟨15, .int 15 tk15_OPERATIONS, .ref f_preview_merge⟩, ⟨16, .int 16 tk16_OPERATIONS, .ref f_merge_signals⟩, ⟨17, .int 17 tk17_OPERATIONS, .ref f_cheapest_prior⟩, ⟨18, .int 18 tk18_OPERATIONS, .ref f_cheating_signals_for_prior⟩, ⟨19, .int 19 tk19_OPERATIONS, .ref f_cheating_signals_for_stakes⟩, ⟨20, .int 20 tk20_OPERATIONS, .ref f_get_settings⟩] n_OPERATIONS, #[]⟩) :
    ∃ A : AdT, ∃ fd : FuncData, (∀ (s : Shared) (us : List Value), us.length = (["calls"] : List Str).length → BindsTo s fd ⟨us, []⟩ ((["calls"] : List Str).zip us)) ∧ ∀ base : Heap, K.In base → base.Ns mainGlobals mg → FnOk P w K mg base CX0 10 fa fd ["calls"] (sp_answers K A) := by
  have T : Tx K mg ⟨cSetting, cInstance, xNoSetting, xNoSuchSignal, xOutsideLimits, xNoDeterrentPrior, dOPERATIONS⟩ := {
    cl_Setting := ⟨pg_Setting, hd_Setting, po_Setting, sa_Setting⟩
    nA_Setting_signal_count := n_Setting_signal_count
    nA_Setting_test_weights := n_Setting_test_weights
    nA_Setting_production_weights := n_Setting_production_weights
    nA_Setting_prior_num := n_Setting_prior_num
    nA_Setting_prior_den := n_Setting_prior_den
    nA_Setting_gain := n_Setting_gain
    nA_Setting_loss := n_Setting_loss
    nA_Setting_harm_price := n_Setting_harm_price
    nA_Setting_test_price := n_Setting_test_price
    cl_Instance := ⟨pg_Instance, hd_Instance, po_Instance, sa_Instance⟩
    nA_Instance_setting := n_Instance_setting
    g_NoSetting := PySem.W.mg_of X G a_NoSetting
    x_NoSetting := x_NoSetting
    k_NoSetting := k_NoSetting
    bs_NoSetting := b_NoSetting
    ty_NoSetting := t_NoSetting
    g_NoSuchSignal := PySem.W.mg_of X G a_NoSuchSignal
    x_NoSuchSignal := x_NoSuchSignal
    k_NoSuchSignal := k_NoSuchSignal
    bs_NoSuchSignal := b_NoSuchSignal
    ty_NoSuchSignal := t_NoSuchSignal
    g_OutsideLimits := PySem.W.mg_of X G a_OutsideLimits
    x_OutsideLimits := x_OutsideLimits
    k_OutsideLimits := k_OutsideLimits
    bs_OutsideLimits := b_OutsideLimits
    ty_OutsideLimits := t_OutsideLimits
    g_NoDeterrentPrior := PySem.W.mg_of X G a_NoDeterrentPrior
    x_NoDeterrentPrior := x_NoDeterrentPrior
    k_NoDeterrentPrior := k_NoDeterrentPrior
    bs_NoDeterrentPrior := b_NoDeterrentPrior
    ty_NoDeterrentPrior := t_NoDeterrentPrior
    e_NoSetting_NoSetting := exm_by b_NoSetting i_NoSetting t_NoSetting s_NoSetting_NoSetting b_NoSetting
    e_NoSetting_NoSuchSignal := exm_by b_NoSetting i_NoSuchSignal t_NoSuchSignal s_NoSetting_NoSuchSignal b_NoSuchSignal
    e_NoSetting_OutsideLimits := exm_by b_NoSetting i_OutsideLimits t_OutsideLimits s_NoSetting_OutsideLimits b_OutsideLimits
    e_NoSetting_NoDeterrentPrior := exm_by b_NoSetting i_NoDeterrentPrior t_NoDeterrentPrior s_NoSetting_NoDeterrentPrior b_NoDeterrentPrior
    e_NoSuchSignal_NoSetting := exm_by b_NoSuchSignal i_NoSetting t_NoSetting s_NoSuchSignal_NoSetting b_NoSetting
    e_NoSuchSignal_NoSuchSignal := exm_by b_NoSuchSignal i_NoSuchSignal t_NoSuchSignal s_NoSuchSignal_NoSuchSignal b_NoSuchSignal
    e_NoSuchSignal_OutsideLimits := exm_by b_NoSuchSignal i_OutsideLimits t_OutsideLimits s_NoSuchSignal_OutsideLimits b_OutsideLimits
    e_NoSuchSignal_NoDeterrentPrior := exm_by b_NoSuchSignal i_NoDeterrentPrior t_NoDeterrentPrior s_NoSuchSignal_NoDeterrentPrior b_NoDeterrentPrior
    e_OutsideLimits_NoSetting := exm_by b_OutsideLimits i_NoSetting t_NoSetting s_OutsideLimits_NoSetting b_NoSetting
    e_OutsideLimits_NoSuchSignal := exm_by b_OutsideLimits i_NoSuchSignal t_NoSuchSignal s_OutsideLimits_NoSuchSignal b_NoSuchSignal
    e_OutsideLimits_OutsideLimits := exm_by b_OutsideLimits i_OutsideLimits t_OutsideLimits s_OutsideLimits_OutsideLimits b_OutsideLimits
    e_OutsideLimits_NoDeterrentPrior := exm_by b_OutsideLimits i_NoDeterrentPrior t_NoDeterrentPrior s_OutsideLimits_NoDeterrentPrior b_NoDeterrentPrior
    e_NoDeterrentPrior_NoSetting := exm_by b_NoDeterrentPrior i_NoSetting t_NoSetting s_NoDeterrentPrior_NoSetting b_NoSetting
    e_NoDeterrentPrior_NoSuchSignal := exm_by b_NoDeterrentPrior i_NoSuchSignal t_NoSuchSignal s_NoDeterrentPrior_NoSuchSignal b_NoSuchSignal
    e_NoDeterrentPrior_OutsideLimits := exm_by b_NoDeterrentPrior i_OutsideLimits t_OutsideLimits s_NoDeterrentPrior_OutsideLimits b_OutsideLimits
    e_NoDeterrentPrior_NoDeterrentPrior := exm_by b_NoDeterrentPrior i_NoDeterrentPrior t_NoDeterrentPrior s_NoDeterrentPrior_NoDeterrentPrior b_NoDeterrentPrior
    b_sum := PySem.W.mg_none_of X G bi_sum
    b_enumerate := PySem.W.mg_none_of X G bi_enumerate
    b_range := PySem.W.mg_none_of X G bi_range
    b_list := PySem.W.mg_none_of X G bi_list
    b_abs := PySem.W.mg_none_of X G bi_abs
    b_len := PySem.W.mg_none_of X G bi_len
    b_max := PySem.W.mg_none_of X G bi_max
    g_OPERATIONS := PySem.W.mg_of X G a_OPERATIONS
    c_MOST_SIGNALS := ⟨_, PySem.W.mg_of X G co_MOST_SIGNALS⟩
    c_LARGEST_WEIGHT := ⟨_, PySem.W.mg_of X G co_LARGEST_WEIGHT⟩
    c_LARGEST_PRIOR_DEN := ⟨_, PySem.W.mg_of X G co_LARGEST_PRIOR_DEN⟩
    c_LARGEST_AMOUNT := ⟨_, PySem.W.mg_of X G co_LARGEST_AMOUNT⟩
  }
  have tp : Tp K mg ⟨cSetting, cInstance, xNoSetting, xNoSuchSignal, xOutsideLimits, xNoDeterrentPrior, dOPERATIONS⟩ := {
    at_common_divisor := ⟨_, _, PySem.W.mg_of X G a_common_divisor, fun_mk (st := s_common_divisor) l_common_divisor c_common_divisor k_common_divisor, (fun_mk (st := s_common_divisor) l_common_divisor c_common_divisor k_common_divisor).binds bi_common_divisor⟩
    at_lowest_terms := ⟨_, _, PySem.W.mg_of X G a_lowest_terms, fun_mk (st := s_lowest_terms) l_lowest_terms c_lowest_terms k_lowest_terms, (fun_mk (st := s_lowest_terms) l_lowest_terms c_lowest_terms k_lowest_terms).binds bi_lowest_terms⟩
    at_is_less := ⟨_, _, PySem.W.mg_of X G a_is_less, fun_mk (st := s_is_less) l_is_less c_is_less k_is_less, (fun_mk (st := s_is_less) l_is_less c_is_less k_is_less).binds bi_is_less⟩
    at_value_denominator := ⟨_, _, PySem.W.mg_of X G a_value_denominator, fun_mk (st := s_value_denominator) l_value_denominator c_value_denominator k_value_denominator, (fun_mk (st := s_value_denominator) l_value_denominator c_value_denominator k_value_denominator).binds bi_value_denominator⟩
    at_value_numerator := ⟨_, _, PySem.W.mg_of X G a_value_numerator, fun_mk (st := s_value_numerator) l_value_numerator c_value_numerator k_value_numerator, (fun_mk (st := s_value_numerator) l_value_numerator c_value_numerator k_value_numerator).binds bi_value_numerator⟩
    at_paying_signals := ⟨_, _, PySem.W.mg_of X G a_paying_signals, fun_mk (st := s_paying_signals) l_paying_signals c_paying_signals k_paying_signals, (fun_mk (st := s_paying_signals) l_paying_signals c_paying_signals k_paying_signals).binds bi_paying_signals⟩
    at_profit_at := ⟨_, _, PySem.W.mg_of X G a_profit_at, fun_mk (st := s_profit_at) l_profit_at c_profit_at k_profit_at, (fun_mk (st := s_profit_at) l_profit_at c_profit_at k_profit_at).binds bi_profit_at⟩
    at_joint_test_at := ⟨_, _, PySem.W.mg_of X G a_joint_test_at, fun_mk (st := s_joint_test_at) l_joint_test_at c_joint_test_at k_joint_test_at, (fun_mk (st := s_joint_test_at) l_joint_test_at c_joint_test_at k_joint_test_at).binds bi_joint_test_at⟩
    at_joint_production_at := ⟨_, _, PySem.W.mg_of X G a_joint_production_at, fun_mk (st := s_joint_production_at) l_joint_production_at c_joint_production_at k_joint_production_at, (fun_mk (st := s_joint_production_at) l_joint_production_at c_joint_production_at k_joint_production_at).binds bi_joint_production_at⟩
    at_check_signal_count := ⟨_, _, PySem.W.mg_of X G a_check_signal_count, fun_mk (st := s_check_signal_count) l_check_signal_count c_check_signal_count k_check_signal_count, (fun_mk (st := s_check_signal_count) l_check_signal_count c_check_signal_count k_check_signal_count).binds bi_check_signal_count⟩
    at_check_signal := ⟨_, _, PySem.W.mg_of X G a_check_signal, fun_mk (st := s_check_signal) l_check_signal c_check_signal k_check_signal, (fun_mk (st := s_check_signal) l_check_signal c_check_signal k_check_signal).binds bi_check_signal⟩
    at_check_signal_set := ⟨_, _, PySem.W.mg_of X G a_check_signal_set, fun_mk (st := s_check_signal_set) l_check_signal_set c_check_signal_set k_check_signal_set, (fun_mk (st := s_check_signal_set) l_check_signal_set c_check_signal_set k_check_signal_set).binds bi_check_signal_set⟩
    at_check_mapping := ⟨_, _, PySem.W.mg_of X G a_check_mapping, fun_mk (st := s_check_mapping) l_check_mapping c_check_mapping k_check_mapping, (fun_mk (st := s_check_mapping) l_check_mapping c_check_mapping k_check_mapping).binds bi_check_mapping⟩
    at_check_weights := ⟨_, _, PySem.W.mg_of X G a_check_weights, fun_mk (st := s_check_weights) l_check_weights c_check_weights k_check_weights, (fun_mk (st := s_check_weights) l_check_weights c_check_weights k_check_weights).binds bi_check_weights⟩
    at_check_prior := ⟨_, _, PySem.W.mg_of X G a_check_prior, fun_mk (st := s_check_prior) l_check_prior c_check_prior k_check_prior, (fun_mk (st := s_check_prior) l_check_prior c_check_prior k_check_prior).binds bi_check_prior⟩
    at_check_amounts := ⟨_, _, PySem.W.mg_of X G a_check_amounts, fun_mk (st := s_check_amounts) l_check_amounts c_check_amounts k_check_amounts, (fun_mk (st := s_check_amounts) l_check_amounts c_check_amounts k_check_amounts).binds bi_check_amounts⟩
    at_Setting_init := ⟨_, _, PySem.W.mg_of X G a_Setting, ⟨mk_Setting, a_Setting_init, i_Setting_init, kc_Setting⟩, fun_mk (st := s_Setting_init) l_Setting_init c_Setting_init k_Setting_init, (fun_mk (st := s_Setting_init) l_Setting_init c_Setting_init k_Setting_init).binds bi_Setting_init⟩
    at_Setting_duplicate := ⟨_, _, ⟨a_Setting_duplicate, i_Setting_duplicate, k_Setting_duplicate⟩, fun_mk (st := s_Setting_duplicate) l_Setting_duplicate c_Setting_duplicate k_Setting_duplicate, (fun_mk (st := s_Setting_duplicate) l_Setting_duplicate c_Setting_duplicate k_Setting_duplicate).binds bi_Setting_duplicate⟩
    at_Setting_merge := ⟨_, _, ⟨a_Setting_merge, i_Setting_merge, k_Setting_merge⟩, fun_mk (st := s_Setting_merge) l_Setting_merge c_Setting_merge k_Setting_merge, (fun_mk (st := s_Setting_merge) l_Setting_merge c_Setting_merge k_Setting_merge).binds bi_Setting_merge⟩
    at_merged_weights := ⟨_, _, PySem.W.mg_of X G a_merged_weights, fun_mk (st := s_merged_weights) l_merged_weights c_merged_weights k_merged_weights, (fun_mk (st := s_merged_weights) l_merged_weights c_merged_weights k_merged_weights).binds bi_merged_weights⟩
    at_with_prior := ⟨_, _, PySem.W.mg_of X G a_with_prior, fun_mk (st := s_with_prior) l_with_prior c_with_prior k_with_prior, (fun_mk (st := s_with_prior) l_with_prior c_with_prior k_with_prior).binds bi_with_prior⟩
    at_with_stakes := ⟨_, _, PySem.W.mg_of X G a_with_stakes, fun_mk (st := s_with_stakes) l_with_stakes c_with_stakes k_with_stakes, (fun_mk (st := s_with_stakes) l_with_stakes c_with_stakes k_with_stakes).binds bi_with_stakes⟩
    at_with_merge := ⟨_, _, PySem.W.mg_of X G a_with_merge, fun_mk (st := s_with_merge) l_with_merge c_with_merge k_with_merge, (fun_mk (st := s_with_merge) l_with_merge c_with_merge k_with_merge).binds bi_with_merge⟩
    at_cost_of := ⟨_, _, PySem.W.mg_of X G a_cost_of, fun_mk (st := s_cost_of) l_cost_of c_cost_of k_cost_of, (fun_mk (st := s_cost_of) l_cost_of c_cost_of k_cost_of).binds bi_cost_of⟩
    at_prior_against := ⟨_, _, PySem.W.mg_of X G a_prior_against, fun_mk (st := s_prior_against) l_prior_against c_prior_against k_prior_against, (fun_mk (st := s_prior_against) l_prior_against c_prior_against k_prior_against).binds bi_prior_against⟩
    at_prior_against_all := ⟨_, _, PySem.W.mg_of X G a_prior_against_all, fun_mk (st := s_prior_against_all) l_prior_against_all c_prior_against_all k_prior_against_all, (fun_mk (st := s_prior_against_all) l_prior_against_all c_prior_against_all k_prior_against_all).binds bi_prior_against_all⟩
    at_priors_to_compare := ⟨_, _, PySem.W.mg_of X G a_priors_to_compare, fun_mk (st := s_priors_to_compare) l_priors_to_compare c_priors_to_compare k_priors_to_compare, (fun_mk (st := s_priors_to_compare) l_priors_to_compare c_priors_to_compare k_priors_to_compare).binds bi_priors_to_compare⟩
    at_cheapest_with_cost := ⟨_, _, PySem.W.mg_of X G a_cheapest_with_cost, fun_mk (st := s_cheapest_with_cost) l_cheapest_with_cost c_cheapest_with_cost k_cheapest_with_cost, (fun_mk (st := s_cheapest_with_cost) l_cheapest_with_cost c_cheapest_with_cost k_cheapest_with_cost).binds bi_cheapest_with_cost⟩
    at_create := ⟨_, _, PySem.W.mg_of X G a_create, fun_mk (st := s_create) l_create c_create k_create, (fun_mk (st := s_create) l_create c_create k_create).binds bi_create⟩
    at_set_test_weights := ⟨_, _, PySem.W.mg_of X G a_set_test_weights, fun_mk (st := s_set_test_weights) l_set_test_weights c_set_test_weights k_set_test_weights, (fun_mk (st := s_set_test_weights) l_set_test_weights c_set_test_weights k_set_test_weights).binds bi_set_test_weights⟩
    at_set_production_weights := ⟨_, _, PySem.W.mg_of X G a_set_production_weights, fun_mk (st := s_set_production_weights) l_set_production_weights c_set_production_weights k_set_production_weights, (fun_mk (st := s_set_production_weights) l_set_production_weights c_set_production_weights k_set_production_weights).binds bi_set_production_weights⟩
    at_set_prior := ⟨_, _, PySem.W.mg_of X G a_set_prior, fun_mk (st := s_set_prior) l_set_prior c_set_prior k_set_prior, (fun_mk (st := s_set_prior) l_set_prior c_set_prior k_set_prior).binds bi_set_prior⟩
    at_set_stakes := ⟨_, _, PySem.W.mg_of X G a_set_stakes, fun_mk (st := s_set_stakes) l_set_stakes c_set_stakes k_set_stakes, (fun_mk (st := s_set_stakes) l_set_stakes c_set_stakes k_set_stakes).binds bi_set_stakes⟩
    at_set_prices := ⟨_, _, PySem.W.mg_of X G a_set_prices, fun_mk (st := s_set_prices) l_set_prices c_set_prices k_set_prices, (fun_mk (st := s_set_prices) l_set_prices c_set_prices k_set_prices).binds bi_set_prices⟩
    at_cheating_value := ⟨_, _, PySem.W.mg_of X G a_cheating_value, fun_mk (st := s_cheating_value) l_cheating_value c_cheating_value k_cheating_value, (fun_mk (st := s_cheating_value) l_cheating_value c_cheating_value k_cheating_value).binds bi_cheating_value⟩
    at_counted_signals := ⟨_, _, PySem.W.mg_of X G a_counted_signals, fun_mk (st := s_counted_signals) l_counted_signals c_counted_signals k_counted_signals, (fun_mk (st := s_counted_signals) l_counted_signals c_counted_signals k_counted_signals).binds bi_counted_signals⟩
    at_cheating_signals := ⟨_, _, PySem.W.mg_of X G a_cheating_signals, fun_mk (st := s_cheating_signals) l_cheating_signals c_cheating_signals k_cheating_signals, (fun_mk (st := s_cheating_signals) l_cheating_signals c_cheating_signals k_cheating_signals).binds bi_cheating_signals⟩
    at_expected_profit := ⟨_, _, PySem.W.mg_of X G a_expected_profit, fun_mk (st := s_expected_profit) l_expected_profit c_expected_profit k_expected_profit, (fun_mk (st := s_expected_profit) l_expected_profit c_expected_profit k_expected_profit).binds bi_expected_profit⟩
    at_expected_profit_of := ⟨_, _, PySem.W.mg_of X G a_expected_profit_of, fun_mk (st := s_expected_profit_of) l_expected_profit_of c_expected_profit_of k_expected_profit_of, (fun_mk (st := s_expected_profit_of) l_expected_profit_of c_expected_profit_of k_expected_profit_of).binds bi_expected_profit_of⟩
    at_detection_probability := ⟨_, _, PySem.W.mg_of X G a_detection_probability, fun_mk (st := s_detection_probability) l_detection_probability c_detection_probability k_detection_probability, (fun_mk (st := s_detection_probability) l_detection_probability c_detection_probability k_detection_probability).binds bi_detection_probability⟩
    at_harm_probability := ⟨_, _, PySem.W.mg_of X G a_harm_probability, fun_mk (st := s_harm_probability) l_harm_probability c_harm_probability k_harm_probability, (fun_mk (st := s_harm_probability) l_harm_probability c_harm_probability k_harm_probability).binds bi_harm_probability⟩
    at_total_cost := ⟨_, _, PySem.W.mg_of X G a_total_cost, fun_mk (st := s_total_cost) l_total_cost c_total_cost k_total_cost, (fun_mk (st := s_total_cost) l_total_cost c_total_cost k_total_cost).binds bi_total_cost⟩
    at_existing := ⟨_, _, PySem.W.mg_of X G a_existing, fun_mk (st := s_existing) l_existing c_existing k_existing, (fun_mk (st := s_existing) l_existing c_existing k_existing).binds bi_existing⟩
    at_deterrent_prior_at := ⟨_, _, PySem.W.mg_of X G a_deterrent_prior_at, fun_mk (st := s_deterrent_prior_at) l_deterrent_prior_at c_deterrent_prior_at k_deterrent_prior_at, (fun_mk (st := s_deterrent_prior_at) l_deterrent_prior_at c_deterrent_prior_at k_deterrent_prior_at).binds bi_deterrent_prior_at⟩
    at_deterrent_prior := ⟨_, _, PySem.W.mg_of X G a_deterrent_prior, fun_mk (st := s_deterrent_prior) l_deterrent_prior c_deterrent_prior k_deterrent_prior, (fun_mk (st := s_deterrent_prior) l_deterrent_prior c_deterrent_prior k_deterrent_prior).binds bi_deterrent_prior⟩
    at_preview_merge := ⟨_, _, PySem.W.mg_of X G a_preview_merge, fun_mk (st := s_preview_merge) l_preview_merge c_preview_merge k_preview_merge, (fun_mk (st := s_preview_merge) l_preview_merge c_preview_merge k_preview_merge).binds bi_preview_merge⟩
    at_merge_signals := ⟨_, _, PySem.W.mg_of X G a_merge_signals, fun_mk (st := s_merge_signals) l_merge_signals c_merge_signals k_merge_signals, (fun_mk (st := s_merge_signals) l_merge_signals c_merge_signals k_merge_signals).binds bi_merge_signals⟩
    at_cheapest_prior := ⟨_, _, PySem.W.mg_of X G a_cheapest_prior, fun_mk (st := s_cheapest_prior) l_cheapest_prior c_cheapest_prior k_cheapest_prior, (fun_mk (st := s_cheapest_prior) l_cheapest_prior c_cheapest_prior k_cheapest_prior).binds bi_cheapest_prior⟩
    at_cheating_signals_for_prior := ⟨_, _, PySem.W.mg_of X G a_cheating_signals_for_prior, fun_mk (st := s_cheating_signals_for_prior) l_cheating_signals_for_prior c_cheating_signals_for_prior k_cheating_signals_for_prior, (fun_mk (st := s_cheating_signals_for_prior) l_cheating_signals_for_prior c_cheating_signals_for_prior k_cheating_signals_for_prior).binds bi_cheating_signals_for_prior⟩
    at_cheating_signals_for_stakes := ⟨_, _, PySem.W.mg_of X G a_cheating_signals_for_stakes, fun_mk (st := s_cheating_signals_for_stakes) l_cheating_signals_for_stakes c_cheating_signals_for_stakes k_cheating_signals_for_stakes, (fun_mk (st := s_cheating_signals_for_stakes) l_cheating_signals_for_stakes c_cheating_signals_for_stakes k_cheating_signals_for_stakes).binds bi_cheating_signals_for_stakes⟩
    at_get_settings := ⟨_, _, PySem.W.mg_of X G a_get_settings, fun_mk (st := s_get_settings) l_get_settings c_get_settings k_get_settings, (fun_mk (st := s_get_settings) l_get_settings c_get_settings k_get_settings).binds bi_get_settings⟩
    at_operate := ⟨_, _, PySem.W.mg_of X G a_operate, fun_mk (st := s_operate) l_operate c_operate k_operate, (fun_mk (st := s_operate) l_operate c_operate k_operate).binds bi_operate⟩
    at_Instance_init := ⟨_, _, PySem.W.mg_of X G a_Instance, ⟨mk_Instance, a_Instance_init, i_Instance_init, kc_Instance⟩, fun_mk (st := s_Instance_init) l_Instance_init c_Instance_init k_Instance_init, (fun_mk (st := s_Instance_init) l_Instance_init c_Instance_init k_Instance_init).binds bi_Instance_init⟩
    at_Instance_perform := ⟨_, _, ⟨a_Instance_perform, i_Instance_perform, k_Instance_perform⟩, fun_mk (st := s_Instance_perform) l_Instance_perform c_Instance_perform k_Instance_perform, (fun_mk (st := s_Instance_perform) l_Instance_perform c_Instance_perform k_Instance_perform).binds bi_Instance_perform⟩
    at_Instance_answer := ⟨_, _, ⟨a_Instance_answer, i_Instance_answer, k_Instance_answer⟩, fun_mk (st := s_Instance_answer) l_Instance_answer c_Instance_answer k_Instance_answer, (fun_mk (st := s_Instance_answer) l_Instance_answer c_Instance_answer k_Instance_answer).binds bi_Instance_answer⟩
    at_answers := ⟨_, _, PySem.W.mg_of X G a_answers, fun_mk (st := s_answers) l_answers c_answers k_answers, (fun_mk (st := s_answers) l_answers c_answers k_answers).binds bi_answers⟩
    dsp := ⟨fun k => match k with | 1 => f_set_test_weights | 2 => f_set_production_weights | 3 => f_set_prior | 4 => f_set_stakes | 5 => f_set_prices | 6 => f_cheating_value | 7 => f_cheating_signals | 8 => f_expected_profit | 9 => f_expected_profit_of | 10 => f_detection_probability | 11 => f_harm_probability | 12 => f_total_cost | 13 => f_deterrent_prior_at | 14 => f_deterrent_prior | 15 => f_preview_merge | 16 => f_merge_signals | 17 => f_cheapest_prior | 18 => f_cheating_signals_for_prior | 19 => f_cheating_signals_for_stakes | _ => f_get_settings, fun k h1 h2 => by
      refine ⟨_, _, _, l_OPERATIONS, ?_, ?_, rfl⟩
      · exact ⟨⟨_, _, rfl, rfl⟩, ⟨_, _, rfl, rfl⟩, ⟨_, _, rfl, rfl⟩, ⟨_, _, rfl, rfl⟩, ⟨_, _, rfl, rfl⟩, ⟨_, _, rfl, rfl⟩, ⟨_, _, rfl, rfl⟩, ⟨_, _, rfl, rfl⟩, ⟨_, _, rfl, rfl⟩, ⟨_, _, rfl, rfl⟩, ⟨_, _, rfl, rfl⟩, ⟨_, _, rfl, rfl⟩, ⟨_, _, rfl, rfl⟩, ⟨_, _, rfl, rfl⟩, ⟨_, _, rfl, rfl⟩, ⟨_, _, rfl, rfl⟩, ⟨_, _, rfl, rfl⟩, ⟨_, _, rfl, rfl⟩, ⟨_, _, rfl, rfl⟩, ⟨_, _, rfl, rfl⟩, trivial⟩
      · match k, h1, h2 with
        | 1, _, _ => rfl
        | 2, _, _ => rfl
        | 3, _, _ => rfl
        | 4, _, _ => rfl
        | 5, _, _ => rfl
        | 6, _, _ => rfl
        | 7, _, _ => rfl
        | 8, _, _ => rfl
        | 9, _, _ => rfl
        | 10, _, _ => rfl
        | 11, _, _ => rfl
        | 12, _, _ => rfl
        | 13, _, _ => rfl
        | 14, _, _ => rfl
        | 15, _, _ => rfl
        | 16, _, _ => rfl
        | 17, _, _ => rfl
        | 18, _, _ => rfl
        | 19, _, _ => rfl
        | 20, _, _ => rfl
        | n + 21, _, h => exact absurd h (by omega)
      , PySem.W.mg_of X G a_set_test_weights, PySem.W.mg_of X G a_set_production_weights, PySem.W.mg_of X G a_set_prior, PySem.W.mg_of X G a_set_stakes, PySem.W.mg_of X G a_set_prices, PySem.W.mg_of X G a_cheating_value, PySem.W.mg_of X G a_cheating_signals, PySem.W.mg_of X G a_expected_profit, PySem.W.mg_of X G a_expected_profit_of, PySem.W.mg_of X G a_detection_probability, PySem.W.mg_of X G a_harm_probability, PySem.W.mg_of X G a_total_cost, PySem.W.mg_of X G a_deterrent_prior_at, PySem.W.mg_of X G a_deterrent_prior, PySem.W.mg_of X G a_preview_merge, PySem.W.mg_of X G a_merge_signals, PySem.W.mg_of X G a_cheapest_prior, PySem.W.mg_of X G a_cheating_signals_for_prior, PySem.W.mg_of X G a_cheating_signals_for_stakes, PySem.W.mg_of X G a_get_settings⟩
  }
  obtain rfl : f_answers = fa := by
    have q := (PySem.W.mg_of X G a_answers).symm.trans hfa
    cases q
    rfl
  have F := fun_mk (st := s_answers) l_answers c_answers k_answers
  refine ⟨⟨cSetting, cInstance, xNoSetting, xNoSuchSignal, xOutsideLimits, xNoDeterrentPrior, dOPERATIONS⟩, PySem.W.fnOf "answers" "answers" (defArgs s_answers) (defBody s_answers) (defScope s_answers) .none kV_answers dc_answers pm_answers an_answers cd_answers ct_answers, fun s us hu => .of_eq (bi_answers _ _ _ _ _ _ us hu), fun base _ _ => ?_⟩
  obtain ⟨h_Instance_init, h_Instance_answer⟩ := chain (P := P) (w := w) (base := base) T tp
  exact ok_answers T h_Instance_init h_Instance_answer F
end Dt

set_option Elab.async false
set_option linter.all false
set_option maxRecDepth 100000
set_option maxHeartbeats 4000000
namespace Dt
open PySem PySem.Spec PyProof.Rows L2 Evl
def spEnd (K : PySem.W.Frag) : Sp := fun vs H Q _ => ∃ a cs, vs = [.ref a] ∧ SqL K H a (nats (flat cs)) ∧ cs.length ≤ 60 ∧ (∀ c ∈ cs, CallOk c) ∧ ∀ H' l, H' l = some (.lst ((rpl none cs).map V.int)) → Q (.ref l) H'
theorem end_of {K : PySem.W.Frag} {H : Hp} {a : Addr} {l : List Int} (hask : PyKp416.answers_asked l = true) (hs : SqL K H a (l.map V.int)) :
    spEnd K [.ref a] H (fun v H' => Dw K H' v (PySem.Challenge.fr_deterrence_s01_answers.enc (PyKp416.answers l))) fun _ _ _ => False := by
  obtain ⟨ds, e, h60, hall, hans⟩ := asked_is hask
  refine ⟨a, ds, rfl, by rw [nats_eq, ← e]; exact hs, h60, fun c hc => callOk_of (hall c hc), fun H' p hp => ?_⟩
  have q : ∀ x : List Int, x = rpl none ds → Dw K H' (V.ref p) (PySem.Challenge.fr_deterrence_s01_answers.enc x) := fun x hx => by
    subst hx
    exact .lst (L2.SqL.of hp) (L2.dw_ints _)
  exact q _ (hans.trans (told_is spec_step ds none (fun s e => by cases e) hall))
end Dt
open PySem PySem.W PyProof.Rows
set_option maxRecDepth 100000 in
set_option maxHeartbeats 8000000 in
theorem PySem.Challenge.cw_deterrence_s01_answers_holds : PySem.Challenge.rw_deterrence_s01_answers.Holds := by
  w_on; k_headS; (case hw => exact ⟨[.list [.int 7, .int 0, .int 0]], by decide +kernel, by decide +kernel⟩)
  k_fillS
  refine L2.walk_specK (r := PySem.Challenge.rw_deterrence_s01_answers) (k := 10) (CX := L2.CX0) (ps := ["calls"]) (sp := Dt.spEnd) (by decide +kernel) rfl rfl ⟨rfl, by decide, by decide⟩ (fun w h Y => PySem.W.kIn_of Y) ?F ?S (fun _ _ _ _ z => z)
  case F =>
    intro w mg fa h Y KX G hmg
    suffices q : ∃ A : Dt.AdT, ∃ fd : FuncData, (∀ (s : Shared) (us : List Value), us.length = (["calls"] : List Str).length → BindsTo s fd ⟨us, []⟩ ((["calls"] : List Str).zip us)) ∧ ∀ base : Heap, _ → base.Ns mainGlobals mg → L2.FnOk _ w _ mg base L2.CX0 10 fa fd ["calls"] (Dt.sp_answers _ A) by
      obtain ⟨A, fd, h1, h2⟩ := q
      exact ⟨fd, h1, fun base a b => (h2 base a b).imp fun _ _ _ _ h => h⟩
    refine' Dt.all_mk KX G hmg ?a_Setting ?a_Instance ?a_NoSetting ?a_NoSuchSignal ?a_OutsideLimits ?a_NoDeterrentPrior ?a_common_divisor ?l_common_divisor ?c_common_divisor ?k_common_divisor ?a_lowest_terms ?l_lowest_terms ?c_lowest_terms ?k_lowest_terms ?a_is_less ?l_is_less ?c_is_less ?k_is_less ?a_value_denominator ?l_value_denominator ?c_value_denominator ?k_value_denominator ?a_value_numerator ?l_value_numerator ?c_value_numerator ?k_value_numerator ?a_paying_signals ?l_paying_signals ?c_paying_signals ?k_paying_signals ?a_profit_at ?l_profit_at ?c_profit_at ?k_profit_at ?a_joint_test_at ?l_joint_test_at ?c_joint_test_at ?k_joint_test_at ?a_joint_production_at ?l_joint_production_at ?c_joint_production_at ?k_joint_production_at ?a_check_signal_count ?l_check_signal_count ?c_check_signal_count ?k_check_signal_count ?a_check_signal ?l_check_signal ?c_check_signal ?k_check_signal ?a_check_signal_set ?l_check_signal_set ?c_check_signal_set ?k_check_signal_set ?a_check_mapping ?l_check_mapping ?c_check_mapping ?k_check_mapping ?a_check_weights ?l_check_weights ?c_check_weights ?k_check_weights ?a_check_prior ?l_check_prior ?c_check_prior ?k_check_prior ?a_check_amounts ?l_check_amounts ?c_check_amounts ?k_check_amounts ?a_Setting_init ?i_Setting_init ?l_Setting_init ?c_Setting_init ?k_Setting_init ?a_Setting_duplicate ?i_Setting_duplicate ?l_Setting_duplicate ?c_Setting_duplicate ?k_Setting_duplicate ?a_Setting_merge ?i_Setting_merge ?l_Setting_merge ?c_Setting_merge ?k_Setting_merge ?a_merged_weights ?l_merged_weights ?c_merged_weights ?k_merged_weights ?a_with_prior ?l_with_prior ?c_with_prior ?k_with_prior ?a_with_stakes ?l_with_stakes ?c_with_stakes ?k_with_stakes ?a_with_merge ?l_with_merge ?c_with_merge ?k_with_merge ?a_cost_of ?l_cost_of ?c_cost_of ?k_cost_of ?a_prior_against ?l_prior_against ?c_prior_against ?k_prior_against ?a_prior_against_all ?l_prior_against_all ?c_prior_against_all ?k_prior_against_all ?a_priors_to_compare ?l_priors_to_compare ?c_priors_to_compare ?k_priors_to_compare ?a_cheapest_with_cost ?l_cheapest_with_cost ?c_cheapest_with_cost ?k_cheapest_with_cost ?a_create ?l_create ?c_create ?k_create ?a_set_test_weights ?l_set_test_weights ?c_set_test_weights ?k_set_test_weights ?a_set_production_weights ?l_set_production_weights ?c_set_production_weights ?k_set_production_weights ?a_set_prior ?l_set_prior ?c_set_prior ?k_set_prior ?a_set_stakes ?l_set_stakes ?c_set_stakes ?k_set_stakes ?a_set_prices ?l_set_prices ?c_set_prices ?k_set_prices ?a_cheating_value ?l_cheating_value ?c_cheating_value ?k_cheating_value ?a_counted_signals ?l_counted_signals ?c_counted_signals ?k_counted_signals ?a_cheating_signals ?l_cheating_signals ?c_cheating_signals ?k_cheating_signals ?a_expected_profit ?l_expected_profit ?c_expected_profit ?k_expected_profit ?a_expected_profit_of ?l_expected_profit_of ?c_expected_profit_of ?k_expected_profit_of ?a_detection_probability ?l_detection_probability ?c_detection_probability ?k_detection_probability ?a_harm_probability ?l_harm_probability ?c_harm_probability ?k_harm_probability ?a_total_cost ?l_total_cost ?c_total_cost ?k_total_cost ?a_existing ?l_existing ?c_existing ?k_existing ?a_deterrent_prior_at ?l_deterrent_prior_at ?c_deterrent_prior_at ?k_deterrent_prior_at ?a_deterrent_prior ?l_deterrent_prior ?c_deterrent_prior ?k_deterrent_prior ?a_preview_merge ?l_preview_merge ?c_preview_merge ?k_preview_merge ?a_merge_signals ?l_merge_signals ?c_merge_signals ?k_merge_signals ?a_cheapest_prior ?l_cheapest_prior ?c_cheapest_prior ?k_cheapest_prior ?a_cheating_signals_for_prior ?l_cheating_signals_for_prior ?c_cheating_signals_for_prior ?k_cheating_signals_for_prior ?a_cheating_signals_for_stakes ?l_cheating_signals_for_stakes ?c_cheating_signals_for_stakes ?k_cheating_signals_for_stakes ?a_get_settings ?l_get_settings ?c_get_settings ?k_get_settings ?a_operate ?l_operate ?c_operate ?k_operate ?a_Instance_init ?i_Instance_init ?l_Instance_init ?c_Instance_init ?k_Instance_init ?a_Instance_perform ?i_Instance_perform ?l_Instance_perform ?c_Instance_perform ?k_Instance_perform ?a_Instance_answer ?i_Instance_answer ?l_Instance_answer ?c_Instance_answer ?k_Instance_answer ?a_answers ?l_answers ?c_answers ?k_answers ?pg_Setting ?hd_Setting ?po_Setting ?sa_Setting ?mk_Setting ?kc_Setting ?n_Setting_signal_count ?n_Setting_test_weights ?n_Setting_production_weights ?n_Setting_prior_num ?n_Setting_prior_den ?n_Setting_gain ?n_Setting_loss ?n_Setting_harm_price ?n_Setting_test_price ?pg_Instance ?hd_Instance ?po_Instance ?sa_Instance ?mk_Instance ?kc_Instance ?n_Instance_setting ?x_NoSetting ?k_NoSetting ?b_NoSetting ?t_NoSetting ?i_NoSetting ?x_NoSuchSignal ?k_NoSuchSignal ?b_NoSuchSignal ?t_NoSuchSignal ?i_NoSuchSignal ?x_OutsideLimits ?k_OutsideLimits ?b_OutsideLimits ?t_OutsideLimits ?i_OutsideLimits ?x_NoDeterrentPrior ?k_NoDeterrentPrior ?b_NoDeterrentPrior ?t_NoDeterrentPrior ?i_NoDeterrentPrior ?s_NoSetting_NoSetting ?s_NoSetting_NoSuchSignal ?s_NoSetting_OutsideLimits ?s_NoSetting_NoDeterrentPrior ?s_NoSuchSignal_NoSetting ?s_NoSuchSignal_NoSuchSignal ?s_NoSuchSignal_OutsideLimits ?s_NoSuchSignal_NoDeterrentPrior ?s_OutsideLimits_NoSetting ?s_OutsideLimits_NoSuchSignal ?s_OutsideLimits_OutsideLimits ?s_OutsideLimits_NoDeterrentPrior ?s_NoDeterrentPrior_NoSetting ?s_NoDeterrentPrior_NoSuchSignal ?s_NoDeterrentPrior_OutsideLimits ?s_NoDeterrentPrior_NoDeterrentPrior ?bi_sum ?bi_enumerate ?bi_range ?bi_list ?bi_abs ?bi_len ?bi_max ?co_MOST_SIGNALS ?co_LARGEST_WEIGHT ?co_LARGEST_PRIOR_DEN ?co_LARGEST_AMOUNT ?a_OPERATIONS ?l_OPERATIONS
    (case a_Setting => k_is)
    (case a_Instance => k_is)
    (case a_NoSetting => k_is)
    (case a_NoSuchSignal => k_is)
    (case a_OutsideLimits => k_is)
    (case a_NoDeterrentPrior => k_is)
    (case a_common_divisor => k_is)
    (case l_common_divisor => k_is)
    (case c_common_divisor => k_is)
    (case k_common_divisor => k_is)
    (case a_lowest_terms => k_is)
    (case l_lowest_terms => k_is)
    (case c_lowest_terms => k_is)
    (case k_lowest_terms => k_is)
    (case a_is_less => k_is)
    (case l_is_less => k_is)
    (case c_is_less => k_is)
    (case k_is_less => k_is)
    (case a_value_denominator => k_is)
    (case l_value_denominator => k_is)
    (case c_value_denominator => k_is)
    (case k_value_denominator => k_is)
    (case a_value_numerator => k_is)
    (case l_value_numerator => k_is)
    (case c_value_numerator => k_is)
    (case k_value_numerator => k_is)
    (case a_paying_signals => k_is)
    (case l_paying_signals => k_is)
    (case c_paying_signals => k_is)
    (case k_paying_signals => k_is)
    (case a_profit_at => k_is)
    (case l_profit_at => k_is)
    (case c_profit_at => k_is)
    (case k_profit_at => k_is)
    (case a_joint_test_at => k_is)
    (case l_joint_test_at => k_is)
    (case c_joint_test_at => k_is)
    (case k_joint_test_at => k_is)
    (case a_joint_production_at => k_is)
    (case l_joint_production_at => k_is)
    (case c_joint_production_at => k_is)
    (case k_joint_production_at => k_is)
    (case a_check_signal_count => k_is)
    (case l_check_signal_count => k_is)
    (case c_check_signal_count => k_is)
    (case k_check_signal_count => k_is)
    (case a_check_signal => k_is)
    (case l_check_signal => k_is)
    (case c_check_signal => k_is)
    (case k_check_signal => k_is)
    (case a_check_signal_set => k_is)
    (case l_check_signal_set => k_is)
    (case c_check_signal_set => k_is)
    (case k_check_signal_set => k_is)
    (case a_check_mapping => k_is)
    (case l_check_mapping => k_is)
    (case c_check_mapping => k_is)
    (case k_check_mapping => k_is)
    (case a_check_weights => k_is)
    (case l_check_weights => k_is)
    (case c_check_weights => k_is)
    (case k_check_weights => k_is)
    (case a_check_prior => k_is)
    (case l_check_prior => k_is)
    (case c_check_prior => k_is)
    (case k_check_prior => k_is)
    (case a_check_amounts => k_is)
    (case l_check_amounts => k_is)
    (case c_check_amounts => k_is)
    (case k_check_amounts => k_is)
    (case a_Setting_init => k_is)
    (case i_Setting_init => k_is)
    (case l_Setting_init => k_is)
    (case c_Setting_init => k_is)
    (case k_Setting_init => k_is)
    (case a_Setting_duplicate => k_is)
    (case i_Setting_duplicate => k_is)
    (case l_Setting_duplicate => k_is)
    (case c_Setting_duplicate => k_is)
    (case k_Setting_duplicate => k_is)
    (case a_Setting_merge => k_is)
    (case i_Setting_merge => k_is)
    (case l_Setting_merge => k_is)
    (case c_Setting_merge => k_is)
    (case k_Setting_merge => k_is)
    (case a_merged_weights => k_is)
    (case l_merged_weights => k_is)
    (case c_merged_weights => k_is)
    (case k_merged_weights => k_is)
    (case a_with_prior => k_is)
    (case l_with_prior => k_is)
    (case c_with_prior => k_is)
    (case k_with_prior => k_is)
    (case a_with_stakes => k_is)
    (case l_with_stakes => k_is)
    (case c_with_stakes => k_is)
    (case k_with_stakes => k_is)
    (case a_with_merge => k_is)
    (case l_with_merge => k_is)
    (case c_with_merge => k_is)
    (case k_with_merge => k_is)
    (case a_cost_of => k_is)
    (case l_cost_of => k_is)
    (case c_cost_of => k_is)
    (case k_cost_of => k_is)
    (case a_prior_against => k_is)
    (case l_prior_against => k_is)
    (case c_prior_against => k_is)
    (case k_prior_against => k_is)
    (case a_prior_against_all => k_is)
    (case l_prior_against_all => k_is)
    (case c_prior_against_all => k_is)
    (case k_prior_against_all => k_is)
    (case a_priors_to_compare => k_is)
    (case l_priors_to_compare => k_is)
    (case c_priors_to_compare => k_is)
    (case k_priors_to_compare => k_is)
    (case a_cheapest_with_cost => k_is)
    (case l_cheapest_with_cost => k_is)
    (case c_cheapest_with_cost => k_is)
    (case k_cheapest_with_cost => k_is)
    (case a_create => k_is)
    (case l_create => k_is)
    (case c_create => k_is)
    (case k_create => k_is)
    (case a_set_test_weights => k_is)
    (case l_set_test_weights => k_is)
    (case c_set_test_weights => k_is)
    (case k_set_test_weights => k_is)
    (case a_set_production_weights => k_is)
    (case l_set_production_weights => k_is)
    (case c_set_production_weights => k_is)
    (case k_set_production_weights => k_is)
    (case a_set_prior => k_is)
    (case l_set_prior => k_is)
    (case c_set_prior => k_is)
    (case k_set_prior => k_is)
    (case a_set_stakes => k_is)
    (case l_set_stakes => k_is)
    (case c_set_stakes => k_is)
    (case k_set_stakes => k_is)
    (case a_set_prices => k_is)
    (case l_set_prices => k_is)
    (case c_set_prices => k_is)
    (case k_set_prices => k_is)
    (case a_cheating_value => k_is)
    (case l_cheating_value => k_is)
    (case c_cheating_value => k_is)
    (case k_cheating_value => k_is)
    (case a_counted_signals => k_is)
    (case l_counted_signals => k_is)
    (case c_counted_signals => k_is)
    (case k_counted_signals => k_is)
    (case a_cheating_signals => k_is)
    (case l_cheating_signals => k_is)
    (case c_cheating_signals => k_is)
    (case k_cheating_signals => k_is)
    (case a_expected_profit => k_is)
    (case l_expected_profit => k_is)
    (case c_expected_profit => k_is)
    (case k_expected_profit => k_is)
    (case a_expected_profit_of => k_is)
    (case l_expected_profit_of => k_is)
    (case c_expected_profit_of => k_is)
    (case k_expected_profit_of => k_is)
    (case a_detection_probability => k_is)
    (case l_detection_probability => k_is)
    (case c_detection_probability => k_is)
    (case k_detection_probability => k_is)
    (case a_harm_probability => k_is)
    (case l_harm_probability => k_is)
    (case c_harm_probability => k_is)
    (case k_harm_probability => k_is)
    (case a_total_cost => k_is)
    (case l_total_cost => k_is)
    (case c_total_cost => k_is)
    (case k_total_cost => k_is)
    (case a_existing => k_is)
    (case l_existing => k_is)
    (case c_existing => k_is)
    (case k_existing => k_is)
    (case a_deterrent_prior_at => k_is)
    (case l_deterrent_prior_at => k_is)
    (case c_deterrent_prior_at => k_is)
    (case k_deterrent_prior_at => k_is)
    (case a_deterrent_prior => k_is)
    (case l_deterrent_prior => k_is)
    (case c_deterrent_prior => k_is)
    (case k_deterrent_prior => k_is)
    (case a_preview_merge => k_is)
    (case l_preview_merge => k_is)
    (case c_preview_merge => k_is)
    (case k_preview_merge => k_is)
    (case a_merge_signals => k_is)
    (case l_merge_signals => k_is)
    (case c_merge_signals => k_is)
    (case k_merge_signals => k_is)
    (case a_cheapest_prior => k_is)
    (case l_cheapest_prior => k_is)
    (case c_cheapest_prior => k_is)
    (case k_cheapest_prior => k_is)
    (case a_cheating_signals_for_prior => k_is)
    (case l_cheating_signals_for_prior => k_is)
    (case c_cheating_signals_for_prior => k_is)
    (case k_cheating_signals_for_prior => k_is)
    (case a_cheating_signals_for_stakes => k_is)
    (case l_cheating_signals_for_stakes => k_is)
    (case c_cheating_signals_for_stakes => k_is)
    (case k_cheating_signals_for_stakes => k_is)
    (case a_get_settings => k_is)
    (case l_get_settings => k_is)
    (case c_get_settings => k_is)
    (case k_get_settings => k_is)
    (case a_operate => k_is)
    (case l_operate => k_is)
    (case c_operate => k_is)
    (case k_operate => k_is)
    (case a_Instance_init => k_is)
    (case i_Instance_init => k_is)
    (case l_Instance_init => k_is)
    (case c_Instance_init => k_is)
    (case k_Instance_init => k_is)
    (case a_Instance_perform => k_is)
    (case i_Instance_perform => k_is)
    (case l_Instance_perform => k_is)
    (case c_Instance_perform => k_is)
    (case k_Instance_perform => k_is)
    (case a_Instance_answer => k_is)
    (case i_Instance_answer => k_is)
    (case l_Instance_answer => k_is)
    (case c_Instance_answer => k_is)
    (case k_Instance_answer => k_is)
    (case a_answers => k_is)
    (case l_answers => k_is)
    (case c_answers => k_is)
    (case k_answers => k_is)
    (case pg_Setting => k_is)
    (case hd_Setting => k_is)
    (case po_Setting => k_is)
    (case sa_Setting => k_is)
    (case mk_Setting => k_is)
    (case kc_Setting => k_is)
    (case n_Setting_signal_count => k_is)
    (case n_Setting_test_weights => k_is)
    (case n_Setting_production_weights => k_is)
    (case n_Setting_prior_num => k_is)
    (case n_Setting_prior_den => k_is)
    (case n_Setting_gain => k_is)
    (case n_Setting_loss => k_is)
    (case n_Setting_harm_price => k_is)
    (case n_Setting_test_price => k_is)
    (case pg_Instance => k_is)
    (case hd_Instance => k_is)
    (case po_Instance => k_is)
    (case sa_Instance => k_is)
    (case mk_Instance => k_is)
    (case kc_Instance => k_is)
    (case n_Instance_setting => k_is)
    (case x_NoSetting => k_exc)
    (case k_NoSetting => k_is)
    (case b_NoSetting => k_is)
    (case t_NoSetting => k_is)
    (case i_NoSetting => k_is)
    (case x_NoSuchSignal => k_exc)
    (case k_NoSuchSignal => k_is)
    (case b_NoSuchSignal => k_is)
    (case t_NoSuchSignal => k_is)
    (case i_NoSuchSignal => k_is)
    (case x_OutsideLimits => k_exc)
    (case k_OutsideLimits => k_is)
    (case b_OutsideLimits => k_is)
    (case t_OutsideLimits => k_is)
    (case i_OutsideLimits => k_is)
    (case x_NoDeterrentPrior => k_exc)
    (case k_NoDeterrentPrior => k_is)
    (case b_NoDeterrentPrior => k_is)
    (case t_NoDeterrentPrior => k_is)
    (case i_NoDeterrentPrior => k_is)
    (case s_NoSetting_NoSetting => k_is)
    (case s_NoSetting_NoSuchSignal => k_is)
    (case s_NoSetting_OutsideLimits => k_is)
    (case s_NoSetting_NoDeterrentPrior => k_is)
    (case s_NoSuchSignal_NoSetting => k_is)
    (case s_NoSuchSignal_NoSuchSignal => k_is)
    (case s_NoSuchSignal_OutsideLimits => k_is)
    (case s_NoSuchSignal_NoDeterrentPrior => k_is)
    (case s_OutsideLimits_NoSetting => k_is)
    (case s_OutsideLimits_NoSuchSignal => k_is)
    (case s_OutsideLimits_OutsideLimits => k_is)
    (case s_OutsideLimits_NoDeterrentPrior => k_is)
    (case s_NoDeterrentPrior_NoSetting => k_is)
    (case s_NoDeterrentPrior_NoSuchSignal => k_is)
    (case s_NoDeterrentPrior_OutsideLimits => k_is)
    (case s_NoDeterrentPrior_NoDeterrentPrior => k_is)
    (case bi_sum => k_is)
    (case bi_enumerate => k_is)
    (case bi_range => k_is)
    (case bi_list => k_is)
    (case bi_abs => k_is)
    (case bi_len => k_is)
    (case bi_max => k_is)
    (case co_MOST_SIGNALS => k_is)
    (case co_LARGEST_WEIGHT => k_is)
    (case co_LARGEST_PRIOR_DEN => k_is)
    (case co_LARGEST_AMOUNT => k_is)
    (case a_OPERATIONS => k_is)
    (case l_OPERATIONS => k_is)
  case S =>
    intro K H xs a hO hwi hask hx
    cases hx with
    | cons h1 h2 =>
      cases h2
      cases h1 with
      | lst hs ha =>
        have e := L2.ints_dw a.1 _ ha
        subst e
        exact Dt.end_of (hask : PyKp416.answers_asked a.1 = true) hs
#print axioms PySem.Challenge.cw_deterrence_s01_answers_holds
