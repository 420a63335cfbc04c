import PyProof.Rows.All
import Wide.All
import OpenK.AllK
import Wide.FinOn
import KE.KStateDown
import HandS.ForMost
import HandS.Evl
import HandS.Gcd
import HandS.Wide
import HandS.TupMul
import HandS.TupAny
import HandS.IsInst
import HandS.Zip
import HandS.Conv
import HandS.NoneIn
import HandS.SetFor
import HandS.Defaults
import HandS.Codes
import HandS.EndBits
import HandS.HeadEnd
import HandS.HeadHook1
import HandS.HeadHook2
import HandS.Head0
import HandS.Head1
import HandS.Head2
import KE.SortData
import HandS.Style
import HandS.Deep
import HandS.Star
import KE.GoesMore
import KE.GoesZip
import HandS.Head3
import HandS.Lambda
import HandS.ExcIs
import HandS.ExcField
import HandS.ExcInit
import HandS.WordsExc
import KE.KExcIs
import PyProof.ReprRoads
import HandS.Ends
import PyProof.ReprLen
import PyProof.FitsInt
import HandS.Iter
import PyProof.CallFns
import HandS.TupLe
import HandS.Comp
import HandS.HotCalls
import HandS.ExcCtx
import HandS.EndTab
import HandS.HeadHook4
import PySem.Challenge.RW_thinspans_k04_fractions_told
set_option Elab.async false
set_option linter.all false
set_option maxRecDepth 100000
/-! the mathematics of reduced pairs -/
namespace Fr
theorem gcd_pos {p q : Int} (h : q ≠ 0) : 0 < Nat.gcd p.natAbs q.natAbs := Nat.gcd_pos_of_pos_right _ (by omega)
def comm (p q : Int) : Int := if q < 0 then -((Nat.gcd p.natAbs q.natAbs : Nat) : Int) else ((Nat.gcd p.natAbs q.natAbs : Nat) : Int)
theorem comm_neg {p q : Int} (h : q < 0) : comm p q = -((Nat.gcd p.natAbs q.natAbs : Nat) : Int) := if_pos h
theorem comm_pos {p q : Int} (h : ¬ q < 0) : comm p q = ((Nat.gcd p.natAbs q.natAbs : Nat) : Int) := if_neg h
theorem gcd_eq (p q : Int) : Int.gcd q p = Nat.gcd p.natAbs q.natAbs := by unfold Int.gcd; exact Nat.gcd_comm _ _
theorem fdiv_neg_dvd {a b : Int} (hb : b ≠ 0) (h : b ∣ a) : a.fdiv (-b) = -(a / b) := by
  rw [Int.fdiv_neg hb, if_pos h, Int.fdiv_eq_ediv_of_dvd h]
theorem gdl (p q : Int) : ((Nat.gcd p.natAbs q.natAbs : Nat) : Int) ∣ p := Int.ofNat_dvd_left.mpr (Nat.gcd_dvd_left _ _)
theorem gdr (p q : Int) : ((Nat.gcd p.natAbs q.natAbs : Nat) : Int) ∣ q := Int.ofNat_dvd_left.mpr (Nat.gcd_dvd_right _ _)
theorem red_num {p q : Int} (h : q ≠ 0) : p.fdiv (comm p q) = (Rat.divInt p q).num := by
  have g := gcd_pos (p := p) h
  rw [Rat.num_divInt, gcd_eq]
  by_cases hq : q < 0
  · rw [comm_neg hq, Int.sign_eq_neg_one_of_neg hq, fdiv_neg_dvd (by omega) (gdl p q), show (-1 : Int) * p = -p by omega, Int.neg_ediv_of_dvd (gdl p q)]
  · rw [comm_pos hq, Int.sign_eq_one_of_pos (show 0 < q by omega), Int.one_mul, Int.fdiv_eq_ediv_of_nonneg _ (Int.natCast_nonneg _)]
theorem red_den {p q : Int} (h : q ≠ 0) : q.fdiv (comm p q) = ((Rat.divInt p q).den : Int) := by
  have g := gcd_pos (p := p) h
  rw [Rat.den_divInt, gcd_eq, if_neg h, Int.natCast_ediv]
  by_cases hq : q < 0
  · rw [comm_neg hq, fdiv_neg_dvd (by omega) (gdr p q), ← Int.neg_ediv_of_dvd (gdr p q)]
    congr 1
    omega
  · rw [comm_pos hq, Int.fdiv_eq_ediv_of_nonneg _ (Int.natCast_nonneg _)]
    congr 1
    omega
/-- bounded: both parts below 2 ^ n -/
def Bd (n : Nat) (r : Rat) : Prop := r.num.natAbs < 2 ^ n ∧ r.den < 2 ^ n
theorem Bd.mono {n m : Nat} {r : Rat} (h : Bd n r) (hm : n ≤ m) : Bd m r := ⟨Nat.lt_of_lt_of_le h.1 (Nat.pow_le_pow_right (by decide) hm), Nat.lt_of_lt_of_le h.2 (Nat.pow_le_pow_right (by decide) hm)⟩
theorem bd_div {p q : Int} {n : Nat} (h : q ≠ 0) (hp : p.natAbs < 2 ^ n) (hq : q.natAbs < 2 ^ n) : Bd n (Rat.divInt p q) := by
  have g := gcd_pos (p := p) h
  refine ⟨?_, ?_⟩
  · rw [Rat.num_divInt, gcd_eq]
    have e : (q.sign * p / ((Nat.gcd p.natAbs q.natAbs : Nat) : Int)).natAbs ≤ p.natAbs := by
      refine Nat.le_trans (Int.natAbs_ediv_le_natAbs _ _) ?_
      rw [Int.natAbs_mul, Int.natAbs_sign_of_ne_zero h, Nat.one_mul]
      exact Nat.le_refl _
    omega
  · rw [Rat.den_divInt, if_neg h]
    have e : q.natAbs / Int.gcd q p ≤ q.natAbs := Nat.div_le_self _ _
    omega
theorem nd_lt {a b n m : Nat} (h1 : a < 2 ^ n) (h2 : b < 2 ^ m) : a * b < 2 ^ (n + m) := by
  rw [Nat.pow_add]
  exact Nat.mul_lt_mul'' h1 h2
theorem im_lt {a b : Int} {n m : Nat} (h1 : a.natAbs < 2 ^ n) (h2 : b.natAbs < 2 ^ m) : (a * b).natAbs < 2 ^ (n + m) := by
  rw [Int.natAbs_mul]
  exact nd_lt h1 h2
theorem ia_lt {a b : Int} {n : Nat} (h1 : a.natAbs < 2 ^ n) (h2 : b.natAbs < 2 ^ n) : (a + b).natAbs < 2 ^ (n + 1) := by
  rw [Nat.pow_succ]
  omega
theorem is_lt {a b : Int} {n : Nat} (h1 : a.natAbs < 2 ^ n) (h2 : b.natAbs < 2 ^ n) : (a - b).natAbs < 2 ^ (n + 1) := by
  rw [Nat.pow_succ]
  omega
theorem lt_up {a n m : Nat} (h : a < 2 ^ n) (hm : n ≤ m) : a < 2 ^ m := Nat.lt_of_lt_of_le h (Nat.pow_le_pow_right (by decide) hm)
theorem den_ne (x : Rat) : (x.den : Int) ≠ 0 := by
  have := x.den_nz
  omega
theorem add_eq (x y : Rat) : Rat.divInt (x.num * y.den + y.num * x.den) (x.den * y.den) = x + y := by
  conv => rhs; rw [← Rat.num_divInt_den x, ← Rat.num_divInt_den y]
  rw [Rat.divInt_add_divInt _ _ (den_ne x) (den_ne y)]
theorem sub_eq (x y : Rat) : Rat.divInt (x.num * y.den - y.num * x.den) (x.den * y.den) = x - y := by
  conv => rhs; rw [← Rat.num_divInt_den x, ← Rat.num_divInt_den y]
  rw [Rat.divInt_sub_divInt _ _ (den_ne x) (den_ne y)]
theorem mul_eq (x y : Rat) : Rat.divInt (x.num * y.num) (x.den * y.den) = x * y := by
  conv => rhs; rw [← Rat.num_divInt_den x, ← Rat.num_divInt_den y]
  rw [Rat.divInt_mul_divInt]
theorem div_eq (x y : Rat) : Rat.divInt (x.num * y.den) (x.den * y.num) = x / y := by
  rw [Rat.div_def]
  conv => rhs; rw [← Rat.num_divInt_den x, ← Rat.num_divInt_den y, Rat.inv_divInt]
  rw [Rat.divInt_mul_divInt]
theorem num_ne {x : Rat} (h : x ≠ 0) : x.num ≠ 0 := fun e => h (Rat.num_eq_zero.mp e)
theorem bd_add {x y : Rat} {n m : Nat} (h1 : Bd n x) (h2 : Bd m y) : Bd (n + m + 1) (x + y) := by
  rw [← add_eq]
  have a1 : (x.den : Int).natAbs < 2 ^ n := h1.2
  have a2 : (y.den : Int).natAbs < 2 ^ m := h2.2
  have d := Int.mul_ne_zero (den_ne x) (den_ne y)
  refine bd_div d (ia_lt (im_lt h1.1 a2) ?_) (lt_up (im_lt a1 a2) (by omega))
  have := im_lt h2.1 a1
  rwa [Nat.add_comm m n] at this
theorem bd_sub {x y : Rat} {n m : Nat} (h1 : Bd n x) (h2 : Bd m y) : Bd (n + m + 1) (x - y) := by
  rw [← sub_eq]
  have a1 : (x.den : Int).natAbs < 2 ^ n := h1.2
  have a2 : (y.den : Int).natAbs < 2 ^ m := h2.2
  have d := Int.mul_ne_zero (den_ne x) (den_ne y)
  refine bd_div d (is_lt (im_lt h1.1 a2) ?_) (lt_up (im_lt a1 a2) (by omega))
  have := im_lt h2.1 a1
  rwa [Nat.add_comm m n] at this
theorem bd_mul {x y : Rat} {n m : Nat} (h1 : Bd n x) (h2 : Bd m y) : Bd (n + m) (x * y) := by
  rw [← mul_eq]
  have a1 : (x.den : Int).natAbs < 2 ^ n := h1.2
  have a2 : (y.den : Int).natAbs < 2 ^ m := h2.2
  exact bd_div (Int.mul_ne_zero (den_ne x) (den_ne y)) (im_lt h1.1 h2.1) (im_lt a1 a2)
theorem bd_quo {x y : Rat} {n m : Nat} (h1 : Bd n x) (h2 : Bd m y) (h : y ≠ 0) : Bd (n + m) (x / y) := by
  rw [← div_eq]
  have a1 : (x.den : Int).natAbs < 2 ^ n := h1.2
  have a2 : (y.den : Int).natAbs < 2 ^ m := h2.2
  exact bd_div (Int.mul_ne_zero (den_ne x) (num_ne h)) (im_lt h1.1 a2) (im_lt a1 h2.1)
theorem lt_eq (x y : Rat) : decide (x.num * y.den < y.num * x.den) = decide (x < y) := by
  rw [decide_eq_decide]
  exact (Rat.lt_iff x y).symm
theorem red_self {x : Rat} : Nat.gcd x.num.natAbs (x.den : Int).natAbs = 1 := by
  have := x.reduced
  exact this
theorem made_self (x : Rat) {c : Int} (h : c ≠ 0) : Rat.divInt (x.num * c) (x.den * c) = x := by
  rw [Rat.divInt_mul_right h, Rat.num_divInt_den]
theorem made_neg (x : Rat) : Rat.divInt (0 - x.num) (0 - x.den) = x := by
  rw [show (0 : Int) - x.num = -x.num by omega, show (0 : Int) - x.den = -x.den by omega, Rat.neg_divInt_neg, Rat.num_divInt_den]
theorem ext_iff {x y : Rat} : (x.num = y.num ∧ (x.den : Int) = y.den) ↔ x = y := ⟨fun h => Rat.ext h.1 (by have := h.2; omega), fun h => by rw [h]; exact ⟨rfl, rfl⟩⟩
end Fr
/-! general rules over the layer: what evaluates to a value of which something is known (EvP), reduced pairs as tuples (IsF), the draws' reader (RdAt) -/
namespace Fx
open PySem PySem.Spec PyProof.Rows L2 Evl
abbrev VP := V → Hp → Prop
def Mono (P : VP) : Prop := ∀ v H H', Ex H H' → P v H → P v H'
def EvP (te : TE) (σ : L2.St) (H : Hp) (P : VP) : Prop := ∀ H1, Ex H H1 → ∀ Q : VK, (∀ v H2, Ex H1 H2 → P v H2 → Q v H2) → te σ H1 Q
section
variable {te ta tb : TE} {σ : L2.St} {H : Hp} {P P' : VP} {v x y z : V}
theorem EvP.of (h : Ev te σ H v) : EvP te σ H (fun x _ => x = v) := fun H1 e Q q => h H1 e Q fun H2 e2 => q v H2 e2 rfl
theorem EvP.ofU {xs : List V} (h : EvU te σ H xs) : EvP te σ H (fun x H' => ∃ p, x = .ref p ∧ H' p = some (.tup xs)) := fun H1 e Q q => h H1 e Q fun p H2 _ e2 hp => q _ H2 e2 ⟨p, rfl, hp⟩
theorem EvP.mono {H' : Hp} (e : Ex H H') (h : EvP te σ H P) : EvP te σ H' P := fun H1 a Q q => h H1 (e.trans a) Q q
theorem EvP.imp (h : EvP te σ H P) (k : ∀ v H', Ex H H' → P v H' → P' v H') : EvP te σ H P' := fun H1 e Q q => h H1 e Q fun v H2 e2 p => q v H2 e2 (k v H2 (e.trans e2) p)
theorem ev_op2 {r : R2} (ha : EvP ta σ H P) (mP : Mono P) (hb : EvP tb σ H P') (hr : ∀ x y H1, Ex H H1 → P x H1 → P' y H1 → RV r x y H1 z) : Ev (tOp r ta tb) σ H z := fun H1 e Q q =>
  ha H1 e _ fun x H2 e2 p => hb H2 (e.trans e2) _ fun y H3 e3 p' => hr x y H3 (e.trans (e2.trans e3)) (mP _ _ _ e3 p) p' H3 (Ex.refl _) Q fun H4 e4 => q H4 (e2.trans (e3.trans e4))
theorem ev_op1 {r : R2} (ha : EvP ta σ H P) (hb : Ev tb σ H y) (mP : Mono P) (hr : ∀ x H1, Ex H H1 → P x H1 → RV r x y H1 z) : Ev (tOp r ta tb) σ H z :=
  ev_op2 ha mP (EvP.of hb) fun x y' H1 e p ey => by
    subst ey
    exact hr x H1 e p
end
/-! ### a tuple of two ints that is the reduced pair of a rational -/
def frO (r : Rat) : HO := .tup [.int r.num, .int (r.den : Int)]
def IsF (r : Rat) : VP := fun v H => ∃ p, v = .ref p ∧ H p = some (frO r)
theorem IsF.mono {r : Rat} : Mono (IsF r) := fun _ _ _ e ⟨p, h1, h2⟩ => ⟨p, h1, e p _ h2⟩
section
variable {te ta tb : TE} {σ : L2.St} {H : Hp} {K : PySem.W.Frag} {r r' : Rat} {p : Addr} {v x y z : V}
theorem IsF.sq (h : H p = some (frO r)) : SqT K H p [.int r.num, .int (r.den : Int)] := st_of h
theorem evF_var {i : Nat} (h : σ[i]? = some (some (.ref p))) (hp : H p = some (frO r)) : EvP (tVar i) σ H (IsF r) := fun H1 e Q q => ⟨.ref p, h, q _ H1 (Ex.refl _) ⟨p, rfl, e p _ hp⟩⟩
theorem evF_tup {n d : Int} (hn : r.num = n) (hd : (r.den : Int) = d) (ha : Ev ta σ H (.int n)) (hb : Ev tb σ H (.int d)) : EvP (tTup (tCons ta (tCons tb tNil))) σ H (IsF r) := by
  have h := EvP.ofU (eu_tup (ea_cons ha (ea_cons hb ea_nil)) (by show 2 ≤ 100000; decide))
  refine h.imp fun v H' _ ⟨p, h1, h2⟩ => ⟨p, h1, ?_⟩
  rw [h2, frO, hn, hd]
theorem ev_ix0 (h : EvP te σ H (IsF r)) : Ev (tOp (rIxT K) te (tC (.int 0))) σ H (.int r.num) := ev_op1 h ev_c IsF.mono fun x H1 _ ⟨p, e, hp⟩ => by
  subst e
  exact rv_ixT (IsF.sq hp) rfl
theorem ev_ix1 (h : EvP te σ H (IsF r)) : Ev (tOp (rIxT K) te (tC (.int 1))) σ H (.int (r.den : Int)) := ev_op1 h ev_c IsF.mono fun x H1 _ ⟨p, e, hp⟩ => by
  subst e
  exact rv_ixT (IsF.sq hp) rfl
theorem dpF (h : H p = some (frO r)) : Dp K H (.ref p) (.tuple [.int r.num, .int (r.den : Int)]) := .tup (IsF.sq h) (.cons (.int _) (.cons (.int _) .nil))
theorem eqvF (r r' : Rat) : PyData.eqv (.tuple [.int r.num, .int (r.den : Int)]) (.tuple [.int r'.num, .int (r'.den : Int)]) = decide (r = r') := by
  rw [PyData.eqv, PyData.eqvAll, PyData.eqvAll, PyData.eqvAll, PyData.eqv, PyData.eqv, Bool.and_true]
  by_cases e : r = r'
  · subst e
    simp
  · rw [decide_eq_false e]
    by_cases e1 : r.num = r'.num
    · have e2 : (r.den : Int) ≠ r'.den := fun e2 => e (Rat.ext e1 (by omega))
      simp [beq_eq_false_iff_ne.mpr e2]
    · simp [beq_eq_false_iff_ne.mpr e1]
theorem shF (r : Rat) : SeqAt.shaped (.tuple [.int r.num, .int (r.den : Int)]) = true := rfl
theorem ev_eqF (ha : EvP ta σ H (IsF r)) (hb : EvP tb σ H (IsF r')) : Ev (tOp (rEqD K) ta tb) σ H (.bl (decide (r = r'))) := ev_op2 ha IsF.mono hb fun x y H1 _ ⟨p, e, hp⟩ ⟨q, e', hq⟩ => by
  subst e e'
  refine fun H2 e2 Q k => ⟨_, _, dpF (e2 _ _ hp), dpF (e2 _ _ hq), shF r, shF r', ?_⟩
  rw [eqvF]
  exact k H2 (Ex.refl _)
theorem ev_neF (ha : EvP ta σ H (IsF r)) (hb : EvP tb σ H (IsF r')) : Ev (tOp (rNeD K) ta tb) σ H (.bl (!decide (r = r'))) := ev_op2 ha IsF.mono hb fun x y H1 _ ⟨p, e, hp⟩ ⟨q, e', hq⟩ => by
  subst e e'
  refine fun H2 e2 Q k => ⟨_, _, dpF (e2 _ _ hp), dpF (e2 _ _ hq), shF r, shF r', ?_⟩
  rw [eqvF]
  exact k H2 (Ex.refl _)
/-! ### a def of two pairs: to a pair; to a truth value -/
def spF2 (ok : Rat → Rat → Prop) (f : Rat → Rat → Rat) : Sp := fun vs H Q _ => ∃ (a b : Addr) (x y : Rat), vs = [.ref a, .ref b] ∧ H a = some (frO x) ∧ H b = some (frO y) ∧ ok x y ∧ ∀ H' p, Ex H H' → H' p = some (frO (f x y)) → Q (.ref p) H'
def spB2 (ok : Rat → Rat → Prop) (f : Rat → Rat → Bool) : Sp := fun vs H Q _ => ∃ (a b : Addr) (x y : Rat), vs = [.ref a, .ref b] ∧ H a = some (frO x) ∧ H b = some (frO y) ∧ ok x y ∧ Q (.bl (f x y)) H
def spI2F (ok : Int → Int → Prop) (f : Int → Int → Rat) : Sp := fun vs H Q _ => ∃ (i j : Int), vs = [.int i, .int j] ∧ ok i j ∧ ∀ H' p, Ex H H' → H' p = some (frO (f i j)) → Q (.ref p) H'
theorem evF_call {ok : Rat → Rat → Prop} {f : Rat → Rat → Rat} {E : XK} (ha : EvP ta σ H (IsF r)) (hb : EvP tb σ H (IsF r')) (hk : ok r r') : EvP (tCall (spF2 ok f) [] E (tCons ta (tCons tb tNil))) σ H (IsF (f r r')) := fun H1 e Q q =>
  ha H1 e _ fun x H2 e2 ⟨p, h1, h2⟩ => hb H2 (e.trans e2) _ fun y H3 e3 ⟨p', h1', h2'⟩ => by
    subst h1 h1'
    exact ⟨p, p', r, r', rfl, e3 _ _ h2, h2', hk, fun H4 z e4 hz => q _ H4 (e2.trans (e3.trans e4)) ⟨z, rfl, hz⟩⟩
theorem ev_callB {ok : Rat → Rat → Prop} {f : Rat → Rat → Bool} {E : XK} (ha : EvP ta σ H (IsF r)) (hb : EvP tb σ H (IsF r')) (hk : ok r r') : Ev (tCall (spB2 ok f) [] E (tCons ta (tCons tb tNil))) σ H (.bl (f r r')) := fun H1 e Q q =>
  ha H1 e _ fun x H2 e2 ⟨p, h1, h2⟩ => hb H2 (e.trans e2) _ fun y H3 e3 ⟨p', h1', h2'⟩ => by
    subst h1 h1'
    exact ⟨p, p', r, r', rfl, e3 _ _ h2, h2', hk, q H3 (e2.trans e3)⟩
theorem evF_callI {ok : Int → Int → Prop} {f : Int → Int → Rat} {E : XK} {i j : Int} (ha : Ev ta σ H (.int i)) (hb : Ev tb σ H (.int j)) (hk : ok i j) : EvP (tCall (spI2F ok f) [] E (tCons ta (tCons tb tNil))) σ H (IsF (f i j)) := fun H1 e Q q =>
  ha H1 e _ fun H2 e2 => hb H2 (e.trans e2) _ fun H3 e3 => ⟨i, j, rfl, hk, fun H4 z e4 hz => q _ H4 (e2.trans (e3.trans e4)) ⟨z, rfl, hz⟩⟩
theorem EvP.cast {s s' : Rat} (h : EvP te σ H (IsF s)) (e : s = s') : EvP te σ H (IsF s') := e ▸ h
end
/-! ### floor division by a great divisor of any sign -/
section
variable {X : Cx}
def CDivS (_ j : Int) : Prop := j ≠ 0 ∧ j.natAbs.log2 < 9000
theorem op_fdivWN : OpR X (binaryOp .FloorDiv) (rI CDivS fun i j => .int (i.fdiv j)) := opI fun i j _ _ _ _ _ hc q => floordiv_int hc.1 q (.inl (PyProof.noPylong_of_log2 hc.2))
theorem cdivS {i j : Int} {b : Nat} (h : j ≠ 0) (hb : j.natAbs < 2 ^ b) (h0 : 0 < b) (h9 : b ≤ 9000) : CDivS i j := ⟨h, Nat.lt_of_lt_of_le (PySem.Flt.log2_lt_of h0 hb) h9⟩
end
end Fx
/-! ### list.count over truth values; a tuple times 1 -/
namespace Fx
open PySem PySem.Spec PyProof.Rows L2
def eqb (k : Bool) (v : Value) : Bool := match v with
  | .bool b => b == k
  | _ => false
theorem vals_bl : ∀ {bs : List Bool} {us : List Value}, Vals (bs.map V.bl) us → us = bs.map Value.bool
  | [], _, h => by
    cases h
    rfl
  | b :: r, _, h => by
    cases h with
    | cons a t =>
      have e := vals_bl t
      rw [e, show _ = Value.bool b from a]
      rfl
theorem eqb_count (k : Bool) : ∀ bs : List Bool, (bs.map Value.bool).countP (eqb k) = bs.count k
  | [] => rfl
  | b :: r => by
    rw [List.map_cons, List.countP_cons, List.count_cons, eqb_count k r] <;> rfl
section
variable {X : Cx}
def rCntB (K : PySem.W.Frag) : V → List V → Hp → VK → Prop := fun x xs H Q => ∃ (p : Addr) (bs : List Bool) (k : Bool), x = .ref p ∧ xs = [.bl k] ∧ SqL K H p (bs.map V.bl) ∧ Q (.int (bs.count k : Nat)) H
theorem mt_countB : MtR X "list.count" (rCntB X.K) := by
  intro pins s σ H x xs v us Q I rx rxs h
  obtain ⟨p, bs, k, rfl, rfl, hs, q⟩ := h
  cases rx
  obtain ⟨u, rfl, ru⟩ := rxs.one
  cases (show u = Value.bool k from ru)
  obtain ⟨its, rv, ⟨⟨cls, dd, data, sl⟩, n, ho, hc, hdn, hd⟩, hlen⟩ := I.list hs
  simp only at hc hd
  subst hc hd
  have ei := vals_bl rv
  subst ei
  refine call_meets PySem.F.slot_list_count ⟨_, ho, rfl⟩ PySem.F.entry_list_count (PySem.F.args_list_count_2 _ _)
    (SeqAt.list_countAt p (bs.map Value.bool).toArray n dd sl (.bool k) (eqb k)) ⟨ho, fun y hy => ?_, ?_⟩
  · obtain ⟨b, _, e⟩ := List.mem_map.mp (show y ∈ bs.map Value.bool by simpa using hy)
    subst e
    exact SeqAt.EqAt.bool_bool b k
  · have ec : (bs.map Value.bool).toArray.toList.countP (eqb k) = bs.count k := eqb_count k bs
    refine ⟨.int (bs.count k : Nat), H, I.tok _, ⟨s.toks, ?_⟩, q⟩
    show Value.int (((bs.map Value.bool).toArray.toList.countP (eqb k) : Nat) : Int) s.toks = Value.int ((bs.count k : Nat) : Int) s.toks
    rw [ec]
end
theorem tuple_mul1 (l : Addr) (items : Array Value) (n : Nat) (dd : Option Addr) (sl : Array (Option Value)) (x : Int) (u : Tok) (c0 : (decide (x < -(2 ^ 63)) || decide (x ≥ 2 ^ 63)) = false) (c1 : (items.isEmpty || x == 1) = true) :
    Meets (Builtin.«tuple.__mul__» ⟨[.ref l, .int x u], []⟩) (fun _ R s => s.heap.get? l = some { cls := .type "tuple", dict := dd, data := .seq items n, slots := sl } ∧
      R (.ok (.ret (Value.ref l))) s) :=
  .of_wp fun prog w A R s h => by
    obtain ⟨hp, g, d, tk, os⟩ := s
    obtain ⟨hl, h⟩ := h
    have f1 := AutoSeq1.idx_int
    wp_walk using wpAny_loadPart' hl
    repeat (first
      | (refine wpAny_ite_false (decide_eq_false (by rw [c0]; exact Bool.false_ne_true)) ?_; wp_walk using wpAny_loadPart' hl)
      | (refine wpAny_ite_true (decide_eq_true c1) ?_; wp_walk using wpAny_loadPart' hl))
    exact ⟨_, rfl, h⟩
def rRepT1 (K : PySem.W.Frag) : R2 := fun x y H Q => ∃ l xs, x = .ref l ∧ y = .int 1 ∧ SqT K H l xs ∧ Q (.ref l) H
section
variable {X : Cx}
theorem op_repT1 : OpR X (binaryOp .Mult) (rRepT1 X.K) := by
  intro pins s σ H x y v u Q I rx ry h
  obtain ⟨l, xs, rfl, rfl, hT, q⟩ := h
  cases rx
  obtain ⟨t, rfl⟩ := ry
  obtain ⟨its, r, ⟨⟨cls, dd, data, sl⟩, ho, hc, n, hd⟩, hs⟩ := I.tuple hT
  simp only at hc hd
  subst hc hd
  have c0 : (decide ((1 : Int) < -(2 ^ 63)) || decide ((1 : Int) ≥ 2 ^ 63)) = false := by decide
  have c1 : (its.toArray.isEmpty || (1 : Int) == 1) = true := by simp
  refine wpAny_binaryOp_repeat_ref (T := "tuple") (U := "int") (by decide) ⟨_, ho, rfl⟩ (fun s' => typeIs_int s' 1 t) noFill_tuple_mul F.fills_int_mul F.slot_int_rmul repeat_tuple F.slot_int_index.lookup
    (call_meets F.slot_int_rmul (typeIs_int s 1 t) F.entry_int_rmul (F.args_int_rmul_2 _ _) (int_rmul_tuple 1 t l its.toArray n dd sl)
      ⟨ho, rfl, ⟨_, ho, rfl⟩, call_meets F.slot_tuple_mul ⟨_, ho, rfl⟩ F.entry_tuple_mul (F.args_tuple_mul_2 _ _) (tuple_mul1 l its.toArray n dd sl 1 t c0 c1) ⟨ho, ?_⟩⟩)
  exact ⟨.ref l, H, I, rfl, q⟩
end
end Fx
/-! ### more evaluations -/
namespace Fx
open PySem PySem.Spec PyProof.Rows L2 Evl Fr
section
variable {te ta tb tl : TE} {t : TT} {σ : L2.St} {H : Hp} {K : PySem.W.Frag} {v x y z : V}
theorem ev_neB {a b : Bool} (ha : Ev ta σ H (.bl a)) (hb : Ev tb σ H (.bl b)) : Ev (tOp rNe ta tb) σ H (.bl (!decide (a = b))) := by
  have h := ev_op (z := .bl (!decide (V.bl a = V.bl b))) ha hb (rv_ne rfl)
  have e : decide (V.bl a = V.bl b) = decide (a = b) := decide_eq_decide.mpr ⟨fun h => V.bl.inj h, fun h => by rw [h]⟩
  rw [e] at h
  exact h
theorem ev_neI {a b : Int} (ha : Ev ta σ H (.int a)) (hb : Ev tb σ H (.int b)) : Ev (tOp rNe ta tb) σ H (.bl (!decide (a = b))) := by
  have h := ev_op (z := .bl (!decide (V.int a = V.int b))) ha hb (rv_ne rfl)
  have e : decide (V.int a = V.int b) = decide (a = b) := decide_eq_decide.mpr ⟨fun h => V.int.inj h, fun h => by rw [h]⟩
  rw [e] at h
  exact h
theorem ev_eqI {a b : Int} (ha : Ev ta σ H (.int a)) (hb : Ev tb σ H (.int b)) : Ev (tOp rEq ta tb) σ H (.bl (decide (a = b))) := by
  have h := ev_op (z := .bl (decide (V.int a = V.int b))) ha hb (rv_eq rfl)
  have e : decide (V.int a = V.int b) = decide (a = b) := decide_eq_decide.mpr ⟨fun h => V.int.inj h, fun h => by rw [h]⟩
  rw [e] at h
  exact h
theorem ev_countB {bs : List Bool} {k : Bool} (h : EvL ta σ H (bs.map V.bl)) : Ev (tBM K "list" (rCntB K) ta (tCons (tC (.bl k)) tNil)) σ H (.int (bs.count k : Nat)) := fun H1 e Q q =>
  h H1 e _ fun p H2 _ e2 hp => ⟨.inl ⟨rfl, _, sq_of hp⟩, p, bs, k, rfl, rfl, sq_of hp, q H2 e2⟩
/-- a comprehension over a new tuple of which no item passes the test -/
theorem el_lcTno {Pe : VP} {j : Nat} {vs : List Nat} (mP : Mono Pe) (h : EvP tl σ H (fun v H' => ∃ p ps, v = .ref p ∧ H' p = some (.tup ps) ∧ ∀ x ∈ ps, Pe x H')) (hw : ∀ x, wipe ((wipe σ vs).set j (some x)) vs = wipe σ vs)
    (hno : ∀ x H1, Ex H H1 → Pe x H1 → EvT t ((wipe σ vs).set j (some x)) H1 false) : EvL (tLc (iTup K tl) (gName j) t te vs) σ H [] := fun H0 e Q q => h H0 e _ fun v H1 e1 ⟨p, ps, ev, hp, hel⟩ => by
  subst ev
  exact ⟨p, rfl, ⟨ps, st_of hp⟩, fun Dl hD => lc_tup (xs := ps) (fun i H' => Ex H1 H' ∧ H' Dl = some (.lst [])) ⟨Ex.new hD, upd_same⟩ (fun i H' _ w => st_of (w.1 p _ hp))
    (fun i x H' hi w => ⟨hw x, hno x H' (e.trans (e1.trans w.1)) (mP _ _ _ w.1 (hel x (List.mem_of_getElem? hi))) H' (Ex.refl _) _ fun H3 e3 => iteF ⟨w.1.trans e3, e3 _ _ w.2⟩⟩) (fun H' w => q Dl H' (fresh_back e1 hD) (e1.trans w.1) w.2)⟩
theorem evp_tup3 {P : VP} (mP : Mono P) (ha : EvP ta σ H P) (hb : EvP tb σ H P) (hc : EvP tl σ H P) : EvP (tTup (tCons ta (tCons tb (tCons tl tNil)))) σ H (fun v H' => ∃ p ps, v = .ref p ∧ H' p = some (.tup ps) ∧ ∀ x ∈ ps, P x H') := fun H1 e Q q =>
  ha H1 e _ fun x H2 e2 p2 => hb H2 (e.trans e2) _ fun y H3 e3 p3 => hc H3 (e.trans (e2.trans e3)) _ fun z H4 e4 p4 => ⟨by show 3 ≤ sizeLine; decide, fun p hp => by
    have n := Ex.new (o := .tup [x, y, z]) hp
    refine q _ _ (e2.trans (e3.trans (e4.trans n))) ⟨p, _, rfl, upd_same, fun u hu => ?_⟩
    simp only [List.mem_cons, List.not_mem_nil, or_false] at hu
    rcases hu with rfl | rfl | rfl
    · exact mP _ _ _ (e3.trans (e4.trans n)) p2
    · exact mP _ _ _ (e4.trans n) p3
    · exact mP _ _ _ n p4⟩
theorem ev_neL0 (ha : EvL ta σ H []) (hb : EvL tb σ H []) : Ev (tOp (rNeD K) ta tb) σ H (.bl false) := ev_opLL ha hb fun p q H1 hp hq e => fun H2 e2 Q k =>
  ⟨.list [], .list [], .lst (sq_of (e2 _ _ hp)) .nil, .lst (sq_of (e2 _ _ hq)) .nil, rfl, rfl, k H2 (Ex.refl _)⟩
theorem IsF.ofP {te : TE} {r : Rat} (h : EvP te σ H (IsF r)) : EvP te σ H (fun v H' => ∃ s : Rat, IsF s v H') := h.imp fun _ _ _ p => ⟨r, p⟩
theorem IsF.monoE : Mono (fun v H' => ∃ s : Rat, IsF s v H') := fun _ _ _ e ⟨s, p⟩ => ⟨s, IsF.mono _ _ _ e p⟩
end
/-! ### the mathematics of the rules of reckoning -/
theorem bd0 : Bd 1 (0 : Rat) := ⟨by decide, by decide⟩
theorem bd1 : Bd 1 (1 : Rat) := ⟨by decide, by decide⟩
theorem num_pos {z : Rat} : (0 < z.num) ↔ 0 < z := by
  rw [Rat.lt_iff]
  simp
theorem num_neg {z : Rat} : (z.num < 0) ↔ z < 0 := by
  rw [Rat.lt_iff]
  simp
theorem dd {p q : Prop} [Decidable p] [Decidable q] (h : p ↔ q) : (decide p = decide q) := decide_eq_decide.mpr h
theorem nf {b : Bool} (h : b = true) : (!b) = false := by rw [h]; rfl
theorem lt_add (x y z : Rat) : x < y ↔ x + z < y + z := by grind
theorem lt_mul {x y z : Rat} (h : 0 < z) : x < y ↔ x * z < y * z := (Rat.mul_lt_mul_right h).symm
theorem lt_mul_neg {x y z : Rat} (h : z < 0) : x < y ↔ y * z < x * z := by
  have h' : 0 < -z := by grind
  have k := Rat.mul_lt_mul_right (a := x) (b := y) h'
  rw [← k]
  grind
end Fx
/-! ### the reader of the draws -/
namespace Fx
open PySem PySem.Spec PyProof.Rows L2 Evl
def rdK (l : Addr) (spot rest calls : Int) : List (Key × V) := [(.inr "cells", .ref l), (.inr "spot", .int spot), (.inr "rest", .int rest), (.inr "calls", .int calls)]
theorem n1 : ¬ ((Sum.inr "cells" : Key) = (Sum.inr "spot" : Key)) := by decide +kernel
theorem n2 : ¬ ((Sum.inr "cells" : Key) = (Sum.inr "rest" : Key)) := by decide +kernel
theorem n3 : ¬ ((Sum.inr "cells" : Key) = (Sum.inr "calls" : Key)) := by decide +kernel
theorem n4 : ¬ ((Sum.inr "spot" : Key) = (Sum.inr "rest" : Key)) := by decide +kernel
theorem n5 : ¬ ((Sum.inr "spot" : Key) = (Sum.inr "calls" : Key)) := by decide +kernel
theorem n6 : ¬ ((Sum.inr "rest" : Key) = (Sum.inr "calls" : Key)) := by decide +kernel
theorem n4' : ¬ ((Sum.inr "rest" : Key) = (Sum.inr "spot" : Key)) := by decide +kernel
theorem n5' : ¬ ((Sum.inr "calls" : Key) = (Sum.inr "spot" : Key)) := by decide +kernel
theorem n6' : ¬ ((Sum.inr "calls" : Key) = (Sum.inr "rest" : Key)) := by decide +kernel
section
variable {l : Addr} {s r c z : Int}
theorem val_cells : valV (rdK l s r c) (.inr "cells") = some (.ref l) := valV_pos rfl
theorem val_spot : valV (rdK l s r c) (.inr "spot") = some (.int s) := (valV_neg n1).trans (valV_pos rfl)
theorem val_rest : valV (rdK l s r c) (.inr "rest") = some (.int r) := (valV_neg n2).trans ((valV_neg n4).trans (valV_pos rfl))
theorem val_calls : valV (rdK l s r c) (.inr "calls") = some (.int c) := (valV_neg n3).trans ((valV_neg n5).trans ((valV_neg n6).trans (valV_pos rfl)))
theorem put_spot : putK (rdK l s r c) (.inr "spot") (.int z) = rdK l z r c := by
  unfold putK
  rw [if_pos (by rw [valV_any, val_spot]; rfl)]
  show [(if _ then _ else _), (if _ then _ else _), (if _ then _ else _), (if _ then _ else _)] = rdK l z r c
  rw [if_neg n1, if_pos rfl, if_neg n4', if_neg n5']
  rfl
theorem put_rest : putK (rdK l s r c) (.inr "rest") (.int z) = rdK l s z c := by
  unfold putK
  rw [if_pos (by rw [valV_any, val_rest]; rfl)]
  show [(if _ then _ else _), (if _ then _ else _), (if _ then _ else _), (if _ then _ else _)] = rdK l s z c
  rw [if_neg n2, if_neg n4, if_pos rfl, if_neg n6']
  rfl
theorem put_calls : putK (rdK l s r c) (.inr "calls") (.int z) = rdK l s r z := by
  unfold putK
  rw [if_pos (by rw [valV_any, val_calls]; rfl)]
  show [(if _ then _ else _), (if _ then _ else _), (if _ then _ else _), (if _ then _ else _)] = rdK l s r z
  rw [if_neg n3, if_neg n5, if_neg n6, if_pos rfl]
  rfl
end
section
variable {H : Hp} {d l : Addr} {s r c z : Int}
theorem get_cells (h : H d = some (.dK (rdK l s r c))) : DGet H d (.str "cells") (some (.ref l)) := by
  rw [← val_cells (l := l) (s := s) (r := r) (c := c)]
  exact DGet.k (k := .inr "cells") h
theorem get_spot (h : H d = some (.dK (rdK l s r c))) : DGet H d (.str "spot") (some (.int s)) := by
  rw [← val_spot (l := l) (s := s) (r := r) (c := c)]
  exact DGet.k (k := .inr "spot") h
theorem get_rest (h : H d = some (.dK (rdK l s r c))) : DGet H d (.str "rest") (some (.int r)) := by
  rw [← val_rest (l := l) (s := s) (r := r) (c := c)]
  exact DGet.k (k := .inr "rest") h
theorem get_calls (h : H d = some (.dK (rdK l s r c))) : DGet H d (.str "calls") (some (.int c)) := by
  rw [← val_calls (l := l) (s := s) (r := r) (c := c)]
  exact DGet.k (k := .inr "calls") h
theorem rd_len : (rdK l s r c).length < sizeLine := by show 4 < sizeLine; decide
theorem dput_spot : DPut (upd H d (.dK (rdK l s r c))) d (.str "spot") (.int z) (upd H d (.dK (rdK l z r c))) := by
  have h := DPut.k (H := upd H d (.dK (rdK l s r c))) (a := d) (k := .inr "spot") (v := .int z) upd_same rd_len
  rw [put_spot, upd_upd] at h
  exact h
theorem dput_rest : DPut (upd H d (.dK (rdK l s r c))) d (.str "rest") (.int z) (upd H d (.dK (rdK l s z c))) := by
  have h := DPut.k (H := upd H d (.dK (rdK l s r c))) (a := d) (k := .inr "rest") (v := .int z) upd_same rd_len
  rw [put_rest, upd_upd] at h
  exact h
theorem dput_calls (h : H d = some (.dK (rdK l s r c))) : DPut H d (.str "calls") (.int z) (upd H d (.dK (rdK l s r z))) := by
  have h := DPut.k (k := .inr "calls") (v := .int z) h rd_len
  rw [put_calls] at h
  exact h
end
/-- the reader at d, its cells at l, after at most n draws -/
def RdAt (H : Hp) (d l : Addr) (n : Nat) : Prop := ∃ (ns : List Int) (s r c : Int), H d = some (.dK (rdK l s r c)) ∧ H l = some (.lst (ns.map V.int)) ∧ ns.length ≤ 63 ∧ 0 ≤ s ∧ 0 ≤ c ∧ c ≤ n
/-- all but what stands at d is as it was -/
def Kp (d : Addr) (H H' : Hp) : Prop := ∀ b o, H b = some o → b ≠ d → H' b = some o
theorem Kp.refl (d : Addr) (H : Hp) : Kp d H H := fun _ _ h _ => h
theorem Kp.trans {d : Addr} {H H1 H2 : Hp} (a : Kp d H H1) (b : Kp d H1 H2) : Kp d H H2 := fun x o h n => b x o (a x o h n) n
theorem Kp.ex {d : Addr} {H H1 : Hp} (e : Ex H H1) : Kp d H H1 := fun x o h _ => e x o h
theorem Kp.upd {d : Addr} {H : Hp} {o : HO} : Kp d H (upd H d o) := fun b u h n => by
  rw [upd_ne n]
  exact h
/-- what H does not know may change -/
theorem Kp.mut {d p : Addr} {H H1 : Hp} {o : HO} (k : Kp d H H1) (h : H p = none) : Kp d H (L2.upd H1 p o) := fun b u hb n => by
  rw [upd_ne (ne_of_none hb h)]
  exact k b u hb n
section
variable {H H' : Hp} {d l : Addr} {n m : Nat}
theorem RdAt.ex (h : RdAt H d l n) (e : Ex H H') : RdAt H' d l n := by
  obtain ⟨ns, s, r, c, h1, h2, h3⟩ := h
  exact ⟨ns, s, r, c, e _ _ h1, e _ _ h2, h3⟩
theorem RdAt.mono (h : RdAt H d l n) (e : n ≤ m) : RdAt H d l m := by
  obtain ⟨ns, s, r, c, h1, h2, h3, h4, h5, h6⟩ := h
  exact ⟨ns, s, r, c, h1, h2, h3, h4, h5, by omega⟩
theorem RdAt.is (h : RdAt H d l n) : ∃ kvs, H d = some (.dK kvs) := by
  obtain ⟨ns, s, r, c, h1, _⟩ := h
  exact ⟨_, h1⟩
theorem RdAt.isL (h : RdAt H d l n) : ∃ o, H l = some o := by
  obtain ⟨ns, s, r, c, _, h1, _⟩ := h
  exact ⟨_, h1⟩
theorem RdAt.upd (h : RdAt H d l n) {p : Addr} {o : HO} (h1 : p ≠ d) (h2 : p ≠ l) : RdAt (L2.upd H p o) d l n := by
  obtain ⟨ns, s, r, c, q1, q2, q3⟩ := h
  exact ⟨ns, s, r, c, by rw [upd_ne h1.symm]; exact q1, by rw [upd_ne h2.symm]; exact q2, q3⟩
theorem RdAt.neT (h : RdAt H d l n) {a : Addr} {xs : List V} (ha : H a = some (.tup xs)) : a ≠ d := by
  obtain ⟨kvs, h1⟩ := h.is
  exact ne_of ha h1 (by intro z; cases z)
theorem RdAt.neL (h : RdAt H d l n) {a : Addr} {xs : List V} (ha : H a = some (.lst xs)) : a ≠ d := by
  obtain ⟨kvs, h1⟩ := h.is
  exact ne_of ha h1 (by intro z; cases z)
theorem RdAt.neN (h : RdAt H d l n) {a : Addr} (ha : H a = none) : a ≠ l := by
  obtain ⟨o, h1⟩ := h.isL
  exact (ne_of_none h1 ha).symm
end
def spDraw : Sp := fun vs H Q _ => ∃ (d l : Addr) (many : Int) (n : Nat), vs = [.ref d, .int many] ∧ RdAt H d l n ∧ n ≤ 1000000 ∧ 0 < many ∧ many < 2 ^ 60 ∧ ∀ H' r, Kp d H H' → RdAt H' d l (n + 1) → 0 ≤ r → r < many → Q (.int r) H'
end Fx
/-! ### tuples of ints; comprehensions over range; draws in comprehensions -/
namespace Fx
open PySem PySem.Spec PyProof.Rows L2 Evl
def dot : List Int → List Int → Int
  | x :: xs, y :: ys => x * y + dot xs ys
  | _, _ => 0
theorem dot_add : ∀ xs ys zs : List Int, xs.length = ys.length → ys.length = zs.length → dot xs (List.zipWith (· + ·) ys zs) = dot xs ys + dot xs zs
  | [], _, _, _, _ => rfl
  | _ :: _, [], _, h, _ => nomatch h
  | _ :: _, _ :: _, [], _, h => nomatch h
  | x :: xs, y :: ys, z :: zs, h1, h2 => by
    have ih := dot_add xs ys zs (Nat.succ.inj h1) (Nat.succ.inj h2)
    show x * (y + z) + dot xs (List.zipWith (· + ·) ys zs) = (x * y + dot xs ys) + (x * z + dot xs zs)
    rw [ih]
    grind
theorem dot_sub : ∀ xs ys zs : List Int, xs.length = ys.length → ys.length = zs.length → dot (List.zipWith (· - ·) xs ys) zs = dot xs zs - dot ys zs
  | [], [], _, _, _ => by
    simp [dot]
  | [], _ :: _, _, h, _ => nomatch h
  | _ :: _, [], _, h, _ => nomatch h
  | _ :: _, _ :: _, [], _, h => nomatch h
  | x :: xs, y :: ys, z :: zs, h1, h2 => by
    have ih := dot_sub xs ys zs (Nat.succ.inj h1) (Nat.succ.inj h2)
    show (x - y) * z + dot (List.zipWith (· - ·) xs ys) zs = (x * z + dot xs zs) - (y * z + dot ys zs)
    rw [ih]
    grind
theorem dot_zero : ∀ (n : Nat) (ys : List Int), dot (List.replicate n 0) ys = 0
  | 0, _ => rfl
  | n + 1, [] => rfl
  | n + 1, y :: ys => by
    show 0 * y + dot (List.replicate n 0) ys = 0
    rw [dot_zero n ys]
    omega
theorem dot_one : ∀ (n : Nat) (ys : List Int), ys.length = n → dot (List.replicate n 1) ys = ys.sum
  | 0, [], _ => rfl
  | 0, _ :: _, h => nomatch h
  | n + 1, [], h => nomatch h
  | n + 1, y :: ys, h => by
    show 1 * y + dot (List.replicate n 1) ys = (y :: ys).sum
    rw [dot_one n ys (Nat.succ.inj h), List.sum_cons]
    omega
theorem dot_app : ∀ xs xs' ys ys' : List Int, xs.length = ys.length → dot (xs ++ xs') (ys ++ ys') = dot xs ys + dot xs' ys'
  | [], _, [], _, _ => by
    simp [dot]
  | [], _, _ :: _, _, h => nomatch h
  | _ :: _, _, [], _, h => nomatch h
  | x :: xs, xs', y :: ys, ys', h => by
    have ih := dot_app xs xs' ys ys' (Nat.succ.inj h)
    show x * y + dot (xs ++ xs') (ys ++ ys') = (x * y + dot xs ys) + dot xs' ys'
    rw [ih]
    omega
theorem dot_sum : ∀ xs ys : List Int, (List.zipWith (· * ·) xs ys).sum = dot xs ys
  | [], _ => by simp [dot]
  | _ :: _, [] => by simp [dot]
  | x :: xs, y :: ys => by
    show (x * y :: List.zipWith (· * ·) xs ys).sum = x * y + dot xs ys
    rw [List.sum_cons, dot_sum xs ys]
theorem range_zip (f : Int → Int → Int) {m : Nat} {xs ys : List Int} (h1 : xs.length = m) (h2 : ys.length = m) : (List.range m).map (fun i => V.int (f (xs.getD i 0) (ys.getD i 0))) = (List.zipWith f xs ys).map V.int := by
  refine List.ext_getElem ?_ fun i g1 g2 => ?_
  · rw [List.length_map, List.length_range, List.length_map, List.length_zipWith, h1, h2, Nat.min_self]
  · rw [List.length_map, List.length_range] at g1
    have a1 : i < xs.length := by omega
    have a2 : i < ys.length := by omega
    rw [List.getElem_map, List.getElem_map, List.getElem_range, List.getElem_zipWith, List.getD_eq_getElem?_getD, List.getD_eq_getElem?_getD, List.getElem?_eq_getElem a1, List.getElem?_eq_getElem a2]
    rfl
theorem given_all (n : Nat) (v : Nat → V) : given n (fun _ => true) v = (List.range n).map v := by
  unfold given
  rw [List.filter_eq_self.mpr (fun _ _ => rfl)]
def rTupOf (K : PySem.W.Frag) : List V → Hp → VK → Prop := fun xs H Q => ∃ p ys, xs = [.ref p] ∧ ((SqL K H p ys ∧ ∀ l, H l = none → Q (.ref l) (upd H l (.tup ys))) ∨ (SqT K H p ys ∧ Q (.ref p) H))
theorem call_tupleOf {X : Cx} : CallR X (.type "tuple") (rTupOf X.K) := call_tuple_of
/-- a tuple of ints -/
def IsT (xs : List Int) : VP := fun v H => ∃ p, v = .ref p ∧ H p = some (.tup (xs.map V.int))
theorem IsT.mono {xs : List Int} : Mono (IsT xs) := fun _ _ _ e ⟨p, h1, h2⟩ => ⟨p, h1, e p _ h2⟩
/-- the bound of what is multiplied -/
def Sm (xs : List Int) : Prop := ∀ x ∈ xs, x.natAbs < 2 ^ 400
def spTot : Sp := fun vs H Q _ => ∃ (a b : Addr) (xs ys : List Int), vs = [.ref a, .ref b] ∧ H a = some (.tup (xs.map V.int)) ∧ H b = some (.tup (ys.map V.int)) ∧ xs.length = ys.length ∧ xs.length ≤ 1000 ∧ Sm xs ∧ Sm ys ∧ ∀ H', Ex H H' → Q (.int (dot xs ys)) H'
section
variable {te ta tb tl : TE} {σ : L2.St} {H : Hp} {K : PySem.W.Frag} {v x y z : V} {xs ys : List Int}
theorem evT_var {i : Nat} {p : Addr} (h : σ[i]? = some (some (.ref p))) (hp : H p = some (.tup (xs.map V.int))) : EvP (tVar i) σ H (IsT xs) := fun H1 e Q q => ⟨.ref p, h, q _ H1 (Ex.refl _) ⟨p, rfl, e p _ hp⟩⟩
theorem ev_tot {E : XK} (ha : EvP ta σ H (IsT xs)) (hb : EvP tb σ H (IsT ys)) (hl : xs.length = ys.length) (h1 : xs.length ≤ 1000) (sx : Sm xs) (sy : Sm ys) : Ev (tCall spTot [] E (tCons ta (tCons tb tNil))) σ H (.int (dot xs ys)) := fun H1 e Q q =>
  ha H1 e _ fun x H2 e2 ⟨p, g1, g2⟩ => hb H2 (e.trans e2) _ fun y H3 e3 ⟨p', g1', g2'⟩ => by
    subst g1 g1'
    exact ⟨p, p', xs, ys, rfl, e3 _ _ g2, g2', hl, h1, sx, sy, fun H4 e4 => q H4 (e2.trans (e3.trans e4))⟩
theorem ev_ixT {i : Nat} (ha : EvP ta σ H (IsT xs)) (hb : Ev tb σ H (.int (i : Int))) (hi : i < xs.length) : Ev (tOp (rIxT K) ta tb) σ H (.int (xs.getD i 0)) := ev_op1 ha hb IsT.mono fun x H1 _ ⟨p, e, hp⟩ => by
  subst e
  refine rv_ixT (st_of hp) (atI_nat ?_)
  rw [List.getElem?_map, List.getElem?_eq_getElem hi, List.getD_eq_getElem?_getD, List.getElem?_eq_getElem hi]
  rfl
/-- tuple([..]) -/
theorem evT_of (h : EvL ta σ H (xs.map V.int)) : EvP (tCB (rTupOf K) (tCons ta tNil)) σ H (IsT xs) := fun H1 e Q q =>
  h H1 e _ fun p H2 _ e2 hp => ⟨p, _, rfl, .inl ⟨sq_of hp, fun l hl => q _ _ (e2.trans (Ex.new hl)) ⟨l, rfl, upd_same⟩⟩⟩
theorem evT_rep {n : Int} {m : Nat} (hm : 1 ≤ m) (hm2 : m ≤ 1000) (hb : Ev tb σ H (.int (m : Int))) : EvP (tOp (fun x y H Q => rRepT K x y H Q ∨ rRepT1 K x y H Q) (tTup (tCons (tC (.int n)) tNil)) tb) σ H (IsT (List.replicate m n)) := fun H1 e Q q =>
  (EvP.ofU (eu_tup (ea_cons ev_c ea_nil) (by show 1 ≤ 100000; decide))) H1 e _ fun x H2 e2 ⟨p, ex, hp⟩ => by
    subst ex
    refine hb H2 (e.trans e2) _ fun H3 e3 => ?_
    by_cases h : m = 1
    · subst h
      exact .inr ⟨p, _, rfl, rfl, st_of (e3 _ _ hp), q _ _ (e2.trans e3) ⟨p, rfl, e3 _ _ hp⟩⟩
    · refine .inl ⟨p, (m : Int), _, rfl, rfl, st_of (e3 _ _ hp), (by intro z; cases z), by omega, by omega, by show 1 ≤ 1000; decide, fun l hl => q _ _ (e2.trans (e3.trans (Ex.new hl))) ⟨l, rfl, ?_⟩⟩
      rw [upd_same]
      congr 2
      have : ∀ k : Nat, (List.replicate k [V.int n]).flatten = (List.replicate k n).map V.int := fun k => by
        induction k with
        | zero => rfl
        | succ k ih =>
          rw [List.replicate_succ, List.flatten_cons, ih, List.replicate_succ, List.map_cons]
          rfl
      rw [Int.toNat_natCast]
      exact this m
theorem evT_cat (ha : EvP ta σ H (IsT xs)) (hb : EvP tb σ H (IsT ys)) (hx : xs ≠ []) (hy : ys ≠ []) (hl : xs.length + ys.length ≤ 1000) : EvP (tOp (rCatT K) ta tb) σ H (IsT (xs ++ ys)) := fun H1 e Q q =>
  ha H1 e _ fun x H2 e2 ⟨p, g1, g2⟩ => hb H2 (e.trans e2) _ fun y H3 e3 ⟨p', g1', g2'⟩ => by
    subst g1 g1'
    refine ⟨p, p', _, _, rfl, rfl, st_of (e3 _ _ g2), st_of g2', fun z => hx (List.map_eq_nil_iff.mp z), ?_, fun z => absurd (List.map_eq_nil_iff.mp z) hy, fun _ l hl => q _ _ (e2.trans (e3.trans (Ex.new hl))) ⟨l, rfl, ?_⟩⟩
    · rw [List.length_map, List.length_map]
      exact Nat.le_trans hl (by decide)
    · rw [upd_same, List.map_append]
end
/-! ### sum of a tuple -/
section
variable {X : Cx}
def rSumT (K : PySem.W.Frag) : List V → Hp → VK → Prop := fun vs H Q => ∃ (a : Addr) (ns : List Int), vs = [V.ref a] ∧ SqT K H a (ns.map V.int) ∧ Q (.int ns.sum) H
theorem cr_sumT (hc : X.calm = true) : CallR X (.builtin "sum") (rSumT X.K) := by
  intro pins s σ H vs us Q I r h
  obtain ⟨a, ns, rfl, hs, q⟩ := h
  obtain ⟨its, rv, hl, _⟩ := I.tuple hs
  rw [Vals.ref1 r]
  have hi := rv.ints
  obtain ⟨xs, e⟩ := hi.allInts.items
  have hn : numsOf (intItems xs).toList = ns := by rw [← e]; exact hi.numsOf
  rw [nums_intItems] at hn
  have hl2 : s.heap.IsTuple a (intItems xs) := by rw [← e]; exact hl
  refine PySem.W.ktm_sumG (I.ok.hd hc) hl2 fun h' tk t' hk => ⟨.int _, H, I.kept hk, ⟨_, rfl⟩, ?_⟩
  rw [preSum_eq, List.take_of_length_le (by simp), hn]
  exact q
end
theorem ev_sumT {ta : TE} {σ : L2.St} {H : Hp} {K : PySem.W.Frag} {xs : List Int} (ha : EvP ta σ H (IsT xs)) : Ev (tCB (rSumT K) (tCons ta tNil)) σ H (.int xs.sum) := fun H1 e Q q =>
  ha H1 e _ fun x H2 e2 ⟨p, g1, g2⟩ => by
    subst g1
    exact ⟨p, xs, rfl, st_of g2, q _ e2⟩
/-! ### draws in comprehensions -/
def Drawn (te : TE) (σ : L2.St) (d l : Addr) (lo hi : Int) : Prop := ∀ H n, RdAt H d l n → n ≤ 900000 → ∀ Q : VK, (∀ H' v, Kp d H H' → RdAt H' d l (n + 1) → lo ≤ v → v ≤ hi → Q (.int v) H') → te σ H Q
theorem lc_drawn {ta : TA} {σ : L2.St} {H : Hp} {te : TE} {j m n : Nat} {vs : List Nat} {d l : Addr} {lo hi : Int} {Q : VK} (h : EvA ta σ H [.int (m : Int)]) (hm : m ≤ 1000) (hR : RdAt H d l n) (hn : n + m ≤ 900000)
    (hw : ∀ x, wipe ((wipe σ vs).set j (some x)) vs = wipe σ vs) (hd : ∀ x, Drawn te ((wipe σ vs).set j (some x)) d l lo hi)
    (q : ∀ D H' (js : List Int), H D = none → Kp d H H' → RdAt H' d l (n + m) → H' D = some (.lst (js.map V.int)) → js.length = m → (∀ v ∈ js, lo ≤ v ∧ v ≤ hi) → Q (.ref D) H') : tLc (iRng1 ta) (gName j) tYes te vs σ H Q := by
  refine h H (Ex.refl H) _ fun H1 e1 => ⟨(m : Int), rfl, by omega, by omega, fun Dl hD => ?_⟩
  have hD0 : H Dl = none := fresh_back e1 hD
  have hDl : Dl ≠ l := hR.neN hD0
  refine lc_range (lo := 0) (n := (m : Int).toNat) (fun i H' => Kp d H H' ∧ RdAt H' d l (n + i) ∧ ∃ js : List Int, H' Dl = some (.lst (js.map V.int)) ∧ js.length = i ∧ ∀ v ∈ js, lo ≤ v ∧ v ≤ hi) ?_ (fun i H' hi' p => ?_) (fun H' p => ?_)
  · exact ⟨(Kp.ex e1).mut hD0, (hR.ex e1).ex (Ex.new hD), [], upd_same, rfl, fun _ hv => nomatch hv⟩
  · obtain ⟨k1, R1, js, g1, g2, g3⟩ := p
    have nd : Dl ≠ d := R1.neL g1
    refine ⟨hw _, ?_⟩
    show te _ _ _
    refine hd _ H' (n + i) R1 (by omega) _ fun H2 v k2 R2 a1 a2 => ⟨js.map V.int, k2 _ _ g1 nd, ?_, (k1.trans k2).mut hD0, R2.upd nd hDl, js ++ [v], ?_, ?_, fun u hu => ?_⟩
    · rw [List.length_map]
      exact sz_lt (by omega)
    · rw [upd_same, List.map_append]
      rfl
    · rw [List.length_append, g2]
      rfl
    · rcases List.mem_append.mp hu with hu | hu
      · exact g3 u hu
      · rw [List.mem_singleton.mp hu]
        exact ⟨a1, a2⟩
  · obtain ⟨k1, R1, js, g1, g2, g3⟩ := p
    rw [Int.toNat_natCast] at R1 g2
    exact q Dl H' js hD0 k1 R1 g1 g2 g3
/-- tuple([.. for k in range(m)]) of draws, by an element's word -/
def DrawnT (te : TE) (σ : L2.St) (d l : Addr) (m : Nat) (lo hi : Int) : Prop := ∀ H n, RdAt H d l n → n ≤ 800000 → ∀ Q : VK, (∀ H' p (js : List Int), Kp d H H' → RdAt H' d l (n + m) → H' p = some (.tup (js.map V.int)) → js.length = m → (∀ v ∈ js, lo ≤ v ∧ v ≤ hi) → Q (.ref p) H') → te σ H Q
theorem drawnT_of {ta : TA} {σ : L2.St} {te : TE} {j m : Nat} {vs : List Nat} {d l : Addr} {lo hi : Int} (h : ∀ H, EvA ta σ H [.int (m : Int)]) (hm : m ≤ 1000)
    (hw : ∀ x, wipe ((wipe σ vs).set j (some x)) vs = wipe σ vs) (hd : ∀ x, Drawn te ((wipe σ vs).set j (some x)) d l lo hi) {K : PySem.W.Frag} :
    DrawnT (tCB (rTupOf K) (tCons (tLc (iRng1 ta) (gName j) tYes te vs) tNil)) σ d l m lo hi := fun H n hR hn Q q => by
  have z := lc_drawn (Q := fun v H1 => ∃ p ys, [v] = [V.ref p] ∧ ((SqL K H1 p ys ∧ ∀ l, H1 l = none → Q (.ref l) (upd H1 l (.tup ys))) ∨ (SqT K H1 p ys ∧ Q (.ref p) H1))) (h H) hm hR (by omega) hw hd fun D H' js hD k R g1 g2 g3 => ⟨D, _, rfl, .inl ⟨sq_of g1, fun t ht => q _ t js (k.trans (Kp.ex (Ex.new ht))) (R.ex (Ex.new ht)) upd_same g2 g3⟩⟩
  exact z
/-- a list of two such tuples -/
theorem lc_two {σ : L2.St} {H : Hp} {te : TE} {j m n : Nat} {vs : List Nat} {d l : Addr} {lo hi : Int} {Q : VK} (hm : m ≤ 1000) (hR : RdAt H d l n) (hn : n + 2 * m ≤ 700000)
    (hw : ∀ x, wipe ((wipe σ vs).set j (some x)) vs = wipe σ vs) (hd : ∀ x, DrawnT te ((wipe σ vs).set j (some x)) d l m lo hi)
    (q : ∀ D H' (p1 p2 : Addr) (xs ys : List Int), Kp d H H' → RdAt H' d l (n + 2 * m) → H' D = some (.lst [.ref p1, .ref p2]) → H' p1 = some (.tup (xs.map V.int)) → H' p2 = some (.tup (ys.map V.int)) → xs.length = m → ys.length = m →
      (∀ v ∈ xs, lo ≤ v ∧ v ≤ hi) → (∀ v ∈ ys, lo ≤ v ∧ v ≤ hi) → Q (.ref D) H') : tLc (iRng1 (tCons (tC (.int 2)) tNil)) (gName j) tYes te vs σ H Q := by
  refine ⟨2, rfl, by decide, by decide, fun Dl hD => ?_⟩
  have hDl : Dl ≠ l := hR.neN hD
  refine lc_range (lo := 0) (n := (2 : Int).toNat) (fun i H' => Kp d H H' ∧ RdAt H' d l (n + i * m) ∧ ∃ ps : List Addr, H' Dl = some (.lst (ps.map V.ref)) ∧ ps.length = i ∧ ∀ p ∈ ps, ∃ js : List Int, H' p = some (.tup (js.map V.int)) ∧ js.length = m ∧ ∀ v ∈ js, lo ≤ v ∧ v ≤ hi) ?_ (fun i H' hi' p => ?_) (fun H' p => ?_)
  · exact ⟨(Kp.refl d H).mut hD, by simpa using hR.ex (Ex.new hD), [], upd_same, rfl, fun _ hv => nomatch hv⟩
  · obtain ⟨k1, R1, ps, g1, g2, g3⟩ := p
    have nd : Dl ≠ d := R1.neL g1
    have hi2 : i < 2 := hi'
    have him : i * m ≤ 2 * m := Nat.mul_le_mul_right m (by omega)
    refine ⟨hw _, ?_⟩
    show te _ _ _
    refine hd _ H' (n + i * m) R1 (by omega) _ fun H2 p js k2 R2 f1 f2 f3 => ⟨ps.map V.ref, k2 _ _ g1 nd, ?_, (k1.trans k2).mut hD, ?_, ps ++ [p], ?_, ?_, fun u hu => ?_⟩
    · rw [List.length_map]
      exact sz_lt (by omega)
    · have := R2.upd (o := HO.lst (ps.map V.ref ++ [.ref p])) nd hDl
      rw [Nat.add_mul, Nat.one_mul, ← Nat.add_assoc]
      exact this
    · rw [upd_same, List.map_append]
      rfl
    · rw [List.length_append, g2]
      rfl
    · have keep : ∀ (a : Addr) (xs : List V), H2 a = some (.tup xs) → (upd H2 Dl (.lst (ps.map V.ref ++ [.ref p]))) a = some (.tup xs) := fun a xs ha => by
        rw [upd_ne (ne_of ha (k2 _ _ g1 nd) (by intro z; cases z))]
        exact ha
      rcases List.mem_append.mp hu with hu | hu
      · obtain ⟨js', z1, z2⟩ := g3 u hu
        exact ⟨js', keep u _ (k2 _ _ z1 (R1.neT z1)), z2⟩
      · rw [List.mem_singleton.mp hu]
        exact ⟨js, keep p _ f1, f2, f3⟩
  · obtain ⟨k1, R1, ps, g1, g2, g3⟩ := p
    have g2' : ps.length = 2 := g2
    match ps, g2' with
    | [p1, p2], _ =>
      obtain ⟨xs, x1, x2, x3⟩ := g3 p1 (by simp)
      obtain ⟨ys, y1, y2, y3⟩ := g3 p2 (by simp)
      exact q Dl H' p1 p2 xs ys k1 R1 g1 x1 y1 x2 y2 x3 y3
end Fx
/-! ### zip of two tuples in a comprehension; lists of one length -/
namespace Fx
open PySem PySem.Spec PyProof.Rows L2 Evl
theorem lc_zipT {K : PySem.W.Frag} {a b : Addr} {xs ys : List V} {g : TG} {tt : TT} {te : TE} {vs : List Nat} {σ : L2.St} {H1 : Hp} {D : Addr} {Qd : Hp → Prop} (hl : xs.length = ys.length) (Pv : Nat → Hp → Prop) (h0 : Pv 0 (upd H1 D (.lst []))) (hq : ∀ i H, Pv i H → SqT K H a xs ∧ SqT K H b ys)
    (hs : ∀ (i : Nat) (x y : V) (T : Addr) (H : Hp), xs[i]? = some x → ys[i]? = some y → Pv i H → H T = none → g (.ref T) (wipe σ vs) (upd H T (.tup [x, y])) fun σ2 H2 => wipe σ2 vs = wipe σ vs ∧ tt σ2 H2 fun b H3 =>
      if b = true then te σ2 H3 fun y H4 => ∃ acc, H4 D = some (.lst acc) ∧ acc.length < sizeLine ∧ Pv (i + 1) (upd H4 D (.lst (acc ++ [y]))) else Pv (i + 1) H3) (hd : ∀ H, Pv xs.length H → Qd H) :
    ∃ W : Nat → Nat → Hp → Prop, (∃ m, W 0 m (upd H1 D (.lst []))) ∧ ∀ i m H, W i m H →
      ((RZ.ItzT K a b).stop i H ∧ Qd H) ∨ ((RZ.ItzT K a b).go i H ∧ ∃ Nx : Hp → Prop, (∀ H', Nx H' → ∃ m', m' < m ∧ W (i + 1) m' H') ∧ ∀ x H', (RZ.ItzT K a b).yld i H x H' → g x (wipe σ vs) H' fun σ2 H2 => wipe σ2 vs = wipe σ vs ∧ tt σ2 H2 fun b H3 =>
        if b = true then te σ2 H3 fun y H4 => ∃ acc, H4 D = some (.lst acc) ∧ acc.length < sizeLine ∧ Nx (upd H4 D (.lst (acc ++ [y]))) else Nx H3) := by
  refine ⟨fun i m H => m = xs.length - i ∧ i ≤ xs.length ∧ Pv i H, ⟨xs.length, by simp, Nat.zero_le _, h0⟩, ?_⟩
  rintro i m H ⟨rfl, hi, p⟩
  obtain ⟨qx, qy⟩ := hq i H p
  by_cases hlt : i < xs.length
  · have hx : xs[i]? = some xs[i] := List.getElem?_eq_getElem hlt
    have hlt2 : i < ys.length := by omega
    have hy : ys[i]? = some ys[i] := List.getElem?_eq_getElem hlt2
    refine .inr ⟨⟨xs, ys, _, _, qx, qy, hx, hy⟩, Pv (i + 1), fun H' p' => ⟨xs.length - (i + 1), by omega, rfl, hlt, p'⟩, fun v H' y => ?_⟩
    obtain ⟨T, x', y', rfl, hT, rfl, f1, f2⟩ := y
    exact hs i x' y' T H (f1 xs qx) (f2 ys qy) p hT
  · have e : i = xs.length := by omega
    subst e
    exact .inl ⟨⟨xs, ys, qx, qy, Or.inl (Nat.le_refl _)⟩, hd H p⟩
def Lm (m : Nat) (xs : List Int) : Prop := xs.length = m ∧ Sm xs
theorem sm_of {xs : List Int} (h : ∀ v ∈ xs, -1000 ≤ v ∧ v ≤ 1000) : Sm xs := fun v hv => Nat.lt_of_lt_of_le (show v.natAbs < 2 ^ 10 by have := h v hv; omega) (Nat.pow_le_pow_right (by decide) (by decide))
theorem zw_mem {f : Int → Int → Int} : ∀ {xs ys : List Int} {v : Int}, v ∈ List.zipWith f xs ys → ∃ x y, x ∈ xs ∧ y ∈ ys ∧ v = f x y
  | [], _, _, h => by simp at h
  | _ :: _, [], _, h => by simp at h
  | x :: xs, y :: ys, v, h => by
    rcases List.mem_cons.mp (show v ∈ f x y :: List.zipWith f xs ys from h) with h | h
    · exact ⟨x, y, by simp, by simp, h⟩
    · obtain ⟨x', y', h1, h2, h3⟩ := zw_mem h
      exact ⟨x', y', List.mem_cons_of_mem _ h1, List.mem_cons_of_mem _ h2, h3⟩
theorem lm_zw {f : Int → Int → Int} {m : Nat} {xs ys : List Int} {a b : Int} (hf : ∀ x y, x ∈ xs → y ∈ ys → -1000 ≤ f x y ∧ f x y ≤ 1000) (h1 : xs.length = m) (h2 : ys.length = m) : Lm m (List.zipWith f xs ys) := by
  refine ⟨by rw [List.length_zipWith, h1, h2, Nat.min_self], sm_of fun v hv => ?_⟩
  obtain ⟨x, y, hx, hy, e⟩ := zw_mem hv
  rw [e]
  exact hf x y hx hy
theorem lm_rep {m : Nat} {n : Int} (h : -1000 ≤ n ∧ n ≤ 1000) : Lm m (List.replicate m n) := ⟨List.length_replicate, sm_of fun v hv => by rw [List.eq_of_mem_replicate hv]; exact h⟩
theorem lm_app {m k : Nat} {xs ys : List Int} (h1 : Lm m xs) (h2 : Lm k ys) : Lm (m + k) (xs ++ ys) := ⟨by rw [List.length_append, h1.1, h2.1], fun v hv => (List.mem_append.mp hv).elim (h1.2 v) (h2.2 v)⟩
section
variable {te ta tb tl : TE} {tz : TS} {D : Ends} {t : TT} {σ : L2.St} {H : Hp} {K : PySem.W.Frag} {v x y z : V} {xs ys : List Int}
theorem ev_totL {E : XK} {m : Nat} (ha : EvP ta σ H (IsT xs)) (hb : EvP tb σ H (IsT ys)) (lx : Lm m xs) (ly : Lm m ys) (hm : m ≤ 1000) : Ev (tCall spTot [] E (tCons ta (tCons tb tNil))) σ H (.int (dot xs ys)) :=
  ev_tot ha hb (lx.1.trans ly.1.symm) (by rw [lx.1]; exact hm) lx.2 ly.2
theorem q_asgP {P : VP} {i : Nat} (h : EvP te σ H P) (k : ∀ v H1, Ex H H1 → P v H1 → tz D (σ.set i (some v)) H1) : tSeq (tAsg te (gName i)) tz D σ H := h H (Ex.refl H) _ fun v H1 e p => k v H1 e p
/-- [f(xs[k], ys[k]) for k in range(m)] -/
theorem el_zw {ta : TA} {j m : Nat} {vs : List Nat} {f : Int → Int → Int} (h : EvA ta σ H [.int (m : Int)]) (hm : m ≤ 1000) (hx : xs.length = m) (hy : ys.length = m) (hw : ∀ x, wipe ((wipe σ vs).set j (some x)) vs = wipe σ vs)
    (he : ∀ (i : Nat) H1, Ex H H1 → i < m → Ev te ((wipe σ vs).set j (some (.int (i : Int)))) H1 (.int (f (xs.getD i 0) (ys.getD i 0)))) : EvL (tLc (iRng1 ta) (gName j) tYes te vs) σ H ((List.zipWith f xs ys).map V.int) := by
  have z := el_lcR1 (t := tYes) (te := te) (j := j) (vs := vs) (fun _ => true) (fun i => V.int (f (xs.getD i 0) (ys.getD i 0))) h (by omega) hw (fun i H1 _ _ => fun H2 _ Q q => q H2 (Ex.refl _)) (fun i H1 e hi _ => he i H1 e (by omega))
  rw [given_all, Int.toNat_natCast, range_zip f hx hy] at z
  exact z
end
end Fx
/-! ### data of tuples, and readings beside things that change -/
namespace Dt
open PySem PySem.Spec PyProof.Rows L2 Evl Fx
mutual
/-- data without lists and dicts -/
def flat : PyData → Bool
  | .none => true
  | .bool _ => true
  | .int _ => true
  | .str _ => true
  | .list _ => false
  | .tuple ds => flats ds
  | .dict _ => false
def flats : List PyData → Bool
  | [] => true
  | d :: ds => flat d && flats ds
end
theorem flats_cons {d : PyData} {ds : List PyData} : flats (d :: ds) = true ↔ flat d = true ∧ flats ds = true := by
  rw [flats, Bool.and_eq_true]
theorem flats_all : ∀ {ds : List PyData}, flats ds = true ↔ ∀ d ∈ ds, flat d = true
  | [] => by simp [flats]
  | d :: ds => by rw [flats_cons, flats_all, List.forall_mem_cons]
theorem flat_tup {ds : List PyData} : flat (.tuple ds) = flats ds := by rw [flat]
section
variable {K : PySem.W.Frag} {H H' : Hp}
/-- tuples are kept -/
def KT (K : PySem.W.Frag) (H H' : Hp) : Prop := ∀ a xs, SqT K H a xs → SqT K H' a xs
mutual
theorem dp_kt (k : KT K H H') : ∀ (d : PyData) (v : V), flat d = true → Dp K H v d → Dp K H' v d
  | .none, _, _, h => by cases h; exact .non
  | .bool _, _, _, h => by cases h; exact .bl _
  | .int _, _, _, h => by cases h; exact .int _
  | .str _, _, _, h => by cases h; exact .str _
  | .list _, _, f, _ => by simp [flat] at f
  | .tuple ds, _, f, h => by
    cases h with
    | tup h1 h2 => exact .tup (k _ _ h1) (dps_kt k ds _ (by rwa [flat] at f) h2)
  | .dict _, _, f, _ => by simp [flat] at f
theorem dps_kt (k : KT K H H') : ∀ (ds : List PyData) (vs : List V), flats ds = true → DpAll K H vs ds → DpAll K H' vs ds
  | [], _, _, h => by cases h; exact .nil
  | d :: ds, _, f, h => by
    have f' := flats_cons.mp f
    cases h with
    | cons h1 h2 => exact .cons (dp_kt k d _ f'.1 h1) (dps_kt k ds _ f'.2 h2)
end
mutual
theorem dp_ex (e : Ex H H') : ∀ (d : PyData) (v : V), Dp K H v d → Dp K H' v d
  | .none, _, h => by cases h; exact .non
  | .bool _, _, h => by cases h; exact .bl _
  | .int _, _, h => by cases h; exact .int _
  | .str _, _, h => by cases h; exact .str _
  | .list ds, _, h => by
    cases h with
    | lst h1 h2 => exact .lst (ex_l e h1) (dps_ex e ds _ h2)
  | .tuple ds, _, h => by
    cases h with
    | tup h1 h2 => exact .tup (ex_t e h1) (dps_ex e ds _ h2)
  | .dict _, _, h => nomatch h
theorem dps_ex (e : Ex H H') : ∀ (ds : List PyData) (vs : List V), DpAll K H vs ds → DpAll K H' vs ds
  | [], _, h => by cases h; exact .nil
  | d :: ds, _, h => by
    cases h with
    | cons h1 h2 => exact .cons (dp_ex e d _ h1) (dps_ex e ds _ h2)
end
theorem dps_len : ∀ {ds : List PyData} {vs : List V}, DpAll K H vs ds → vs.length = ds.length
  | [], _, h => by cases h; rfl
  | d :: ds, _, h => by
    cases h with
    | cons h1 h2 => simp [dps_len h2]
theorem dps_get : ∀ {ds : List PyData} {vs : List V} {i : Nat} {d : PyData}, DpAll K H vs ds → ds[i]? = some d → ∃ v, vs[i]? = some v ∧ Dp K H v d
  | [], _, _, _, _, e => by simp at e
  | d :: ds, _, i, d', h, e => by
    cases h with
    | @cons v vs _ _ h1 h2 =>
      cases i with
      | zero =>
        rw [List.getElem?_cons_zero] at e
        cases e
        exact ⟨v, rfl, h1⟩
      | succ i =>
        rw [List.getElem?_cons_succ] at e
        obtain ⟨u, q1, q2⟩ := dps_get h2 e
        exact ⟨u, by rw [List.getElem?_cons_succ]; exact q1, q2⟩
theorem dps_app : ∀ {ds es : List PyData} {vs us : List V}, DpAll K H vs ds → DpAll K H us es → DpAll K H (vs ++ us) (ds ++ es)
  | [], _, _, _, h, h' => by cases h; exact h'
  | d :: ds, _, _, _, h, h' => by
    cases h with
    | cons h1 h2 => exact .cons h1 (dps_app h2 h')
theorem dps_snoc {ds : List PyData} {d : PyData} {vs : List V} {v : V} (h : DpAll K H vs ds) (h' : Dp K H v d) : DpAll K H (vs ++ [v]) (ds ++ [d]) := dps_app h (.cons h' .nil)
theorem dps_rev : ∀ {ds : List PyData} {vs : List V}, DpAll K H vs ds → DpAll K H vs.reverse ds.reverse
  | [], _, h => by cases h; exact .nil
  | d :: ds, _, h => by
    cases h with
    | cons h1 h2 =>
      rw [List.reverse_cons, List.reverse_cons]
      exact dps_snoc (dps_rev h2) h1
theorem dps_take : ∀ {n : Nat} {ds : List PyData} {vs : List V}, DpAll K H vs ds → DpAll K H (vs.take n) (ds.take n)
  | 0, _, _, _ => by rw [List.take_zero, List.take_zero]; exact .nil
  | n + 1, [], _, h => by cases h; exact .nil
  | n + 1, d :: ds, _, h => by
    cases h with
    | cons h1 h2 => exact .cons h1 (dps_take h2)
theorem dps_drop : ∀ {n : Nat} {ds : List PyData} {vs : List V}, DpAll K H vs ds → DpAll K H (vs.drop n) (ds.drop n)
  | 0, _, _, h => by rw [List.drop_zero, List.drop_zero]; exact h
  | n + 1, [], _, h => by cases h; exact .nil
  | n + 1, d :: ds, _, h => by
    cases h with
    | cons h1 h2 =>
      rw [List.drop_succ_cons, List.drop_succ_cons]
      exact dps_drop h2
theorem dps_last {ds : List PyData} {d : PyData} {vs : List V} (h : DpAll K H vs (ds ++ [d])) : ∃ us u, vs = us ++ [u] ∧ DpAll K H us ds ∧ Dp K H u d := by
  have hl := dps_len h
  rw [List.length_append, List.length_singleton] at hl
  have hv : vs ≠ [] := by intro e; rw [e] at hl; simp at hl
  have e := List.dropLast_concat_getLast hv
  have h1 := dps_take (n := ds.length) h
  have h2 := dps_drop (n := ds.length) h
  rw [List.take_left] at h1
  rw [List.drop_left] at h2
  have e1 : vs.take ds.length = vs.dropLast := by rw [List.dropLast_eq_take, hl, Nat.add_sub_cancel]
  have e2 : vs.drop ds.length = [vs.getLast hv] := by
    have q : (vs.dropLast ++ [vs.getLast hv]).drop ds.length = [vs.getLast hv] := by
      have l1 : vs.dropLast.length = ds.length := by rw [List.length_dropLast, hl, Nat.add_sub_cancel]
      rw [← l1]
      exact List.drop_left
    rwa [e] at q
  rw [e1] at h1
  rw [e2] at h2
  cases h2 with
  | cons h3 h4 => exact ⟨_, _, e.symm, h1, h3⟩
/-- a value that reads as d -/
def IsD (K : PySem.W.Frag) (d : PyData) : VP := fun v H => Dp K H v d
end
/-- all but S is kept -/
def Kx (S : Addr → Prop) (H H' : Hp) : Prop := ∀ b o, H b = some o → ¬ S b → H' b = some o
theorem Kx.refl {S : Addr → Prop} {H : Hp} : Kx S H H := fun _ _ h _ => h
theorem Kx.trans {S : Addr → Prop} {H H1 H2 : Hp} (a : Kx S H H1) (b : Kx S H1 H2) : Kx S H H2 := fun x o h n => b x o (a x o h n) n
theorem Kx.ex {S : Addr → Prop} {H H1 : Hp} (e : Ex H H1) : Kx S H H1 := fun x o h _ => e x o h
theorem Kx.mut {S : Addr → Prop} {H H1 : Hp} {p : Addr} {o : HO} (k : Kx S H H1) (h : H p = none) : Kx S H (upd H1 p o) := fun b u hb n => by
  have : b ≠ p := by rintro rfl; rw [h] at hb; cases hb
  rw [upd_ne this]
  exact k b u hb n
theorem Kx.at {S : Addr → Prop} {H H1 : Hp} {p : Addr} {o : HO} (k : Kx S H H1) (h : S p) : Kx S H (upd H1 p o) := fun b u hb n => by
  have : b ≠ p := by rintro rfl; exact n h
  rw [upd_ne this]
  exact k b u hb n
def mutO (o : HO) : Prop := (∃ xs, o = .lst xs) ∨ ∃ kvs, o = .dK kvs
/-- what may change (S), where what is told of it stands (T), what is told (G, after so many turns), how many turns there may be -/
structure Fd where
  S : Addr → Prop
  T : Addr → Prop
  G : Nat → Hp → Prop
  N : Nat
structure Fd.Ok (F : Fd) : Prop where
  sub : ∀ {a}, F.S a → F.T a
  at_ : ∀ {n H a}, F.G n H → F.T a → ∃ o, H a = some o ∧ mutO o
  loc : ∀ {n H H'}, F.G n H → (∀ a o, F.T a → H a = some o → H' a = some o) → F.G n H'
  up : ∀ {n m H}, F.G n H → n ≤ m → F.G m H
/-- nothing changes -/
def F0 : Fd := ⟨fun _ => False, fun _ => False, fun _ _ => True, 0⟩
theorem F0.ok : F0.Ok := ⟨fun h => h, fun _ h => h.elim, fun _ _ => trivial, fun _ _ => trivial⟩
theorem F0.g {n : Nat} {H : Hp} : F0.G n H := trivial
theorem F0.ex {H H' : Hp} (e : Kx F0.S H H') : Ex H H' := fun a o h => e a o h fun z => z
def MonoF (F : Fd) (P : VP) : Prop := ∀ n v H H', F.G n H → Kx F.S H H' → P v H → P v H'
def MonoA (F : Fd) (P : List V → Hp → Prop) : Prop := ∀ n v H H', F.G n H → Kx F.S H H' → P v H → P v H'
def EvR (F : Fd) (te : TE) (σ : L2.St) (H : Hp) (k : Nat) (P : VP) : Prop := ∀ n H1, n + k ≤ F.N → F.G n H1 → Kx F.S H H1 → ∀ Q : VK, (∀ v H2, Kx F.S H1 H2 → F.G (n + k) H2 → P v H2 → Q v H2) → te σ H1 Q
def EvRA (F : Fd) (ta : TA) (σ : L2.St) (H : Hp) (k : Nat) (P : List V → Hp → Prop) : Prop := ∀ n H1, n + k ≤ F.N → F.G n H1 → Kx F.S H H1 → ∀ Q : List V → Hp → Prop, (∀ v H2, Kx F.S H1 H2 → F.G (n + k) H2 → P v H2 → Q v H2) → ta σ H1 Q
def EvRT (F : Fd) (tt : TT) (σ : L2.St) (H : Hp) (k : Nat) (b : Bool) : Prop := ∀ n H1, n + k ≤ F.N → F.G n H1 → Kx F.S H H1 → ∀ Q : Bool → Hp → Prop, (∀ H2, Kx F.S H1 H2 → F.G (n + k) H2 → Q b H2) → tt σ H1 Q
section
variable {F : Fd} {K : PySem.W.Frag} {te ta tb tc : TE} {tr : TA} {tt tu : TT} {σ : L2.St} {H H' : Hp} {P P' R : VP} {PA : List V → Hp → Prop} {d d' d2 : PyData} {ds : List PyData} {n k ka kb : Nat} {v : V}
theorem Fd.Ok.ex (o : F.Ok) (g : F.G n H) (e : Ex H H') : F.G n H' := o.loc g fun a u _ h => e a u h
theorem Fd.Ok.kt (o : F.Ok) (g : F.G n H) (e : Kx F.S H H') : KT K H H' := fun a xs h => by
  rcases h with (h | ⟨u, h⟩) | h
  · refine .inl (.inl (e a _ h fun hs => ?_))
    obtain ⟨w, q, m⟩ := o.at_ g (o.sub hs)
    rw [h] at q
    cases q
    rcases m with ⟨_, m⟩ | ⟨_, m⟩ <;> cases m
  · refine .inl (.inr ⟨u, e a _ h fun hs => ?_⟩)
    obtain ⟨w, q, m⟩ := o.at_ g (o.sub hs)
    rw [h] at q
    cases q
    rcases m with ⟨_, m⟩ | ⟨_, m⟩ <;> cases m
  · exact .inr h
theorem Fd.Ok.new (o : F.Ok) (g : F.G n H) {p : Addr} (h : H p = none) : ¬ F.T p := fun t => by
  obtain ⟨w, q, _⟩ := o.at_ g t
  rw [h] at q
  cases q
/-- at an address that was new, something else may be put -/
theorem Fd.Ok.put (o : F.Ok) {m : Nat} (g0 : F.G m H) {p : Addr} (h : H p = none) {u : HO} (g : F.G n H') : F.G n (upd H' p u) := o.loc g fun a w t q => by
  have : a ≠ p := by rintro rfl; exact o.new g0 h t
  rw [upd_ne this]
  exact q
theorem mono_d (o : F.Ok) (f : flat d = true) : MonoF F (IsD K d) := fun n v H H' g e p => dp_kt (o.kt g e) d v f p
theorem mono_ds (o : F.Ok) (f : flats ds = true) : MonoA F (fun vs H => DpAll K H vs ds) := fun n v H H' g e p => dps_kt (o.kt g e) ds v f p
theorem mono_eq {x : V} : MonoF F (fun v _ => v = x) := fun _ _ _ _ _ _ p => p
theorem EvR.mono (h : EvR F te σ H k P) (e : Kx F.S H H') : EvR F te σ H' k P := fun n H1 hn g e1 Q q => h n H1 hn g (e.trans e1) Q q
theorem EvRT.mono {b : Bool} (h : EvRT F tt σ H k b) (e : Kx F.S H H') : EvRT F tt σ H' k b := fun n H1 hn g e1 Q q => h n H1 hn g (e.trans e1) Q q
theorem EvRA.mono (h : EvRA F tr σ H k PA) (e : Kx F.S H H') : EvRA F tr σ H' k PA := fun n H1 hn g e1 Q q => h n H1 hn g (e.trans e1) Q q
theorem EvR.imp (h : EvR F te σ H k P) (i : ∀ n v H', F.G n H' → Kx F.S H H' → P v H' → P' v H') : EvR F te σ H k P' := fun n H1 hn g e1 Q q => h n H1 hn g e1 Q fun v H2 e2 g2 p => q v H2 e2 g2 (i _ v H2 g2 (e1.trans e2) p)
theorem EvR.cast (h : EvR F te σ H k (IsD K d)) (e : d = d') : EvR F te σ H k (IsD K d') := e ▸ h
theorem EvR.up {k' : Nat} (o : F.Ok) (h : EvR F te σ H k P) (hk : k ≤ k') : EvR F te σ H k' P := fun n H1 hn g e1 Q q => h n H1 (by omega) g e1 Q fun v H2 e2 g2 p => q v H2 e2 (o.up g2 (by omega)) p
theorem EvRT.up {k' : Nat} {b : Bool} (o : F.Ok) (h : EvRT F tt σ H k b) (hk : k ≤ k') : EvRT F tt σ H k' b := fun n H1 hn g e1 Q q => h n H1 (by omega) g e1 Q fun H2 e2 g2 => q H2 e2 (o.up g2 (by omega))
theorem r_var {i : Nat} (m : MonoF F P) (g0 : F.G n H) (h : σ[i]? = some (some v)) (p : P v H) : EvR F (tVar i) σ H 0 P := fun n1 H1 hn g e Q q => ⟨v, h, q v H1 Kx.refl g (m n v H H1 g0 e p)⟩
theorem rd_var (o : F.Ok) (g0 : F.G n H) {i : Nat} (h : σ[i]? = some (some v)) (p : Dp K H v d) (f : flat d = true := by rfl) : EvR F (tVar i) σ H 0 (IsD K d) := r_var (mono_d o f) g0 h p
theorem rv_var {i : Nat} (h : σ[i]? = some (some v)) : EvR F (tVar i) σ H 0 (fun x _ => x = v) := fun n1 H1 hn g e Q q => ⟨v, h, q v H1 Kx.refl g rfl⟩
theorem rv_c : EvR F (tC v) σ H 0 (fun x _ => x = v) := fun n1 H1 hn g e Q q => q v H1 Kx.refl g rfl
theorem rd_int {i : Int} : EvR F (tC (.int i)) σ H 0 (IsD K (.int i)) := fun n1 H1 hn g e Q q => q _ H1 Kx.refl g (.int i)
theorem rd_str {i : Str} : EvR F (tC (.str i)) σ H 0 (IsD K (.str i)) := fun n1 H1 hn g e Q q => q _ H1 Kx.refl g (.str i)
theorem rd_bl {i : Bool} : EvR F (tC (.bl i)) σ H 0 (IsD K (.bool i)) := fun n1 H1 hn g e Q q => q _ H1 Kx.refl g (.bl i)
theorem rv_int {i : Int} (h : EvR F te σ H k (IsD K (.int i))) : EvR F te σ H k (fun x _ => x = .int i) := h.imp fun _ v _ _ _ p => by cases p; rfl
theorem rv_str {i : Str} (h : EvR F te σ H k (IsD K (.str i))) : EvR F te σ H k (fun x _ => x = .str i) := h.imp fun _ v _ _ _ p => by cases p; rfl
theorem rv_bl {i : Bool} (h : EvR F te σ H k (IsD K (.bool i))) : EvR F te σ H k (fun x _ => x = .bl i) := h.imp fun _ v _ _ _ p => by cases p; rfl
theorem rd_ofI {i : Int} (h : EvR F te σ H k (fun x _ => x = .int i)) : EvR F te σ H k (IsD K (.int i)) := h.imp fun _ v _ _ _ p => by subst p; exact .int i
theorem rd_ofB {i : Bool} (h : EvR F te σ H k (fun x _ => x = .bl i)) : EvR F te σ H k (IsD K (.bool i)) := h.imp fun _ v _ _ _ p => by subst p; exact .bl i
theorem rd_ofS {i : Str} (h : EvR F te σ H k (fun x _ => x = .str i)) : EvR F te σ H k (IsD K (.str i)) := h.imp fun _ v _ _ _ p => by subst p; exact .str i
theorem r_op {r : R2} (o : F.Ok) (mP : MonoF F P) (ha : EvR F ta σ H ka P) (hb : EvR F tb σ H kb P') (hr : ∀ x y n H1, F.G n H1 → Kx F.S H H1 → P x H1 → P' y H1 → ∀ Q : VK, (∀ z H2, Ex H1 H2 → R z H2 → Q z H2) → r x y H1 Q) : EvR F (tOp r ta tb) σ H (ka + kb) R :=
  fun n H1 hn g e Q q => ha n H1 (by omega) g e _ fun x H2 e2 g2 p => hb (n + ka) H2 (by omega) g2 (e.trans e2) _ fun y H3 e3 g3 p' => hr x y _ H3 g3 (e.trans (e2.trans e3)) (mP _ _ _ _ g2 e3 p) p' Q fun z H4 e4 pz =>
    q z H4 (e2.trans (e3.trans (Kx.ex e4))) (by rw [← Nat.add_assoc]; exact o.ex g3 e4) pz
theorem ra_nil : EvRA F tNil σ H 0 (fun vs H => DpAll K H vs []) := fun n1 H1 hn g e Q q => q _ H1 Kx.refl g .nil
theorem ra_cons (o : F.Ok) (h : EvR F te σ H ka (IsD K d)) (hr : EvRA F tr σ H kb (fun vs H => DpAll K H vs ds)) (f : flat d = true := by rfl) : EvRA F (tCons te tr) σ H (ka + kb) (fun vs H => DpAll K H vs (d :: ds)) :=
  fun n H1 hn g e Q q => h n H1 (by omega) g e _ fun x H2 e2 g2 p => hr (n + ka) H2 (by omega) g2 (e.trans e2) _ fun vs H3 e3 g3 p' => q (x :: vs) H3 (e2.trans e3) (by rw [← Nat.add_assoc]; exact g3) (.cons (mono_d o f _ _ _ _ g2 e3 p) p')
theorem rd_tup (o : F.Ok) (h : EvRA F tr σ H k (fun vs H => DpAll K H vs ds)) (f : flats ds = true := by rfl) (hl : ds.length ≤ 100000 := by simp) : EvR F (tTup tr) σ H k (IsD K (.tuple ds)) :=
  fun n H1 hn g e Q q => h n H1 hn g e _ fun vs H2 e2 g2 p => ⟨sz_of (by rw [dps_len p]; exact hl), fun a ha => q (.ref a) _ (e2.trans (Kx.ex (Ex.new ha))) (o.ex g2 (Ex.new ha)) (.tup (st_of upd_same) (dps_ex (Ex.new ha) _ _ p))⟩
theorem rd_ix {i : Int} (o : F.Ok) (ha : EvR F ta σ H ka (IsD K (.tuple ds))) (hb : EvR F tb σ H kb (fun x _ => x = .int i)) (j : Nat) (hj : ixN ds.length i = some j) (hd : ds[j]? = some d) (f : flat (.tuple ds) = true := by rfl) : EvR F (tOp (rIxT K) ta tb) σ H (ka + kb) (IsD K d) :=
  r_op o (mono_d o f) ha hb fun x y n H1 g e px py Q q => by
    subst py
    cases px with
    | tup h1 h2 =>
      obtain ⟨u, hu, hdu⟩ := dps_get h2 hd
      exact ⟨_, _, i, u, rfl, rfl, h1, by unfold atI; rw [dps_len h2, hj]; exact hu, q u H1 (Ex.refl _) hdu⟩
theorem rb_eq (o : F.Ok) (ha : EvR F ta σ H ka (IsD K d)) (hb : EvR F tb σ H kb (IsD K d')) (sd : SeqAt.shaped d = true) (sd' : SeqAt.shaped d' = true) (f : flat d = true := by rfl) : EvR F (tOp (rEqD K) ta tb) σ H (ka + kb) (fun x _ => x = .bl (PyData.eqv d d')) :=
  r_op o (mono_d o f) ha hb fun x y n H1 g e px py Q q => ⟨d, d', px, py, sd, sd', q _ H1 (Ex.refl _) rfl⟩
theorem rb_ne (o : F.Ok) (ha : EvR F ta σ H ka (IsD K d)) (hb : EvR F tb σ H kb (IsD K d')) (sd : SeqAt.shaped d = true) (sd' : SeqAt.shaped d' = true) (f : flat d = true := by rfl) : EvR F (tOp (rNeD K) ta tb) σ H (ka + kb) (fun x _ => x = .bl (!PyData.eqv d d')) :=
  r_op o (mono_d o f) ha hb fun x y n H1 g e px py Q q => ⟨d, d', px, py, sd, sd', q _ H1 (Ex.refl _) rfl⟩
/-- tests -/
theorem rt_val {b : Bool} (h : EvR F te σ H k (fun x _ => x = .bl b)) : EvRT F (tTest te) σ H k b := fun n H1 hn g e Q q => h n H1 hn g e _ fun v H2 e2 g2 p => ⟨b, p, q H2 e2 g2⟩
theorem rt_B {b : Bool} (h : EvR F te σ H k (fun x _ => x = .bl b)) : EvRT F (tB te) σ H k b := fun n H1 hn g e Q q => h n H1 hn g e _ fun v H2 e2 g2 p => ⟨b, p, q H2 e2 g2⟩
theorem rt_not {a : Bool} (h1 : EvRT F tt σ H k a) : EvRT F (tNot tt) σ H k (!a) := fun n H1 hn g e _ q => h1 n H1 hn g e _ fun H2 e2 g2 => q H2 e2 g2
theorem rt_is {a b : Bool} (h : EvRT F tt σ H k a) (e : a = b) : EvRT F tt σ H k b := e ▸ h
theorem rt_and {a b : Bool} (o : F.Ok) (h1 : EvRT F tt σ H ka a) (h2 : a = true → EvRT F tu σ H kb b) : EvRT F (tAnd tt tu) σ H (ka + kb) (a && b) := fun n H1 hn g e Q q => h1 n H1 (by omega) g e _ fun H2 e2 g2 => by
  cases a with
  | false => exact q H2 e2 (o.up g2 (by omega))
  | true => exact h2 rfl (n + ka) H2 (by omega) g2 (e.trans e2) _ fun H3 e3 g3 => q H3 (e2.trans e3) (by rw [← Nat.add_assoc]; exact g3)
theorem rt_or {a b : Bool} (o : F.Ok) (h1 : EvRT F tt σ H ka a) (h2 : a = false → EvRT F tu σ H kb b) : EvRT F (tOr tt tu) σ H (ka + kb) (a || b) := fun n H1 hn g e Q q => h1 n H1 (by omega) g e _ fun H2 e2 g2 => by
  cases a with
  | true => exact q H2 e2 (o.up g2 (by omega))
  | false => exact h2 rfl (n + ka) H2 (by omega) g2 (e.trans e2) _ fun H3 e3 g3 => q H3 (e2.trans e3) (by rw [← Nat.add_assoc]; exact g3)
theorem r_if {b : Bool} (o : F.Ok) (h : EvRT F tt σ H ka b) (h1 : b = true → EvR F ta σ H kb P) (h2 : b = false → EvR F tb σ H kb P) : EvR F (tIf tt ta tb) σ H (ka + kb) P := fun n H1 hn g e Q q => h n H1 (by omega) g e _ fun H2 e2 g2 => by
  cases b with
  | true => exact h1 rfl (n + ka) H2 (by omega) g2 (e.trans e2) _ fun v H3 e3 g3 p => q v H3 (e2.trans e3) (by rw [← Nat.add_assoc]; exact g3) p
  | false => exact h2 rfl (n + ka) H2 (by omega) g2 (e.trans e2) _ fun v H3 e3 g3 p => q v H3 (e2.trans e3) (by rw [← Nat.add_assoc]; exact g3) p
theorem rb_and {a b : Bool} (o : F.Ok) (h1 : EvR F ta σ H ka (fun x _ => x = .bl a)) (h2 : a = true → EvR F tb σ H kb (fun x _ => x = .bl b)) : EvR F (tAndV ta tb) σ H (ka + kb) (fun x _ => x = .bl (a && b)) := fun n H1 hn g e Q q => h1 n H1 (by omega) g e _ fun v H2 e2 g2 p => ⟨a, p, by
  cases a with
  | false => exact q _ H2 e2 (o.up g2 (by omega)) rfl
  | true => exact h2 rfl (n + ka) H2 (by omega) g2 (e.trans e2) _ fun v H3 e3 g3 p => q v H3 (e2.trans e3) (by rw [← Nat.add_assoc]; exact g3) p⟩
theorem rb_or {a b : Bool} (o : F.Ok) (h1 : EvR F ta σ H ka (fun x _ => x = .bl a)) (h2 : a = false → EvR F tb σ H kb (fun x _ => x = .bl b)) : EvR F (tOrV ta tb) σ H (ka + kb) (fun x _ => x = .bl (a || b)) := fun n H1 hn g e Q q => h1 n H1 (by omega) g e _ fun v H2 e2 g2 p => ⟨a, p, by
  cases a with
  | true => exact q _ H2 e2 (o.up g2 (by omega)) rfl
  | false => exact h2 rfl (n + ka) H2 (by omega) g2 (e.trans e2) _ fun v H3 e3 g3 p => q v H3 (e2.trans e3) (by rw [← Nat.add_assoc]; exact g3) p⟩
theorem rb_not {a : Bool} (h1 : EvR F ta σ H k (fun x _ => x = .bl a)) : EvR F (tNotV ta) σ H k (fun x _ => x = .bl (!a)) := fun n H1 hn g e _ q => h1 n H1 hn g e _ fun v H2 e2 g2 p => ⟨a, p, q _ H2 e2 g2 rfl⟩
end
end Dt
/-! ### comprehensions, calls and statements beside things that change -/
namespace Dt
open PySem PySem.Spec PyProof.Rows L2 Evl Fx
section
variable {F : Fd} {K : PySem.W.Frag} {te ta tb tl : TE} {tr : TA} {tt tu : TT} {g : TG} {σ : L2.St} {H H' : Hp} {P P' R : VP} {d d' d2 : PyData} {ds es : List PyData} {n k ka kb kt ke : Nat} {v : V}
/-- a list of its own that reads as these data -/
def IsL (F : Fd) (K : PySem.W.Frag) (ds : List PyData) : VP := fun v H => ∃ p xs, v = .ref p ∧ ¬ F.T p ∧ H p = some (.lst xs) ∧ DpAll K H xs ds
theorem mono_l (o : F.Ok) (f : flats ds = true) : MonoF F (IsL F K ds) := fun n v H H' g e ⟨p, xs, e1, h1, h2, h3⟩ => ⟨p, xs, e1, h1, e _ _ h2 fun s => h1 (o.sub s), mono_ds o f n _ _ _ g e h3⟩
theorem IsL.dp (h : IsL F K ds v H) : Dp K H v (.list ds) := by
  obtain ⟨p, xs, rfl, _, h2, h3⟩ := h
  exact .lst (sq_of h2) h3
/-- where a value is put, on a heap that stays -/
def Gv (g : TG) (x : V) (σ : L2.St) (H : Hp) (σ2 : L2.St) : Prop := ∀ Q : L2.St → Hp → Prop, Q σ2 H → g x σ H Q
theorem gv_name {i : Nat} {x : V} : Gv (gName i) x σ H (σ.set i (some x)) := fun Q q => q
def outs (f : Nat → Bool) (e : Nat → PyData) (i : Nat) : List PyData := ((List.range i).filter f).map e
theorem outs_yes {f : Nat → Bool} {e : Nat → PyData} {i : Nat} (h : f i = true) : outs f e (i + 1) = outs f e i ++ [e i] := by
  unfold outs
  rw [List.range_succ, List.filter_append, List.map_append, List.filter_cons, if_pos h]
  rfl
theorem outs_no {f : Nat → Bool} {e : Nat → PyData} {i : Nat} (h : f i = false) : outs f e (i + 1) = outs f e i := by
  unfold outs
  rw [List.range_succ, List.filter_append, List.map_append, List.filter_cons, if_neg (by rw [h]; exact Bool.false_ne_true)]
  simp
theorem outs_len {f : Nat → Bool} {e : Nat → PyData} {i : Nat} : (outs f e i).length ≤ i := by
  unfold outs
  rw [List.length_map]
  have h := List.length_filter_le f (List.range i)
  rwa [List.length_range] at h
theorem outs_flat {f : Nat → Bool} {e : Nat → PyData} {i m : Nat} (h : ∀ j, j < m → f j = true → flat (e j) = true) (hi : i ≤ m) : flats (outs f e i) = true := flats_all.mpr fun d hd => by
  unfold outs at hd
  obtain ⟨j, hj, rfl⟩ := List.mem_map.mp hd
  have q := List.mem_filter.mp hj
  exact h j (by have := List.mem_range.mp q.1; omega) q.2
theorem outs_all {e : Nat → PyData} {i : Nat} : outs (fun _ => true) e i = (List.range i).map e := by
  unfold outs
  rw [List.filter_eq_self.mpr fun _ _ => rfl]
/-- within a comprehension -/
def Cd (F : Fd) (K : PySem.W.Frag) (H1 : Hp) (Dl : Addr) (n0 k : Nat) (f : Nat → Bool) (e : Nat → PyData) (i : Nat) (H' : Hp) : Prop :=
  Kx F.S H1 H' ∧ F.G (n0 + i * k) H' ∧ ∃ vs, H' Dl = some (.lst vs) ∧ DpAll K H' vs (outs f e i)
theorem cd_turn (o : F.Ok) {H1 H' : Hp} {Dl : Addr} {n0 m i : Nat} {f : Nat → Bool} {e : Nat → PyData} {σ2 : L2.St} (g1 : F.G n0 H1) (hD : H1 Dl = none) (p : Cd F K H1 Dl n0 (kt + ke) f e i H') (hi : i < m) (hm : m ≤ 40000) (hN : n0 + m * (kt + ke) ≤ F.N)
    (fl : ∀ j, j < m → f j = true → flat (e j) = true) (ht : EvRT F tt σ2 H' kt (f i)) (he : f i = true → EvR F te σ2 H' ke (IsD K (e i))) :
    tt σ2 H' fun b H3 => if b = true then te σ2 H3 fun y H4 => ∃ acc, H4 Dl = some (.lst acc) ∧ acc.length < sizeLine ∧ Cd F K H1 Dl n0 (kt + ke) f e (i + 1) (upd H4 Dl (.lst (acc ++ [y]))) else Cd F K H1 Dl n0 (kt + ke) f e (i + 1) H3 := by
  obtain ⟨p1, p2, vs, p3, p4⟩ := p
  have nS : ¬ F.S Dl := fun s => o.new g1 hD (o.sub s)
  have hk : n0 + (i + 1) * (kt + ke) = n0 + i * (kt + ke) + kt + ke := by rw [Nat.succ_mul]; omega
  have hb : n0 + i * (kt + ke) + (kt + ke) ≤ F.N := by
    have : (i + 1) * (kt + ke) ≤ m * (kt + ke) := Nat.mul_le_mul_right _ hi
    rw [Nat.succ_mul] at this
    omega
  have fo : flats (outs f e i) = true := outs_flat fl (by omega)
  refine ht _ H' (by omega) p2 Kx.refl _ fun H3 e3 g3 => ?_
  cases hf : f i with
  | true =>
    show te σ2 H3 fun y H4 => _
    refine he hf _ H3 (by omega) g3 e3 _ fun y H4 e4 g4 hy => ⟨vs, e4 _ _ (e3 _ _ p3 nS) nS, sz_lt (by rw [dps_len p4]; have := outs_len (f := f) (e := e) (i := i); omega), (p1.trans (e3.trans e4)).mut hD, ?_, vs ++ [y], upd_same, ?_⟩
    · rw [hk]
      exact o.put g1 hD g4
    · rw [outs_yes hf]
      have h4 : DpAll K H4 vs (outs f e i) := mono_ds o fo _ _ _ _ g3 e4 (mono_ds o fo _ _ _ _ p2 e3 p4)
      have kt' : KT K H4 (upd H4 Dl (.lst (vs ++ [y]))) := fun a xs h => by
        have hne : ∀ u, H4 a = some u → (∀ ys, u ≠ .lst ys) → a ≠ Dl := fun u q z => by
          rintro rfl
          rw [e4 _ _ (e3 _ _ p3 nS) nS] at q
          cases q
          exact z _ rfl
        rcases h with (h | ⟨u, h⟩) | h
        · exact .inl (.inl (by rw [upd_ne (hne _ h fun _ z => by cases z)]; exact h))
        · exact .inl (.inr ⟨u, by rw [upd_ne (hne _ h fun _ z => by cases z)]; exact h⟩)
        · exact .inr h
      exact dps_snoc (dps_kt kt' _ _ fo h4) (dp_kt kt' _ _ (fl i hi hf) hy)
  | false =>
    show Cd F K H1 Dl n0 (kt + ke) f e (i + 1) H3
    refine ⟨p1.trans e3, by rw [hk]; exact o.up g3 (by omega), vs, e3 _ _ p3 nS, ?_⟩
    rw [outs_no hf]
    exact mono_ds o fo _ _ _ _ p2 e3 p4
theorem kt_new {H : Hp} {p : Addr} {u : HO} (h : H p = none) : KT K H (upd H p u) := fun a xs q => ex_t (Ex.new h) q
/-- [e for .. in xs if ..], xs a list -/
theorem r_lcL (o : F.Ok) {vs : List Nat} (f : Nat → Bool) (e : Nat → PyData) (h : EvR F tl σ H k (IsL F K ds)) (fd : flats ds = true) (hm : ds.length ≤ 40000) (fl : ∀ j, j < ds.length → f j = true → flat (e j) = true)
    (ht : ∀ i x d n H', ds[i]? = some d → Dp K H' x d → F.G n H' → Kx F.S H H' → ∃ σ2, Gv g x (wipe σ vs) H' σ2 ∧ wipe σ2 vs = wipe σ vs ∧ EvRT F tt σ2 H' kt (f i) ∧ (f i = true → EvR F te σ2 H' ke (IsD K (e i)))) :
    EvR F (tLc (iList K tl) g tt te vs) σ H (k + ds.length * (kt + ke)) (IsL F K (outs f e ds.length)) := fun n H0 hn g0 e0 Q q => h n H0 (by omega) g0 e0 _ fun v H1 e1 g1 ⟨a, xs, ev, hT, ha, hx⟩ => by
  subst ev
  have hl := dps_len hx
  have nS : ¬ F.S a := fun s => hT (o.sub s)
  refine ⟨a, rfl, ⟨xs, sq_of ha⟩, fun Dl hD => lc_list (xs := xs) (Cd F K H1 Dl (n + k) (kt + ke) f e) ?_ (fun i H' _ p => sq_of (p.1 a _ ha nS)) (fun i x H' hi p => ?_) fun H' p => ?_⟩
  · exact ⟨Kx.ex (Ex.new hD), by rw [Nat.zero_mul]; exact o.put g1 hD g1, [], upd_same, .nil⟩
  · have hlt := (List.getElem?_eq_some_iff.mp hi).1
    have hdi : ds[i]? = some ds[i] := List.getElem?_eq_getElem (by omega)
    obtain ⟨u, hu, hdu⟩ := dps_get (mono_ds o fd _ _ _ _ g1 p.1 hx) hdi
    rw [hi] at hu
    cases hu
    obtain ⟨σ2, q1, q2, q3, q4⟩ := ht i x _ _ H' hdi hdu p.2.1 (e0.trans (e1.trans p.1))
    exact q1 _ ⟨q2, cd_turn o g1 hD p (by omega) hm (by rw [Nat.add_assoc]; exact hn) fl q3 q4⟩
  · rw [hl] at p
    obtain ⟨p1, p2, ws, p3, p4⟩ := p
    exact q (.ref Dl) H' (e1.trans p1) (by rw [← Nat.add_assoc]; exact p2) ⟨Dl, ws, rfl, o.new g1 hD, p3, p4⟩
/-- .. xs a tuple -/
theorem r_lcT (o : F.Ok) {vs : List Nat} (f : Nat → Bool) (e : Nat → PyData) (h : EvR F tl σ H k (IsD K (.tuple ds))) (fd : flats ds = true) (hm : ds.length ≤ 40000) (fl : ∀ j, j < ds.length → f j = true → flat (e j) = true)
    (ht : ∀ i x d n H', ds[i]? = some d → Dp K H' x d → F.G n H' → Kx F.S H H' → ∃ σ2, Gv g x (wipe σ vs) H' σ2 ∧ wipe σ2 vs = wipe σ vs ∧ EvRT F tt σ2 H' kt (f i) ∧ (f i = true → EvR F te σ2 H' ke (IsD K (e i)))) :
    EvR F (tLc (iTup K tl) g tt te vs) σ H (k + ds.length * (kt + ke)) (IsL F K (outs f e ds.length)) := fun n H0 hn g0 e0 Q q => h n H0 (by omega) g0 e0 _ fun v H1 e1 g1 hd => by
  cases hd with
  | @tup a xs _ ha hx =>
  have hl := dps_len hx
  refine ⟨a, rfl, ⟨xs, ha⟩, fun Dl hD => lc_tup (xs := xs) (Cd F K H1 Dl (n + k) (kt + ke) f e) ?_ (fun i H' _ p => o.kt g1 p.1 _ _ ha) (fun i x H' hi p => ?_) fun H' p => ?_⟩
  · exact ⟨Kx.ex (Ex.new hD), by rw [Nat.zero_mul]; exact o.put g1 hD g1, [], upd_same, .nil⟩
  · have hlt := (List.getElem?_eq_some_iff.mp hi).1
    have hdi : ds[i]? = some ds[i] := List.getElem?_eq_getElem (by omega)
    obtain ⟨u, hu, hdu⟩ := dps_get (mono_ds o fd _ _ _ _ g1 p.1 hx) hdi
    rw [hi] at hu
    cases hu
    obtain ⟨σ2, q1, q2, q3, q4⟩ := ht i x _ _ H' hdi hdu p.2.1 (e0.trans (e1.trans p.1))
    exact q1 _ ⟨q2, cd_turn o g1 hD p (by omega) hm (by rw [Nat.add_assoc]; exact hn) fl q3 q4⟩
  · rw [hl] at p
    obtain ⟨p1, p2, ws, p3, p4⟩ := p
    exact q (.ref Dl) H' (e1.trans p1) (by rw [← Nat.add_assoc]; exact p2) ⟨Dl, ws, rfl, o.new g1 hD, p3, p4⟩
/-- .. over range(m) -/
theorem r_lcR (o : F.Ok) {vs : List Nat} {m : Nat} (f : Nat → Bool) (e : Nat → PyData) (h : EvRA F tr σ H k (fun us _ => us = [.int (m : Int)])) (hm : m ≤ 40000) (fl : ∀ j, j < m → f j = true → flat (e j) = true)
    (ht : ∀ i n H', i < m → F.G n H' → Kx F.S H H' → ∃ σ2, Gv g (.int (i : Int)) (wipe σ vs) H' σ2 ∧ wipe σ2 vs = wipe σ vs ∧ EvRT F tt σ2 H' kt (f i) ∧ (f i = true → EvR F te σ2 H' ke (IsD K (e i)))) :
    EvR F (tLc (iRng1 tr) g tt te vs) σ H (k + m * (kt + ke)) (IsL F K (outs f e m)) := fun n H0 hn g0 e0 Q q => h n H0 (by omega) g0 e0 _ fun us H1 e1 g1 hd => by
  subst hd
  refine ⟨(m : Int), rfl, by omega, by omega, fun Dl hD => lc_range (lo := 0) (n := (m : Int).toNat) (Cd F K H1 Dl (n + k) (kt + ke) f e) ?_ (fun i H' hi p => ?_) fun H' p => ?_⟩
  · exact ⟨Kx.ex (Ex.new hD), by rw [Nat.zero_mul]; exact o.put g1 hD g1, [], upd_same, .nil⟩
  · have him : i < m := by omega
    have e00 : (0 : Int) + (i : Int) = (i : Int) := Int.zero_add _
    obtain ⟨σ2, q1, q2, q3, q4⟩ := ht i _ H' him p.2.1 (e0.trans (e1.trans p.1))
    rw [e00]
    exact q1 _ ⟨q2, cd_turn o g1 hD p him hm (by rw [Nat.add_assoc]; exact hn) fl q3 q4⟩
  · rw [show (m : Int).toNat = m from Int.toNat_natCast m] at p
    obtain ⟨p1, p2, ws, p3, p4⟩ := p
    exact q (.ref Dl) H' (e1.trans p1) (by rw [← Nat.add_assoc]; exact p2) ⟨Dl, ws, rfl, o.new g1 hD, p3, p4⟩
/-- no test -/
theorem rt_yes {b : Bool} (h : b = true) : EvRT F (fun _ H Q => Q true H) σ H 0 b := fun n H1 hn g e Q q => h ▸ q H1 Kx.refl g
/-- tuple(xs), xs a list of its own -/
theorem rd_tupOf (o : F.Ok) (h : EvR F te σ H k (IsL F K ds)) : EvR F (tCB (rTupOf K) (tCons te tNil)) σ H k (IsD K (.tuple ds)) := fun n H1 hn g e Q q => h n H1 hn g e _ fun v H2 e2 g2 ⟨p, xs, ev, hT, ha, hx⟩ => by
  subst ev
  exact ⟨p, xs, rfl, .inl ⟨sq_of ha, fun l hl => q (.ref l) _ (e2.trans (Kx.ex (Ex.new hl))) (o.ex g2 (Ex.new hl)) (.tup (st_of upd_same) (dps_ex (Ex.new hl) _ _ hx))⟩⟩
/-- the promise of a def that changes nothing: of data, data -/
def spD (K : PySem.W.Frag) (R : List PyData → PyData → Prop) : Sp := fun vs H Q _ => ∃ ds d, DpAll K H vs ds ∧ R ds d ∧ ∀ v H', Ex H H' → Dp K H' v d → Q v H'
/-- .. a new list of data -/
def spL (K : PySem.W.Frag) (R : List PyData → List PyData → Prop) : Sp := fun vs H Q _ => ∃ ds es, DpAll K H vs ds ∧ R ds es ∧ ∀ p xs H', H p = none → Ex H H' → H' p = some (.lst xs) → DpAll K H' xs es → Q (.ref p) H'
theorem rd_call {Rl : List PyData → PyData → Prop} {E : XK} (o : F.Ok) (h : EvRA F tr σ H k (fun vs H => DpAll K H vs ds)) (hR : Rl ds d) : EvR F (tCall (spD K Rl) [] E tr) σ H k (IsD K d) := fun n H1 hn g e Q q => h n H1 hn g e _ fun vs H2 e2 g2 p =>
  ⟨ds, d, by rw [List.append_nil]; exact p, hR, fun v H3 e3 hv => q v H3 (e2.trans (Kx.ex e3)) (o.ex g2 e3) hv⟩
theorem rl_call {Rl : List PyData → List PyData → Prop} {E : XK} (o : F.Ok) (h : EvRA F tr σ H k (fun vs H => DpAll K H vs ds)) (hR : Rl ds es) : EvR F (tCall (spL K Rl) [] E tr) σ H k (IsL F K es) := fun n H1 hn g e Q q => h n H1 hn g e _ fun vs H2 e2 g2 p =>
  ⟨ds, es, by rw [List.append_nil]; exact p, hR, fun a xs H3 ha e3 hv hx => q (.ref a) H3 (e2.trans (Kx.ex e3)) (o.ex g2 e3) ⟨a, xs, rfl, o.new g2 ha, hv, hx⟩⟩
end
end Dt
/-! ### sorted of data, a tuple turned round, a list extended by a tuple -/
namespace HT
open PySem PySem.Calls PyProof.Rows
section
variable {prog : Program} {w : World} {A : Around} {E : Value → Shared → Prop} {s : Shared}
theorem adjust_back (n : Nat) : Builtin.Slice.sliceAdjust none none (-1) (n : Int) = ((n : Int) - 1, -1) := rfl
theorem places_back (n : Nat) : Builtin.Slice.slicePlaces ((n : Int) - 1) (-1) (-1) = n := by
  unfold Builtin.Slice.slicePlaces
  rw [if_neg (by decide)]
  by_cases h : (n : Int) - 1 > -1
  · rw [if_pos h]
    have : ((n : Int) - 1 - -1 - 1) / -(-1) = (n : Int) - 1 := by rw [show -(-1 : Int) = 1 from rfl, Int.ediv_one]; omega
    rw [this]
    omega
  · rw [if_neg h]
    omega
theorem applied_back {sl : Addr} {vl vu vs : Value} {n : Nat} {Q : Int × Int × Nat → Shared → Prop} (hs : s.heap.IsSliceOf sl vl vu vs) (pl : IsPart vl none) (pu : IsPart vu none) (ps : IsPart vs (some (-1)))
    (h : Q ((n : Int) - 1, -1, n) s) : wpAny (model prog w) A (Builtin.Slice.sliceApplied (.ref sl) (pure (n : Int))) Q E s := by
  obtain ⟨os, hos, hcs, hds⟩ := id hs
  unfold Builtin.Slice.sliceApplied Builtin.Slice.sliceFields
  refine wpAny_bind (wpAny_bind (wpAny_field hos hds (x := vl) rfl (wpAny_bind (wpAny_field hos hds (x := vu) rfl (wpAny_bind (wpAny_field hos hds (x := vs) rfl (wpAny_pure ?_)))))))
  refine wpAny_bind (slicePart_ ps ?_)
  show wpAny _ _ (if ((-1 : Int) == 0) = true then _ else _) _ _ s
  rw [if_neg (by decide)]
  refine wpAny_bind (slicePart_ pl (wpAny_bind (slicePart_ pu (wpAny_bind (wpAny_pure ?_)))))
  show wpAny _ _ (match Builtin.Slice.sliceAdjust none none (-1) (n : Int) with | (lo, hi) => pure (lo, (-1 : Int), Builtin.Slice.slicePlaces lo hi (-1))) _ _ s
  rw [adjust_back]
  show wpAny _ _ (pure ((n : Int) - 1, (-1 : Int), Builtin.Slice.slicePlaces ((n : Int) - 1) (-1) (-1))) _ _ s
  rw [places_back]
  exact wpAny_pure h
theorem fm_congr {α β : Type} {f g : α → Option β} : ∀ {l : List α}, (∀ m ∈ l, f m = g m) → l.filterMap f = l.filterMap g
  | [], _ => rfl
  | a :: l, h => by
    rw [List.filterMap_cons, List.filterMap_cons, h a (List.mem_cons_self ..), fm_congr fun m hm => h m (List.mem_cons_of_mem _ hm)]
theorem pick_back (xs : Array Value) : ((List.range xs.size).filterMap fun (m : Nat) => xs[((xs.size : Int) - 1 + (m : Int) * -1).toNat]?) = xs.toList.reverse := by
  have e : ∀ m ∈ List.range xs.size, xs[((xs.size : Int) - 1 + (m : Int) * -1).toNat]? = xs.toList.reverse[m]? := fun m hm => by
    have hm' := List.mem_range.mp hm
    have : ((xs.size : Int) - 1 + (m : Int) * -1).toNat = xs.toList.length - 1 - m := by rw [Array.length_toList]; omega
    rw [this, List.getElem?_reverse (by rw [Array.length_toList]; exact hm'), Array.getElem?_toList]
  rw [fm_congr e]
  have hl : xs.size = xs.toList.reverse.length := by rw [List.length_reverse, Array.length_toList]
  rw [hl]
  generalize xs.toList.reverse = l
  clear e hl
  induction l with
  | nil => rfl
  | cons a l ih =>
    rw [List.length_cons, List.range_succ_eq_map, List.filterMap_cons, List.filterMap_map]
    show a :: _ = _
    congr 1
theorem getItem_tuple_back {t sl : Addr} {items : Array Value} {vl vu vs : Value} {Q : Value → Shared → Prop} (ht : IsTup s.heap t items) (hs : s.heap.IsSliceOf sl vl vu vs) (pl : IsPart vl none) (pu : IsPart vu none) (ps : IsPart vs (some (-1)))
    (h : Q (.ref s.heap.objs.size) { s with heap := s.heap.push { cls := .type "tuple", data := .seq items.toList.reverse.toArray } }) (hsz : items.size ≤ sizeLine) : wpAny (model prog w) A (getItem (.ref t) (.ref sl)) Q E s := by
  have hz : sizeOk (.seq items.toList.reverse.toArray) := by
    show items.toList.reverse.toArray.size ≤ sizeLine
    rw [List.size_toArray, List.length_reverse, Array.length_toList]
    exact hsz
  obtain ⟨os, hos, hcs, hds⟩ := id hs
  have hTs : s.TypeIs (.ref sl) "slice" := ⟨os, hos, hcs⟩
  unfold getItem
  try with_reducible refine wpAny_holding ?_
  first | refine wpAny_bind (wpAny_pure ?_) | skip
  refine wpAny_bind (wpAny_sequenceKey ht.typeIs (by decide) ?_)
  refine wpAny_bind (wpAny_callSpecial?_slot (name := Str.ofString "__getitem__") ht.typeIs PyProof.Rows.slot_tuple_getitem
    (wpAny_call_entry PyProof.Rows.slot_tuple_getitem ht.typeIs entry_tuple_getitem ?_ (args_tuple_getitem _ _)))
  show wpAny _ _ (Builtin.Tuple.tupleItemsOf (.ref t) >>= _) _ _ s
  refine wpAny_bind (tupleItemsOf_ ht ?_)
  refine wpAny_bind (wpAny_typeOf hTs ?_)
  rw [if_pos (by decide)]
  refine wpAny_bind (applied_back hs pl pu ps ?_)
  have hno : ¬ ((((items.size : Int) - 1) == 0 && (-1 : Int) == 1 && items.size == items.size) = true) := by
    intro q
    rw [Bool.and_eq_true, Bool.and_eq_true] at q
    exact absurd q.1.2 (by decide)
  show wpAny _ _ (if (((items.size : Int) - 1) == 0 && (-1 : Int) == 1 && items.size == items.size) = true then _ else _) _ _ s
  rw [if_neg hno, pick_back]
  first
    | exact wpAny_bind (m := Builtin.Tuple.tupleExact _) (wpAny_newObj_type (wpAny_pure ⟨_, rfl, wpAny_pure h⟩) hz)
    | exact wpAny_bind (m := Builtin.Tuple.tupleExact _) (wpAny_newObj_type (wpAny_bind (wpAny_pure (wpAny_pure ⟨_, rfl, wpAny_pure h⟩))) hz)
    | exact wpAny_bind (wpAny_bind (m := Builtin.Tuple.tupleExact _) (wpAny_newObj_type (wpAny_pure (wpAny_pure ⟨_, rfl, wpAny_pure h⟩)) hz))
    | exact wpAny_bind (wpAny_bind (m := Builtin.Tuple.tupleExact _) (wpAny_newObj_type (wpAny_pure ⟨_, rfl, wpAny_pure h⟩) hz))
end
end HT
namespace L2
open PySem PySem.Spec PyProof.Rows
section
variable {X : Cx}
/-- t[::-1] -/
def tRevT (K : PySem.W.Frag) (te : TE) : TE := fun σ H Q => te σ H fun x H1 => ∃ a xs, x = .ref a ∧ SqT K H1 a xs ∧ ∀ p, H1 p = none → Q (.ref p) (upd H1 p (.tup xs.reverse))
theorem pe_revT {e : Expr} {te : TE} {k : Nat} {p1 p2 p3 pos : Pos} (he : PE X e te) : PE X (.Subscript e (.Slice none none (some (.UnaryOp .USub (.Constant (.int 1) k p1) p2)) p3) pos) (tRevT X.K te) := by
  refine ⟨fun pins s σ H Q I h => ?_⟩
  refine Subscript_ (thn (he.run pins s σ H _ I h) fun v s1 ⟨x, H1, I1, r1, q1⟩ => ?_)
  obtain ⟨a, xs, ex, hx, q⟩ := q1
  subst ex
  cases r1
  have hst : PO X (some (.UnaryOp .USub (.Constant (.int 1) k p1) p2)) (tPart (tUn (rU fun i => .int (-i)) (tC (.int 1)))) := po_some (pe_un un_neg pe_int)
  refine wpAny_Slice (thn (po_none.run pins s1 σ H1 (fun o H2 => o = none ∧ H2 = H1) I1 ⟨rfl, rfl⟩) fun vl s2 ⟨l, H2, I2, pl, el, e2⟩ => ?_)
  subst el e2
  refine thn (po_none.run pins s2 σ H2 (fun o H3 => o = none ∧ H3 = H2) I2 ⟨rfl, rfl⟩) fun vu s3 ⟨u, H3, I3, pu, eu, e3⟩ => ?_
  subst eu e3
  refine thn (hst.run pins s3 σ H3 (fun o H4 => o = some (-1) ∧ H4 = H3) I3 ⟨1, rfl, -1, rfl, rfl, rfl⟩) fun vs s4 ⟨o, H4, I4, ps, eo, e4⟩ => ?_
  subst eo e4
  have I5 : Inv X pins σ H4 { s4 with heap := s4.heap.push { cls := .type "slice", data := .fields #[vl, vu, vs] } } := I4.kept (t' := s4.toks) fun b ob q => Heap.get?_push_of_some _ q
  obtain ⟨its, r, ht, hz⟩ := I5.tuple hx
  have hlen := r.length
  show wpAny (model X.prog X.w) X.A (subscriptTail e (.Slice none none (some (.UnaryOp .USub (.Constant (.int 1) k p1) p2)) p3) (.ref a) (.ref s4.heap.objs.size)) (EP X pins σ Q) X.xe { s4 with heap := s4.heap.push { cls := .type "slice", data := .fields #[vl, vu, vs] } }
  refine tail_any (ops := [.ref a, .ref s4.heap.objs.size]) ht.typeIs (PyProof.Rows.slot_tuple_getitem.lookup) ?_ (by with_unfolding_all rfl)
  refine HT.getItem_tuple_back ht (Heap.IsSliceOf.new _ vl vu vs) pl pu ps ?_ (by rw [List.size_toArray]; omega)
  refine ⟨.ref _, _, I5.laid (t' := s4.toks) (o := .tup xs.reverse) (fun b ob q => Heap.get?_push_of_some _ q) (Nat.le_refl _) ?_, rfl, q _ (I5.hok.fresh (Nat.le_refl _))⟩
  exact ⟨by rw [List.length_reverse]; exact hz, its.reverse, r.reverse, ⟨_, Heap.get?_push_size _ rfl, rfl, 0, rfl⟩⟩
/-- sorted(xs): data that are alike -/
def rSortD (K : PySem.W.Frag) : List V → Hp → VK → Prop := fun us H Q => ∃ a vs ds, us = [.ref a] ∧ SqL K H a vs ∧ DpAll K H vs ds ∧ PySem.W.AllAlike ds ∧ PySem.W.Sortable ds ∧ (∀ d ∈ ds, PyData.depth d ≤ 40) ∧
  ∀ l ws, H l = none → DpAll K H ws (ds.mergeSort (PySem.W.dataLe false id)) → Q (.ref l) (upd H l (.lst ws))
theorem each_zip {K : PySem.W.Frag} {H : Hp} : ∀ {us : List Value} {vs : List V} {ds : List PyData}, Vals vs us → DpAll K H vs ds → PySem.W.EachIs (fun u (b : V × PyData) => RelV b.1 u ∧ Dp K H b.1 b.2) us (vs.zip ds)
  | _, _, _, .nil, .nil => .nil
  | _, _, _, .cons r rs, .cons h hs => .cons ⟨r, h⟩ (each_zip rs hs)
theorem zip_snd {K : PySem.W.Frag} {H : Hp} : ∀ {vs : List V} {ds : List PyData}, DpAll K H vs ds → (vs.zip ds).map Prod.snd = ds
  | _, _, .nil => rfl
  | _, _, .cons _ hs => by rw [List.zip_cons_cons, List.map_cons, zip_snd hs]
theorem each_back {K : PySem.W.Frag} {H : Hp} : ∀ {us : List Value} {bs : List (V × PyData)}, PySem.W.EachIs (fun u (b : V × PyData) => RelV b.1 u ∧ Dp K H b.1 b.2) us bs → Vals (bs.map Prod.fst) us ∧ DpAll K H (bs.map Prod.fst) (bs.map Prod.snd)
  | _, _, .nil => ⟨.nil, .nil⟩
  | _, _, .cons h t => ⟨.cons h.1 (each_back t).1, .cons h.2 (each_back t).2⟩
theorem cr_sortedD (hu : X.A.units + 64 < cLine) : CallR X (.builtin "sorted") (rSortD X.K) := by
  intro pins s σ H vs us Q I r h
  obtain ⟨a, xs, ds, rfl, hs, hd, hal, hk, hdp, q⟩ := h
  obtain ⟨its, rv, hl, hz⟩ := I.list hs
  rw [Vals.ref1 r]
  have e := each_zip rv hd
  have ez := zip_snd hd
  have er : PySem.W.EachIs (fun v (b : V × PyData) => ∃ as, Reads s.heap v b.2 as) its (xs.zip ds) := e.mono fun u b ⟨h1, h2⟩ => Dp.reads I b.2 b.1 u h2 h1
  have len : (xs.zip ds).length = xs.length := by
    have := congrArg List.length ez
    rw [List.length_map] at this
    rw [this]
    have l2 := rv.length
    have l3 := e.length
    omega
  refine PySem.W.sorted_data (enc := Prod.snd) hl.isList e er (by rw [ez]; exact hal) (by rw [ez]; exact hk) (by rw [len]; exact hz) (fun b hb => ?_) fun out h1 h2 => ?_
  · have : b.2 ∈ ds := by rw [← ez]; exact List.mem_map.mpr ⟨b, hb, rfl⟩
    have := hdp _ this
    omega
  · obtain ⟨ep, he'⟩ := PyProof.Rows.sortedAll_at s.heap its out.toArray
    obtain ⟨b1, b2⟩ := each_back h2
    have hm : ((xs.zip ds).mergeSort (PySem.W.dataLe false Prod.snd)).map Prod.snd = ds.mergeSort (PySem.W.dataLe false id) := by
      exact (List.map_mergeSort (r := PySem.W.dataLe false Prod.snd) (s := PySem.W.dataLe false id) (f := Prod.snd) (l := xs.zip ds) (fun _ _ _ _ => rfl)).trans (by rw [ez])
    rw [hm] at b2
    have hlen : (((xs.zip ds).mergeSort (PySem.W.dataLe false Prod.snd)).map Prod.fst).length ≤ sizeLine := by rw [List.length_map, List.length_mergeSort, len]; exact hz
    exact ⟨.ref _, upd H (s.heap.objs.size + 1) (.lst _), I.laid (t' := s.toks) (fun _ _ => PyProof.Rows.sortedAll_old) (Nat.le_succ _) ⟨hlen, out, ep, b1, he'⟩, rfl, q _ _ (I.hok.fresh (Nat.le_succ _)) b2⟩
end
end L2
/-! ### sorted of pieces: tuples that begin with a word; two are alike, or their words differ -/
namespace So
open PySem PySem.W PySem.Calls PyProof.Rows
/-- they begin with words that differ -/
def HeadsNe (d d' : PyData) : Prop := ∃ (a b : PySem.Str) (r r' : List PyData), d = .tuple (.str a :: r) ∧ d' = .tuple (.str b :: r') ∧ a ≠ b
def Worded (d : PyData) : Prop := ∃ (a : PySem.Str) (r : List PyData), d = .tuple (.str a :: r)
structure Near (ds : List PyData) : Prop where
  word : ∀ d ∈ ds, Worded d
  two : ∀ d ∈ ds, ∀ d' ∈ ds, alike d d' = true ∨ HeadsNe d d'
section
variable {h : Heap} {ds : List PyData} {v : Value} {d d' : PyData} {as as' : List Addr}
theorem heads_not (r : Reads h v d as) (r' : Reads h v d' as') (n : HeadsNe d d') : False := by
  obtain ⟨a, b, q, q', rfl, rfl, hne⟩ := n
  cases r with
  | @tuple l o xs n1 _ _ h1 h2 h3 h4 =>
    cases r' with
    | @tuple _ o' xs' n2 _ _ k1 k2 k3 k4 =>
      have eo : o = o' := Option.some.inj (h1.symm.trans k1)
      subst eo
      have ex : Data.seq xs n1 = Data.seq xs' n2 := h3.symm.trans k3
      cases ex
      generalize xs.toList = us at h4 k4
      cases h4 with
      | cons g1 _ =>
        cases k4 with
        | cons g2 _ =>
          cases g1
          cases g2
          exact hne rfl
theorem near_one (N : Near ds) (hd : d ∈ ds) (hd' : d' ∈ ds) (r : Reads h v d as) (r' : Reads h v d' as') : d = d' := by
  rcases N.two d hd d' hd' with q | q
  · exact alike_unique _ _ _ _ _ q r r'
  · exact (heads_not r r' q).elim
theorem key_of (N : Near ds) (hd : d ∈ ds) (r : Reads h v d as) : (dataKind h ds).keyOf v = some (keyToks d) := by
  have ex : ∃ z, z ∈ ds ∧ ∃ zs, Reads h v z zs := ⟨d, hd, as, r⟩
  obtain ⟨m, zs, rz⟩ := ex.choose_spec
  have := near_one N m hd rz r
  show (open Classical in if q : ∃ d, d ∈ ds ∧ ∃ as, Reads h v d as then some (keyToks q.choose) else none) = _
  rw [dif_pos ex, this]
end
theorem toks_heads {a b : PySem.Str} {r r' : List PyData} (hne : a ≠ b) : dataLt (.tuple (.str a :: r)) (.tuple (.str b :: r')) = dataLt (.str a) (.str b) := by
  rw [dataLt_tuple]
  exact dataLt_all_no rfl (by rw [PyData.eqv]; exact beq_false_of_ne hne)
section
variable {prog : Program} {w : World} {A : Around} {s : Shared}
theorem lex_heads {b fin : Bool} {Q : Bool → Shared → Prop} {x y : PySem.Str} {xs ys : List PyData} {vs ws : List Value} {as bs : List Addr} (hne : x ≠ y) (ra : ReadsAll s.heap vs (.str x :: xs) as) (rb : ReadsAll s.heap ws (.str y :: ys) bs) (hu : A.units < cLine)
    (q : Q (dataLt (.str x) (.str y)) s) : KatLex prog w A b fin Q (vs.zip ws) 0 s := by
  cases ra with
  | cons r1 _ =>
    cases rb with
    | cons r2 _ =>
      rw [List.zip_cons_cons]
      have room : A.units + min (PyData.depth (.str x)) (PyData.depth (.str y)) < cLine := by
        show A.units + min 0 0 < cLine
        simpa using hu
      refine kat_cons (eqAt_alike (.str x) (.str y) A s _ _ _ _ r1 r2 rfl room prog w _ _ ?_)
      rw [show PyData.eqv (.str x) (.str y) = false by rw [PyData.eqv]; exact beq_false_of_ne hne]
      exact kat_no (oneLt_alike (fun _ t e => by cases e) r1 r2 rfl (fun e => by cases e) room q)
theorem sorts_near {vs : List Value} {ds : List PyData} (e : EachIs (fun v d => ∃ as, Reads s.heap v d as) vs ds) (N : Near ds) (hu : ∀ d ∈ ds, A.units + d.depth < cLine) : SortsAt prog w A s (dataKind s.heap ds) vs := by
  refine ⟨fun v hv => ?_, tuples' true, fun E x y a b Q ha hb q => ?_, fun h2 E Q hq => ?_⟩
  · obtain ⟨d, hd, as, r⟩ := e.left v hv
    exact ⟨_, key_of N hd r⟩
  · obtain ⟨d, as, hd, ra, rfl⟩ := dataKind_inv ha
    obtain ⟨d', as', hd', rb, rfl⟩ := dataKind_inv hb
    have q' : Q (dataLt d d') s := q
    have u1 := hu d hd
    have u2 := hu d' hd'
    have two := N.two d hd d' hd'
    obtain ⟨x1, r1, rfl⟩ := N.word d hd
    obtain ⟨x2, r2, rfl⟩ := N.word d' hd'
    cases ra with
    | @tuple l o xs n _ _ h1 h2 h3 h4 =>
      cases rb with
      | @tuple l' o' xs' n' _ _ k1 k2 k3 k4 =>
        refine kat_lt h1 h3 k1 k3 ?_
        by_cases hx : x1 = x2
        · subst hx
          have al : alike (.tuple (.str x1 :: r1)) (.tuple (.str x1 :: r2)) = true := by
            rcases two with z | ⟨_, _, _, _, z1, z2, z⟩
            · exact z
            · cases z1
              cases z2
              exact (z rfl).elim
          rw [dataLt_tuple] at q'
          have l1 := SeqAt.ReadsAll.length _ _ _ h4
          have l2 := SeqAt.ReadsAll.length _ _ _ k4
          rw [Array.length_toList] at l1 l2
          have d1 : PyData.depth (.tuple (.str x1 :: r1)) = PyData.depthAll (.str x1 :: r1) + 1 := by rw [PyData.depth]
          refine katLex_alike (.str x1 :: r1) (.str x1 :: r2) 0 _ _ _ _ h4 k4 (by simpa [alike] using al) ?_ (fun _ _ x r t ex et => ?_) (by rw [l1, l2]) q'
          · have := Nat.min_le_left (PyData.depthAll (.str x1 :: r1)) (PyData.depthAll (.str x1 :: r2))
            omega
          · subst et
            cases ex
        · rw [toks_heads hx] at q'
          exact lex_heads hx h4 k4 (by omega) q'
  · cases ds with
    | nil =>
      cases e
      simp at h2
    | cons d₀ ds₀ =>
      obtain ⟨fs, t1, t2, t3⟩ := each_katTups e fun d hd => let ⟨a, r, q⟩ := N.word d hd; ⟨.str a, r, q⟩
      have hT : (Value.type "str" != Value.type "tuple") = true := by decide
      refine kat_kind (T := Value.type "str") t1 (by omega) (fun f hf => ?_) (beq_self_eq_true _) (by rw [hT]; exact hq)
      obtain ⟨x, r, as, m1, m2⟩ := t3 f hf
      obtain ⟨a, r', q⟩ := N.word _ m1
      cases q
      exact looks_reads m2
theorem vals_near {h' : Heap} {β : Type} {R : Value → β → Prop} {f : β → PyData} {vs : List Value} {bs : List β} (e : EachIs R vs bs) (er : EachIs (fun v b => ∃ as, Reads h' v (f b) as) vs bs) (N : Near (bs.map f)) :
    EachIs R (sortVals (dataKind h' (bs.map f)) false vs vs) (bs.mergeSort (dataLe false f)) := by
  have e2 := each_map (R := fun v d => ∃ as, Reads h' v d as) f er
  exact sortVals_each (κ := dataKind h' (bs.map f)) (fun b => keyToks (f b)) e (each_of_map f ((each_mem e2).mono fun v d ⟨⟨as, r⟩, hd⟩ => key_of N hd r))
end
end So
namespace L2
open PySem PySem.Spec PyProof.Rows
section
variable {X : Cx}
/-- sorted(xs), xs as in So.Near -/
def rSortN (K : PySem.W.Frag) : List V → Hp → VK → Prop := fun us H Q => ∃ (a : Addr) (xs : List V) (ds : List PyData), us = [.ref a] ∧ SqL K H a xs ∧ DpAll K H xs ds ∧ So.Near ds ∧ (∀ d ∈ ds, PyData.depth d ≤ 40) ∧
  ∀ l ws, H l = none → DpAll K H ws (ds.mergeSort (PySem.W.dataLe false id)) → Q (.ref l) (upd H l (.lst ws))
theorem cr_sortedN (hu : X.A.units + 64 < cLine) : CallR X (.builtin "sorted") (rSortN X.K) := by
  intro pins s σ H vs us Q I r h
  obtain ⟨a, xs, ds, rfl, hs, hd, hN, hdp, q⟩ := h
  obtain ⟨its, rv, hl, hz⟩ := I.list hs
  rw [Vals.ref1 r]
  have e := each_zip rv hd
  have ez := zip_snd hd
  have lenI := rv.length
  have lenZ := e.length
  have pre : ∀ b o, s.heap.get? b = some o → (PySem.W.sortingHeap (PySem.W.copyHeap s.heap its) (s.heap.objs.size + 1) its).get? b = some o := fun b o q => PySem.W.sorting_copy_old q
  have er : PySem.W.EachIs (fun v (b : V × PyData) => ∃ as, Reads (PySem.W.sortingHeap (PySem.W.copyHeap s.heap its) (s.heap.objs.size + 1) its) v b.2 as) its (xs.zip ds) := e.mono fun u b ⟨h1, h2⟩ => by
    obtain ⟨as, z⟩ := Dp.reads I b.2 b.1 u h2 h1
    exact ⟨as, PyProof.Rows.Reads.keeps pre z⟩
  have N' : So.Near ((xs.zip ds).map Prod.snd) := by rw [ez]; exact hN
  have S := So.sorts_near (prog := X.prog) (w := X.w) (A := X.A.in1.in1) (s := { s with heap := PySem.W.sortingHeap (PySem.W.copyHeap s.heap its) (s.heap.objs.size + 1) its }) (PySem.W.each_map (R := fun v d => ∃ as, Reads (PySem.W.sortingHeap (PySem.W.copyHeap s.heap its) (s.heap.objs.size + 1) its) v d as) Prod.snd er) N' (fun d m => by
    rw [ez] at m
    have := hdp d m
    show X.A.units + 2 + _ < _
    omega)
  refine PySem.W.sorted_vals hl.isList S (by omega) ?_
  obtain ⟨ep, he'⟩ := PyProof.Rows.sortedAll_at s.heap its (PySem.W.sortVals (PySem.W.dataKind (PySem.W.sortingHeap (PySem.W.copyHeap s.heap its) (s.heap.objs.size + 1) its) ((xs.zip ds).map Prod.snd)) false its its).toArray
  obtain ⟨b1, b2⟩ := each_back (So.vals_near e er N')
  have hm : ((xs.zip ds).mergeSort (PySem.W.dataLe false Prod.snd)).map Prod.snd = ds.mergeSort (PySem.W.dataLe false id) :=
    (List.map_mergeSort (r := PySem.W.dataLe false Prod.snd) (s := PySem.W.dataLe false id) (f := Prod.snd) (l := xs.zip ds) (fun _ _ _ _ => rfl)).trans (by rw [ez])
  rw [hm] at b2
  have hlen : (((xs.zip ds).mergeSort (PySem.W.dataLe false Prod.snd)).map Prod.fst).length ≤ sizeLine := by rw [List.length_map, List.length_mergeSort]; omega
  exact ⟨.ref _, upd H (s.heap.objs.size + 1) (.lst _), I.laid (t' := s.toks) (fun _ _ => PyProof.Rows.sortedAll_old) (Nat.le_succ _) ⟨hlen, _, ep, b1, he'⟩, rfl, q _ _ (I.hok.fresh (Nat.le_succ _)) b2⟩
end
end L2
/-! ### lists that are filled and emptied; slices of data -/
namespace PySem.AutoSeq1
open PySem
theorem list_extendT (l : Addr) (items : Array Value) (n : Nat) (b : Addr) (items2 : Array Value) (n2 : Nat) (dd : Option Addr) (sl : Array (Option Value)) (hs0 : ¬(!items.isEmpty && Builtin.List.listTooLong (items.size + items2.size)) = true) (hs1 : items.size ≤ sizeLine) (hs2 : items.size + items2.size ≤ sizeLine + 1) :
    Meets (Builtin.«list.extend» ⟨[.ref l, .ref b], []⟩) (fun _ R s => s.heap.get? l = some { cls := .type "list", dict := none, data := .seq items n, slots := #[] } ∧ s.heap.get? b = some { cls := .type "tuple", dict := dd, data := .seq items2 n2, slots := sl } ∧ R (.ok (.ret Value.none)) { s with heap := s.heap.update l (Obj.mapSeq fun x => x ++ items2), toks := s.toks }) :=
  .of_wp fun prog w A R s h => by
    obtain ⟨hp, g, d, tk, os⟩ := s; obtain ⟨hl, hb, h⟩ := h; have f1 := idx_int; have f2 := sub_tuple_tuple; have f3 := sub_list_list; have f4 := sub_tuple_list; have f5 := sub_list_tuple;
    have hz' : (items ++ items2).size ≤ sizeLine + 1 := by rw [Array.size_append]; exact hs2
    wp_walk using (wpAny_updateSeq hl rfl (hz := hs1) (_hz' := hz')), wpAny_loadPart' hl, wpAny_loadPart' hb; exact ⟨_, rfl, h⟩
end PySem.AutoSeq1
namespace L2
open PySem PySem.Spec PyProof.Rows
section
variable {X : Cx}
/-- xs.extend(t), t a tuple -/
def rExtendT (K : PySem.W.Frag) : V → List V → Hp → VK → Prop := fun x vs H Q => ∃ l b xs zs, x = .ref l ∧ vs = [.ref b] ∧ H l = some (.lst xs) ∧ SqT K H b zs ∧ xs.length + zs.length ≤ sizeLine ∧ Q .non (upd H l (.lst (xs ++ zs)))
theorem mt_extendT : MtM X "list.extend" (rExtendT X.K) := by
  intro pins s σ H x vs v us Q I rx rv h
  obtain ⟨l, b, xs, zs, rfl, rfl, hH, hB, hz, q⟩ := h
  cases rx
  obtain ⟨u, rfl, ru⟩ := rv.one
  cases ru
  obtain ⟨z, its, n, r, hl, e⟩ := I.lstM hH
  obtain ⟨its2, r2, ⟨⟨cls2, dd2, data2, sl2⟩, e2, hc2, n2, hd2⟩, hz2⟩ := I.tuple hB
  simp only at hc2 hd2
  subst hc2 hd2
  have hl2 := r2.length
  have hsz : its.toArray.size + its2.toArray.size ≤ sizeLine := by rw [List.size_toArray, List.size_toArray]; omega
  have hlong : ¬ (!its.toArray.isEmpty && Builtin.List.listTooLong (its.toArray.size + its2.toArray.size)) = true := by
    rw [notLongL hsz, Bool.and_false]
    exact Bool.false_ne_true
  refine call_meets F.slot_list_extend ⟨_, e, rfl⟩ F.entry_list_extend (F.args_list_extend_2 _ _)
    (AutoSeq1.list_extendT l its.toArray n b its2.toArray n2 dd2 sl2 hlong (by rw [List.size_toArray]; omega) (by omega)) ⟨e, e2, ?_⟩
  refine ⟨.non, _, I.lset (its' := its ++ its2) hH e (by simp) (r.append r2) ?_, rfl, q⟩
  rw [List.length_append]
  omega
end
end L2
namespace Dt
open PySem PySem.Spec PyProof.Rows L2 Evl Fx
section
variable {F : Fd} {K : PySem.W.Frag} {te ta tb tl : TE} {tr : TA} {tt : TT} {g : TG} {tu tw tz : TS} {σ : L2.St} {H H' : Hp} {P P' R : VP} {d d' d2 : PyData} {ds es : List PyData} {n k ka kb kt ke : Nat} {v : V} {D : Ends}
/-! statements -/
theorem q_asgR {i : Nat} (h : EvR F te σ H k P) (g0 : F.G n H) (hn : n + k ≤ F.N) (kk : ∀ v H1, Kx F.S H H1 → F.G (n + k) H1 → P v H1 → tz D (σ.set i (some v)) H1) : tSeq (tAsg te (gName i)) tz D σ H := h n H hn g0 Kx.refl _ kk
theorem q_asgG (h : EvR F te σ H k P) (g0 : F.G n H) (hn : n + k ≤ F.N) (kk : ∀ v H1, Kx F.S H H1 → F.G (n + k) H1 → P v H1 → g v σ H1 (tz D)) : tSeq (tAsg te g) tz D σ H := h n H hn g0 Kx.refl _ kk
theorem s_retR (h : EvR F te σ H k P) (g0 : F.G n H) (hn : n + k ≤ F.N) (kk : ∀ v H1, Kx F.S H H1 → F.G (n + k) H1 → P v H1 → D.rt v H1) : tRet te D σ H := h n H hn g0 Kx.refl _ kk
theorem s_ifR {b : Bool} (h : EvRT F tt σ H k b) (g0 : F.G n H) (hn : n + k ≤ F.N) (h1 : b = true → ∀ H1, Kx F.S H H1 → F.G (n + k) H1 → tu D σ H1) (h2 : b = false → ∀ H1, Kx F.S H H1 → F.G (n + k) H1 → tw D σ H1) : tIfS tt tu tw D σ H := h n H hn g0 Kx.refl _ fun H1 e1 g1 => by
  cases b with
  | true => exact h1 rfl H1 e1 g1
  | false => exact h2 rfl H1 e1 g1
/-- if ..: return ..; the rest -/
theorem q_whenR {b : Bool} (h : EvRT F tt σ H k b) (g0 : F.G n H) (hn : n + k ≤ F.N) (h1 : b = true → ∀ H1, Kx F.S H H1 → F.G (n + k) H1 → tu { D with nx := tz D } σ H1) (h2 : b = false → ∀ H1, Kx F.S H H1 → F.G (n + k) H1 → tz D σ H1) : tSeq (tIfS tt tu tNext) tz D σ H :=
  s_ifR (D := { D with nx := tz D }) h g0 hn h1 h2
/-- xs.append(e) -/
theorem q_appR {i : Nat} {l : Addr} {xs : List V} (hv : σ[i]? = some (some (.ref l))) (hl : H l = some (.lst xs)) (hT : ¬ F.S l) (h : EvR F te σ H k P) (g0 : F.G n H) (hn : n + k ≤ F.N) (hz : xs.length < 100000)
    (kk : ∀ v H1, Kx F.S H H1 → F.G (n + k) H1 → P v H1 → H1 l = some (.lst xs) → D.nx σ (upd H1 l (.lst (xs ++ [v])))) : tDrop (tBM K "list" rAppend (tVar i) (tCons te tNil)) D σ H :=
  ⟨.ref l, hv, .inl ⟨rfl, xs, sq_of hl⟩, h n H hn g0 Kx.refl _ fun v H1 e1 g1 p => ⟨l, xs, v, rfl, rfl, e1 _ _ hl hT, sz_lt hz, kk v H1 e1 g1 p (e1 _ _ hl hT)⟩⟩
/-- xs.extend(ys) -/
theorem q_extL {i : Nat} {l : Addr} {xs : List V} (hv : σ[i]? = some (some (.ref l))) (hl : H l = some (.lst xs)) (hT : ¬ F.S l) (h : EvR F te σ H k (IsL F K ds)) (g0 : F.G n H) (hn : n + k ≤ F.N) (hz : xs.length + ds.length ≤ 100000)
    (kk : ∀ zs H1, Kx F.S H H1 → F.G (n + k) H1 → DpAll K H1 zs ds → H1 l = some (.lst xs) → D.nx σ (upd H1 l (.lst (xs ++ zs)))) : tDrop (tBM K "list" rExtend (tVar i) (tCons te tNil)) D σ H :=
  ⟨.ref l, hv, .inl ⟨rfl, xs, sq_of hl⟩, h n H hn g0 Kx.refl _ fun v H1 e1 g1 ⟨b, zs, ev, _, hb, hd⟩ => ⟨l, b, xs, zs, rfl, by rw [ev], e1 _ _ hl hT, hb, by rw [dps_len hd]; exact sz_of hz, kk zs H1 e1 g1 hd (e1 _ _ hl hT)⟩⟩
theorem q_extT {i : Nat} {l : Addr} {xs : List V} (hv : σ[i]? = some (some (.ref l))) (hl : H l = some (.lst xs)) (hT : ¬ F.S l) (h : EvR F te σ H k (IsD K (.tuple ds))) (g0 : F.G n H) (hn : n + k ≤ F.N) (hz : xs.length + ds.length ≤ 100000)
    (kk : ∀ zs H1, Kx F.S H H1 → F.G (n + k) H1 → DpAll K H1 zs ds → H1 l = some (.lst xs) → D.nx σ (upd H1 l (.lst (xs ++ zs)))) : tDrop (tBM K "list" (rExtendT K) (tVar i) (tCons te tNil)) D σ H :=
  ⟨.ref l, hv, .inl ⟨rfl, xs, sq_of hl⟩, h n H hn g0 Kx.refl _ fun v H1 e1 g1 hd => by
    cases hd with
    | @tup b zs _ hb hd => exact ⟨l, b, xs, zs, rfl, rfl, e1 _ _ hl hT, hb, by rw [dps_len hd]; exact sz_of hz, kk zs H1 e1 g1 hd (e1 _ _ hl hT)⟩⟩
/-- .. = xs.pop() -/
theorem q_popR {i : Nat} {l : Addr} {xs : List V} {y : V} (hv : σ[i]? = some (some (.ref l))) (hl : H l = some (.lst (xs ++ [y]))) (kk : g y σ (upd H l (.lst xs)) (tz D)) : tSeq (tAsg (tBM0 K "list" rPop (tVar i)) g) tz D σ H :=
  ⟨.ref l, hv, .inl ⟨rfl, _, sq_of hl⟩, l, xs ++ [y], y, rfl, rfl, hl, by simp, by rw [List.dropLast_concat]; exact kk⟩
/-! expressions -/
theorem rd_revT (o : F.Ok) (h : EvR F te σ H k (IsD K (.tuple ds))) : EvR F (tRevT K te) σ H k (IsD K (.tuple ds.reverse)) := fun n H1 hn g e Q q => h n H1 hn g e _ fun v H2 e2 g2 hd => by
  cases hd with
  | @tup a xs _ ha hd => exact ⟨a, xs, rfl, ha, fun p hp => q _ _ (e2.trans (Kx.ex (Ex.new hp))) (o.ex g2 (Ex.new hp)) (.tup (st_of upd_same) (dps_ex (Ex.new hp) _ _ (dps_rev hd)))⟩
theorem rl_revL (o : F.Ok) (h : EvR F te σ H k (IsL F K ds)) : EvR F (tRevL K te) σ H k (IsL F K ds.reverse) := fun n H1 hn g e Q q => h n H1 hn g e _ fun v H2 e2 g2 ⟨a, xs, ev, hT, ha, hd⟩ => by
  subst ev
  exact ⟨a, xs, rfl, sq_of ha, fun p hp => q _ _ (e2.trans (Kx.ex (Ex.new hp))) (o.ex g2 (Ex.new hp)) ⟨p, _, rfl, o.new g2 hp, upd_same, dps_ex (Ex.new hp) _ _ (dps_rev hd)⟩⟩
theorem rl_lst (o : F.Ok) (h : EvRA F tr σ H k (fun vs H => DpAll K H vs ds)) (hl : ds.length ≤ 100000 := by simp) : EvR F (tLst tr) σ H k (IsL F K ds) :=
  fun n H1 hn g e Q q => h n H1 hn g e _ fun vs H2 e2 g2 p => ⟨sz_of (by rw [dps_len p]; exact hl), fun a ha => q (.ref a) _ (e2.trans (Kx.ex (Ex.new ha))) (o.ex g2 (Ex.new ha)) ⟨a, vs, rfl, o.new g2 ha, upd_same, dps_ex (Ex.new ha) _ _ p⟩⟩
theorem rl_sorted (o : F.Ok) (h : EvR F te σ H k (IsL F K ds)) (hal : PySem.W.AllAlike ds) (hk : PySem.W.Sortable ds) (hd : ∀ d ∈ ds, PyData.depth d ≤ 40) : EvR F (tCB (rSortD K) (tCons te tNil)) σ H k (IsL F K (ds.mergeSort (PySem.W.dataLe false id))) := fun n H1 hn g e Q q =>
  h n H1 hn g e _ fun v H2 e2 g2 ⟨a, xs, ev, hT, ha, hx⟩ => ⟨a, xs, ds, by rw [ev], sq_of ha, hx, hal, hk, hd, fun p ws hp hw => q _ _ (e2.trans (Kx.ex (Ex.new hp))) (o.ex g2 (Ex.new hp)) ⟨p, ws, rfl, o.new g2 hp, upd_same, dps_ex (Ex.new hp) _ _ hw⟩⟩
theorem rv_lenT (h : EvR F te σ H k (IsD K (.tuple ds))) : EvR F (tCB (rLenS K) (tCons te tNil)) σ H k (fun x _ => x = .int (ds.length : Int)) := fun n H1 hn g e Q q => h n H1 hn g e _ fun v H2 e2 g2 hd => by
  cases hd with
  | @tup a xs _ ha hd => exact ⟨a, xs, rfl, .inr ha, q _ H2 e2 g2 (by rw [dps_len hd])⟩
theorem rv_lenL (h : EvR F te σ H k (IsL F K ds)) : EvR F (tCB (rLenS K) (tCons te tNil)) σ H k (fun x _ => x = .int (ds.length : Int)) := fun n H1 hn g e Q q => h n H1 hn g e _ fun v H2 e2 g2 ⟨a, xs, ev, hT, ha, hd⟩ => by
  subst ev
  exact ⟨a, xs, rfl, .inl (sq_of ha), q _ H2 e2 g2 (by rw [dps_len hd])⟩
/-- (*t, e) -/
theorem ra_star (o : F.Ok) (h : EvR F te σ H ka (IsD K (.tuple ds))) (fd : flats ds = true) (hr : EvRA F tr σ H kb (fun vs H => DpAll K H vs es)) : EvRA F (StX.tStar K te tr) σ H (ka + kb) (fun vs H => DpAll K H vs (ds ++ es)) :=
  fun n H1 hn g e Q q => h n H1 (by omega) g e _ fun v H2 e2 g2 hd => by
    cases hd with
    | @tup a xs _ ha hd => exact ⟨a, xs, rfl, .inl ha, hr (n + ka) H2 (by omega) g2 (e.trans e2) _ fun vs H3 e3 g3 p' => q _ H3 (e2.trans e3) (by rw [← Nat.add_assoc]; exact g3) (dps_app (mono_ds o fd _ _ _ _ g2 e3 hd) p')⟩
theorem rd_ixL {i : Int} (o : F.Ok) (ha : EvR F ta σ H ka (IsL F K ds)) (fd : flats ds = true) (hb : EvR F tb σ H kb (fun x _ => x = .int i)) (j : Nat) (hj : ixN ds.length i = some j) (hd : ds[j]? = some d) : EvR F (tOp (rIxL K) ta tb) σ H (ka + kb) (IsD K d) :=
  r_op o (mono_l o fd) ha hb fun x y n H1 g e ⟨p, xs, ex, hT, hp, hx⟩ py Q q => by
    subst py ex
    obtain ⟨u, hu, hdu⟩ := dps_get hx hd
    exact ⟨_, _, i, u, rfl, rfl, sq_of hp, by unfold atI; rw [dps_len hx, hj]; exact hu, q u H1 (Ex.refl _) hdu⟩
/-- x in a list -/
theorem rb_inL (o : F.Ok) (ha : EvR F ta σ H ka (IsD K d)) (hb : EvR F tb σ H kb (IsL F K ds)) (f : flat d = true) (sd : SeqAt.shaped d = true) (se : SeqAt.shaped (.list ds) = true) : EvR F (tOp (rInD K) ta tb) σ H (ka + kb) (fun x _ => x = .bl (ds.any fun z => PyData.eqv z d)) :=
  r_op o (mono_d o f) ha hb fun x y n H1 g e px py Q q => ⟨d, ds, px, py.dp, sd, se, q _ H1 (Ex.refl _) rfl⟩
/-- t[lo:hi] -/
theorem rd_slT {tlo thi : TO} {lo hi : Option Int} (o : F.Ok) (h : EvR F te σ H k (IsD K (.tuple ds))) (h1 : ∀ H1, EvO tlo σ H1 lo) (h2 : ∀ H1, EvO thi σ H1 hi) : EvR F (tSl (rSlA K) te tlo thi) σ H k (IsD K (.tuple ((ds.drop (HT.sIx ds.length 0 lo)).take (HT.sIx ds.length ds.length hi - HT.sIx ds.length 0 lo)))) := fun n H1 hn g e Q q => h n H1 hn g e _ fun v H2 e2 g2 hd => by
  cases hd with
  | @tup a xs _ ha hd =>
    have hl := dps_len hd
    refine h1 H2 H2 (Ex.refl _) _ fun H3 e3 => h2 H3 H3 (Ex.refl _) _ fun H4 e4 => ?_
    have e34 := e3.trans e4
    refine ⟨a, xs, rfl, ex_t e34 ha, fun ⟨w1, w2⟩ => ?_, fun hw p hp => ?_⟩
    · refine q _ H4 (e2.trans (Kx.ex e34)) (o.ex g2 e34) ?_
      rw [hl] at w1 w2
      rw [w1, w2, Nat.sub_zero, List.drop_zero, List.take_length]
      exact .tup (ex_t e34 ha) (dps_ex e34 _ _ hd)
    · refine q _ _ (e2.trans (Kx.ex (e34.trans (Ex.new hp)))) (o.ex g2 (e34.trans (Ex.new hp))) (.tup (st_of upd_same) (dps_ex (e34.trans (Ex.new hp)) _ _ ?_))
      unfold cutV
      rw [hl]
      exact dps_take (dps_drop hd)
end
end Dt
namespace Dt
open PySem PySem.Spec PyProof.Rows L2 Evl Fx
section
variable {K : PySem.W.Frag} {H H' H1 : Hp} {p : Addr} {xs ys : List V} {u : HO} {d : PyData} {ds : List PyData} {v : V} {F : Fd}
theorem kt_lst (h : H p = some (.lst xs)) : KT K H (upd H p u) := fun a zs q => by
  have hne : ∀ o, H a = some o → (∀ ys, o ≠ .lst ys) → a ≠ p := fun o q z => by
    rintro rfl
    rw [h] at q
    cases q
    exact z _ rfl
  rcases q with (q | ⟨o, q⟩) | q
  · exact .inl (.inl (by rw [upd_ne (hne _ q fun _ z => by cases z)]; exact q))
  · exact .inl (.inr ⟨o, by rw [upd_ne (hne _ q fun _ z => by cases z)]; exact q⟩)
  · exact .inr q
theorem kt_ex (e : Ex H H') : KT K H H' := fun a xs h => ex_t e h
theorem kt_trans (a : KT K H H1) (b : KT K H1 H') : KT K H H' := fun x ys h => b x ys (a x ys h)
/-- the truth of a name that holds a list -/
def tTru (K : PySem.W.Frag) (i : Nat) : TT := fun σ H Q => tVar i σ H fun x H' => ∃ k, TruV K x H' k ∧ Q k H'
theorem et_truL {σ : L2.St} {i : Nat} (hv : σ[i]? = some (some (.ref p))) (h : H p = some (.lst xs)) : EvT (tTru K i) σ H (!xs.isEmpty) := fun H1 e Q q => ⟨.ref p, hv, _, .inl ⟨xs, sq_of (e _ _ h), rfl⟩, q H1 (Ex.refl H1)⟩
theorem F0.kx (e : Ex H H') : Kx F0.S H H' := Kx.ex e
theorem ne_addr {q : Addr} {o : HO} (h : H p = none) (h' : H q = some o) : q ≠ p := by
  rintro rfl
  rw [h] at h'
  cases h'
/-- list(range(n)) -/
theorem rl_listRg {te : TE} {σ : L2.St} {k m : Nat} (o : F.Ok) (h : EvR F te σ H k (fun x _ => x = .int (m : Int))) (hm : m ≤ 100000) : EvR F (tLstRg (tRg1 te)) σ H k (IsL F K ((List.range m).map fun (i : Nat) => PyData.int (i : Int))) := fun n H1 hn g e Q q => h n H1 hn g e _ fun v H2 e2 g2 ev => by
  refine ⟨(m : Int), ev, RgOk.of_le (by omega) (by omega) (by omega) (by omega), fun p hp => q _ _ (e2.trans (Kx.ex (Ex.new hp))) (o.ex g2 (Ex.new hp)) ⟨p, _, rfl, o.new g2 hp, upd_same, ?_⟩⟩
  unfold rgV
  rw [show ((m : Int) - 0).toNat = m by omega]
  clear hp
  generalize upd H2 p _ = H3
  have go : ∀ l : List Nat, DpAll K H3 (l.map fun (i : Nat) => V.int (0 + (i : Int))) (l.map fun (i : Nat) => PyData.int (i : Int)) := fun l => by
    induction l with
    | nil => exact .nil
    | cons a l ih =>
      refine .cons ?_ ih
      show Dp K H3 (V.int (0 + (a : Int))) (PyData.int (a : Int))
      rw [Int.zero_add]
      exact .int _
  exact go _
theorem rl_var {σ : L2.St} {n i : Nat} (o : F.Ok) (g0 : F.G n H) (h : σ[i]? = some (some v)) (p : IsL F K ds v H) (f : flats ds = true) : EvR F (tVar i) σ H 0 (IsL F K ds) := r_var (mono_l o f) g0 h p
theorem range_getD {α : Type} (z : α) : ∀ l : List α, (List.range l.length).map (fun i => l.getD i z) = l
  | [] => rfl
  | a :: l => by
    rw [List.length_cons, List.range_succ_eq_map, List.map_cons, List.map_map]
    show a :: _ = a :: l
    congr 1
    exact range_getD z l
theorem outs_getD (z : PyData) (l : List PyData) {m : Nat} (h : l.length = m) : outs (fun _ => true) (fun i => l.getD i z) m = l := by
  subst h
  rw [outs_all]
  exact range_getD z l
/-- a list that H0 doesn't know -/
def IsN (H0 : Hp) (F : Fd) (K : PySem.W.Frag) (ds : List PyData) : VP := fun v H => ∃ p xs, v = .ref p ∧ H0 p = none ∧ ¬ F.T p ∧ H p = some (.lst xs) ∧ DpAll K H xs ds
theorem kx_none {n : Nat} {p : Addr} (o : F.Ok) (g : F.G n H1) (e : Kx F.S H H1) (h : H1 p = none) : H p = none := by
  cases q : H p with
  | none => rfl
  | some u =>
    by_cases s : F.S p
    · obtain ⟨w, z, _⟩ := o.at_ g (o.sub s)
      rw [h] at z
      cases z
    · rw [e _ _ q s] at h
      cases h
theorem rn_lst {tr : TA} {σ : L2.St} {k : Nat} (o : F.Ok) (h : EvRA F tr σ H k (fun vs H => DpAll K H vs ds)) (hl : ds.length ≤ 100000 := by simp) : EvR F (tLst tr) σ H k (IsN H F K ds) :=
  fun n H1 hn g e Q q => h n H1 hn g e _ fun vs H2 e2 g2 p => ⟨sz_of (by rw [dps_len p]; exact hl), fun a ha => q (.ref a) _ (e2.trans (Kx.ex (Ex.new ha))) (o.ex g2 (Ex.new ha)) ⟨a, vs, rfl, kx_none o g2 (e.trans e2) ha, o.new g2 ha, upd_same, dps_ex (Ex.new ha) _ _ p⟩⟩
theorem dps_uncons {vs : List V} (h : DpAll K H vs (d :: ds)) : ∃ v r, vs = v :: r ∧ Dp K H v d ∧ DpAll K H r ds := by
  cases h with
  | cons h1 h2 => exact ⟨_, _, rfl, h1, h2⟩
theorem dps_none {vs : List V} (h : DpAll K H vs []) : vs = [] := by
  cases h
  rfl
theorem dp_two {d e : PyData} (h : Dp K H v (.tuple [d, e])) : ∃ a x y, v = .ref a ∧ SqT K H a [x, y] ∧ Dp K H x d ∧ Dp K H y e := by
  cases h with
  | tup h1 h2 =>
    cases h2 with
    | cons p1 q1 =>
      cases q1 with
      | cons p2 q2 =>
        cases q2
        exact ⟨_, _, _, rfl, h1, p1, p2⟩
theorem dp_three {d e c : PyData} (h : Dp K H v (.tuple [d, e, c])) : ∃ a x y z, v = .ref a ∧ SqT K H a [x, y, z] ∧ Dp K H x d ∧ Dp K H y e ∧ Dp K H z c := by
  cases h with
  | tup h1 h2 =>
    cases h2 with
    | cons p1 q1 =>
      cases q1 with
      | cons p2 q2 =>
        cases q2 with
        | cons p3 q3 =>
          cases q3
          exact ⟨_, _, _, _, rfl, h1, p1, p2, p3⟩
end
theorem call_lenS {X : Cx} : CallR X (.builtin "len") (rLenS X.K) := by
  intro pins s σ H xs us Q I r h
  obtain ⟨p, ys, rfl, hs, q⟩ := h
  exact call_len pins s σ H _ us Q I r ⟨.ref p, ys.length, rfl, hs.elim (fun h => .inl ⟨ys, h, rfl⟩) fun h => .inr ⟨ys, h, rfl⟩, q⟩
theorem pa_starK {X : Cx} {K : PySem.W.Frag} {e : Expr} {te : TE} {es : List Expr} {t : TA} {p : Pos} (hK : X.K = K) (he : PE X e te) (hr : PA X es t) (hs : starEach (.Starred e p :: es) X.env = (true, eval e X.env) :: starEach es X.env := by rfl) : PA X (.Starred e p :: es) (StX.tStar K te t) := by
  subst hK
  exact StX.pa_star he hr hs
end Dt
namespace Dt
open PySem PySem.Spec PyProof.Rows L2 Evl Fx
/-- zip of two tuples in a comprehension, the first not longer -/
theorem lc_zipLe {K : PySem.W.Frag} {a b : Addr} {xs ys : List V} {g : TG} {tt : TT} {te : TE} {vs : List Nat} {σ : L2.St} {H1 : Hp} {D : Addr} {Qd : Hp → Prop} (hl : xs.length ≤ ys.length) (Pv : Nat → Hp → Prop) (h0 : Pv 0 (upd H1 D (.lst []))) (hq : ∀ i H, Pv i H → SqT K H a xs ∧ SqT K H b ys)
    (hs : ∀ (i : Nat) (x y : V) (T : Addr) (H : Hp), xs[i]? = some x → ys[i]? = some y → Pv i H → H T = none → g (.ref T) (wipe σ vs) (upd H T (.tup [x, y])) fun σ2 H2 => wipe σ2 vs = wipe σ vs ∧ tt σ2 H2 fun b H3 =>
      if b = true then te σ2 H3 fun y H4 => ∃ acc, H4 D = some (.lst acc) ∧ acc.length < sizeLine ∧ Pv (i + 1) (upd H4 D (.lst (acc ++ [y]))) else Pv (i + 1) H3) (hd : ∀ H, Pv xs.length H → Qd H) :
    ∃ W : Nat → Nat → Hp → Prop, (∃ m, W 0 m (upd H1 D (.lst []))) ∧ ∀ i m H, W i m H →
      ((RZ.ItzT K a b).stop i H ∧ Qd H) ∨ ((RZ.ItzT K a b).go i H ∧ ∃ Nx : Hp → Prop, (∀ H', Nx H' → ∃ m', m' < m ∧ W (i + 1) m' H') ∧ ∀ x H', (RZ.ItzT K a b).yld i H x H' → g x (wipe σ vs) H' fun σ2 H2 => wipe σ2 vs = wipe σ vs ∧ tt σ2 H2 fun b H3 =>
        if b = true then te σ2 H3 fun y H4 => ∃ acc, H4 D = some (.lst acc) ∧ acc.length < sizeLine ∧ Nx (upd H4 D (.lst (acc ++ [y]))) else Nx H3) := by
  refine ⟨fun i m H => m = xs.length - i ∧ i ≤ xs.length ∧ Pv i H, ⟨xs.length, by simp, Nat.zero_le _, h0⟩, ?_⟩
  rintro i m H ⟨rfl, hi, p⟩
  obtain ⟨qx, qy⟩ := hq i H p
  by_cases hlt : i < xs.length
  · have hx : xs[i]? = some xs[i] := List.getElem?_eq_getElem hlt
    have hlt2 : i < ys.length := by omega
    have hy : ys[i]? = some ys[i] := List.getElem?_eq_getElem hlt2
    refine .inr ⟨⟨xs, ys, _, _, qx, qy, hx, hy⟩, Pv (i + 1), fun H' p' => ⟨xs.length - (i + 1), by omega, rfl, hlt, p'⟩, fun v H' y => ?_⟩
    obtain ⟨T, x', y', rfl, hT, rfl, f1, f2⟩ := y
    exact hs i x' y' T H (f1 xs qx) (f2 ys qy) p hT
  · have e : i = xs.length := by omega
    subst e
    exact .inl ⟨⟨xs, ys, qx, qy, Or.inl (Nat.le_refl _)⟩, hd H p⟩
section
variable {F : Fd} {K : PySem.W.Frag} {te ta tb tl : TE} {tr : TA} {tt tu : TT} {g : TG} {σ : L2.St} {H H' H1 : Hp} {d d' : PyData} {ds es : List PyData} {n n0 k ka kb kt ke i : Nat} {v : V} {Dl : Addr} {f : Nat → Bool} {e : Nat → PyData}
theorem Cd.new (o : F.Ok) (p : Cd F K H1 Dl n0 k f e i H') {T : Addr} {u : HO} (h : H' T = none) : Cd F K H1 Dl n0 k f e i (upd H' T u) := by
  obtain ⟨p1, p2, vs, p3, p4⟩ := p
  exact ⟨p1.trans (Kx.ex (Ex.new h)), o.ex p2 (Ex.new h), vs, Ex.new h _ _ p3, dps_ex (Ex.new h) _ _ p4⟩
/-- [e for (..) in zip(t, u) if ..], tuples -/
theorem r_lcZ (o : F.Ok) {vs : List Nat} (f : Nat → Bool) (e : Nat → PyData) (h : EvRA F tr σ H k (fun us H => DpAll K H us [.tuple ds, .tuple es])) (fd : flats ds = true) (fe : flats es = true) (hle : ds.length ≤ es.length) (hm : ds.length ≤ 40000) (fl : ∀ j, j < ds.length → f j = true → flat (e j) = true)
    (ht : ∀ i x y T d d' n H', ds[i]? = some d → es[i]? = some d' → Dp K H' x d → Dp K H' y d' → SqT K H' T [x, y] → F.G n H' → Kx F.S H H' → ∃ σ2, Gv g (.ref T) (wipe σ vs) H' σ2 ∧ wipe σ2 vs = wipe σ vs ∧ EvRT F tt σ2 H' kt (f i) ∧ (f i = true → EvR F te σ2 H' ke (IsD K (e i)))) :
    EvR F (tLc (RZ.iZipA K tr) g tt te vs) σ H (k + ds.length * (kt + ke)) (IsL F K (outs f e ds.length)) := fun n H0 hn g0 e0 Q q => h n H0 (by omega) g0 e0 _ fun us H1 e1 g1 hd => by
  obtain ⟨u1, us, rfl, p1, hd⟩ := dps_uncons hd
  obtain ⟨u2, us, rfl, p2, hd⟩ := dps_uncons hd
  obtain rfl := dps_none hd
  cases p1 with
  | @tup a xs _ ha hx =>
  cases p2 with
  | @tup b ys _ hb hy =>
  have hl := dps_len hx
  have hl2 := dps_len hy
  refine ⟨a, b, xs, ys, rfl, .inr ⟨ha, hb, fun Dl hD => lc_zipLe (xs := xs) (by omega) (Cd F K H1 Dl (n + k) (kt + ke) f e) ?_ (fun i H' p => ⟨o.kt g1 p.1 _ _ ha, o.kt g1 p.1 _ _ hb⟩) (fun i x y T H' hi hj p hT => ?_) fun H' p => ?_⟩⟩
  · exact ⟨Kx.ex (Ex.new hD), by rw [Nat.zero_mul]; exact o.put g1 hD g1, [], upd_same, .nil⟩
  · have hlt := (List.getElem?_eq_some_iff.mp hi).1
    have hdi : ds[i]? = some ds[i] := List.getElem?_eq_getElem (by omega)
    have hei : es[i]? = some es[i] := List.getElem?_eq_getElem (by omega)
    have p' : Cd F K H1 Dl (n + k) (kt + ke) f e i (upd H' T (.tup [x, y])) := p.new o hT
    obtain ⟨u, hu, hdu⟩ := dps_get (mono_ds o fd _ _ _ _ g1 p'.1 hx) hdi
    rw [hi] at hu
    cases hu
    obtain ⟨u, hu, hdu'⟩ := dps_get (mono_ds o fe _ _ _ _ g1 p'.1 hy) hei
    rw [hj] at hu
    cases hu
    obtain ⟨σ2, q1, q2, q3, q4⟩ := ht i x y T _ _ _ _ hdi hei hdu hdu' (st_of upd_same) p'.2.1 (e0.trans (e1.trans p'.1))
    exact q1 _ ⟨q2, cd_turn o g1 hD p' (by omega) hm (by rw [Nat.add_assoc]; exact hn) fl q3 q4⟩
  · rw [hl] at p
    obtain ⟨p1, p2, ws, p3, p4⟩ := p
    exact q (.ref Dl) H' (e1.trans p1) (by rw [← Nat.add_assoc]; exact p2) ⟨Dl, ws, rfl, o.new g1 hD, p3, p4⟩
theorem sIx_0 (n d : Nat) : HT.sIx n d none = d := rfl
theorem sIx_last (n : Nat) : HT.sIx n n (some (-1)) = n - 1 := by
  unfold HT.sIx
  simp
  omega
/-- t[:-1] -/
theorem rd_init {σ : L2.St} (o : F.Ok) (h : EvR F te σ H k (IsD K (.tuple ds))) : EvR F (tSl (rSlA K) te tNoPart (tPart (tUn (rU fun i => .int (-i)) (tC (.int 1))))) σ H k (IsD K (.tuple ds.dropLast)) := by
  have z := rd_slT (lo := none) (hi := some (-1)) o h (fun H1 => eo_none) fun H1 => eo_some (ev_un ev_c ru_neg)
  rw [sIx_0, List.drop_zero, sIx_last, Nat.sub_zero, ← List.dropLast_eq_take] at z
  exact z
/-- for .. in zip(t, u), tuples of one length -/
theorem q_forZ {tb tz : TS} {D : Ends} (o : F.Ok) (h : EvRA F tr σ H k (fun us H => DpAll K H us [.tuple ds, .tuple es])) (g0 : F.G n H) (hn : n + k ≤ F.N) (fd : flats ds = true) (fe : flats es = true) (hl : ds.length = es.length) (Pv : Hp → Nat → L2.St → Hp → Prop)
    (h0 : ∀ H1, Kx F.S H H1 → F.G (n + k) H1 → Pv H1 0 σ H1) (hk : ∀ H1 i σ' H', Pv H1 i σ' H' → KT K H1 H')
    (hs : ∀ H1 i x y T d d' σ' H', ds[i]? = some d → es[i]? = some d' → Pv H1 i σ' H' → H' T = none → Dp K (upd H' T (.tup [x, y])) x d → Dp K (upd H' T (.tup [x, y])) y d' → g (.ref T) σ' (upd H' T (.tup [x, y])) fun σ2 H2 => tb { D with nx := Pv H1 (i + 1), ct := Pv H1 (i + 1), bk := tz D } σ2 H2)
    (hd : ∀ H1 σ' H', Kx F.S H H1 → Pv H1 ds.length σ' H' → tz D σ' H') : tSeq (tFor (RZ.iZipA K tr) g tb) tz D σ H := h n H hn g0 Kx.refl _ fun us H1 e1 g1 hu => by
  obtain ⟨u1, us, rfl, p1, hu⟩ := dps_uncons hu
  obtain ⟨u2, us, rfl, p2, hu⟩ := dps_uncons hu
  obtain rfl := dps_none hu
  cases p1 with
  | @tup a xs _ ha hx =>
  cases p2 with
  | @tup b ys _ hb hy =>
  have lx := dps_len hx
  have ly := dps_len hy
  refine ⟨a, b, xs, ys, rfl, .inr ⟨ha, hb, RZ.for_zipT (by omega) (Pv H1) (h0 H1 e1 g1) (fun i σ' H' p => ⟨hk _ _ _ _ p _ _ ha, hk _ _ _ _ p _ _ hb⟩) (fun i x y T σ' H' hi hj p hT => ?_) fun σ' H' p => hd H1 σ' H' e1 (by rw [← lx]; exact p)⟩⟩
  have h1 := (List.getElem?_eq_some_iff.mp hi).1
  have h2 := (List.getElem?_eq_some_iff.mp hj).1
  have hdi : ds[i]? = some ds[i] := List.getElem?_eq_getElem (by omega)
  have hei : es[i]? = some es[i] := List.getElem?_eq_getElem (by omega)
  have kk : KT K H1 (upd H' T (.tup [x, y])) := kt_trans (hk _ _ _ _ p) (kt_ex (Ex.new hT))
  obtain ⟨u, hu, hdu⟩ := dps_get (dps_kt kk _ _ fd hx) hdi
  rw [hi] at hu
  cases hu
  obtain ⟨u, hu, hdu'⟩ := dps_get (dps_kt kk _ _ fe hy) hei
  rw [hj] at hu
  cases hu
  exact hs H1 i x y T _ _ σ' H' hdi hei p hT hdu hdu'
end
end Dt
/-! ### enumerate(t), a tuple -/
namespace DtE
open PySem PySem.Spec PyProof.Rows L2
theorem meets_enumerate_newT (l : Addr) (items : Array Value) :
    Meets (Builtin.«enumerate.__new__» ⟨[.type "enumerate", .ref l], []⟩) (fun _ R s => s.heap.IsTuple l items ∧
      R (.ok (.ret (.ref (s.heap.push { cls := .type "tuple_iterator", data := .fields #[.ref l, .int 0 0] }).objs.size)))
        { s with heap := (s.heap.push { cls := .type "tuple_iterator", data := .fields #[.ref l, .int 0 0] }).push { cls := .type "enumerate", data := .fields #[.none, .bool false, .ref s.heap.objs.size, rawInt 0, .none, .none] } }) :=
  .of_wp fun prog w A R s h => by
    obtain ⟨hp, g, d, tk, os⟩ := s; obtain ⟨hl, h⟩ := h
    have hsub := sub_enumerate
    have hL : Heap.IsTuple (Shared.heap ⟨hp, g, d, tk, os⟩) l items := hl
    wp_walk using wpAny_pyIter_tuple hL
    refine wpAny_stack_any fun st => wpAny_pure ?_
    split
    · rename_i c _ _ _ _ _
      cases (c == Value.type "enumerate")
      · wp_walk using wpAny_pyIter_tuple hL
        exact ⟨_, rfl, h⟩
      · wp_walk using wpAny_pyIter_tuple hL
        exact ⟨_, rfl, h⟩
    · wp_walk using wpAny_pyIter_tuple hL
      exact ⟨_, rfl, h⟩
section
variable {prog : Program} {w : World} {A : Around} {E : Value → Shared → Prop} {s : Shared}
theorem call_enumerate_tuple {l : Addr} {items : Array Value} {Q : Value → Shared → Prop} (hL : s.heap.IsTuple l items)
    (h : ∀ h', IsEnum h' (s.heap.objs.size + 1) s.heap.objs.size 0 .none → h'.IsTupleIter s.heap.objs.size l 0 → h'.objs.size = s.heap.objs.size + 2 →
      (∀ b o, s.heap.get? b = some o → h'.get? b = some o) → Q (.ref (s.heap.objs.size + 1)) { s with heap := h' }) :
    wpAny (model prog w) A (call (.type "enumerate") [.ref l]) Q E s := by
  refine callType_new F.called_enumerate (by decide) (F.typeCall_enumerate_1 _) (F.newCall_enumerate_1 _) (fun obj => F.args_object_init_2 obj _) F.entry_enumerate_new
    (meets_enumerate_newT l items) ⟨hL, ?_⟩
  have hz : (s.heap.push { cls := .type "tuple_iterator", data := .fields #[.ref l, .int 0 0] }).objs.size = s.heap.objs.size + 1 := Heap.size_push ..
  show _ ∧ _
  rw [hz]
  have he : IsEnum ((s.heap.push { cls := .type "tuple_iterator", data := .fields #[.ref l, .int 0 0] }).push
      { cls := .type "enumerate", data := .fields #[.none, .bool false, .ref s.heap.objs.size, rawInt 0, .none, .none] }) (s.heap.objs.size + 1) s.heap.objs.size 0 .none := by
    have := Heap.get?_push_size (s.heap.push { cls := .type "tuple_iterator", data := .fields #[.ref l, .int 0 0] })
      (o := { cls := .type "enumerate", data := .fields #[.none, .bool false, .ref s.heap.objs.size, rawInt 0, .none, .none] }) rfl
    rw [hz] at this; exact this
  exact ⟨⟨_, he, rfl⟩, h _ he ⟨_, Heap.get?_push_of_some _ (Heap.get?_push_size _ rfl), rfl, rfl⟩ (by rw [Heap.size_push, hz]) fun b o x => Heap.get?_push_of_some _ (Heap.get?_push_of_some _ x)⟩
end
/-- the tuple at a, the items with their places in new pairs -/
def IteT (K : PySem.W.Frag) (a : Addr) : It :=
  ⟨fun i H => ∃ (xs : List V) (x : V), SqT K H a xs ∧ xs[i]? = some x, fun i H v H' => ∃ T x, v = .ref T ∧ H T = none ∧ H' = upd H T (.tup [.int (i : Nat), x]) ∧ ∀ xs, SqT K H a xs → xs[i]? = some x, fun i H => ∃ xs : List V, SqT K H a xs ∧ xs.length = i⟩
theorem turn_enumT {P : Program} {w : World} {K : PySem.W.Frag} {elts : List Expr} {kk : Nat} {tpos : Pos} (a e it : Addr) (hat : a ≠ it) (hae : e ≠ a) :
    Turn P w K (.Tuple elts kk tpos) (IteT K a) [e, it] e (fun i h => (∃ old, IsEnum h e it ((i : Nat) : Int) old) ∧ h.IsTupleIter it a i ∧ e ≠ it) where
  mem := by simp
  obj := fun i h st b hb => by
    obtain ⟨⟨old, he⟩, ⟨o, ho, hc, hd⟩, _⟩ := st
    have e' : b = e ∨ b = it := by simpa using hb
    rcases e' with z | z
    · rw [z]; exact ⟨_, he, fun v q => nomatch q⟩
    · rw [z]; exact ⟨o, ho, fun v q => by rw [hd] at q; cases q⟩
  keep := fun i h h' st k => let ⟨⟨old, he⟩, hi, hne⟩ := st; ⟨⟨old, k e (by simp) _ he⟩, hi.at fun o q => k it (by simp) o q, hne⟩
  item := by
    intro X hP hw hK hc i pins s σ H E I hf st hg
    subst hP hw hK
    obtain ⟨⟨old, he⟩, hit, hne⟩ := st
    obtain ⟨xs, x, hq, hx⟩ := hg
    obtain ⟨its, rv, p, hz⟩ := I.tuple hq
    obtain ⟨u, hu, ru⟩ := rv.get hx
    have hel : e < s.heap.objs.size := Heap.lt_size he
    have hil : it < s.heap.objs.size := by obtain ⟨_, q, _⟩ := hit; exact Heap.lt_size q
    have hlt : i < its.toArray.size := by
      rw [List.size_toArray]
      exact (List.getElem?_eq_some_iff.mp hu).1
    refine wpAny_pyNext_enum_itemD (Draws.tuple (A := X.A.in1) (show X.A.in1.handled = none from I.ok.hd hc) it a hat its.toArray) he ⟨hit, p⟩ hlt hne (by simp [hne, hae]) fun y h' tk hy ho hit' hT hsz hk => ?_
    have hy' : y = u := by
      have hy2 : its.toArray[i]? = some y := hy
      rw [List.getElem?_toArray, hu] at hy2
      exact (Option.some.inj hy2).symm
    subst hy'
    refine ⟨_, rfl, wpAny_letOwnedTupleGo_enum (s := { s with heap := h', toks := tk + 1 }) ho fun h'' he' sb => ?_⟩
    have hT2 : h''.get? s.heap.objs.size = some { cls := .type "tuple", data := .seq #[.int i tk, y] } := (sb.2 _ (Nat.ne_of_gt hel)).trans hT
    have new : ObjOk X.prog X.w (upd H s.heap.objs.size (.tup [.int (i : Nat), x])) h'' s.heap.objs.size (.tup [.int (i : Nat), x]) :=
      ⟨by show 2 ≤ sizeLine; decide, [.int i tk, y], .cons ⟨_, rfl⟩ (.cons ru .nil), ⟨_, hT2, rfl, _, rfl⟩⟩
    have I1 : Inv X pins σ (upd H s.heap.objs.size (.tup [.int (i : Nat), x])) { s with heap := h'', toks := tk + 1 } :=
      I.turnedNew (ch := [e, it]) (fun b ob hb q => (sb.2 b (fun z => hb (by simp [z]))).trans (hk b ob (fun z => hb (by simp [z])) (fun z => hb (by simp [z])) q)) hf (Nat.le_refl _) new
    refine ⟨.ref s.heap.objs.size, _, I1, rfl, ⟨_, x, rfl, I.hok.fresh (Nat.le_refl _), rfl, fun ys hy => by rw [I.tuple_inj hy hq]; exact hx⟩, ⟨⟨y, ?_⟩, hit'.1.at fun o q => (sb.2 it (Ne.symm hne)).trans q, hne⟩, fun b hb => ?_⟩
    · have e1 : ((i + 1 : Nat) : Int) = (i : Int) + 1 := by omega
      rw [e1]; exact he'
    · have hb' : b < s.heap.objs.size := by
        have e' : b = e ∨ b = it := by simpa using hb
        rcases e' with z | z
        · rw [z]; exact hel
        · rw [z]; exact hil
      rw [upd_ne (Nat.ne_of_lt hb')]
      exact (hf b hb).1
  done := by
    intro X hP hw hK hc i pins s σ H E I hf st hg
    subst hP hw hK
    obtain ⟨⟨old, he⟩, hit, hne⟩ := st
    obtain ⟨xs, hq, hx⟩ := hg
    obtain ⟨its, rv, p, hz⟩ := I.tuple hq
    obtain ⟨f0, f1, f2, f3, f4, f5⟩ := hf it (by simp)
    have hl := rv.length
    have hn : i = its.toArray.size := by rw [List.size_toArray]; omega
    have D := Draws.tuple (prog := X.prog) (w := X.w) (A := X.A.in1) (show X.A.in1.handled = none from I.ok.hd hc) it a hat its.toArray
    exact wpAny_pyNext_enum_endD D he ⟨by rw [← hn]; exact hit, p⟩ fun h' eb => ⟨rfl, I.turned (t' := s.toks) (fun b o hb q => eb b o hb q) f0 f1 f3 f4 f5⟩
  self := fun A i s Q E st h => let ⟨⟨_, he⟩, _⟩ := st; wpAny_pyIter_enum he h
def iEnumT (K : PySem.W.Frag) (ta : TA) : TI := fun σ H R => ta σ H fun vs H1 => ∃ a xs, vs = [.ref a] ∧ SqT K H1 a xs ∧ R (IteT K a) H1
theorem pi_enumT {X : Cx} {e : Expr} {ta : TA} {p pos tpos : Pos} {elts : List Expr} {kk : Nat} (hg : Gl X "enumerate") (hm : X.mg "enumerate" = none) (ha : PA X [e] ta) (hs : starEach [e] X.env = [(false, eval e X.env)] := by rfl) :
    PI X (.Tuple elts kk tpos) (.Call (.Name "enumerate" p) [e] [] pos) (iEnumT X.K ta) := by
  refine ⟨fun pins s σ H R I h => ?_⟩
  refine Call_ (ld_blt I hg hm boot_enumerate (PyProof.Rows.callWith_type1 (thn (ha.run pos pins s σ H _ I h) fun us s1 ⟨vs, H1, I1, r1, q1⟩ => ?_) hs rfl))
  obtain ⟨a, xs, ex, hq, q⟩ := q1
  subst ex
  cases r1 with
  | cons r rr =>
    cases rr
    cases r
    obtain ⟨its, rv, p', hz⟩ := I1.tuple hq
    have hal : a < s1.heap.objs.size := by
      obtain ⟨_, q, _⟩ := p'
      exact Heap.lt_size q
    refine call_enumerate_tuple p' fun h' he hit hsz hk => wpAny_pyIter_enum he ?_
    have I2 : Inv X pins σ H1 { s1 with heap := h' } := I1.kept (t' := s1.toks) hk
    refine ⟨s1.heap.objs.size + 1, [s1.heap.objs.size + 1, s1.heap.objs.size], _, _, H1, rfl, I2, turn_enumT a (s1.heap.objs.size + 1) s1.heap.objs.size (Nat.ne_of_lt hal) (Nat.ne_of_gt (Nat.lt_succ_of_lt hal)), ⟨⟨.none, he⟩, hit, Nat.succ_ne_self _⟩, fun b hb => ?_, q⟩
    have e' : b = s1.heap.objs.size + 1 ∨ b = s1.heap.objs.size := by simpa using hb
    have hle : s1.heap.objs.size ≤ b := by
      rcases e' with z | z
      · rw [z]; exact Nat.le_add_right _ _
      · rw [z]; exact Nat.le_refl _
    exact I1.fpOk hle (I1.hok.fresh hle)
end DtE
namespace Dt
open PySem PySem.Spec PyProof.Rows L2 Evl Fx
theorem for_enumT {K : PySem.W.Frag} {a : Addr} {xs : List V} {g : TG} {tb : TS} {D : Ends} {σ : L2.St} {H : Hp} (Pv : Nat → L2.St → Hp → Prop) (h0 : Pv 0 σ H) (hq : ∀ i σ H, Pv i σ H → SqT K H a xs)
    (hs : ∀ (i : Nat) (x : V) (T : Addr) (σ : L2.St) (H : Hp), xs[i]? = some x → Pv i σ H → H T = none → g (.ref T) σ (upd H T (.tup [.int (i : Nat), x])) fun σ2 H2 => tb { D with nx := Pv (i + 1), ct := Pv (i + 1), bk := D.nx } σ2 H2) (hd : ∀ σ H, Pv xs.length σ H → D.nx σ H) :
    ∃ W : Nat → Nat → L2.St → Hp → Prop, (∃ m, W 0 m σ H) ∧ ∀ i m σ H, W i m σ H →
      ((DtE.IteT K a).stop i H ∧ D.nx σ H) ∨ ((DtE.IteT K a).go i H ∧ ∃ N : L2.St → Hp → Prop, (∀ σ' H', N σ' H' → ∃ m', m' < m ∧ W (i + 1) m' σ' H') ∧ ∀ v H', (DtE.IteT K a).yld i H v H' → g v σ H' fun σ2 H2 => tb { D with nx := N, ct := N, bk := D.nx } σ2 H2) := by
  refine ⟨fun i m σ H => m = xs.length - i ∧ i ≤ xs.length ∧ Pv i σ H, ⟨xs.length, rfl, Nat.zero_le _, h0⟩, ?_⟩
  rintro i m σ H ⟨rfl, hi, p⟩
  have qx := hq i σ H p
  by_cases hlt : i < xs.length
  · have hx : xs[i]? = some xs[i] := List.getElem?_eq_getElem hlt
    refine .inr ⟨⟨xs, _, qx, hx⟩, Pv (i + 1), fun σ' H' p' => ⟨xs.length - (i + 1), by omega, rfl, hlt, p'⟩, fun v H' y => ?_⟩
    obtain ⟨T, x', rfl, hT, rfl, f1⟩ := y
    exact hs i x' T σ H (f1 xs qx) p hT
  · have e : i = xs.length := by omega
    subst e
    exact .inl ⟨⟨xs, qx, rfl⟩, hd σ H p⟩
section
variable {F : Fd} {K : PySem.W.Frag} {te ta tb tl : TE} {tr : TA} {tt tu : TT} {g : TG} {σ : L2.St} {H H' H1 : Hp} {d d' : PyData} {ds es : List PyData} {n n0 k ka kb kt ke i : Nat} {v : V} {Dl : Addr}
/-- for .. in enumerate(t), a tuple -/
theorem q_forE {tb tz : TS} {D : Ends} (o : F.Ok) (h : EvR F tl σ H k (IsD K (.tuple ds))) (g0 : F.G n H) (hn : n + k ≤ F.N) (fd : flats ds = true) (Pv : Hp → Nat → L2.St → Hp → Prop)
    (h0 : ∀ H1, Kx F.S H H1 → F.G (n + k) H1 → Pv H1 0 σ H1) (hk : ∀ H1 i σ' H', Pv H1 i σ' H' → KT K H1 H')
    (hs : ∀ H1 i x T d σ' H', ds[i]? = some d → Pv H1 i σ' H' → H' T = none → Dp K (upd H' T (.tup [.int (i : Nat), x])) x d → g (.ref T) σ' (upd H' T (.tup [.int (i : Nat), x])) fun σ2 H2 => tb { D with nx := Pv H1 (i + 1), ct := Pv H1 (i + 1), bk := tz D } σ2 H2)
    (hd : ∀ H1 σ' H', Kx F.S H H1 → Pv H1 ds.length σ' H' → tz D σ' H') : tSeq (tFor (DtE.iEnumT K (tCons tl tNil)) g tb) tz D σ H := h n H hn g0 Kx.refl _ fun u H1 e1 g1 p1 => by
  cases p1 with
  | @tup a xs _ ha hx =>
  have lx := dps_len hx
  refine ⟨a, xs, rfl, ha, for_enumT (Pv H1) (h0 H1 e1 g1) (fun i σ' H' p => hk _ _ _ _ p _ _ ha) (fun i x T σ' H' hi p hT => ?_) fun σ' H' p => hd H1 σ' H' e1 (by rw [← lx]; exact p)⟩
  have h1 := (List.getElem?_eq_some_iff.mp hi).1
  have hdi : ds[i]? = some ds[i] := List.getElem?_eq_getElem (by omega)
  have kk : KT K H1 (upd H' T (.tup [.int (i : Nat), x])) := kt_trans (hk _ _ _ _ p) (kt_ex (Ex.new hT))
  obtain ⟨u, hu, hdu⟩ := dps_get (dps_kt kk _ _ fd hx) hdi
  rw [hi] at hu
  cases hu
  exact hs H1 i x T _ σ' H' hdi p hT hdu
/-- t + u -/
theorem rd_cat (o : F.Ok) (ha : EvR F ta σ H ka (IsD K (.tuple ds))) (hb : EvR F tb σ H kb (IsD K (.tuple es))) (fd : flats ds = true) (hl : ds.length + es.length ≤ 100000) : EvR F (tOp (rCatA K) ta tb) σ H (ka + kb) (IsD K (.tuple (ds ++ es))) :=
  r_op o (mono_d o (show flat (.tuple ds) = true by rw [flat_tup]; exact fd)) ha hb fun x y n H1 g e px py Q q => by
    cases px with
    | @tup a xs _ ha hx =>
    cases py with
    | @tup b ys _ hb hy =>
    have lx := dps_len hx
    have ly := dps_len hy
    refine ⟨a, b, xs, ys, rfl, rfl, ha, hb, sz_of (by omega), fun ex => ?_, fun _ ey => ?_, fun _ _ p hp => q _ _ (Ex.new hp) (.tup (st_of upd_same) (dps_ex (Ex.new hp) _ _ (dps_app hx hy)))⟩
    · subst ex
      cases ds with
      | nil => exact q _ H1 (Ex.refl _) (.tup hb hy)
      | cons _ _ => simp at lx
    · subst ey
      cases es with
      | nil =>
        refine q _ H1 (Ex.refl _) ?_
        show Dp K H1 _ (.tuple (ds ++ []))
        rw [List.append_nil]
        exact .tup ha hx
      | cons _ _ => simp at ly
/-- xs.extend(a new list) where the list may be any name -/
theorem evE_int {i : Int} (h : EvR F te σ H k (fun x _ => x = .int i)) : EvR F te σ H k (IsD K (.int i)) := rd_ofI h
theorem rv_op {r : R2} {x y z : V} (o : F.Ok) (ha : EvR F ta σ H ka (fun u _ => u = x)) (hb : EvR F tb σ H kb (fun u _ => u = y)) (hr : ∀ H1, RV r x y H1 z) : EvR F (tOp r ta tb) σ H (ka + kb) (fun u _ => u = z) :=
  r_op o mono_eq ha hb fun x' y' n H1 g e ex ey Q q => by
    subst ex ey
    exact hr H1 H1 (Ex.refl _) Q fun H2 e2 => q _ H2 e2 rfl
theorem dps_strs : ∀ {ws : List Str} {vs : List V}, DpAll K H vs (ws.map PyData.str) → vs = ws.map V.str
  | [], _, h => by cases h; rfl
  | b :: bs, _, h => by
    cases h with
    | cons h1 h2 =>
      cases h1
      rw [dps_strs h2]
      rfl
theorem flat_strs (ws : List Str) : (ws.map V.str).all flatV = true := by
  rw [List.all_map]
  exact List.all_eq_true.mpr fun _ _ => rfl
/-- a text in a tuple of texts -/
theorem rb_inT {w : Str} {ws : List Str} (o : F.Ok) (ha : EvR F ta σ H ka (fun u _ => u = .str w)) (hb : EvR F tb σ H kb (IsD K (.tuple (ws.map PyData.str)))) : EvR F (tOp (rIn K false) ta tb) σ H (ka + kb) (fun u _ => u = .bl (ws.any fun y => y == w)) :=
  r_op o mono_eq ha hb fun x y n H1 g e ex py Q q => by
    subst ex
    cases py with
    | @tup b ys _ hb hy =>
    have := dps_strs hy
    subst this
    refine ⟨b, _, rfl, .inr hb, rfl, flat_strs ws, q _ H1 (Ex.refl _) ?_⟩
    show V.bl (inV _ _) = _
    unfold inV
    rw [List.any_map]
    rfl
end
end Dt
/-! ### zip(a list, a tuple) -/
namespace DtZ
open PySem PySem.Spec PyProof.Rows L2
abbrev zh1 (h : Heap) (l1 : Addr) : Heap := h.push { cls := .type "list_iterator", data := .fields #[.ref l1, .int 0 0] }
abbrev zh2 (h : Heap) (l1 l2 : Addr) : Heap := (zh1 h l1).push { cls := .type "tuple_iterator", data := .fields #[.ref l2, .int 0 0] }
abbrev zh3 (h : Heap) (l1 l2 : Addr) : Heap := (zh2 h l1 l2).push { cls := .type "tuple", data := .seq #[.ref h.objs.size, .ref (zh1 h l1).objs.size] }
abbrev zh4 (h : Heap) (l1 l2 : Addr) : Heap := (zh3 h l1 l2).push { cls := .type "tuple", data := .seq #[.none, .none] }
abbrev zh5 (h : Heap) (l1 l2 : Addr) : Heap := (zh4 h l1 l2).push { cls := .type "zip", data := .fields #[.none, .bool false, .bool false, .ref (zh2 h l1 l2).objs.size, .ref (zh3 h l1 l2).objs.size] }
theorem meets_zipM_new (l1 l2 : Addr) (xs ys : Array Value) :
    Meets (Builtin.«zip.__new__» ⟨[.type "zip", .ref l1, .ref l2], []⟩) (fun _ R s => s.heap.IsList l1 xs ∧ s.heap.IsTuple l2 ys ∧
      R (.ok (.ret (.ref (zh4 s.heap l1 l2).objs.size))) { s with heap := zh5 s.heap l1 l2 }) :=
  .of_wp fun prog w A R s h => by
    obtain ⟨hp, g, d, tk, os⟩ := s; obtain ⟨hl1, hl2, h⟩ := h
    have hsub := sub_zip
    have hL1 : Heap.IsList (Shared.heap ⟨hp, g, d, tk, os⟩) l1 xs := hl1
    have hL2 : Heap.IsTuple (Shared.heap ⟨hp.push { cls := .type "list_iterator", data := .fields #[.ref l1, .int 0 0] }, g, d, tk, os⟩) l2 ys := Heap.IsTuple.push hl2 _
    wp_walk using wpAny_pyIter_list hL1, wpAny_pyIter_tuple hL2
    exact ⟨_, rfl, h⟩
section
variable {prog : Program} {w : World} {A : Around} {E : Value → Shared → Prop} {s : Shared}
theorem call_zipM {l1 l2 : Addr} {xs ys : Array Value} {Q : Value → Shared → Prop} (hl1 : s.heap.IsList l1 xs) (hl2 : s.heap.IsTuple l2 ys)
    (h : ∀ h', IsZip h' (s.heap.objs.size + 4) (s.heap.objs.size + 2) (s.heap.objs.size + 3) .none → IsPair h' (s.heap.objs.size + 2) (.ref s.heap.objs.size) (.ref (s.heap.objs.size + 1)) →
      IsPair h' (s.heap.objs.size + 3) .none .none → h'.IsListIter s.heap.objs.size l1 0 → h'.IsTupleIter (s.heap.objs.size + 1) l2 0 → h'.objs.size = s.heap.objs.size + 5 →
      (∀ c o, s.heap.get? c = some o → h'.get? c = some o) → Q (.ref (s.heap.objs.size + 4)) { s with heap := h' }) :
    wpAny (model prog w) A (call (.type "zip") [.ref l1, .ref l2]) Q E s := by
  refine callType_new F.called_zip (by decide) (F.typeCall_zip_2 _ _) (F.newCall_zip_2 _ _) (fun obj => F.args_object_init_3 obj _ _) F.entry_zip_new
    (meets_zipM_new l1 l2 xs ys) ⟨hl1, hl2, ?_⟩
  have z1 : (zh1 s.heap l1).objs.size = s.heap.objs.size + 1 := Heap.size_push ..
  have z2 : (zh2 s.heap l1 l2).objs.size = s.heap.objs.size + 2 := by rw [Heap.size_push, z1]
  have z3 : (zh3 s.heap l1 l2).objs.size = s.heap.objs.size + 3 := by rw [Heap.size_push, z2]
  have z4 : (zh4 s.heap l1 l2).objs.size = s.heap.objs.size + 4 := by rw [Heap.size_push, z3]
  have z5 : (zh5 s.heap l1 l2).objs.size = s.heap.objs.size + 5 := by rw [Heap.size_push, z4]
  have g5 : (zh5 s.heap l1 l2).get? (zh4 s.heap l1 l2).objs.size = some _ := Heap.get?_push_size _ rfl
  have g4 : (zh5 s.heap l1 l2).get? (zh3 s.heap l1 l2).objs.size = some _ := Heap.get?_push_of_some _ (Heap.get?_push_size _ rfl)
  have g3 : (zh5 s.heap l1 l2).get? (zh2 s.heap l1 l2).objs.size = some _ := Heap.get?_push_of_some _ (Heap.get?_push_of_some _ (Heap.get?_push_size _ rfl))
  have g2 : (zh5 s.heap l1 l2).get? (zh1 s.heap l1).objs.size = some _ := Heap.get?_push_of_some _ (Heap.get?_push_of_some _ (Heap.get?_push_of_some _ (Heap.get?_push_size _ rfl)))
  have g1 : (zh5 s.heap l1 l2).get? s.heap.objs.size = some _ := Heap.get?_push_of_some _ (Heap.get?_push_of_some _ (Heap.get?_push_of_some _ (Heap.get?_push_of_some _ (Heap.get?_push_size _ rfl))))
  show _ ∧ _
  rw [z2, z3, z4] at g5
  rw [z1, z2] at g3
  rw [z3] at g4
  rw [z1] at g2
  rw [z4]
  exact ⟨⟨_, g5, rfl⟩, h _ g5 g3 g4 ⟨_, g1, rfl, rfl⟩ ⟨_, g2, rfl, rfl⟩ z5 fun c o x =>
    Heap.get?_push_of_some _ (Heap.get?_push_of_some _ (Heap.get?_push_of_some _ (Heap.get?_push_of_some _ (Heap.get?_push_of_some _ x))))⟩
end
theorem nm (c x y : Addr) (h1 : c ≠ x) (h2 : c ≠ y) : c ∉ [x, y] := fun h => by
  rcases List.mem_cons.mp h with h | h
  · exact h1 h
  · rcases List.mem_cons.mp h with h | h
    · exact h2 h
    · cases h
theorem sepM (N a b : Nat) (la : a < N) (lb : b < N) : ZipSep2 (N + 4) (N + 2) (N + 3) N (N + 1) [N, a] [N + 1, b] where
  TIz := by refine PySem.W.neN ?_; omega
  TOz := by refine PySem.W.neN ?_; omega
  TITO := by refine PySem.W.neN ?_; omega
  TIi1 := by refine PySem.W.neN ?_; omega
  mem1 := List.mem_cons_self ..
  zf1 := nm _ _ _ (by refine PySem.W.neN ?_; omega) (by refine PySem.W.neN ?_; omega)
  Tf1 := nm _ _ _ (by refine PySem.W.neN ?_; omega) (by refine PySem.W.neN ?_; omega)
  TIi2 := by refine PySem.W.neN ?_; omega
  mem2 := List.mem_cons_self ..
  zf2 := nm _ _ _ (by refine PySem.W.neN ?_; omega) (by refine PySem.W.neN ?_; omega)
  Tf2 := nm _ _ _ (by refine PySem.W.neN ?_; omega) (by refine PySem.W.neN ?_; omega)
  sep1_2 := nm _ _ _ (by refine PySem.W.neN ?_; omega) (by refine PySem.W.neN ?_; omega)
  sep2_1 := nm _ _ _ (by refine PySem.W.neN ?_; omega) (by refine PySem.W.neN ?_; omega)
def ItzM (K : PySem.W.Frag) (a b : Addr) : It :=
  ⟨fun i H => ∃ (xs ys : List V) (x y : V), SqL K H a xs ∧ SqT K H b ys ∧ xs[i]? = some x ∧ ys[i]? = some y,
    fun i H v H' => ∃ T x y, v = .ref T ∧ H T = none ∧ H' = upd H T (.tup [x, y]) ∧ (∀ xs, SqL K H a xs → xs[i]? = some x) ∧ ∀ ys, SqT K H b ys → ys[i]? = some y,
    fun i H => ∃ xs ys : List V, SqL K H a xs ∧ SqT K H b ys ∧ xs.length = i ∧ ys.length = i⟩
theorem turn_zipM {P : Program} {w : World} {K : PySem.W.Frag} {elts : List Expr} {kk : Nat} {tpos : Pos} {a b z TI TO i1 i2 : Addr} (D : ZipApart z TI TO i1 i2 a b) (S : ZipSep2 z TI TO i1 i2 [i1, a] [i2, b]) (ha : a ≠ i1) (hb : b ≠ i2) :
    Turn P w K (.Tuple elts kk tpos) (ItzM K a b) [z, TI, TO, i1, i2] z (fun i h => IsZip h z TI TO .none ∧ IsPair h TI (.ref i1) (.ref i2) ∧ (∃ x y, IsPair h TO x y) ∧ h.IsListIter i1 a i ∧ h.IsTupleIter i2 b i) where
  mem := by simp
  obj := fun i h st c hc => by
    obtain ⟨hz, hTI, ⟨x, y, hTO⟩, ⟨o1, e1, _, d1⟩, ⟨o2, e2, _, d2⟩⟩ := st
    have e' : c = z ∨ c = TI ∨ c = TO ∨ c = i1 ∨ c = i2 := by simpa using hc
    rcases e' with q | q | q | q | q
    · rw [q]; exact ⟨_, hz, fun v q => nomatch q⟩
    · rw [q]; exact ⟨_, hTI, fun v q => nomatch q⟩
    · rw [q]; exact ⟨_, hTO, fun v q => nomatch q⟩
    · rw [q]; exact ⟨o1, e1, fun v q => by rw [d1] at q; cases q⟩
    · rw [q]; exact ⟨o2, e2, fun v q => by rw [d2] at q; cases q⟩
  keep := fun i h h' st k => by
    obtain ⟨hz, hTI, ⟨x, y, hTO⟩, h1, h2⟩ := st
    exact ⟨k z (by simp) _ hz, k TI (by simp) _ hTI, ⟨x, y, k TO (by simp) _ hTO⟩, h1.at fun o q => k i1 (by simp) o q, h2.at fun o q => k i2 (by simp) o q⟩
  item := by
    intro X hP hw hK hc i pins s σ H E I hf st hg
    subst hP hw hK
    obtain ⟨hz, hTI, ⟨x0, y0, hTO⟩, h1, h2⟩ := st
    obtain ⟨xs, ys, x, y, hqx, hqy, hx, hy⟩ := hg
    obtain ⟨its, rv, p, _⟩ := I.list hqx
    obtain ⟨its2, rv2, p2, _⟩ := I.tuple hqy
    obtain ⟨u, hu, ru⟩ := rv.get hx
    obtain ⟨u2, hu2, ru2⟩ := rv2.get hy
    have hzl : z < s.heap.objs.size := Heap.lt_size hz
    have hh : X.A.in1.handled = none := I.ok.hd hc
    have l1 : i < its.toArray.size := by rw [List.size_toArray]; exact (List.getElem?_eq_some_iff.mp hu).1
    have l2 : i < its2.toArray.size := by rw [List.size_toArray]; exact (List.getElem?_eq_some_iff.mp hu2).1
    refine wpAny_pyNext_zipD2_item S (Draws.list hh i1 a ha its.toArray) (Draws.tuple hh i2 b hb its2.toArray) hz hTI hTO ⟨h1, p.isList⟩ ⟨h2, p2⟩ l1 l2 fun y1 y2 h' tk hy1 hy2 z' TO' h1' h2' hT hsz hk => ?_
    have e1 : y1 = u := by
      have q : its.toArray[i]? = some y1 := hy1
      rw [List.getElem?_toArray, hu] at q
      exact (Option.some.inj q).symm
    have e2 : y2 = u2 := by
      have q : its2.toArray[i]? = some y2 := hy2
      rw [List.getElem?_toArray, hu2] at q
      exact (Option.some.inj q).symm
    subst e1 e2
    refine ⟨_, rfl, wpAny_letOwnedTupleGo_zip (s := { s with heap := h', toks := tk }) z' fun h'' z'' sb => ?_⟩
    have hT2 : h''.get? s.heap.objs.size = some { cls := .type "tuple", data := .seq #[y1, y2] } := (sb.2 _ (Nat.ne_of_gt hzl)).trans hT
    have new : ObjOk X.prog X.w (upd H s.heap.objs.size (.tup [x, y])) h'' s.heap.objs.size (.tup [x, y]) :=
      ⟨by show 2 ≤ sizeLine; decide, [y1, y2], .cons ru (.cons ru2 .nil), ⟨_, hT2, rfl, _, rfl⟩⟩
    have I1 : Inv X pins σ (upd H s.heap.objs.size (.tup [x, y])) { s with heap := h'', toks := tk } :=
      I.turnedNew (t' := tk) (ch := [z, TI, TO, i1, i2]) (fun c o hb q => (sb.2 c (fun q' => hb (by simp [q']))).trans (hk c o (fun q' => hb (by simp [q'])) (fun q' => hb (by simp [q'])) (fun q' => hb (by simp [q'])) (fun q' => hb (by simp [q'])) q)) hf (Nat.le_refl _) new
    refine ⟨.ref s.heap.objs.size, _, I1, rfl, ⟨_, x, y, rfl, I.hok.fresh (Nat.le_refl _), rfl, fun l hl => by rw [I.list_inj hl hqx]; exact hx, fun l hl => by rw [I.tuple_inj hl hqy]; exact hy⟩, ⟨z'', ?_, ⟨y1, y2, ?_⟩, ?_, ?_⟩, fun c hcm => ?_⟩
    · exact (sb.2 _ D.TIz).trans (hk _ _ D.TIz D.TITO D.TIi1 D.TIi2 hTI)
    · exact (sb.2 _ D.TOz).trans TO'
    · exact h1'.1.at fun o q => (sb.2 _ D.i1z).trans q
    · exact h2'.1.at fun o q => (sb.2 _ D.i2z).trans q
    · have hlt : c < s.heap.objs.size := by
        have e' : c = z ∨ c = TI ∨ c = TO ∨ c = i1 ∨ c = i2 := by simpa using hcm
        rcases e' with q | q | q | q | q
        · rw [q]; exact hzl
        · rw [q]; exact Heap.lt_size hTI
        · rw [q]; exact Heap.lt_size hTO
        · rw [q]; obtain ⟨_, e1, _⟩ := h1; exact Heap.lt_size e1
        · rw [q]; obtain ⟨_, e2, _⟩ := h2; exact Heap.lt_size e2
      rw [upd_ne (Nat.ne_of_lt hlt)]
      exact (hf c hcm).1
  done := by
    intro X hP hw hK hc i pins s σ H E I hf st hg
    subst hP hw hK
    obtain ⟨hz, hTI, ⟨x0, y0, hTO⟩, h1, h2⟩ := st
    obtain ⟨xs, ys, hqx, hqy, hend, hend2⟩ := hg
    obtain ⟨its, rv, p, _⟩ := I.list hqx
    obtain ⟨its2, rv2, p2, _⟩ := I.tuple hqy
    have l1 := rv.length
    have l2 := rv2.length
    have hh : X.A.in1.handled = none := I.ok.hd hc
    have n1 : i = its.toArray.size := by rw [List.size_toArray]; omega
    have n2 : i = its2.toArray.size := by rw [List.size_toArray]; omega
    exact wpAny_pyNext_zipD2_end S (Draws.list hh i1 a ha its.toArray) (Draws.tuple hh i2 b hb its2.toArray) hz hTI hTO ⟨h1, p.isList⟩ ⟨h2, p2⟩ (Nat.le_of_eq n1) (Nat.le_of_eq n2) (.inl n1) fun h' tk hk => ⟨rfl, I.turnedL (t' := tk) (ch := [z, TI, TO, i1, i2]) (fun c o hb q =>
      hk c o (fun q' => hb (by simp [q'])) (fun q' => hb (by simp [q'])) (fun q' => hb (by simp [q'])) (fun q' => hb (by simp [q'])) q) hf⟩
  self := fun A i s Q E st h => wpAny_pyIter_zip st.1 h
def iZipM (K : PySem.W.Frag) (ta : TA) : TI := fun σ H R => ta σ H fun vs H1 => ∃ a b xs ys, vs = [.ref a, .ref b] ∧ SqL K H1 a xs ∧ SqT K H1 b ys ∧ R (ItzM K a b) H1
theorem pi_zipM {X : Cx} {e e2 : Expr} {ta : TA} {p pos tpos : Pos} {elts : List Expr} {kk : Nat} (hg : Gl X "zip") (hm : X.mg "zip" = none) (ha : PA X [e, e2] ta)
    (hs : starEach [e, e2] X.env = (false, eval e X.env) :: starEach [e2] X.env := by rfl) (hpl : (backTo pos (starEach [e2] X.env)).any (·.1) = false := by rfl) :
    PI X (.Tuple elts kk tpos) (.Call (.Name "zip" p) [e, e2] [] pos) (iZipM X.K ta) := by
  refine ⟨fun pins s σ H R I h => ?_⟩
  refine Call_ (ld_blt I hg hm PyProof.Rows.boot_zip (PyProof.Rows.callWith_type1 (thn (ha.run pos pins s σ H _ I h) fun us s1 ⟨vs, H1, I1, r1, q1⟩ => ?_) hs hpl))
  obtain ⟨a, b, xs, ys, ex, hqx, hqy, q⟩ := q1
  subst ex
  cases r1 with
  | cons r rr =>
    cases rr with
    | cons r' rr =>
      cases rr
      cases r
      cases r'
      have fresh5 : ∀ c, c ∈ [s1.heap.objs.size + 4, s1.heap.objs.size + 2, s1.heap.objs.size + 3, s1.heap.objs.size, s1.heap.objs.size + 1] → FpOk X pins H1 c := fun c hcm => by
        have e' : c = s1.heap.objs.size + 4 ∨ c = s1.heap.objs.size + 2 ∨ c = s1.heap.objs.size + 3 ∨ c = s1.heap.objs.size ∨ c = s1.heap.objs.size + 1 := by simpa using hcm
        have hle : s1.heap.objs.size ≤ c := by
          rcases e' with z | z | z | z | z
          · rw [z]; exact Nat.le_add_right _ _
          · rw [z]; exact Nat.le_add_right _ _
          · rw [z]; exact Nat.le_add_right _ _
          · rw [z]; exact Nat.le_refl _
          · rw [z]; exact Nat.le_add_right _ _
        exact I1.fpOk hle (I1.hok.fresh hle)
      obtain ⟨its, rv, p1, _⟩ := I1.list hqx
      obtain ⟨its2, rv2, p2, _⟩ := I1.tuple hqy
      have la : a < s1.heap.objs.size := p1.lt
      have lb : b < s1.heap.objs.size := by
        obtain ⟨o2, ho2, _⟩ := id p2
        exact Heap.lt_size ho2
      generalize hN : s1.heap.objs.size = N at la lb fresh5
      have S := sepM N a b la lb
      refine call_zipM p1.isList p2 fun h' hz hTI hTO h1 h2 hsz hk => wpAny_pyIter_zip hz ?_
      rw [hN] at hz hTI hTO h1 h2 ⊢
      have I2 : Inv X pins σ H1 { s1 with heap := h' } := I1.kept (t' := s1.toks) hk
      exact ⟨N + 4, [N + 4, N + 2, N + 3, N, N + 1], _, _, H1, rfl, I2, turn_zipM (PySem.W.ktu_apart N a b la lb) S (Nat.ne_of_lt la) (Nat.ne_of_lt (Nat.lt_succ_of_lt lb)), ⟨hz, hTI, ⟨_, _, hTO⟩, h1, h2⟩, fresh5, q⟩
end DtZ
/-! ### span trees as a type, their data, their spans -/
namespace Tr
open PySem PySem.Spec PyProof.Rows L2 Evl Fx Dt
/-- a span tree: service, mark, calls -/
inductive T where
  | mk (s : Str) (m : Int) (cs : List T)
def T.name : T → Str | .mk s _ _ => s
def T.mark : T → Int | .mk _ m _ => m
def T.calls : T → List T | .mk _ _ cs => cs
mutual
def enc : T → PyData
  | .mk s m cs => .tuple [.str s, .int m, .tuple (encs cs)]
def encs : List T → List PyData
  | [] => []
  | t :: ts => enc t :: encs ts
end
theorem encs_map : ∀ ts : List T, encs ts = ts.map enc
  | [] => by rw [encs]; rfl
  | t :: ts => by rw [encs, encs_map ts]; rfl
theorem enc_eq (t : T) : enc t = .tuple [.str t.name, .int t.mark, .tuple (t.calls.map enc)] := by
  cases t
  rw [enc, encs_map]
  rfl
mutual
theorem enc_flat : ∀ t, flat (enc t) = true
  | .mk s m cs => by rw [enc, flat_tup, flats, flats, flats, flats, flat, flat, flat_tup, encs_flat cs]; rfl
theorem encs_flat : ∀ ts, flats (encs ts) = true
  | [] => by rw [encs, flats]
  | t :: ts => by rw [encs, flats, enc_flat t, encs_flat ts]; rfl
end
theorem maps_flat (ts : List T) : flats (ts.map enc) = true := by rw [← encs_map]; exact encs_flat ts
mutual
def size : T → Nat
  | .mk _ _ cs => sizes cs + 1
def sizes : List T → Nat
  | [] => 0
  | t :: ts => size t + sizes ts
end
theorem size_eq (t : T) : size t = sizes t.calls + 1 := by cases t; rw [size]; rfl
theorem sizes_app : ∀ ts us : List T, sizes (ts ++ us) = sizes ts + sizes us
  | [], us => by rw [List.nil_append, sizes]; omega
  | t :: ts, us => by rw [List.cons_append, sizes, sizes, sizes_app ts us]; omega
theorem sizes_rev : ∀ ts : List T, sizes ts.reverse = sizes ts
  | [] => rfl
  | t :: ts => by rw [List.reverse_cons, sizes_app, sizes_rev ts, sizes, sizes, sizes]; omega
theorem len_sizes : ∀ ts : List T, ts.length ≤ sizes ts
  | [] => by rw [sizes]; exact Nat.le_refl _
  | .mk _ _ cs :: ts => by
    have := len_sizes ts
    rw [sizes, size, List.length_cons]
    omega
mutual
/-- the subtrees, a caller ahead of its calls -/
def subs : T → List T
  | .mk s m cs => .mk s m cs :: subsA cs
def subsA : List T → List T
  | [] => []
  | t :: ts => subs t ++ subsA ts
end
theorem subs_eq (t : T) : subs t = t :: subsA t.calls := by cases t; rw [subs]; rfl
theorem subsA_app : ∀ ts us : List T, subsA (ts ++ us) = subsA ts ++ subsA us
  | [], us => by rw [List.nil_append, subsA]; rfl
  | t :: ts, us => by rw [List.cons_append, subsA, subsA, subsA_app ts us, List.append_assoc]
mutual
theorem subs_len : ∀ t : T, (subs t).length = size t
  | .mk s m cs => by rw [subs, size, List.length_cons, subsA_len cs]
theorem subsA_len : ∀ ts : List T, (subsA ts).length = sizes ts
  | [] => by rw [subsA, sizes]; rfl
  | t :: ts => by rw [subsA, sizes, List.length_append, subs_len t, subsA_len ts]
end
mutual
/-- the paths with the subtrees -/
def placed : List Nat → T → List (List Nat × T)
  | p, .mk s m cs => (p, .mk s m cs) :: placedA p 0 cs
def placedA : List Nat → Nat → List T → List (List Nat × T)
  | _, _, [] => []
  | p, i, t :: ts => placed (p ++ [i]) t ++ placedA p (i + 1) ts
end
theorem placed_eq (p : List Nat) (t : T) : placed p t = (p, t) :: placedA p 0 t.calls := by cases t; rw [placed]; rfl
mutual
theorem placed_snd : ∀ (p : List Nat) (t : T), (placed p t).map Prod.snd = subs t
  | p, .mk s m cs => by rw [placed, subs, List.map_cons, placedA_snd p 0 cs]
theorem placedA_snd : ∀ (p : List Nat) (i : Nat) (ts : List T), (placedA p i ts).map Prod.snd = subsA ts
  | p, i, [] => by rw [placedA, subsA]; rfl
  | p, i, t :: ts => by rw [placedA, subsA, List.map_append, placed_snd, placedA_snd]
end
theorem placed_len (p : List Nat) (t : T) : (placed p t).length = size t := by rw [← subs_len, ← placed_snd p t, List.length_map]
mutual
theorem placed_path : ∀ (q : List Nat) (t : T) (x : List Nat × T), x ∈ placed q t → x.1.length + size x.2 ≤ q.length + size t
  | q, .mk s m cs, x, h => by
    rw [placed, List.mem_cons] at h
    rcases h with rfl | h
    · exact Nat.le_refl _
    · have := placedA_path q 0 cs x h
      rw [size]
      omega
theorem placedA_path : ∀ (q : List Nat) (i : Nat) (ts : List T) (x : List Nat × T), x ∈ placedA q i ts → x.1.length + size x.2 ≤ q.length + 1 + sizes ts
  | q, i, [], x, h => by
    rw [placedA] at h
    cases h
  | q, i, t :: ts, x, h => by
    rw [placedA, List.mem_append] at h
    rw [sizes]
    rcases h with h | h
    · have := placed_path (q ++ [i]) t x h
      rw [List.length_append, List.length_singleton] at this
      omega
    · have := placedA_path q (i + 1) ts x h
      omega
end
/-- what a stack of pairs still gives -/
def placedS : List (List Nat × T) → List (List Nat × T)
  | [] => []
  | (p, t) :: r => placed p t ++ placedS r
theorem placedS_app : ∀ a b : List (List Nat × T), placedS (a ++ b) = placedS a ++ placedS b
  | [], b => rfl
  | (p, t) :: a, b => by rw [List.cons_append, placedS, placedS, placedS_app a b, List.append_assoc]
/-- the calls with their paths -/
def kids (p : List Nat) (i : Nat) : List T → List (List Nat × T)
  | [] => []
  | t :: ts => (p ++ [i], t) :: kids p (i + 1) ts
theorem kids_placed (p : List Nat) : ∀ (i : Nat) (ts : List T), placedS (kids p i ts) = placedA p i ts
  | _, [] => by rw [placedA]; rfl
  | i, t :: ts => by rw [kids, placedS, placedA, kids_placed p (i + 1) ts]
theorem kids_len (p : List Nat) : ∀ (i : Nat) (ts : List T), (kids p i ts).length = ts.length
  | _, [] => rfl
  | i, t :: ts => by rw [kids, List.length_cons, kids_len p (i + 1) ts, List.length_cons]
theorem kids_get (p : List Nat) : ∀ (i : Nat) (ts : List T) (j : Nat), (kids p i ts)[j]? = (ts[j]?).map fun t => (p ++ [i + j], t)
  | _, [], j => by simp [kids]
  | i, t :: ts, 0 => by simp [kids]
  | i, t :: ts, j + 1 => by
    rw [kids, List.getElem?_cons_succ, kids_get p (i + 1) ts j, List.getElem?_cons_succ, show i + 1 + j = i + (j + 1) by omega]
def sizeS : List (List Nat × T) → Nat
  | [] => 0
  | (_, t) :: r => size t + sizeS r
theorem placedS_len : ∀ a : List (List Nat × T), (placedS a).length = sizeS a
  | [] => rfl
  | (p, t) :: r => by rw [placedS, sizeS, List.length_append, placed_len, placedS_len r]
theorem sizeS_app : ∀ a b : List (List Nat × T), sizeS (a ++ b) = sizeS a + sizeS b
  | [], b => by rw [List.nil_append, sizeS]; omega
  | (p, t) :: a, b => by rw [List.cons_append, sizeS, sizeS, sizeS_app a b]; omega
theorem sizeS_rev (a : List (List Nat × T)) : sizeS a.reverse = sizeS a := by
  induction a with
  | nil => rfl
  | cons x a ih =>
    obtain ⟨p, t⟩ := x
    rw [List.reverse_cons, sizeS_app, ih, sizeS, sizeS, sizeS]
    omega
theorem len_sizeS : ∀ a : List (List Nat × T), a.length ≤ sizeS a
  | [] => Nat.le_refl _
  | (p, t) :: a => by
    have := len_sizeS a
    rw [sizeS, List.length_cons, size_eq]
    omega
theorem sizeS_kids (p : List Nat) : ∀ (i : Nat) (ts : List T), sizeS (kids p i ts) = sizes ts
  | _, [] => by rw [sizes]; rfl
  | i, t :: ts => by rw [kids, sizeS, sizes, sizeS_kids p (i + 1) ts]
def pathD (p : List Nat) : PyData := .tuple (p.map fun (i : Nat) => .int (i : Int))
def ptD (x : List Nat × T) : PyData := .tuple [pathD x.1, enc x.2]
theorem path_flats (p : List Nat) : flats (p.map fun (i : Nat) => PyData.int (i : Int)) = true := flats_all.mpr fun d hd => by
  obtain ⟨i, _, rfl⟩ := List.mem_map.mp hd
  rfl
theorem path_flat (p : List Nat) : flat (pathD p) = true := path_flats p
theorem pair_flat (x : List Nat × T) : flat (ptD x) = true := by
  unfold ptD
  rw [flat_tup, flats, flats, flats, path_flat, enc_flat]
  rfl
theorem pairs_flat (xs : List (List Nat × T)) : flats (xs.map ptD) = true := flats_all.mpr fun d hd => by
  obtain ⟨x, _, rfl⟩ := List.mem_map.mp hd
  exact pair_flat x
theorem kids_flat (p : List Nat) (i : Nat) (cs : List T) (j : Nat) : flat (((kids p i cs).reverse.map ptD).getD j .none) = true := by
  rw [List.getD_eq_getElem?_getD]
  cases h : ((kids p i cs).reverse.map ptD)[j]? with
  | none => rfl
  | some d => exact flats_all.mp (pairs_flat _) d (List.mem_of_getElem? h)
/-- the i-th of the calls, from the right -/
theorem kids_back (p : List Nat) (cs : List T) (i : Nat) (hi : i < cs.length) : ∃ (j : Nat) (c : T), cs[j]? = some c ∧ j < cs.length ∧ ((List.range cs.length).map fun (i : Nat) => PyData.int (i : Int)).reverse[i]? = some (.int (j : Int)) ∧ ((kids p 0 cs).reverse.map ptD).getD i .none = ptD (p ++ [j], c) := by
  refine ⟨cs.length - 1 - i, cs[cs.length - 1 - i], List.getElem?_eq_getElem (by omega), by omega, ?_, ?_⟩
  · rw [List.getElem?_reverse (by rw [List.length_map, List.length_range]; exact hi), List.length_map, List.length_range, List.getElem?_map, List.getElem?_range (by omega)]
    rfl
  · rw [List.getD_eq_getElem?_getD, List.getElem?_map, List.getElem?_reverse (by rw [kids_len]; exact hi), kids_len, kids_get, List.getElem?_eq_getElem (show cs.length - 1 - i < cs.length by omega), Nat.zero_add]
    rfl
theorem pathD_snoc (p : List Nat) (j : Nat) : pathD (p ++ [j]) = .tuple ((p.map fun (i : Nat) => PyData.int (i : Int)) ++ [.int (j : Int)]) := by
  unfold pathD
  rw [List.map_append]
  rfl
section
variable {F : Fd} {K : PySem.W.Frag} {te : TE} {σ : L2.St} {H : Hp} {k : Nat} {t : T}
theorem rt_name (o : F.Ok) (h : EvR F te σ H k (IsD K (enc t))) : EvR F (tOp (rIxT K) te (tC (.int 0))) σ H k (IsD K (.str t.name)) :=
  rd_ix (kb := 0) o (h.cast (enc_eq t)) rv_c 0 rfl rfl (by rw [← enc_eq]; exact enc_flat t)
theorem rt_mark (o : F.Ok) (h : EvR F te σ H k (IsD K (enc t))) : EvR F (tOp (rIxT K) te (tC (.int 1))) σ H k (IsD K (.int t.mark)) :=
  rd_ix (kb := 0) o (h.cast (enc_eq t)) rv_c 1 rfl rfl (by rw [← enc_eq]; exact enc_flat t)
theorem rt_calls (o : F.Ok) (h : EvR F te σ H k (IsD K (enc t))) : EvR F (tOp (rIxT K) te (tC (.int 2))) σ H k (IsD K (.tuple (t.calls.map enc))) :=
  rd_ix (kb := 0) o (h.cast (enc_eq t)) rv_c 2 rfl rfl (by rw [← enc_eq]; exact enc_flat t)
end
end Tr
/-! ### the head's facts, with built-ins that the top imports under a name -/
namespace Hx
open PySem PySem.Spec PyProof.Rows L2 He
abbrev AlE : Type := Bool × AlD
def bltB (K : PySem.W.Frag) (bs : List (Str × String)) : Bool := bs.all fun p => eqO (PySem.W.nsIn K mainGlobals p.1) (some (some (.builtin p.2)))
def obsE (fa : List Fa) (fn : List DefD) (bs : List (Str × String)) (K : PySem.W.Frag) : AlE := (bltB K bs, obsD fa fn K)
def valE (fn : List DefD) : AlE := (true, valD fn)
def SaysE (fa : List Fa) (fn : List DefD) (bs : List (Str × String)) (K : PySem.W.Frag) : Prop := obsE fa fn bs K = valE fn
def obsEG (n : Nat) (fa : List Fa) (fn : List DefD) (bs : List (Str × String)) (g : Addr → Option Obj) : AlE := obsE fa fn bs (frG g (asD g n))
def hookE (n : Nat) (fa : List Fa) (fn : List DefD) (bs : List (Str × String)) : PySem.W.Hook where
  α := AlE
  obs := fun s => obsEG n fa fn bs s.heap.get?
  val := fun _ => valE fn
  says := fun _ h => ∃ K : PySem.W.Frag, K.In h ∧ SaysE fa fn bs K
  of := fun _ _ e => ⟨_, frG_in, e⟩
  keeps := fun _ _ _ ⟨K, hK, c⟩ k => ⟨K, PySem.W.Frag.In.keeps hK k, c⟩
theorem obsEG_eq {n : Nat} {fa : List Fa} {fn : List DefD} {bs : List (Str × String)} {g : Addr → Option Obj} {s : Shared} (h : ∀ a, g a = s.heap.get? a) : obsEG n fa fn bs g = (hookE n fa fn bs).obs s := by
  have e : g = s.heap.get? := funext h
  rw [e] <;> rfl
section
variable {fa : List Fa} {fn : List DefD} {bs : List (Str × String)} {K : PySem.W.Frag} {h : Heap} {mg : Str → Option Value}
theorem SaysE.d (c : SaysE fa fn bs K) : SaysD fa fn K := congrArg (fun z : AlE => z.2) c
theorem SaysE.blt (c : SaysE fa fn bs K) (X : K.In h) (G : h.Ns mainGlobals mg) (i : Nat) {x : Str} {id : String} (e : bs[i]? = some (x, id) := by rfl) : mg x = some (.builtin id) := by
  have c1 : bltB K bs = true := congrArg (fun z : AlE => z.1) c
  exact PySem.W.mg_of X G (eqO_ok (List.all_eq_true.mp c1 (x, id) (List.mem_of_getElem? e)))
end
/-- a def without defaults, as Words has it -/
theorem toFun {K : PySem.W.Frag} {x qual : Str} {st : Stmt} {f : Addr} {fd : FuncData} (F : FunD K x qual (defArgs st) (defBody st) (defScope st) [] [] f fd) : Fun K x qual st f fd := by
  obtain ⟨⟨oc, od, dV, kV, doc, pm, an, cdv, ct, osl, e, l, c, d, k⟩, kp⟩ := F
  rcases d with ⟨_, d⟩ | ⟨d, _⟩
  · subst d
    exact ⟨⟨oc, od, kV, doc, pm, an, cdv, ct, osl, e, l, c⟩, kp⟩
  · exact absurd rfl d
/-- a law's end over the facts of a head -/
theorem walk_ofEB {l : PySem.W.OpenLaw} {n k : Nat} {q : Program} {loose : List Str} {XP : (Str → Option Value) → Heap → Prop} {YP : World → Heap → Prop} {d : DefRec} {CX : CXT} {x : Str}
    (hn : l.most = some n) (hn2 : n ≤ sizeLine) (hdf : d.params.defaults = []) (hr : Room k callerA)
    (F : ∀ (w : World) (mg : Str → Option Value) (fa : Addr) (h : Heap), YP w h → h.Ns mainGlobals mg → mg d.name = some (.ref fa) →
      ∃ (K : PySem.W.Frag) (fd : FuncData) (sp : Sp), K.In h ∧ (∀ (s : Shared) (u : Value), BindsTo s fd ⟨[u], []⟩ [(x, u)]) ∧
        (∀ (H : Hp) (a : Addr) (ns : List Int), ns.length ≤ n → (∀ z ∈ ns, Builtin.Int.intBits z ≤ 1048576) → Only H → SqL K H a (ns.map V.int) → sp [.ref a] H (fun v _ => v = .bl true) fun _ _ _ => False) ∧
        ∀ base : Heap, K.In base → base.Ns mainGlobals mg → FnOk l.prog w K mg base CX k fa fd [x] sp)
    (hCX : ∀ (H : Hp) (s : Shared) (e : Value) (s' : Shared), CX [] H s (fun _ _ _ => False) e s' → False) :
    PySem.W.WalkO q loose XP YP l.row.toRowW d [] (fun f vs => PySem.call f vs) := by
  refine Att.attach_callB hn hdf fun w s₀ s₁ mg mb fa o pm cd doc a vs ns G Y ho hd hcd hmg hobj hints hlen hbits hg => ?_
  obtain ⟨K, fd, sp, KX, hb, hsp, hF⟩ := F w mg fa _ Y G.T.g hmg
  exact law_call KX G.T.g G.T.b G.T.builtins G.T.nolimit hg hobj hints (Nat.le_trans hlen hn2) hr hF hb (fun H hO hS => hsp H a ns hlen hbits hO hS) fun H e s' => hCX H s₁ e s'
end Hx
namespace K18
open PySem PySem.Spec PyProof.Rows L2 Evl Fx Dt Tr
def topS (i : Nat) : Stmt := PySem.Challenge.pw_thinspans_k04_fractions_told.main.body.getD i (.Pass ⟨0, 0, 0, 0⟩)
section
variable {P : Program} {w : World} {K : PySem.W.Frag} {mg : Str → Option Value} {base : Heap} {f f2 f3 : Addr} {fd fd2 fd3 : FuncData}
def spSubs (K : PySem.W.Frag) : Sp := spL K fun ds es => ∃ t, size t ≤ 1000 ∧ ds = [enc t] ∧ es = (subs t).map enc
end
end K18
namespace K18
open PySem PySem.Spec PyProof.Rows L2 Evl Fx Dt Tr
section
variable {P : Program} {w : World} {K : PySem.W.Frag} {mg : Str → Option Value} {base : Heap} {f f2 f3 : Addr} {fd fd2 fd3 : FuncData}
def spPlaced (K : PySem.W.Frag) : Sp := spL K fun ds es => ∃ t, size t ≤ 1000 ∧ ds = [enc t] ∧ es = (placed [] t).map ptD
set_option maxHeartbeats 1000000 in
end
end K18
namespace K18
open PySem PySem.Spec PyProof.Rows L2 Evl Fx Fr
abbrev sWhole : Stmt := topS 15
abbrev sInteger : Stmt := topS 17
abbrev sMade : Stmt := topS 19
abbrev sReduced : Stmt := topS 20
abbrev sLess : Stmt := topS 25
theorem scWhole : FnScope ["thing"] ["thing"] (defScope sWhole) := ⟨rfl, rfl, rfl, by decide +kernel, rfl, by decide +kernel, by decide +kernel⟩
theorem scInteger : FnScope ["thing"] ["thing"] (defScope sInteger) := ⟨rfl, rfl, rfl, by decide +kernel, rfl, by decide +kernel, by decide +kernel⟩
theorem scMade : FnScope ["p", "q"] ["p", "q"] (defScope sMade) := ⟨rfl, rfl, rfl, by decide +kernel, rfl, by decide +kernel, by decide +kernel⟩
theorem scReduced : FnScope ["p", "q", "common"] ["p", "q"] (defScope sReduced) := ⟨rfl, rfl, rfl, by decide +kernel, rfl, by decide +kernel, by decide +kernel⟩
theorem scLess : FnScope ["one", "other"] ["one", "other"] (defScope sLess) := ⟨rfl, rfl, rfl, by decide +kernel, rfl, by decide +kernel, by decide +kernel⟩
section
variable {P : Program} {w : World} {K : PySem.W.Frag} {mg : Str → Option Value} {base : Heap} {f f2 f3 : Addr} {fd fd2 fd3 : FuncData} {CX : CXT}
/-! ### whole numbers -/
/-- of any value whose kind is known: whether it is an int, not a bool -/
def spWhole (K : PySem.W.Frag) : Sp := fun vs H Q _ => ∃ (x : V) (T : String) (a b : Bool), vs = [x] ∧ TyX K H x (.type T) ∧ kitB T "int" = some a ∧ kitB T "bool" = some b ∧ Q (.bl (a && !b)) H
theorem ok_whole (F : Fun K "is_whole" "is_whole" sWhole f fd) (mI : mg "isinstance" = none) (mi : mg "int" = none) (mb : mg "bool" = none) : FnOk P w K mg base CX0 1 f fd ["thing"] (spWhole K) := by
  refine F.ok scWhole (fun vs H Q E h => ?_) (fun cdv A outer s H vs Q E hr h => ?_)
  · obtain ⟨x, T, a, b, rfl, _⟩ := h
    rfl
  · obtain ⟨x, T, a, b, rfl, ty, e1, e2, q⟩ := h
    refine ⟨_, pss_one (ps_ret (pe_and (pe_callB call_isi (by rfl) mI (by decide +kernel) (pa_cons (pv 0) (pa_cons (pe_bltn (v := .ty "int") (by rfl) mi (by decide +kernel) rfl) pa_nil)))
      (pe_one (pe_not (pe_callB call_isi (by rfl) mI (by decide +kernel) (pa_cons (pv 0) (pa_cons (pe_bltn (v := .ty "bool") (by rfl) mb (by decide +kernel) rfl) pa_nil))))))), ?_⟩
    refine ⟨_, rfl, x, .ty "int", _, _, a, rfl, .ty "int", ty, kit_ty e1, a, rfl, ?_⟩
    cases a with
    | false => exact iteF q
    | true => exact iteT ⟨_, rfl, x, .ty "bool", _, _, b, rfl, .ty "bool", ty, kit_ty e2, b, rfl, q⟩
theorem ok_integer (F : Fun K "is_integer" "is_integer" sInteger f fd) (G : FnOk P w K mg base CX0 1 f2 fd2 ["thing"] (spWhole K)) (k2 : PySem.W.keepIn K (.ref f2) = true) (b2 : Binds K fd2 ["thing"] []) (g2 : mg "is_whole" = some (.ref f2)) : FnOk P w K mg base CX0 2 f fd ["thing"] (spWhole K) := by
  refine F.ok scInteger (fun vs H Q E h => ?_) (fun cdv A outer s H vs Q E hr h => ?_)
  · obtain ⟨x, T, a, b, rfl, _⟩ := h
    rfl
  · have h0 := h
    obtain ⟨x, T, a, b, rfl, ty, e1, e2, q⟩ := h
    exact ⟨_, pss_one (ps_ret (pe_call G hr (by rfl) g2 k2 b2 .nil pass0 (pa_cons (pv 0) pa_nil))), _, rfl, x, T, a, b, rfl, ty, e1, e2, q⟩
theorem tyI (K : PySem.W.Frag) (H : Hp) (i : Int) : TyX K H (.int i) (.type "int") := .base (.int i)
theorem kII : kitB "int" "int" = some true := by decide +kernel
theorem kIB : kitB "int" "bool" = some false := by decide +kernel
/-! ### reduced pairs -/
def okR (i j : Int) : Prop := j ≠ 0 ∧ i.natAbs < 2 ^ 4000 ∧ j.natAbs < 2 ^ 4000
theorem comm_lt {p q : Int} (h : q ≠ 0) (hq : q.natAbs < 2 ^ 4000) : (comm p q).natAbs < 2 ^ 4000 ∧ comm p q ≠ 0 := by
  have g := gcd_pos (p := p) h
  have l : Nat.gcd p.natAbs q.natAbs ≤ q.natAbs := Nat.gcd_le_right _ (by omega)
  unfold comm
  split <;> omega
theorem ok_reduced (F : Fun K "reduced_pair" "reduced_pair" sReduced f fd) (gG : mg "gcd" = some (.builtin "math.gcd")) : FnOk P w K mg base CX0 1 f fd ["p", "q"] (spI2F okR Rat.divInt) := by
  refine F.ok scReduced (fun vs H Q E h => ?_) (fun cdv A outer s H vs Q E hr h => ?_)
  · obtain ⟨i, j, rfl, _⟩ := h
    rfl
  · obtain ⟨i, j, rfl, ⟨h0, h1, h2⟩, q⟩ := h
    obtain ⟨c1, c2⟩ := comm_lt (p := i) h0 h2
    have cd1 : CDivS i (comm i j) := cdivS c2 c1 (by decide) (by decide)
    have cd2 : CDivS j (comm i j) := cdivS c2 c1 (by decide) (by decide)
    refine ⟨_, pss_cons (ps_set (i := 2) scReduced.nd rfl (.inl rfl) (pe_callBfun cr_gcd (by rfl) gG (pa_cons (pv 0) (pa_cons (pv 1) pa_nil))))
      (pss_cons (ps_if (pt_cmpR op_lt (pv 1) pe_int (nomark _)) (pss_one (ps_set (i := 2) scReduced.nd rfl (.inl rfl) (pe_un un_neg (pv 2)))) pss_nil)
      (pss_one (ps_ret (pe_tup (pa_cons (pe_op op_fdivWN (pv 0) (pv 2)) (pa_cons (pe_op op_fdivWN (pv 1) (pv 2)) pa_nil)))))), ?_⟩
    refine ⟨_, rfl, _, rfl, _, _, rfl, _, rfl, _, _, rfl, rfl, _, rfl, ?_⟩
    have fin : ∀ p, H p = none → Q (.ref p) (upd H p (.tup [.int (i.fdiv (comm i j)), .int (j.fdiv (comm i j))])) := fun p hp => by
      refine q _ p (Ex.new hp) ?_
      rw [upd_same, red_num h0, red_den h0]
      rfl
    by_cases hj : j < 0
    · rw [decide_eq_true hj]
      refine iteT ?_
      rw [comm_neg hj] at fin cd1 cd2
      exact ⟨_, rfl, _, rfl, _, rfl, _, rfl, _, _, rfl, rfl, cd1, _, rfl, _, rfl, _, _, rfl, rfl, cd2, (by show 2 ≤ sizeLine; decide), fin⟩
    · rw [decide_eq_false hj]
      refine iteF ?_
      rw [comm_pos hj] at fin cd1 cd2
      exact ⟨_, rfl, _, rfl, _, _, rfl, rfl, cd1, _, rfl, _, rfl, _, _, rfl, rfl, cd2, (by show 2 ≤ sizeLine; decide), fin⟩
theorem ok_made (F : Fun K "made" "made" sMade f fd) (G : FnOk P w K mg base CX0 2 f2 fd2 ["thing"] (spWhole K)) (k2 : PySem.W.keepIn K (.ref f2) = true) (b2 : Binds K fd2 ["thing"] []) (g2 : mg "is_integer" = some (.ref f2))
    (G3 : FnOk P w K mg base CX0 1 f3 fd3 ["p", "q"] (spI2F okR Rat.divInt)) (k3 : PySem.W.keepIn K (.ref f3) = true) (b3 : Binds K fd3 ["p", "q"] []) (g3 : mg "reduced_pair" = some (.ref f3)) : FnOk P w K mg base CX0 3 f fd ["p", "q"] (spI2F okR Rat.divInt) := by
  refine F.ok scMade (fun vs H Q E h => ?_) (fun cdv A outer s H vs Q E hr h => ?_)
  · obtain ⟨i, j, rfl, _⟩ := h
    rfl
  · obtain ⟨i, j, rfl, hk, q⟩ := h
    refine ⟨_, pss_cons (ps_if (PW.pt (pw_or (pt_not (pt_val (pe_call G hr (by rfl) g2 k2 b2 .nil pass0 (pa_cons (pv 0) pa_nil)))) (pw_or1 (pt_not (pt_val (pe_call G hr (by rfl) g2 k2 b2 .nil pass0 (pa_cons (pv 1) pa_nil))))))) pss_never pss_nil)
      (pss_cons (ps_if (pt_cmpR op_eq (pv 1) pe_int (nomark _)) pss_never pss_nil)
      (pss_one (ps_ret (pe_call G3 (hr.mono (by decide)) (by rfl) g3 k3 b3 .nil pass0 (pa_cons (pv 0) (pa_cons (pv 1) pa_nil)))))), ?_⟩
    refine ⟨_, rfl, _, "int", true, false, rfl, tyI K H i, kII, kIB, true, rfl, ?_⟩
    refine iteF ⟨_, rfl, _, "int", true, false, rfl, tyI K H j, kII, kIB, true, rfl, ?_⟩
    refine iteF ⟨_, rfl, rfl, _, rfl, ?_⟩
    refine ite2 (fun e => absurd (V.int.inj (of_decide_eq_true e)) hk.1) (fun _ => ?_)
    exact ⟨_, rfl, _, rfl, i, j, rfl, hk, q⟩
/-! ### reckoning -/
def okB (s : Nat) (x y : Rat) : Prop := ∃ n m, Bd n x ∧ Bd m y ∧ n + m + s ≤ 4000
theorem mulW {i j : Int} {n m : Nat} (h1 : i.natAbs < 2 ^ n) (h2 : j.natAbs < 2 ^ m) (h : n + m ≤ 4000) : CMulW i j := wide_mul (lt_up h1 (Nat.le_succ n)) (lt_up h2 (Nat.le_succ m)) (by omega) (by omega) (by omega)
theorem ev_mul {ta tb : TE} {σ : L2.St} {H : Hp} {i j : Int} {n m : Nat} (ha : Ev ta σ H (.int i)) (hb : Ev tb σ H (.int j)) (h1 : i.natAbs < 2 ^ n) (h2 : j.natAbs < 2 ^ m) (h : n + m ≤ 4000) : Ev (tOp (rI CMulW fun i j => .int (i * j)) ta tb) σ H (.int (i * j)) := ev_op ha hb (rv_I (g := fun i j => .int (i * j)) (mulW h1 h2 h))
theorem ev_add {ta tb : TE} {σ : L2.St} {H : Hp} {i j : Int} (ha : Ev ta σ H (.int i)) (hb : Ev tb σ H (.int j)) : Ev (tOp (rI0 fun i j => .int (i + j)) ta tb) σ H (.int (i + j)) := ev_op ha hb (rv_I0 (g := fun i j => .int (i + j)))
theorem ev_sub {ta tb : TE} {σ : L2.St} {H : Hp} {i j : Int} (ha : Ev ta σ H (.int i)) (hb : Ev tb σ H (.int j)) : Ev (tOp (rI0 fun i j => .int (i - j)) ta tb) σ H (.int (i - j)) := ev_op ha hb (rv_I0 (g := fun i j => .int (i - j)))
theorem ev_lt {ta tb : TE} {σ : L2.St} {H : Hp} {i j : Int} (ha : Ev ta σ H (.int i)) (hb : Ev tb σ H (.int j)) : Ev (tOp (rI0 fun i j => .bl (decide (i < j))) ta tb) σ H (.bl (decide (i < j))) := ev_op ha hb (rv_I0 (g := fun i j => .bl (decide (i < j))))
theorem ev_gt {ta tb : TE} {σ : L2.St} {H : Hp} {i j : Int} (ha : Ev ta σ H (.int i)) (hb : Ev tb σ H (.int j)) : Ev (tOp (rI0 fun i j => .bl (decide (j < i))) ta tb) σ H (.bl (decide (j < i))) := ev_op ha hb (rv_I0 (g := fun i j => .bl (decide (j < i))))
end
end K18
/-! ### plain rules -/
namespace Tr
open PySem PySem.Spec PyProof.Rows L2 Evl Fx Dt
def frD (r : Rat) : PyData := .tuple [.int r.num, .int (r.den : Int)]
inductive Pl where
  | own (p q : Int)
  | shared (p q : Int)
  | caller
  | bad
  | late
  | never
def Pl.word : Pl → Str
  | .own _ _ => "own"
  | .shared _ _ => "shared"
  | .caller => "caller"
  | .bad => "bad"
  | .late => "late"
  | .never => "never"
def Pl.more : Pl → List PyData
  | .own p q => [.int p, .int q]
  | .shared p q => [.int p, .int q]
  | _ => []
def Pl.D (x : Pl) : PyData := .tuple (.str x.word :: x.more)
def Pl.Ok : Pl → Prop
  | .own p q => 0 < q ∧ p.natAbs < 2 ^ 60 ∧ q.natAbs < 2 ^ 60
  | .shared p q => 0 < q ∧ p.natAbs < 2 ^ 60 ∧ q.natAbs < 2 ^ 60
  | _ => True
theorem Pl.flat (x : Pl) : Dt.flat x.D = true := by cases x <;> rfl
/-- whether it says so by a draw of the trace -/
def Pl.says (bad late called : Bool) (draw : Rat) : Pl → Bool
  | .own _ _ => false
  | .shared p q => decide (draw < Rat.divInt p q)
  | .caller => called
  | .bad => bad
  | .late => late
  | .never => false
def Pl.chance (bad late called : Bool) (draw : Rat) : Pl → Rat
  | .own p q => Rat.divInt p q
  | x => if x.says bad late called draw then 1 else 0
inductive Ru where
  | one (a : Pl)
  | or (a b : Pl)
def Ru.D : Ru → PyData
  | .one a => a.D
  | .or a b => .tuple [.str "or", a.D, b.D]
def Ru.plains : Ru → List Pl
  | .one a => [a]
  | .or a b => [a, b]
def Ru.Ok (r : Ru) : Prop := ∀ p ∈ r.plains, p.Ok
theorem Ru.flat (x : Ru) : Dt.flat x.D = true := by
  cases x with
  | one a => exact a.flat
  | or a b =>
    show Dt.flat (.tuple [.str "or", a.D, b.D]) = true
    rw [flat_tup, flats, flats, flats, flats, a.flat, b.flat]
    rfl
theorem fr_flat (r : Rat) : Dt.flat (frD r) = true := rfl
theorem sh_str {x : Str} (h : PyData.strOk x = true) : SeqAt.shaped (.str x) = true := by simp [SeqAt.shaped, PyData.canLay0, PyData.depth, h]
theorem word_ok (x : Pl) : PyData.strOk x.word = true := by
  cases x with
  | own p q => exact (by decide +kernel : PyData.strOk ("own" : Str) = true)
  | shared p q => exact (by decide +kernel : PyData.strOk ("shared" : Str) = true)
  | caller => decide +kernel
  | bad => decide +kernel
  | late => decide +kernel
  | never => decide +kernel
theorem word_or (x : Pl) : (x.word == ("or" : Str)) = false := by
  cases x with
  | own p q => exact (by decide +kernel : (("own" : Str) == ("or" : Str)) = false)
  | shared p q => exact (by decide +kernel : (("shared" : Str) == ("or" : Str)) = false)
  | caller => decide +kernel
  | bad => decide +kernel
  | late => decide +kernel
  | never => decide +kernel
theorem sh_int (x : Int) : SeqAt.shaped (.int x) = true := by simp [SeqAt.shaped, PyData.canLay0, PyData.depth]
theorem str_eqv (a b : Str) : PyData.eqv (.str a) (.str b) = (a == b) := by simp [PyData.eqv]
theorem int_eqv (a b : Int) : PyData.eqv (.int a) (.int b) = (a == b) := by simp [PyData.eqv]
end Tr
namespace K18
open PySem PySem.Spec PyProof.Rows L2 Evl Fx Fr Dt Tr
section
variable {P : Program} {w : World} {K : PySem.W.Frag} {mg : Str → Option Value} {base : Heap} {f f2 f3 : Addr} {fd fd2 fd3 : FuncData}
def spLess (K : PySem.W.Frag) : Sp := spD K fun ds d => ∃ x y, okB 1 x y ∧ ds = [frD x, frD y] ∧ d = .bool (decide (x < y))
def spMade (K : PySem.W.Frag) : Sp := spD K fun ds d => ∃ i j, okR i j ∧ ds = [.int i, .int j] ∧ d = frD (Rat.divInt i j)
theorem ok_less (F : Fun K "is_less" "is_less" sLess f fd) : FnOk P w K mg base CX0 1 f fd ["one", "other"] (spLess K) := by
  refine F.ok scLess (fun vs H Q E h => ?_) (fun cdv A outer s H vs Q E hr h => ?_)
  · obtain ⟨ds, es, hd, ⟨x, y, _, rfl, _⟩, _⟩ := h
    exact dps_len hd
  · obtain ⟨ds, es, hd, ⟨x, y, ⟨n, m, h1, h2, hs⟩, rfl, rfl⟩, q⟩ := h
    match vs, hd with
    | [v1, v2], .cons p1 (.cons p2 .nil) =>
    obtain ⟨a, x1, x2, rfl, ha, a1, a2⟩ := dp_two p1
    obtain ⟨b, y1, y2, rfl, hb, b1, b2⟩ := dp_two p2
    cases a1
    cases a2
    cases b1
    cases b2
    refine ⟨_, pss_one (ps_ret (pe_cmpR op_lt (pe_op op_mulW (pe_ix ix_tup (pv 0) pe_int (fun _ _ => rfl)) (pe_ix ix_tup (pv 1) pe_int (fun _ _ => rfl))) (pe_op op_mulW (pe_ix ix_tup (pv 1) pe_int (fun _ _ => rfl)) (pe_ix ix_tup (pv 0) pe_int (fun _ _ => rfl))) (nomark _))), ?_⟩
    have d1 : (x.den : Int).natAbs < 2 ^ n := h1.2
    have d2 : (y.den : Int).natAbs < 2 ^ m := h2.2
    have fin : Q (.bl (decide (x.num * y.den < y.num * x.den))) H := by
      rw [lt_eq]
      exact q _ H (Ex.refl _) (.bl _)
    exact ⟨_, rfl, a, _, 0, _, rfl, rfl, ha, rfl, _, rfl, b, _, 1, _, rfl, rfl, hb, rfl, _, _, rfl, rfl, mulW h1.1 d2 (by omega),
      _, rfl, b, _, 0, _, rfl, rfl, hb, rfl, _, rfl, a, _, 1, _, rfl, rfl, ha, rfl, _, _, rfl, rfl, mulW h2.1 d1 (by omega), _, _, rfl, rfl, fin⟩
theorem made_d {k : Nat} (G : FnOk P w K mg base CX0 k f fd ["p", "q"] (spI2F okR Rat.divInt)) : FnOk P w K mg base CX0 k f fd ["p", "q"] (spMade K) := G.imp fun vs H Q E h => by
  obtain ⟨ds, d, hd, ⟨i, j, hk, rfl, rfl⟩, q⟩ := h
  match vs, hd with
  | [v1, v2], .cons p1 (.cons p2 .nil) =>
  cases p1
  cases p2
  exact ⟨i, j, rfl, hk, fun H' p e hp => q _ H' e (.tup (st_of hp) (.cons (.int _) (.cons (.int _) .nil)))⟩
def spPlains (K : PySem.W.Frag) : Sp := spD K fun ds d => ∃ r : Ru, ds = [r.D] ∧ d = .tuple (r.plains.map Pl.D)
end
end K18
namespace Tr
open PySem PySem.Spec PyProof.Rows L2 Evl Fx Dt
def Pl.sh (draw : Rat) : Pl → Bool
  | .shared p q => decide (draw < Rat.divInt p q)
  | _ => false
theorem word_own {x : Pl} (h : (x.word == ("own" : Str)) = true) : ∃ p q, x = .own p q := by
  cases x with
  | own p q => exact ⟨p, q, rfl⟩
  | shared p q => exact absurd h (by have : (("shared" : Str) == ("own" : Str)) = false := by decide +kernel
                                     show ¬ (("shared" : Str) == ("own" : Str)) = true
                                     rw [this]
                                     exact Bool.false_ne_true)
  | caller => exact absurd h (by decide +kernel)
  | bad => exact absurd h (by decide +kernel)
  | late => exact absurd h (by decide +kernel)
  | never => exact absurd h (by decide +kernel)
theorem word_shared {x : Pl} (h : (x.word == ("shared" : Str)) = true) : ∃ p q, x = .shared p q := by
  cases x with
  | shared p q => exact ⟨p, q, rfl⟩
  | own p q => exact absurd h (by have : (("own" : Str) == ("shared" : Str)) = false := by decide +kernel
                                  show ¬ (("own" : Str) == ("shared" : Str)) = true
                                  rw [this]
                                  exact Bool.false_ne_true)
  | caller => exact absurd h (by decide +kernel)
  | bad => exact absurd h (by decide +kernel)
  | late => exact absurd h (by decide +kernel)
  | never => exact absurd h (by decide +kernel)
theorem not_own {x : Pl} (h : (x.word == ("own" : Str)) = false) : ∀ p q, x ≠ .own p q := fun p q e => by
  subst e
  exact absurd h (by have : (("own" : Str) == ("own" : Str)) = true := by decide +kernel
                     show ¬ (("own" : Str) == ("own" : Str)) = false
                     rw [this]
                     exact fun z => Bool.noConfusion z)
theorem says_eq (x : Pl) (h : ∀ p q, x ≠ .own p q) (bad late called : Bool) (draw : Rat) : ((x.word == ("shared" : Str)) && x.sh draw || ((x.word == ("caller" : Str)) && called || ((x.word == ("bad" : Str)) && bad || ((x.word == ("late" : Str)) && late)))) = x.says bad late called draw := by
  have w1 : (("shared" : Str) == ("shared" : Str)) = true := by decide +kernel
  have w2 : (("shared" : Str) == ("caller" : Str)) = false := by decide +kernel
  have w3 : (("shared" : Str) == ("bad" : Str)) = false := by decide +kernel
  have w4 : (("shared" : Str) == ("late" : Str)) = false := by decide +kernel
  have c1 : (("caller" : Str) == ("shared" : Str)) = false := by decide +kernel
  have c2 : (("caller" : Str) == ("caller" : Str)) = true := by decide +kernel
  have c3 : (("caller" : Str) == ("bad" : Str)) = false := by decide +kernel
  have c4 : (("caller" : Str) == ("late" : Str)) = false := by decide +kernel
  have b1 : (("bad" : Str) == ("shared" : Str)) = false := by decide +kernel
  have b2 : (("bad" : Str) == ("caller" : Str)) = false := by decide +kernel
  have b3 : (("bad" : Str) == ("bad" : Str)) = true := by decide +kernel
  have b4 : (("bad" : Str) == ("late" : Str)) = false := by decide +kernel
  have l1 : (("late" : Str) == ("shared" : Str)) = false := by decide +kernel
  have l2 : (("late" : Str) == ("caller" : Str)) = false := by decide +kernel
  have l3 : (("late" : Str) == ("bad" : Str)) = false := by decide +kernel
  have l4 : (("late" : Str) == ("late" : Str)) = true := by decide +kernel
  have n1 : (("never" : Str) == ("shared" : Str)) = false := by decide +kernel
  have n2 : (("never" : Str) == ("caller" : Str)) = false := by decide +kernel
  have n3 : (("never" : Str) == ("bad" : Str)) = false := by decide +kernel
  have n4 : (("never" : Str) == ("late" : Str)) = false := by decide +kernel
  cases x with
  | own p q => exact absurd rfl (h p q)
  | shared p q => simp only [Pl.word, Pl.sh, Pl.says, w1, w2, w3, w4, Bool.true_and, Bool.false_and, Bool.or_false]
  | caller => simp only [Pl.word, Pl.sh, Pl.says, c1, c2, c3, c4, Bool.true_and, Bool.false_and, Bool.or_false, Bool.false_or]
  | bad => simp only [Pl.word, Pl.sh, Pl.says, b1, b2, b3, b4, Bool.true_and, Bool.false_and, Bool.or_false, Bool.false_or]
  | late => simp only [Pl.word, Pl.sh, Pl.says, l1, l2, l3, l4, Bool.true_and, Bool.false_and, Bool.or_false, Bool.false_or]
  | never => simp only [Pl.word, Pl.sh, Pl.says, n1, n2, n3, n4, Bool.true_and, Bool.false_and, Bool.or_false, Bool.false_or]
theorem chance_eq (x : Pl) (h : ∀ p q, x ≠ .own p q) (bad late called : Bool) (draw : Rat) : x.chance bad late called draw = if x.says bad late called draw then 1 else 0 := by
  cases x with
  | own p q => exact absurd rfl (h p q)
  | _ => rfl
end Tr
namespace K18
open PySem PySem.Spec PyProof.Rows L2 Evl Fx Fr Dt Tr
section
variable {P : Program} {w : World} {K : PySem.W.Frag} {mg : Str → Option Value} {base : Heap} {f f2 f3 : Addr} {fd fd2 fd3 : FuncData}
/-- a name of the module that holds data written there -/
def Wr (K : PySem.W.Frag) (mg : Str → Option Value) (x : Str) (d : PyData) : Prop := ∃ a, mg x = some (.ref a) ∧ ∀ H, Dp K H (.ref a) d
theorem rd_const {F : Fd} {σ : L2.St} {H : Hp} {a : Addr} {d : PyData} (h : ∀ H, Dp K H (.ref a) d) : EvR F (tC (.ref a)) σ H 0 (IsD K d) := fun n1 H1 hn g e Q q => q _ H1 Kx.refl g (h H1)
def spChance (K : PySem.W.Frag) : Sp := spD K fun ds d => ∃ (x : Pl) (bad late called : Bool) (draw : Rat), x.Ok ∧ Bd 60 draw ∧ ds = [x.D, .bool bad, .bool late, .bool called, frD draw] ∧ d = frD (x.chance bad late called draw)
theorem okR_of {p q : Int} (h : 0 < q ∧ p.natAbs < 2 ^ 60 ∧ q.natAbs < 2 ^ 60) : okR p q := ⟨by omega, lt_up h.2.1 (by decide), lt_up h.2.2 (by decide)⟩
theorem bd_made {p q : Int} (h : 0 < q ∧ p.natAbs < 2 ^ 60 ∧ q.natAbs < 2 ^ 60) : Bd 60 (Rat.divInt p q) := bd_div (by omega) h.2.1 h.2.2
end
end K18
namespace Tr
open PySem PySem.Spec PyProof.Rows L2 Evl Fx Dt
def rowD (x : Str × Ru) : PyData := .tuple [.str x.1, x.2.D]
theorem row_flat (x : Str × Ru) : Dt.flat (rowD x) = true := by
  unfold rowD
  rw [flat_tup, flats, flats, flats, x.2.flat]
  rfl
theorem rows_flat (xs : List (Str × Ru)) : flats (xs.map rowD) = true := flats_all.mpr fun d hd => by
  obtain ⟨x, _, rfl⟩ := List.mem_map.mp hd
  exact row_flat x
/-- the place of a service's rule -/
def RuleAt (rs : List (Str × Ru)) (s : Str) (i : Nat) (r : Ru) : Prop := rs[i]? = some (s, r) ∧ ∀ j x, j < i → rs[j]? = some x → x.1 ≠ s
def Names (rs : List (Str × Ru)) : Prop := ∀ x ∈ rs, PyData.strOk x.1 = true
def spanD (x : List Nat × T) : PyData := .tuple [pathD x.1, .str x.2.name, .int x.2.mark]
theorem span_flat (x : List Nat × T) : Dt.flat (spanD x) = true := by
  unfold spanD
  rw [flat_tup, flats, flats, flats, flats, path_flat]
  rfl
def isBad (t : T) : Bool := (subs t).any fun s => s.mark == 1
end Tr
namespace Dt
open PySem PySem.Spec PyProof.Rows L2 Evl Fx
section
variable {K : PySem.W.Frag} {F : Fd} {te : TE} {σ : L2.St} {H : Hp} {k : Nat}
theorem dps_bools : ∀ {bs : List Bool} {vs : List V}, DpAll K H vs (bs.map PyData.bool) → vs = bs.map V.bl
  | [], _, h => by cases h; rfl
  | b :: bs, _, h => by
    cases h with
    | cons h1 h2 =>
      cases h1
      rw [dps_bools h2]
      rfl
theorem rb_any {bs : List Bool} (h : EvR F te σ H k (IsL F K (bs.map PyData.bool))) : EvR F (tCB (rAny K) (tCons te tNil)) σ H k (fun u _ => u = .bl (bs.any id)) := fun n H1 hn g e Q q => h n H1 hn g e _ fun v H2 e2 g2 ⟨a, xs, ev, hT, ha, hx⟩ => by
  subst ev
  have := dps_bools hx
  subst this
  exact ⟨a, bs, rfl, sq_of ha, q _ H2 e2 g2 rfl⟩
theorem gv_pair {i j : Nat} {a : Addr} {x y : V} (h : SqT K H a [x, y]) : Gv (gTup K 2 (gCons (gName i) (gCons (gName j) gNil))) (.ref a) σ H ((σ.set i (some x)).set j (some y)) := fun Q q => ⟨a, [x, y], rfl, h, rfl, x, [y], rfl, y, [], rfl, rfl, q⟩
end
end Dt
namespace K18
open PySem PySem.Spec PyProof.Rows L2 Evl Fx Fr Dt Tr
section
variable {P : Program} {w : World} {K : PySem.W.Frag} {mg : Str → Option Value} {base : Heap} {f f2 f3 : Addr} {fd fd2 fd3 : FuncData}
def spRule (K : PySem.W.Frag) : Sp := spD K fun ds d => ∃ (rs : List (Str × Ru)) (s : Str) (i : Nat) (r : Ru), Names rs ∧ PyData.strOk s = true ∧ RuleAt rs s i r ∧ ds = [.tuple (rs.map rowD), .str s] ∧ d = r.D
def spBad (K : PySem.W.Frag) : Sp := spD K fun ds d => ∃ t, size t ≤ 1000 ∧ ds = [enc t] ∧ d = .bool (isBad t)
def spSpans (K : PySem.W.Frag) : Sp := spD K fun ds d => ∃ t, size t ≤ 1000 ∧ ds = [enc t] ∧ d = .tuple ((Tr.placed [] t).map spanD)
end
end K18
namespace Tr
open PySem PySem.Spec PyProof.Rows L2 Evl Fx Fr Dt
def mkD (x : Rat × Rat) : PyData := .tuple [frD x.1, frD x.2]
theorem mk_flat (x : Rat × Rat) : Dt.flat (mkD x) = true := rfl
theorem mks_flat (xs : List (Rat × Rat)) : flats (xs.map mkD) = true := flats_all.mpr fun d hd => by
  obtain ⟨x, _, rfl⟩ := List.mem_map.mp hd
  rfl
theorem spans_flat (xs : List (List Nat × T)) : flats (xs.map spanD) = true := flats_all.mpr fun d hd => by
  obtain ⟨x, _, rfl⟩ := List.mem_map.mp hd
  exact span_flat x
theorem paths_flat (xs : List (List Nat)) : flats (xs.map pathD) = true := flats_all.mpr fun d hd => by
  obtain ⟨x, _, rfl⟩ := List.mem_map.mp hd
  exact path_flat x
theorem plains_flat (xs : List Pl) : flats (xs.map Pl.D) = true := flats_all.mpr fun d hd => by
  obtain ⟨x, _, rfl⟩ := List.mem_map.mp hd
  exact x.flat
def saysAny (r : Ru) (bad late called : Bool) (draw : Rat) (own : Rat × Rat) : Bool := (r.plains.zip [own.1, own.2]).any fun z => decide (z.2 < z.1.chance bad late called draw)
def calledIn (acc : List (List Nat)) (p : List Nat) : Bool := !(p == []) && acc.any fun z => z == p.dropLast
def step (ρ : Str → Ru) (late : Bool) (draw : Rat) (acc : List (List Nat)) (x : (List Nat × T) × (Rat × Rat)) : List (List Nat) :=
  if saysAny (ρ x.1.2.name) (x.1.2.mark == 1) late (calledIn acc x.1.1) draw x.2 then acc ++ [x.1.1] else acc
def keptBy (ρ : Str → Ru) (t : T) (draw : Rat) (owns : List (Rat × Rat)) : List (List Nat) := ((placed [] t).zip owns).foldl (step ρ (isBad t) draw) []
theorem eqvs_ints : ∀ p q : List Nat, PyData.eqvAll (p.map fun (i : Nat) => PyData.int (i : Int)) (q.map fun (i : Nat) => PyData.int (i : Int)) = (p == q)
  | [], [] => by simp [PyData.eqvAll]
  | [], _ :: _ => by simp [PyData.eqvAll]
  | _ :: _, [] => by simp [PyData.eqvAll]
  | a :: p, b :: q => by
    rw [List.map_cons, List.map_cons, PyData.eqvAll, eqvs_ints p q, int_eqv, List.cons_beq_cons]
    congr 1
    by_cases h : a = b
    · subst h
      exact (beq_self_eq_true _).trans (beq_self_eq_true _).symm
    · have h' : ¬ ((a : Int) = (b : Int)) := by omega
      exact (beq_eq_false_iff_ne.mpr h').trans (beq_eq_false_iff_ne.mpr h).symm
theorem path_eqv (p q : List Nat) : PyData.eqv (pathD p) (pathD q) = (p == q) := by
  unfold pathD
  rw [PyData.eqv]
  exact eqvs_ints p q
theorem lay_ints : ∀ p : List Nat, PyData.canLayAll0 (p.map fun (i : Nat) => PyData.int (i : Int)) = true
  | [] => by simp [PyData.canLayAll0]
  | a :: p => by rw [List.map_cons, PyData.canLayAll0, lay_ints p]; simp [PyData.canLay0]
theorem depth_nats : ∀ p : List Nat, PyData.depthAll (p.map fun (i : Nat) => PyData.int (i : Int)) = 0
  | [] => by simp [PyData.depthAll]
  | a :: p => by rw [List.map_cons, PyData.depthAll, depth_nats p]; simp [PyData.depth]
theorem path_lay (p : List Nat) : PyData.canLay0 (pathD p) = true := by
  unfold pathD
  rw [PyData.canLay0]
  exact lay_ints p
theorem path_depth (p : List Nat) : PyData.depth (pathD p) = 1 := by
  unfold pathD
  rw [PyData.depth, depth_nats]
theorem sh_path (p : List Nat) : SeqAt.shaped (pathD p) = true := by
  show ((pathD p).canLay0 && decide ((pathD p).depth ≤ 64)) = true
  rw [path_lay, path_depth]
  rfl
theorem lay_paths : ∀ ks : List (List Nat), PyData.canLayAll0 (ks.map pathD) = true
  | [] => by simp [PyData.canLayAll0]
  | a :: p => by rw [List.map_cons, PyData.canLayAll0, lay_paths p, path_lay]; rfl
theorem depth_paths : ∀ ks : List (List Nat), PyData.depthAll (ks.map pathD) ≤ 1
  | [] => by simp [PyData.depthAll]
  | a :: p => by
    have := depth_paths p
    rw [List.map_cons, PyData.depthAll, path_depth]
    omega
theorem sh_paths (ks : List (List Nat)) : SeqAt.shaped (.list (ks.map pathD)) = true := by
  have h := depth_paths ks
  show ((PyData.list (ks.map pathD)).canLay0 && decide ((PyData.list (ks.map pathD)).depth ≤ 64)) = true
  rw [Bool.and_eq_true]
  exact ⟨by rw [PyData.canLay0]; exact lay_paths ks, decide_eq_true (by rw [PyData.depth]; omega)⟩
theorem path_init (p : List Nat) : (p.map fun (i : Nat) => PyData.int (i : Int)).dropLast = p.dropLast.map fun (i : Nat) => PyData.int (i : Int) := by rw [List.map_dropLast]
theorem chance_bd {x : Pl} (h : x.Ok) (bad late called : Bool) (draw : Rat) : Bd 60 (x.chance bad late called draw) := by
  have b0 : Bd 60 (0 : Rat) := bd0.mono (by decide)
  have b1 : Bd 60 (1 : Rat) := bd1.mono (by decide)
  have bi : ∀ c : Bool, Bd 60 (if c = true then (1 : Rat) else 0) := fun c => by cases c <;> simp <;> assumption
  cases x with
  | own p q => exact bd_div (by have := h.1; omega) h.2.1 h.2.2
  | _ => exact bi _
theorem step_len (ρ : Str → Ru) (late : Bool) (draw : Rat) : ∀ (xs : List ((List Nat × T) × (Rat × Rat))) (acc : List (List Nat)), (xs.foldl (step ρ late draw) acc).length ≤ acc.length + xs.length
  | [], acc => Nat.le_refl _
  | x :: xs, acc => by
    have h := step_len ρ late draw xs (step ρ late draw acc x)
    have h2 : (step ρ late draw acc x).length ≤ acc.length + 1 := by
      unfold step
      split <;> simp
    rw [List.foldl_cons, List.length_cons]
    omega
end Tr
namespace K18
open PySem PySem.Spec PyProof.Rows L2 Evl Fx Fr Dt Tr
section
variable {P : Program} {w : World} {K : PySem.W.Frag} {mg : Str → Option Value} {base : Heap} {f f2 f3 : Addr} {fd fd2 fd3 : FuncData}
structure KeptOk (t : T) (rs : List (Str × Ru)) (ρ : Str → Ru) (draw : Rat) (owns : List (Rat × Rat)) : Prop where
  size : size t ≤ 1000
  len : owns.length = Tr.size t
  draw : Bd 60 draw
  owns : ∀ o ∈ owns, Bd 60 o.1 ∧ Bd 60 o.2
  names : Names rs
  rules : ∀ s ∈ subs t, PyData.strOk s.name = true ∧ (∃ i, RuleAt rs s.name i (ρ s.name)) ∧ (ρ s.name).Ok
def spKept (K : PySem.W.Frag) : Sp := spD K fun ds d => ∃ t rs ρ draw owns, KeptOk t rs ρ draw owns ∧ ds = [enc t, .tuple (rs.map rowD), frD draw, .tuple (owns.map mkD)] ∧ d = .tuple ((keptBy ρ t draw owns).map pathD)
end
end K18
namespace Tr
theorem placedA_len (p : List Nat) (i : Nat) (ts : List T) : (placedA p i ts).length = sizes ts := by rw [← subsA_len, ← placedA_snd p i ts, List.length_map]
theorem sizes_take : ∀ (i : Nat) (ts : List T), sizes (ts.take i) ≤ sizes ts
  | 0, ts => by rw [List.take_zero, sizes]; omega
  | i + 1, [] => Nat.le_refl _
  | i + 1, t :: ts => by
    have := sizes_take i ts
    rw [List.take_succ_cons, sizes, sizes]
    omega
theorem size_mem : ∀ {ts : List T} {i : Nat} {c : T}, ts[i]? = some c → size c ≤ sizes ts
  | [], _, _, h => by simp at h
  | t :: ts, 0, c, h => by
    rw [List.getElem?_cons_zero] at h
    cases h
    rw [sizes]
    omega
  | t :: ts, i + 1, c, h => by
    rw [List.getElem?_cons_succ] at h
    have := size_mem h
    rw [sizes]
    omega
theorem placedA_snoc (p : List Nat) : ∀ (j : Nat) (ts : List T) (c : T), placedA p j (ts ++ [c]) = placedA p j ts ++ placed (p ++ [j + ts.length]) c
  | j, [], c => by rw [List.nil_append, placedA, placedA, placedA, List.append_nil]; rfl
  | j, t :: ts, c => by rw [List.cons_append, placedA, placedA, placedA_snoc p (j + 1) ts c, List.append_assoc, List.length_cons, show j + 1 + ts.length = j + (ts.length + 1) by omega]
end Tr
namespace K18
open PySem PySem.Spec PyProof.Rows L2 Evl Fx Fr Dt Tr
theorem cal {P : Program} {w : World} {K : PySem.W.Frag} {mg : Str → Option Value} {base : Heap} {x : Str} {st : Stmt} {f : Addr} {fd : FuncData} {k : Nat} {ps : List Str} {sp : Sp} (F : Fun K x x st f fd) (G : FnOk P w K mg base CX0 k f fd ps sp) (g : mg x = some (.ref f)) (b : Binds K fd ps []) : C8.Cal P w K mg base k x sp [] := ⟨f, fd, ps, [], G, g, F.kp, b, .nil⟩
section
variable {P : Program} {w : World} {K : PySem.W.Frag} {mg : Str → Option Value} {base : Heap} {f f2 f3 : Addr} {fd fd2 fd3 : FuncData}
def spLSpans (K : PySem.W.Frag) (n : Nat) : Sp := spL K fun ds es => ∃ t p, size t ≤ n ∧ n ≤ 1000 ∧ p.length + n ≤ 1000 ∧ ds = [enc t, pathD p] ∧ es = (Tr.placed p t).map spanD
end
end K18
namespace Dt
open PySem PySem.Spec PyProof.Rows L2 Evl Fx Tr
section
variable {F : Fd} {K : PySem.W.Frag} {te ta tb tl : TE} {tr : TA} {tt tu : TT} {g : TG} {σ : L2.St} {H H' H1 : Hp} {d d' : PyData} {ds es : List PyData} {n n0 k ka kb kt ke i : Nat} {v : V} {Dl : Addr}
/-- list(t) -/
theorem rl_list (o : F.Ok) (h : EvR F te σ H k (IsD K (.tuple ds))) : EvR F (tCB (rListS K) (tCons te tNil)) σ H k (IsL F K ds) := fun n H1 hn g e Q q => h n H1 hn g e _ fun v H2 e2 g2 hd => by
  cases hd with
  | @tup a xs _ ha hx => exact ⟨a, xs, rfl, .inr ha, fun l hl => q _ _ (e2.trans (Kx.ex (Ex.new hl))) (o.ex g2 (Ex.new hl)) ⟨l, xs, rfl, o.new g2 hl, upd_same, dps_ex (Ex.new hl) _ _ hx⟩⟩
theorem call_listS {X : Cx} : CallR X (.type "list") (rListS X.K) := call_list_of
theorem valV_merge : ∀ (more kvs : List (Key × V)) (k : Key), (more.map Prod.fst).Nodup → valV (mergeK kvs more) k = (valV more k).or (valV kvs k)
  | [], kvs, k, _ => rfl
  | p :: r, kvs, k, h => by
    rw [List.map_cons, List.nodup_cons] at h
    show valV (mergeK (putK kvs p.1 p.2) r) k = _
    rw [valV_merge r _ k h.2, valV_put]
    by_cases e : p.1 = k
    · have hn : valV r k = none := by
        cases z : valV r k with
        | none => rfl
        | some u =>
          exfalso
          unfold valV at z
          obtain ⟨q, hq, _⟩ := Option.map_eq_some_iff.mp z
          have h1 := List.find?_some hq
          have h2 := List.mem_of_find?_eq_some hq
          exact h.1 (List.mem_map.mpr ⟨q, h2, by rw [e]; exact of_decide_eq_true h1⟩)
      rw [hn, valV_pos e, if_pos e.symm]
      rfl
    · rw [valV_neg e, if_neg (fun z => e z.symm)]
theorem rows_pairs {K : PySem.W.Frag} {H : Hp} : ∀ {rs : List (Str × Ru)} {xs : List V}, DpAll K H xs (rs.map rowD) → ∃ (ps : List Addr) (kvs : List (Key × V)), xs = ps.map V.ref ∧ Paired (fun p (kv : Key × V) => SqT K H p [kV kv.1, kv.2]) ps kvs ∧ kvs.map Prod.fst = rs.map (fun x => (Sum.inr x.1 : Key)) ∧
    ∀ s i r, RuleAt rs s i r → ∃ u, valV kvs (.inr s) = some u ∧ Dp K H u r.D
  | [], xs, h => by
    cases h
    exact ⟨[], [], rfl, .nil, rfl, fun s i r hr => by simp [RuleAt] at hr⟩
  | x :: rs, xs, h => by
    obtain ⟨v, r, rfl, h1, h2⟩ := dps_uncons h
    obtain ⟨ps, kvs, rfl, hp, hk, hv⟩ := rows_pairs h2
    obtain ⟨a, y1, y2, rfl, ha, d1, d2⟩ := dp_two h1
    cases d1
    refine ⟨a :: ps, (.inr x.1, y2) :: kvs, rfl, .cons ha hp, by rw [List.map_cons, List.map_cons, hk], fun s i r hr => ?_⟩
    obtain ⟨g1, g2⟩ := hr
    cases i with
    | zero =>
      rw [List.getElem?_cons_zero] at g1
      cases g1
      exact ⟨y2, valV_pos rfl, d2⟩
    | succ i =>
      rw [List.getElem?_cons_succ] at g1
      have hne : x.1 ≠ s := g2 0 x (Nat.succ_pos i) List.getElem?_cons_zero
      obtain ⟨u, hu, du⟩ := hv s i r ⟨g1, fun j y hj hy => g2 (j + 1) y (by omega) (by rw [List.getElem?_cons_succ]; exact hy)⟩
      exact ⟨u, by rw [valV_neg (fun z => hne (Sum.inr.inj z))]; exact hu, du⟩
def rDictP (K : PySem.W.Frag) : List V → Hp → VK → Prop := fun xs H Q => ∃ (a : Addr) (ps : List Addr) (kvs : List (Key × V)), xs = [.ref a] ∧ SqL K H a (ps.map V.ref) ∧ Paired (fun p kv => SqT K H p [kV kv.1, kv.2]) ps kvs ∧ ∀ p, H p = none → Q (.ref p) (upd H p (.dK (mergeK [] kvs)))
theorem call_dictPK {X : Cx} (hc : X.calm = true) : CallR X (.type "dict") (rDictP X.K) := call_dictP hc
/-- a dict of the rules -/
def IsTab (F : Fd) (K : PySem.W.Frag) (rs : List (Str × Ru)) : VP := fun v H => ∃ p kvs, v = .ref p ∧ ¬ F.T p ∧ H p = some (.dK kvs) ∧ ∀ s i r, RuleAt rs s i r → ∃ u, valV kvs (.inr s) = some u ∧ Dp K H u r.D
theorem mono_tab {F : Fd} {K : PySem.W.Frag} {rs : List (Str × Ru)} (o : F.Ok) : MonoF F (IsTab F K rs) := fun n v H H' g e ⟨p, kvs, e1, h1, h2, h3⟩ => ⟨p, kvs, e1, h1, e _ _ h2 fun s => h1 (o.sub s), fun s i r hr => by
  obtain ⟨u, hu, du⟩ := h3 s i r hr
  exact ⟨u, hu, mono_d o r.flat n _ _ _ g e du⟩⟩
theorem rt_dict {F : Fd} {K : PySem.W.Frag} {te : TE} {σ : L2.St} {H : Hp} {k : Nat} {rs : List (Str × Ru)} (o : F.Ok) (h : EvR F te σ H k (IsL F K (rs.map rowD))) (nd : (rs.map Prod.fst).Nodup) : EvR F (tCB (rDictP K) (tCons te tNil)) σ H k (IsTab F K rs) := fun n H1 hn g e Q q => h n H1 hn g e _ fun v H2 e2 g2 ⟨a, xs, ev, hT, ha, hx⟩ => by
  obtain ⟨ps, kvs, rfl, hp, hk, hv⟩ := rows_pairs hx
  refine ⟨a, ps, kvs, by rw [ev], sq_of ha, hp, fun p hpn => q _ _ (e2.trans (Kx.ex (Ex.new hpn))) (o.ex g2 (Ex.new hpn)) ⟨p, _, rfl, o.new g2 hpn, upd_same, fun s i r hr => ?_⟩⟩
  obtain ⟨u, hu, du⟩ := hv s i r hr
  refine ⟨u, ?_, dp_ex (Ex.new hpn) _ _ du⟩
  have ndk : (kvs.map Prod.fst).Nodup := by
    rw [hk]
    have : rs.map (fun x => (Sum.inr x.1 : Key)) = (rs.map Prod.fst).map Sum.inr := by rw [List.map_map]; rfl
    rw [this]
    exact List.pairwise_map.mpr (List.Pairwise.imp (fun h e => h (Sum.inr.inj e)) nd)
  rw [valV_merge kvs [] _ ndk, hu]
  rfl
theorem rd_tab {F : Fd} {K : PySem.W.Frag} {ta tb : TE} {σ : L2.St} {H : Hp} {ka kb : Nat} {rs : List (Str × Ru)} {s : Str} {i : Nat} {r : Ru} (o : F.Ok) (ha : EvR F ta σ H ka (IsTab F K rs)) (hb : EvR F tb σ H kb (fun x _ => x = .str s)) (hr : RuleAt rs s i r) : EvR F (tDGet ta tb) σ H (ka + kb) (IsD K r.D) :=
  fun n H1 hn g e Q q => ha n H1 (by omega) g e _ fun x H2 e2 g2 p => hb (n + ka) H2 (by omega) g2 (e.trans e2) _ fun y H3 e3 g3 p' => by
    obtain ⟨a, kvs, ex, hT, h2, h3⟩ := mono_tab o _ _ _ _ g2 e3 p
    obtain ⟨u, hu, du⟩ := h3 s i r hr
    exact ⟨a, u, ex, .inl ⟨kvs, .inr s, .inl h2, p', hu.symm⟩, q u H3 (e2.trans e3) (by rw [← Nat.add_assoc]; exact g3) du⟩
theorem for_zipM {K : PySem.W.Frag} {a b : Addr} {xs ys : List V} {g : TG} {tb : TS} {D : Ends} {σ : L2.St} {H : Hp} (hl : xs.length = ys.length) (Pv : Nat → L2.St → Hp → Prop) (h0 : Pv 0 σ H) (hq : ∀ i σ H, Pv i σ H → SqL K H a xs ∧ SqT K H b ys)
    (hs : ∀ (i : Nat) (x y : V) (T : Addr) (σ : L2.St) (H : Hp), xs[i]? = some x → ys[i]? = some y → Pv i σ H → H T = none → g (.ref T) σ (upd H T (.tup [x, y])) fun σ2 H2 => tb { D with nx := Pv (i + 1), ct := Pv (i + 1), bk := D.nx } σ2 H2) (hd : ∀ σ H, Pv xs.length σ H → D.nx σ H) :
    ∃ W : Nat → Nat → L2.St → Hp → Prop, (∃ m, W 0 m σ H) ∧ ∀ i m σ H, W i m σ H →
      ((DtZ.ItzM K a b).stop i H ∧ D.nx σ H) ∨ ((DtZ.ItzM K a b).go i H ∧ ∃ N : L2.St → Hp → Prop, (∀ σ' H', N σ' H' → ∃ m', m' < m ∧ W (i + 1) m' σ' H') ∧ ∀ v H', (DtZ.ItzM K a b).yld i H v H' → g v σ H' fun σ2 H2 => tb { D with nx := N, ct := N, bk := D.nx } σ2 H2) := by
  refine ⟨fun i m σ H => m = xs.length - i ∧ i ≤ xs.length ∧ Pv i σ H, ⟨xs.length, rfl, Nat.zero_le _, h0⟩, ?_⟩
  rintro i m σ H ⟨rfl, hi, p⟩
  obtain ⟨qx, qy⟩ := hq i σ H p
  by_cases hlt : i < xs.length
  · have hx : xs[i]? = some xs[i] := List.getElem?_eq_getElem hlt
    have hlt2 : i < ys.length := by omega
    have hy : ys[i]? = some ys[i] := List.getElem?_eq_getElem hlt2
    refine .inr ⟨⟨xs, ys, _, _, qx, qy, hx, hy⟩, Pv (i + 1), fun σ' H' p' => ⟨xs.length - (i + 1), by omega, rfl, hlt, p'⟩, fun v H' y => ?_⟩
    obtain ⟨T, x', y', rfl, hT, rfl, f1, f2⟩ := y
    exact hs i x' y' T σ H (f1 xs qx) (f2 ys qy) p hT
  · have e : i = xs.length := by omega
    subst e
    exact .inl ⟨⟨xs, ys, qx, qy, rfl, hl.symm⟩, hd σ H p⟩
section
variable {F : Fd} {K : PySem.W.Frag} {te ta tb tl : TE} {tr : TA} {tt tu : TT} {g : TG} {σ : L2.St} {H H' H1 : Hp} {d d' : PyData} {ds es : List PyData} {n n0 k ka kb kt ke i : Nat} {v : V} {Dl : Addr}
/-- for .. in zip(xs, t): a list under a name, that stays, and a tuple -/
theorem q_forM {tb tz : TS} {D : Ends} {j : Nat} {p : Addr} {xs : List V} (o : F.Ok) (hj : σ[j]? = some (some (.ref p))) (hp : H p = some (.lst xs)) (hT : ¬ F.T p) (hx : DpAll K H xs ds) (hb : EvR F tl σ H k (IsD K (.tuple es))) (g0 : F.G n H) (hn : n + k ≤ F.N) (fd : flats ds = true) (fe : flats es = true) (hl : ds.length = es.length)
    (Pv : Hp → Nat → L2.St → Hp → Prop) (h0 : ∀ H1, Kx F.S H H1 → F.G (n + k) H1 → Pv H1 0 σ H1) (hk : ∀ H1 i σ' H', Pv H1 i σ' H' → KT K H1 H') (hkl : ∀ H1 i σ' H', H1 p = some (.lst xs) → Pv H1 i σ' H' → H' p = some (.lst xs))
    (hs : ∀ H1 i x y T d d' σ' H', ds[i]? = some d → es[i]? = some d' → Pv H1 i σ' H' → H' T = none → Dp K (upd H' T (.tup [x, y])) x d → Dp K (upd H' T (.tup [x, y])) y d' → g (.ref T) σ' (upd H' T (.tup [x, y])) fun σ2 H2 => tb { D with nx := Pv H1 (i + 1), ct := Pv H1 (i + 1), bk := tz D } σ2 H2)
    (hd : ∀ H1 σ' H', Kx F.S H H1 → Pv H1 ds.length σ' H' → tz D σ' H') : tSeq (tFor (DtZ.iZipM K (tCons (tVar j) (tCons tl tNil))) g tb) tz D σ H := ⟨.ref p, hj, hb n H hn g0 Kx.refl _ fun w H1 e1 g1 p2 => by
  cases p2 with
  | @tup b ys _ hb' hy =>
  have hp1 : H1 p = some (.lst xs) := e1 _ _ hp fun s => hT (o.sub s)
  have hx1 := mono_ds o fd _ _ _ _ g0 e1 hx
  have lx := dps_len hx
  have ly := dps_len hy
  refine ⟨p, b, xs, ys, rfl, sq_of hp1, hb', for_zipM (by omega) (Pv H1) (h0 H1 e1 g1) (fun i σ' H' q => ⟨sq_of (hkl _ _ _ _ hp1 q), hk _ _ _ _ q _ _ hb'⟩) (fun i x y T σ' H' hi hj q hTn => ?_) fun σ' H' q => hd H1 σ' H' e1 (by rw [← lx]; exact q)⟩
  have h1 := (List.getElem?_eq_some_iff.mp hi).1
  have h2 := (List.getElem?_eq_some_iff.mp hj).1
  have hdi : ds[i]? = some ds[i] := List.getElem?_eq_getElem (by omega)
  have hei : es[i]? = some es[i] := List.getElem?_eq_getElem (by omega)
  have kk : KT K H1 (upd H' T (.tup [x, y])) := kt_trans (hk _ _ _ _ q) (kt_ex (Ex.new hTn))
  obtain ⟨u, hu, hdu⟩ := dps_get (dps_kt kk _ _ fd hx1) hdi
  rw [hi] at hu
  cases hu
  obtain ⟨u, hu, hdu'⟩ := dps_get (dps_kt kk _ _ fe hy) hei
  rw [hj] at hu
  cases hu
  exact hs H1 i x y T _ _ σ' H' hdi hei q hTn hdu hdu'⟩
/-- a comprehension over enumerate(t), a tuple -/
theorem lc_enumT {K : PySem.W.Frag} {a : Addr} {xs : List V} {g : TG} {tt : TT} {te : TE} {vs : List Nat} {σ : L2.St} {H1 : Hp} {D : Addr} {Qd : Hp → Prop} (Pv : Nat → Hp → Prop) (h0 : Pv 0 (upd H1 D (.lst []))) (hq : ∀ i H, Pv i H → SqT K H a xs)
    (hs : ∀ (i : Nat) (x : V) (T : Addr) (H : Hp), xs[i]? = some x → Pv i H → H T = none → g (.ref T) (wipe σ vs) (upd H T (.tup [.int (i : Nat), x])) fun σ2 H2 => wipe σ2 vs = wipe σ vs ∧ tt σ2 H2 fun b H3 =>
      if b = true then te σ2 H3 fun y H4 => ∃ acc, H4 D = some (.lst acc) ∧ acc.length < sizeLine ∧ Pv (i + 1) (upd H4 D (.lst (acc ++ [y]))) else Pv (i + 1) H3) (hd : ∀ H, Pv xs.length H → Qd H) :
    ∃ W : Nat → Nat → Hp → Prop, (∃ m, W 0 m (upd H1 D (.lst []))) ∧ ∀ i m H, W i m H →
      ((DtE.IteT K a).stop i H ∧ Qd H) ∨ ((DtE.IteT K a).go i H ∧ ∃ Nx : Hp → Prop, (∀ H', Nx H' → ∃ m', m' < m ∧ W (i + 1) m' H') ∧ ∀ x H', (DtE.IteT K a).yld i H x H' → g x (wipe σ vs) H' fun σ2 H2 => wipe σ2 vs = wipe σ vs ∧ tt σ2 H2 fun b H3 =>
        if b = true then te σ2 H3 fun y H4 => ∃ acc, H4 D = some (.lst acc) ∧ acc.length < sizeLine ∧ Nx (upd H4 D (.lst (acc ++ [y]))) else Nx H3) := by
  refine ⟨fun i m H => m = xs.length - i ∧ i ≤ xs.length ∧ Pv i H, ⟨xs.length, by simp, Nat.zero_le _, h0⟩, ?_⟩
  rintro i m H ⟨rfl, hi, p⟩
  have qx := hq i H p
  by_cases hlt : i < xs.length
  · have hx : xs[i]? = some xs[i] := List.getElem?_eq_getElem hlt
    refine .inr ⟨⟨xs, _, qx, hx⟩, Pv (i + 1), fun H' p' => ⟨xs.length - (i + 1), by omega, rfl, hlt, p'⟩, fun v H' y => ?_⟩
    obtain ⟨T, x', rfl, hT, rfl, f1⟩ := y
    exact hs i x' T H (f1 xs qx) p hT
  · have e : i = xs.length := by omega
    subst e
    exact .inl ⟨⟨xs, qx, rfl⟩, hd H p⟩
theorem r_lcE (o : F.Ok) {vs : List Nat} (f : Nat → Bool) (e : Nat → PyData) (h : EvR F tl σ H k (IsD K (.tuple ds))) (fd : flats ds = true) (hm : ds.length ≤ 40000) (fl : ∀ j, j < ds.length → f j = true → flat (e j) = true)
    (ht : ∀ i x T d n H', ds[i]? = some d → Dp K H' x d → SqT K H' T [.int (i : Nat), x] → F.G n H' → Kx F.S H H' → ∃ σ2, Gv g (.ref T) (wipe σ vs) H' σ2 ∧ wipe σ2 vs = wipe σ vs ∧ EvRT F tt σ2 H' kt (f i) ∧ (f i = true → EvR F te σ2 H' ke (IsD K (e i)))) :
    EvR F (tLc (DtE.iEnumT K (tCons tl tNil)) g tt te vs) σ H (k + ds.length * (kt + ke)) (IsL F K (outs f e ds.length)) := fun n H0 hn g0 e0 Q q => h n H0 (by omega) g0 e0 _ fun v H1 e1 g1 hd => by
  cases hd with
  | @tup a xs _ ha hx =>
  have hl := dps_len hx
  refine ⟨a, xs, rfl, ha, fun Dl hD => lc_enumT (xs := xs) (Cd F K H1 Dl (n + k) (kt + ke) f e) ?_ (fun i H' p => o.kt g1 p.1 _ _ ha) (fun i x T H' hi p hT => ?_) fun H' p => ?_⟩
  · exact ⟨Kx.ex (Ex.new hD), by rw [Nat.zero_mul]; exact o.put g1 hD g1, [], upd_same, .nil⟩
  · have hlt := (List.getElem?_eq_some_iff.mp hi).1
    have hdi : ds[i]? = some ds[i] := List.getElem?_eq_getElem (by omega)
    have p' : Cd F K H1 Dl (n + k) (kt + ke) f e i (upd H' T (.tup [.int (i : Nat), x])) := p.new o hT
    obtain ⟨u, hu, hdu⟩ := dps_get (mono_ds o fd _ _ _ _ g1 p'.1 hx) hdi
    rw [hi] at hu
    cases hu
    obtain ⟨σ2, q1, q2, q3, q4⟩ := ht i x T _ _ _ hdi hdu (st_of upd_same) p'.2.1 (e0.trans (e1.trans p'.1))
    exact q1 _ ⟨q2, cd_turn o g1 hD p' (by omega) hm (by rw [Nat.add_assoc]; exact hn) fl q3 q4⟩
  · rw [hl] at p
    obtain ⟨p1, p2, ws, p3, p4⟩ := p
    exact q (.ref Dl) H' (e1.trans p1) (by rw [← Nat.add_assoc]; exact p2) ⟨Dl, ws, rfl, o.new g1 hD, p3, p4⟩
end
end
end Dt
namespace Dt
open PySem PySem.Spec PyProof.Rows L2 Evl Fx Tr
section
variable {F : Fd} {K : PySem.W.Frag} {te ta tb tl : TE} {tr : TA} {tt tu : TT} {tz : TS} {D : Ends} {g : TG} {σ : L2.St} {H H' H1 : Hp} {d d' : PyData} {ds es : List PyData} {n n0 k ka kb kt ke i : Nat} {v : V}
theorem q_par3 {i j l : Nat} (h : tr σ H fun vs H1 => ∃ u v w, vs = [u, v, w] ∧ tz D (((σ.set i (some u)).set j (some v)).set l (some w)) H1) : tSeq (tPar3 i j l tr) tz D σ H := h
theorem q_cons {Q : List V → Hp → Prop} (h : te σ H fun x H1 => tr σ H1 fun ys H2 => Q (x :: ys) H2) : tCons te tr σ H Q := h
theorem dps_ints : ∀ {ns : List Int} {vs : List V}, DpAll K H vs (ns.map PyData.int) → vs = ns.map V.int
  | [], _, h => by cases h; rfl
  | b :: bs, _, h => by
    cases h with
    | cons h1 h2 =>
      cases h1
      rw [dps_ints h2]
      rfl
theorem flat_ints (ns : List Int) : flats (ns.map PyData.int) = true := flats_all.mpr fun d hd => by
  obtain ⟨b, _, rfl⟩ := List.mem_map.mp hd
  rfl
/-- an int in a list of ints -/
theorem rb_inI {a : Int} {ns : List Int} (o : F.Ok) (ha : EvR F ta σ H ka (fun u _ => u = .int a)) (hb : EvR F tb σ H kb (IsL F K (ns.map PyData.int))) : EvR F (tOp (rIn K false) ta tb) σ H (ka + kb) (fun u _ => u = .bl (ns.any fun y => y == a)) :=
  r_op o mono_eq ha hb fun x y n H1 g e ex ⟨p, xs, ey, hT, hp, hx⟩ Q q => by
    subst ex ey
    have := dps_ints hx
    subst this
    refine ⟨p, _, rfl, .inl (sq_of hp), rfl, by rw [List.all_map]; exact List.all_eq_true.mpr fun _ _ => rfl, q _ H1 (Ex.refl _) ?_⟩
    show V.bl (inV _ _) = _
    unfold inV
    rw [List.any_map]
    rfl
theorem tab_upd {rs : List (Str × Ru)} {A : Addr} {xs : List V} {u : HO} (h : IsTab F K rs v H) (hA : H A = some (.lst xs)) : IsTab F K rs v (upd H A u) := by
  obtain ⟨p, kvs, e, hT, hp, hv⟩ := h
  have hne : p ≠ A := by
    rintro rfl
    rw [hA] at hp
    cases hp
  refine ⟨p, kvs, e, hT, by rw [upd_ne hne]; exact hp, fun s i r hr => ?_⟩
  obtain ⟨w, hw, dw⟩ := hv s i r hr
  exact ⟨w, hw, dp_kt (kt_lst hA) _ _ r.flat dw⟩
theorem tab_ex {rs : List (Str × Ru)} (h : IsTab F0 K rs v H) (e : Ex H H') : IsTab F0 K rs v H' := mono_tab F0.ok 0 _ _ _ F0.g (Kx.ex e) h
theorem lay_intsI : ∀ p : List Int, PyData.canLayAll0 (p.map PyData.int) = true
  | [] => by simp [PyData.canLayAll0]
  | a :: p => by rw [List.map_cons, PyData.canLayAll0, lay_intsI p]; simp [PyData.canLay0]
theorem depth_intsI : ∀ p : List Int, PyData.depthAll (p.map PyData.int) = 0
  | [] => by simp [PyData.depthAll]
  | a :: p => by rw [List.map_cons, PyData.depthAll, depth_intsI p]; simp [PyData.depth]
theorem sh_ints (p : List Int) : SeqAt.shaped (.list (p.map PyData.int)) = true := by
  show ((PyData.list (p.map PyData.int)).canLay0 && decide ((PyData.list (p.map PyData.int)).depth ≤ 64)) = true
  rw [Bool.and_eq_true]
  exact ⟨by rw [PyData.canLay0]; exact lay_intsI p, decide_eq_true (by rw [PyData.depth, depth_intsI]; omega)⟩
/-- a list of ints != [] -/
theorem rb_neNil {ns : List Int} (o : F.Ok) (ha : EvR F ta σ H ka (IsL F K (ns.map PyData.int))) : EvR F (tOp (rNeD K) ta (tLst tNil)) σ H (ka + 0) (fun u _ => u = .bl (!ns.isEmpty)) :=
  r_op (P' := IsL F K []) o (mono_l o (flat_ints ns)) ha (rl_lst o ra_nil) fun x y n H1 g e px py Q q => ⟨_, _, px.dp, py.dp, sh_ints ns, rfl, q _ H1 (Ex.refl _) (by cases ns <;> simp [PyData.eqv, PyData.eqvAll])⟩
/-- the places where f says so, as ints -/
theorem outs_int (f : Nat → Bool) (m : Nat) : outs f (fun i => PyData.int (i : Int)) m = (((List.range m).filter f).map fun (i : Nat) => (i : Int)).map PyData.int := by
  unfold outs
  rw [List.map_map]
  rfl
theorem outs_some (bs : List Bool) : (!(((List.range bs.length).filter fun i => bs.getD i false).map fun (i : Nat) => (i : Int)).isEmpty) = bs.any id := by
  rw [Bool.eq_iff_iff]
  simp only [Bool.not_eq_true', List.isEmpty_eq_false_iff, ne_eq, List.map_eq_nil_iff, List.filter_eq_nil_iff, List.mem_range, List.any_eq_true, id]
  constructor
  · intro h
    apply Classical.byContradiction
    intro hn
    apply h
    intro i hi hb
    rw [List.getD_eq_getElem?_getD, List.getElem?_eq_getElem hi] at hb
    exact hn ⟨bs[i], List.getElem_mem _, hb⟩
  · rintro ⟨b, hb, h⟩ hn
    obtain ⟨i, hi, e⟩ := List.getElem_of_mem hb
    apply hn i hi
    rw [List.getD_eq_getElem?_getD, List.getElem?_eq_getElem hi, e, h]
    rfl
end
end Dt
/-! ### isinstance of a caught error that has a dict -/
namespace So
open PySem PySem.Spec PyProof.Rows L2
/-- what is asked of the error's class -/
structure ExcD (K : PySem.W.Frag) (C : Addr) : Prop where
  cl : (PySem.W.clsIn K C).isSome = true
  ga : PySem.W.findIn K (.ref C) "__getattribute__" = some (some (.builtin "BaseException.__getattribute__"))
  gt : PySem.W.findIn K (.ref C) "__getattr__" = some none
  bx : PySem.W.subIn K (.ref C) (.type "BaseException") = some true
  ca : PySem.W.findIn K (.ref C) "__class__" = some (some (.builtin "object.__class__"))
  sg : PySem.W.specialIn K (.builtin "object.__class__") "__get__" = some (some (.builtin "getset_descriptor.__get__"))
  tk : PySem.W.takesIn K (.builtin "object.__class__") = some true
  mo : PySem.W.mroIn K C (.type "object") = some true
/-- a the error, of the class C, its dict at dd -/
def rIsX (K : PySem.W.Frag) (a : Addr) (cls : Value) (d : Option Addr) : List V → Hp → VK → Prop := fun xs H Q => ∃ (C dd : Addr) (fs : List (Str × V)) (b : Bool), cls = .ref C ∧ d = some dd ∧ H dd = some (.xd fs) ∧ ExcD K C ∧ Q (.bl b) H ∧
  ((∃ c u, xs = [.ref a, c] ∧ ClsV c u ∧ PySem.W.kitOne K (.ref C) u = some b) ∨ (∃ tp cs us, xs = [.ref a, .ref tp] ∧ H tp = some (.tup cs) ∧ Paired ClsV cs us ∧ PySem.W.kitAny K (.ref C) us = some b))
theorem call_isX {X : Cx} {a : Addr} {oe : Obj} {cls : Value} {d : Option Addr} {pn : List (Addr × Obj)} (hz : Zc cls d oe) (hf : ∃ vs, oe.data = .fields vs) : CallR (X.suite a ((a, oe) :: pn)) (.builtin "isinstance") (rIsX X.K a cls d) := by
  intro pins s σ H xs us Q I r h
  obtain ⟨C, dd, fs, b, rfl, rfl, hdd, T, q, h⟩ := h
  have hget := (I.pin (a, oe) (List.mem_append_left _ List.mem_cons_self)).1
  obtain ⟨vs, hv⟩ := hf
  obtain ⟨mA, hns, _⟩ : ObjOk X.prog X.w H s.heap dd (.xd fs) := I.hok dd _ hdd
  obtain ⟨od, ho, _⟩ := lookIn_ns hns
  have J : PySem.W.InstAt s.heap a oe C (some od) := ⟨hget, hz.1, by unfold PySem.W.notCls; rw [hv] <;> rfl, by rw [hz.2]; exact ho⟩
  have Z := PySem.W.kitx_exc (x := a) (ox := oe) (od := some od) T.cl T.ga T.gt T.bx T.ca T.sg T.tk T.mo
  rcases h with ⟨c, u, rfl, k, e⟩ | ⟨tp, cs, ws, rfl, hT, k, e⟩
  · obtain ⟨u1, u2, rfl, r1, r2⟩ := vals2 r
    have e2 := k.eq r2
    subst e2
    cases (show u1 = Value.ref a from r1)
    exact PySem.W.kia_one Z I.kIn J e (fun z => nomatch z) fun tk => ⟨.bl b, H, I.tok tk, rfl, q⟩
  · obtain ⟨u1, u2, rfl, r1, r2⟩ := vals2 r
    cases (show u1 = Value.ref a from r1)
    cases (show u2 = Value.ref tp from r2)
    obtain ⟨_, its, rv, o, h1, h2, n, h3⟩ := (show ObjOk X.prog X.w H s.heap tp (.tup cs) from I.hok tp _ hT)
    have e3 := ClsV.all k rv
    subst e3
    obtain ⟨oc, od', dt, sl⟩ := o
    simp only at h2 h3
    subst h2 h3
    exact PySem.W.kia_tup Z I.kIn J h1 e (fun z => nomatch z) fun tk => ⟨.bl b, H, I.tok tk, rfl, q⟩
end So
/-! ### sorted of a tuple -/
namespace So
open PySem PySem.W PySem.Calls PyProof.Rows
section
variable {prog : Program} {w : World} {A : Around} {E : Value → Shared → Prop} {s : Shared}
theorem collect_tup {t : Addr} {o : Obj} {vs : List Value} {n : Nat} {Q : List Value → Shared → Prop} (ho : s.heap.get? t = some o) (hc : o.cls = .type "tuple") (hd : o.data = .seq vs.toArray n) (hz : vs.length ≤ sizeLine)
    (q : Q vs { s with heap := (s.heap.push (seqObj "list" #[] 0)).update s.heap.objs.size (Obj.mapSeq (· ++ vs.toArray)) }) : wpAny (model prog w) A (collect (.ref t)) Q E s := by
  have at' : (s.heap.push (seqObj "list" #[] 0)).get? t = some o := Heap.get?_push_of_some _ ho
  have new' : (s.heap.push (seqObj "list" #[] 0)).get? s.heap.objs.size = some (seqObj "list" #[] 0) := Heap.get?_push_size _ rfl
  have tyT : Shared.TypeIs { s with heap := s.heap.push (seqObj "list" #[] 0) } (.ref t) "tuple" := ⟨o, at', hc⟩
  have fits : ((#[] : Array Value) ++ vs.toArray).size ≤ sizeLine + 1 := by
    rw [Array.size_append, List.size_toArray]
    simp only [List.size_toArray, List.length_nil]
    omega
  have same : ((#[] : Array Value) ++ vs.toArray).toList = vs := by simp
  unfold collect
  refine wpAny_bind (wpAny_runValue (codeAny_builtin entry_proto_collect' ?_))
  refine wpAny_bind (wpAny_newList (wpAny_pure ⟨Code.quiet_builtin _ (by decide +kernel), codeAny_builtin entry_list_iadd' ?_⟩))
  show wpAny _ _ (Builtin.List.listExtendWith (.ref s.heap.objs.size) (.ref t) (.ref s.heap.objs.size)) _ _ { s with heap := s.heap.push (seqObj "list" #[] 0) }
  refine wpAny_bind (wpAny_typeOf (T := "tuple") tyT ?_)
  rw [if_pos (by rw [show (Value.type "tuple" == Value.type "tuple") = true from by decide, Bool.or_true])]
  refine wpAny_bind (listItems_at at' hd (wpAny_bind (listItems_at (xs := #[]) (n := 0) new' rfl ?_)))
  rw [if_neg (by simp)]
  refine wpAny_bind (listUpdate_at (xs := #[]) (n := 0) new' rfl (wpAny_pure ?_) (Nat.zero_le _) fits)
  refine wpAny_bind (m := load s.heap.objs.size) (wpAny_load (get?_update_seq new' _) ?_)
  show wpAny _ _ (pure ((#[] : Array Value) ++ vs.toArray).toList) Q E _
  rw [same]
  exact wpAny_pure q
/-- sorted(t), t a tuple -/
theorem sorted_tup {t : Addr} {o : Obj} {vs : List Value} {n : Nat} {κ : PyProof.Rows.KeyKind} {Q : Value → Shared → Prop} (ho : s.heap.get? t = some o) (hc : o.cls = .type "tuple") (hd : o.data = .seq vs.toArray n) (hz : vs.length ≤ sizeLine)
    (S : SortsAt prog w A.in1.in1 { s with heap := sortingHeap (copyHeap s.heap vs) (s.heap.objs.size + 1) vs } κ vs)
    (q : Q (.ref (s.heap.objs.size + 1)) { s with heap := sortedAll s.heap vs (sortVals κ false vs vs).toArray }) : wpAny (model prog w) A (call (.builtin "sorted") [.ref t]) Q E s := by
  have hsz : ((s.heap.push (seqObj "list" #[] 0)).update s.heap.objs.size (Obj.mapSeq (· ++ vs.toArray))).objs.size = s.heap.objs.size + 1 := by rw [Heap.size_update, size_push']
  have inner : ∀ E' : Value → Shared → Prop, wpAny (model prog w) A.in1.in1 (Builtin.«list.sort» ⟨[.ref (s.heap.objs.size + 1)], []⟩) (fun f s' => f = .done (.ret .none) ∧ Q (.ref (s.heap.objs.size + 1)) s') E' { s with heap := copyHeap s.heap vs } := fun E' =>
    list_sort_vals (s := { s with heap := copyHeap s.heap vs }) (copyHeap_at s.heap vs) S hz ⟨rfl, q⟩
  refine Calls.call_function_entry kind_sorted plain_sorted entry_sorted (args_sorted1 _) ?_
  unfold Builtin.«sorted»
  refine wpAny_bind (m := checkCount "sorted" 1 1 _) (wpAny_pure (wpAny_bind (collect_tup ho hc hd hz (wpAny_bind (wpAny_newList ?_ hz)))))
  show wpAny _ _ _ _ _ { s with heap := copyHeap s.heap vs }
  rw [hsz]
  refine wpAny_bind (wpAny_holding (wpAny_call_entry slot_list_sort ⟨_, copyHeap_at s.heap vs, rfl⟩ entry_list_sort (wpAny_mono (inner _) (fun f s' h => ?_) fun _ _ x => x) (args_list_sort _)))
  obtain ⟨rfl, h⟩ := h
  exact ⟨_, rfl, wpAny_pure ⟨_, rfl, h⟩⟩
/-- what can be sorted -/
def Srt (ds : List PyData) : Prop := (AllAlike ds ∧ Sortable ds) ∨ Near ds
theorem sorts_any {vs : List Value} {ds : List PyData} (e : EachIs (fun v d => ∃ as, Reads s.heap v d as) vs ds) (S : Srt ds) (hu : ∀ d ∈ ds, A.units + d.depth < cLine) : SortsAt prog w A s (dataKind s.heap ds) vs := by
  rcases S with ⟨h1, h2⟩ | N
  · exact SortsAt.data e h1 h2 hu
  · exact sorts_near e N hu
theorem vals_any {h' : Heap} {β : Type} {R : Value → β → Prop} {f : β → PyData} {vs : List Value} {bs : List β} (e : EachIs R vs bs) (er : EachIs (fun v b => ∃ as, Reads h' v (f b) as) vs bs) (S : Srt (bs.map f)) :
    EachIs R (sortVals (dataKind h' (bs.map f)) false vs vs) (bs.mergeSort (dataLe false f)) := by
  rcases S with ⟨h1, _⟩ | N
  · exact sortVals_data false e er h1
  · exact vals_near e er N
end
end So
namespace L2
open PySem PySem.Spec PyProof.Rows
section
variable {X : Cx}
/-- sorted(xs), a list or a tuple -/
def rSortX (K : PySem.W.Frag) : List V → Hp → VK → Prop := fun us H Q => ∃ (a : Addr) (xs : List V) (ds : List PyData), us = [.ref a] ∧ (SqL K H a xs ∨ SqT K H a xs) ∧ DpAll K H xs ds ∧ So.Srt ds ∧ (∀ d ∈ ds, PyData.depth d ≤ 40) ∧
  ∀ l ws, H l = none → DpAll K H ws (ds.mergeSort (PySem.W.dataLe false id)) → Q (.ref l) (upd H l (.lst ws))
theorem cr_sortedX (hu : X.A.units + 64 < cLine) : CallR X (.builtin "sorted") (rSortX X.K) := by
  intro pins s σ H vs us Q I r h
  obtain ⟨a, xs, ds, rfl, hs, hd, hN, hdp, q⟩ := h
  rw [Vals.ref1 r]
  have key : ∀ {its : List Value}, Vals xs its → its.length ≤ sizeLine → (PySem.W.SortsAt X.prog X.w X.A.in1.in1 { s with heap := PySem.W.sortingHeap (PySem.W.copyHeap s.heap its) (s.heap.objs.size + 1) its } (PySem.W.dataKind (PySem.W.sortingHeap (PySem.W.copyHeap s.heap its) (s.heap.objs.size + 1) its) ((xs.zip ds).map Prod.snd)) its) ∧
      EP X pins σ Q (.ref (s.heap.objs.size + 1)) { s with heap := sortedAll s.heap its (PySem.W.sortVals (PySem.W.dataKind (PySem.W.sortingHeap (PySem.W.copyHeap s.heap its) (s.heap.objs.size + 1) its) ((xs.zip ds).map Prod.snd)) false its its).toArray } := fun {its} rv hz => by
    have e := each_zip rv hd
    have ez := zip_snd hd
    have lenI := rv.length
    have lenZ := e.length
    have pre : ∀ b o, s.heap.get? b = some o → (PySem.W.sortingHeap (PySem.W.copyHeap s.heap its) (s.heap.objs.size + 1) its).get? b = some o := fun b o q => PySem.W.sorting_copy_old q
    have er : PySem.W.EachIs (fun v (b : V × PyData) => ∃ as, Reads (PySem.W.sortingHeap (PySem.W.copyHeap s.heap its) (s.heap.objs.size + 1) its) v b.2 as) its (xs.zip ds) := e.mono fun u b ⟨h1, h2⟩ => by
      obtain ⟨as, z⟩ := Dp.reads I b.2 b.1 u h2 h1
      exact ⟨as, PyProof.Rows.Reads.keeps pre z⟩
    have N' : So.Srt ((xs.zip ds).map Prod.snd) := by rw [ez]; exact hN
    refine ⟨So.sorts_any (s := { s with heap := PySem.W.sortingHeap (PySem.W.copyHeap s.heap its) (s.heap.objs.size + 1) its }) (PySem.W.each_map (R := fun v d => ∃ as, Reads (PySem.W.sortingHeap (PySem.W.copyHeap s.heap its) (s.heap.objs.size + 1) its) v d as) Prod.snd er) N' (fun d m => by
      rw [ez] at m
      have := hdp d m
      show X.A.units + 2 + _ < _
      omega), ?_⟩
    obtain ⟨ep, he'⟩ := PyProof.Rows.sortedAll_at s.heap its (PySem.W.sortVals (PySem.W.dataKind (PySem.W.sortingHeap (PySem.W.copyHeap s.heap its) (s.heap.objs.size + 1) its) ((xs.zip ds).map Prod.snd)) false its its).toArray
    obtain ⟨b1, b2⟩ := each_back (So.vals_any e er N')
    have hm : ((xs.zip ds).mergeSort (PySem.W.dataLe false Prod.snd)).map Prod.snd = ds.mergeSort (PySem.W.dataLe false id) :=
      (List.map_mergeSort (r := PySem.W.dataLe false Prod.snd) (s := PySem.W.dataLe false id) (f := Prod.snd) (l := xs.zip ds) (fun _ _ _ _ => rfl)).trans (by rw [ez])
    rw [hm] at b2
    have hlen : (((xs.zip ds).mergeSort (PySem.W.dataLe false Prod.snd)).map Prod.fst).length ≤ sizeLine := by rw [List.length_map, List.length_mergeSort]; omega
    exact ⟨.ref _, upd H (s.heap.objs.size + 1) (.lst _), I.laid (t' := s.toks) (fun _ _ => PyProof.Rows.sortedAll_old) (Nat.le_succ _) ⟨hlen, _, ep, b1, he'⟩, rfl, q _ _ (I.hok.fresh (Nat.le_succ _)) b2⟩
  rcases hs with hs | hs
  · obtain ⟨its, rv, hl, hz⟩ := I.list hs
    have lenI := rv.length
    obtain ⟨k1, k2⟩ := key rv (by omega)
    exact PySem.W.sorted_vals hl.isList k1 (by omega) k2
  · obtain ⟨its, rv, ⟨o, e1, e2, n, e3⟩, hz⟩ := I.tuple hs
    have lenI := rv.length
    obtain ⟨k1, k2⟩ := key rv (by omega)
    exact So.sorted_tup e1 e2 e3 (by omega) k1 k2
end
end L2
namespace Tr
open PySem PySem.Spec PyProof.Rows L2 Evl Fx Fr Dt
theorem lt_div (x : Rat) {p q : Int} (hq : 0 < q) : decide (x.num * q < p * (x.den : Int)) = decide (x < Rat.divInt p q) := by
  rw [decide_eq_decide, Rat.lt_iff]
  have h1 : p * ((Rat.divInt p q).den : Int) = (Rat.divInt p q).num * q := by
    have := Rat.num_divInt_den (Rat.divInt p q)
    exact ((Rat.divInt_eq_divInt_iff (by omega) (den_ne _)).mp this.symm)
  generalize hn : (Rat.divInt p q).num = a at h1 ⊢
  have hd : (0 : Int) < ((Rat.divInt p q).den : Int) := by have := (Rat.divInt p q).den_pos; omega
  generalize ((Rat.divInt p q).den : Int) = b at h1 hd ⊢
  have e1 : x.num * q < p * (x.den : Int) ↔ x.num * q * b < p * (x.den : Int) * b := (Int.mul_lt_mul_right hd).symm
  have e2 : x.num * b < a * (x.den : Int) ↔ x.num * b * q < a * (x.den : Int) * q := (Int.mul_lt_mul_right hq).symm
  rw [e1, e2]
  have f1 : p * (x.den : Int) * b = a * (x.den : Int) * q := by grind
  have f2 : x.num * q * b = x.num * b * q := by grind
  rw [f1, f2]
theorem own_if {own : Rat} (h0 : 0 ≤ own) (h1 : own < 1) (c : Bool) : decide (own < if c = true then (1 : Rat) else 0) = c := by
  cases c with
  | true => exact decide_eq_true h1
  | false => exact decide_eq_false (fun h => by have h' : own < 0 := h; grind)
/-- a draw -/
def Lot (x : Rat) : Prop := Bd 60 x ∧ 0 ≤ x ∧ x < 1
theorem word_any (x : Pl) : ([("own" : Str), "shared"].any fun y => y == x.word) = true → (∃ p q, x = .own p q) ∨ ∃ p q, x = .shared p q := fun h => by
  cases x with
  | own p q => exact .inl ⟨p, q, rfl⟩
  | shared p q => exact .inr ⟨p, q, rfl⟩
  | caller => exact absurd h (by decide +kernel)
  | bad => exact absurd h (by decide +kernel)
  | late => exact absurd h (by decide +kernel)
  | never => exact absurd h (by decide +kernel)
theorem word_none (x : Pl) : ([("own" : Str), "shared"].any fun y => y == x.word) = false → (∀ p q, x ≠ .own p q) ∧ ∀ p q, x ≠ .shared p q := fun h => by
  cases x with
  | own p q => exact absurd h (by have : ([("own" : Str), "shared"].any fun y => y == ("own" : Str)) = true := by decide +kernel
                                  show ¬ ([("own" : Str), "shared"].any fun y => y == ("own" : Str)) = false
                                  rw [this]
                                  exact fun z => Bool.noConfusion z)
  | shared p q => exact absurd h (by have : ([("own" : Str), "shared"].any fun y => y == ("shared" : Str)) = true := by decide +kernel
                                     show ¬ ([("own" : Str), "shared"].any fun y => y == ("shared" : Str)) = false
                                     rw [this]
                                     exact fun z => Bool.noConfusion z)
  | _ => exact ⟨nofun, nofun⟩
theorem lsays_eq (x : Pl) (h : ∀ p q, x ≠ .own p q) (h2 : ∀ p q, x ≠ .shared p q) (bad late called : Bool) (draw : Rat) (hc : (x.word == ("caller" : Str)) = false) : (((x.word == ("bad" : Str)) && bad || ((x.word == ("late" : Str)) && late))) = x.says bad late called draw := by
  have e := says_eq x h bad late called draw
  have s : (x.word == ("shared" : Str)) = false := by
    cases hs : (x.word == ("shared" : Str)) with
    | false => rfl
    | true =>
      obtain ⟨p, q, rfl⟩ := word_shared hs
      exact absurd rfl (h2 p q)
  rw [s, hc, Bool.false_and, Bool.false_and, Bool.false_or, Bool.false_or] at e
  exact e
theorem lsays_caller {x : Pl} (hc : (x.word == ("caller" : Str)) = true) (bad late called : Bool) (draw : Rat) : x.says bad late called draw = called := by
  cases x with
  | caller => rfl
  | own p q => exact absurd hc (by have : (("own" : Str) == ("caller" : Str)) = false := by decide +kernel
                                   show ¬ (("own" : Str) == ("caller" : Str)) = true
                                   rw [this]
                                   exact Bool.false_ne_true)
  | shared p q => exact absurd hc (by have : (("shared" : Str) == ("caller" : Str)) = false := by decide +kernel
                                      show ¬ (("shared" : Str) == ("caller" : Str)) = true
                                      rw [this]
                                      exact Bool.false_ne_true)
  | bad => exact absurd hc (by decide +kernel)
  | late => exact absurd hc (by decide +kernel)
  | never => exact absurd hc (by decide +kernel)
end Tr
namespace K18
open PySem PySem.Spec PyProof.Rows L2 Evl Fx Fr Dt Tr
section
variable {P : Program} {w : World} {K : PySem.W.Frag} {mg : Str → Option Value} {base : Heap} {f f2 f3 : Addr} {fd fd2 fd3 : FuncData}
def spSays (K : PySem.W.Frag) : Sp := spD K fun ds d => ∃ (x : Pl) (mark : Int) (hb called : Bool) (lot own : Rat), x.Ok ∧ Lot lot ∧ Lot own ∧ ds = [x.D, .int mark, .bool hb, .bool called, frD lot, frD own] ∧ d = .bool (decide (own < x.chance (mark == 1) hb called lot))
end
end K18
namespace K18
open PySem PySem.Spec PyProof.Rows L2 Evl Fx Fr Dt Tr
def nKept : List Str := ["_law_root", "_law_acts", "_law_lot", "_law_owns", "_law_spans_here", "_law_found", "_law_table", "_law_has_bad", "_law_way", "_law_name", "_law_mark", "_law_own", "_law_act", "_law_is_called", "_law_parts", "_law_span", "_law_j", "_law_part"]
section
variable {P : Program} {w : World} {K : PySem.W.Frag} {mg : Str → Option Value} {base : Heap} {f f2 f3 : Addr} {fd fd2 fd3 : FuncData}
structure KeptOk2 (t : T) (rs : List (Str × Ru)) (ρ : Str → Ru) (dr : Rat) (ow : List (Rat × Rat)) : Prop where
  k : KeptOk t rs ρ dr ow
  six : Tr.size t ≤ 6
  lot : Lot dr
  lots : ∀ o ∈ ow, Lot o.1 ∧ Lot o.2
  nodup : (rs.map Prod.fst).Nodup
def spLKept (K : PySem.W.Frag) : Sp := spD K fun ds d => ∃ t rs ρ draw owns, KeptOk2 t rs ρ draw owns ∧ ds = [enc t, .tuple (rs.map rowD), frD draw, .tuple (owns.map mkD)] ∧ d = .tuple ((keptBy ρ t draw owns).map pathD)
end
end K18
namespace K18
open PySem PySem.Spec PyProof.Rows L2 Evl Fx Fr Dt Tr
section
variable {P : Program} {w : World} {K : PySem.W.Frag} {mg : Str → Option Value} {base : Heap} {f f2 f3 : Addr} {fd fd2 fd3 : FuncData}
def fl (l : Addr) (s r c : Int) : List V := [.ref l, .int s, .int r, .int c]
def FeedAt (H : Hp) (d l : Addr) (n : Nat) : Prop := ∃ (ns : List Int) (s r c : Int), H d = some (.lst (fl l s r c)) ∧ H l = some (.lst (ns.map V.int)) ∧ ns.length ≤ 63 ∧ 0 ≤ s ∧ 0 ≤ c ∧ c ≤ n ∧ l ≠ d
def spDraw : Sp := fun vs H Q _ => ∃ (d l : Addr) (many : Int) (n : Nat), vs = [.ref d, .int many] ∧ FeedAt H d l n ∧ n ≤ 1000000 ∧ 0 < many ∧ many < 2 ^ 60 ∧ ∀ H' r, Kp d H H' → FeedAt H' d l (n + 1) → 0 ≤ r → r < many → Q (.int r) H'
end
end K18
namespace K18
open PySem PySem.Spec PyProof.Rows L2 Evl Fx Fr Dt Tr
def FeedF (d l : Addr) : Fd := ⟨fun a => a = d, fun a => a = d ∨ a = l, fun n H => FeedAt H d l n, 1000000⟩
theorem FeedAt.loc {H H' : Hp} {d l : Addr} {n : Nat} (g : FeedAt H d l n) (k : ∀ a o, (a = d ∨ a = l) → H a = some o → H' a = some o) : FeedAt H' d l n := by
  obtain ⟨ns, s, r, c, h1, h2, h3⟩ := g
  exact ⟨ns, s, r, c, k _ _ (.inl rfl) h1, k _ _ (.inr rfl) h2, h3⟩
theorem FeedAt.up {H : Hp} {d l : Addr} {n m : Nat} (g : FeedAt H d l n) (h : n ≤ m) : FeedAt H d l m := by
  obtain ⟨ns, s, r, c, h1, h2, h3, h4, h5, h6, h7⟩ := g
  exact ⟨ns, s, r, c, h1, h2, h3, h4, h5, by omega, h7⟩
theorem FeedF.ok {d l : Addr} : (FeedF d l).Ok where
  sub := fun h => .inl h
  at_ := fun g t => by
    obtain ⟨ns, s, r, c, h1, h2, _⟩ := g
    rcases t with rfl | rfl
    · exact ⟨_, h1, .inl ⟨_, rfl⟩⟩
    · exact ⟨_, h2, .inl ⟨_, rfl⟩⟩
  loc := fun g k => g.loc k
  up := fun g h => g.up h
section
variable {P : Program} {w : World} {K : PySem.W.Frag} {mg : Str → Option Value} {base : Heap} {f f2 f3 : Addr} {fd fd2 fd3 : FuncData} {d l : Addr} {te ta tb : TE} {σ : L2.St} {H : Hp} {k ka kb n : Nat}
theorem kp_kx {H H' : Hp} (h : Kp d H H') : Kx (FeedF d l).S H H' := fun b o hb hn => h b o hb hn
theorem kx_kp {H H' : Hp} (h : Kx (FeedF d l).S H H') : Kp d H H' := fun b o hb hn => h b o hb hn
/-- a draw below many -/
def Below (many : Int) : VP := fun v _ => ∃ r, v = .int r ∧ 0 ≤ r ∧ r < many
theorem r_draw {many : Int} {E : XK} {i : Nat} (hd : σ[i]? = some (some (.ref d))) (hb : EvR (FeedF d l) tb σ H kb (fun x _ => x = .int many)) (h0 : 0 < many) (h1 : many < 2 ^ 60) : EvR (FeedF d l) (tCall spDraw [] E (tCons (tVar i) (tCons tb tNil))) σ H (kb + 1) (Below many) :=
  fun n H1 hn g e Q q => ⟨.ref d, hd, hb n H1 (by have : (FeedF d l).N = 1000000 := rfl; omega) g e _ fun y H2 e2 g2 ey => ⟨d, l, many, n + kb, by rw [ey]; rfl, g2, by have : (FeedF d l).N = 1000000 := rfl; omega, h0, h1, fun H3 r k3 g3 a1 a2 => q _ _ (e2.trans (kp_kx k3)) (by rw [← Nat.add_assoc]; exact g3) ⟨r, rfl, a1, a2⟩⟩⟩
/-- one of these data -/
def OneOf (K : PySem.W.Frag) (ds : List PyData) : VP := fun v H => ∃ x ∈ ds, Dp K H v x
theorem mono_one {F : Fd} {ds : List PyData} (o : F.Ok) (f : flats ds = true) : MonoF F (OneOf K ds) := fun n v H H' g e ⟨x, hx, p⟩ => ⟨x, hx, mono_d o (flats_all.mp f x hx) n _ _ _ g e p⟩
def spChoice (K : PySem.W.Frag) : Sp := fun vs H Q _ => ∃ (d l a : Addr) (xs : List V) (ds : List PyData) (n : Nat), vs = [.ref d, .ref a] ∧ FeedAt H d l n ∧ n + 1 ≤ 1000000 ∧ a ≠ d ∧ H a = some (.lst xs) ∧ DpAll K H xs ds ∧ flats ds = true ∧ ds ≠ [] ∧ ds.length ≤ 1000 ∧
  ∀ H' v, Kp d H H' → FeedAt H' d l (n + 1) → OneOf K ds v H' → Q v H'
theorem r_choice {E : XK} {i : Nat} {ds : List PyData} (hd : σ[i]? = some (some (.ref d))) (hb : EvR (FeedF d l) tb σ H kb (IsL (FeedF d l) K ds)) (hf : flats ds = true) (hne : ds ≠ []) (hl : ds.length ≤ 1000) : EvR (FeedF d l) (tCall (spChoice K) [] E (tCons (tVar i) (tCons tb tNil))) σ H (kb + 1) (OneOf K ds) :=
  fun n H1 hn g e Q q => ⟨.ref d, hd, hb n H1 (by have : (FeedF d l).N = 1000000 := rfl; omega) g e _ fun y H2 e2 g2 ⟨a, xs, ey, hT, ha, hx⟩ => ⟨d, l, a, xs, ds, n + kb, by rw [ey]; rfl, g2, by have : (FeedF d l).N = 1000000 := rfl; omega, fun z => hT (.inl z), ha, hx, hf, hne, hl, fun H3 v k3 g3 p => q _ _ (e2.trans (kp_kx k3)) (by rw [← Nat.add_assoc]; exact g3) p⟩⟩
end
end K18
namespace Tr
open PySem PySem.Spec PyProof.Rows L2 Evl Fx Fr Dt
theorem lot_of {x : Rat} (h0 : 0 ≤ x.num) (h1 : x.num < (x.den : Int)) (h2 : x.den < 2 ^ 60) : Lot x := by
  refine ⟨⟨by omega, h2⟩, Rat.num_nonneg.mp h0, ?_⟩
  rw [Rat.lt_iff]
  have e1 : (1 : Rat).den = 1 := rfl
  have e2 : (1 : Rat).num = 1 := rfl
  rw [e1, e2]
  omega
def lots : List Rat := [⟨0, 1, by decide, by decide⟩, ⟨1, 2, by decide, by decide⟩, ⟨1, 3, by decide, by decide⟩, ⟨11, 12, by decide, by decide⟩, ⟨1, 12, by decide, by decide⟩, ⟨5, 12, by decide, by decide⟩, ⟨3, 4, by decide, by decide⟩, ⟨1, 6, by decide, by decide⟩, ⟨2, 3, by decide, by decide⟩, ⟨1, 4, by decide, by decide⟩, ⟨99, 100, by decide, by decide⟩]
theorem lots_lot : ∀ x ∈ lots, Lot x := by
  intro x hx
  simp only [lots, List.mem_cons, List.not_mem_nil, or_false] at hx
  rcases hx with rfl | rfl | rfl | rfl | rfl | rfl | rfl | rfl | rfl | rfl | rfl <;> exact lot_of (by decide) (by decide) (by decide)
theorem lots_flat : flats (lots.map frD) = true := flats_all.mpr fun d hd => by
  obtain ⟨b, _, rfl⟩ := List.mem_map.mp hd
  rfl
def Pl.Sm (x : Pl) : Prop := ∀ i : Int, PyData.int i ∈ x.more → i.natAbs < 1000
theorem sm_two {x : Pl} {p q : Int} (e : x.more = [.int p, .int q]) (h1 : p.natAbs < 1000) (h2 : q.natAbs < 1000) : x.Sm := fun i hi => by
  rw [e] at hi
  simp only [List.mem_cons, List.not_mem_nil, or_false, PyData.int.injEq] at hi
  rcases hi with rfl | rfl <;> assumption
theorem sm_nil {x : Pl} (e : x.more = []) : x.Sm := fun i hi => by
  rw [e] at hi
  cases hi
def lows : List Int := [2, 3, 1, 4, 6, 12]
def wordsP : List Str := ["own", "own", "shared", "caller", "bad", "late", "never", "shared"]
end Tr
namespace K18
open PySem PySem.Spec PyProof.Rows L2 Evl Fx Fr Dt Tr
section
variable {P : Program} {w : World} {K : PySem.W.Frag} {mg : Str → Option Value} {base : Heap} {f f2 f3 : Addr} {fd fd2 fd3 : FuncData} {d l : Addr} {te ta tb : TE} {σ : L2.St} {H : Hp} {k ka kb n : Nat}
/-- a def of the feed alone: m draws, a value of which Pm holds -/
def spFeedM (m : Nat) (Pm : VP) : Sp := fun vs H Q _ => ∃ (d l : Addr) (n : Nat), vs = [.ref d] ∧ FeedAt H d l n ∧ n + m ≤ 1000000 ∧ ∀ H' v, Kp d H H' → FeedAt H' d l (n + m) → Pm v H' → Q v H'
def LotD (K : PySem.W.Frag) : VP := fun v H => ∃ x, x ∈ lots ∧ Dp K H v (frD x)
def PlD (K : PySem.W.Frag) : VP := fun v H => ∃ x : Pl, x.Ok ∧ x.Sm ∧ Dp K H v x.D
theorem r_feedM {m : Nat} {Pm : VP} {E : XK} {i : Nat} (hd : σ[i]? = some (some (.ref d))) : EvR (FeedF d l) (tCall (spFeedM m Pm) [] E (tCons (tVar i) tNil)) σ H m Pm :=
  fun n H1 hn g e Q q => ⟨.ref d, hd, d, l, n, rfl, g, by have : (FeedF d l).N = 1000000 := rfl; omega, fun H3 v k3 g3 p => q _ _ (kp_kx k3) g3 p⟩
theorem ra_nilP {F : Fd} : EvRA F tNil σ H 0 (fun vs _ => vs = []) := fun n1 H1 hn g e Q q => q _ H1 Kx.refl g rfl
theorem ra_consP {F : Fd} {tr : TA} {Px : VP} {Pr : List V → Hp → Prop} (m : MonoF F Px) (h : EvR F te σ H ka Px) (hr : EvRA F tr σ H kb Pr) : EvRA F (tCons te tr) σ H (ka + kb) (fun vs H => ∃ x r, vs = x :: r ∧ Px x H ∧ Pr r H) :=
  fun n H1 hn g e Q q => h n H1 (by omega) g e _ fun x H2 e2 g2 p => hr (n + ka) H2 (by omega) g2 (e.trans e2) _ fun vs H3 e3 g3 p' => q (x :: vs) H3 (e2.trans e3) (by rw [← Nat.add_assoc]; exact g3) ⟨x, vs, rfl, m _ _ _ _ g2 e3 p, p'⟩
theorem r_tupP {F : Fd} {tr : TA} {Pr : List V → Hp → Prop} (o : F.Ok) (m : MonoA F Pr) (h : EvRA F tr σ H ka Pr) (hl : ∀ vs H, Pr vs H → vs.length ≤ 100000) : EvR F (tTup tr) σ H ka (fun v H => ∃ p vs, v = .ref p ∧ H p = some (.tup vs) ∧ Pr vs H) :=
  fun n H1 hn g e Q q => h n H1 hn g e _ fun vs H2 e2 g2 p => ⟨sz_of (hl _ _ p), fun a ha => q (.ref a) _ (e2.trans (Kx.ex (Ex.new ha))) (o.ex g2 (Ex.new ha)) ⟨a, vs, rfl, upd_same, m _ _ _ _ g2 (Kx.ex (Ex.new ha)) p⟩⟩
theorem mono_below {F : Fd} {m : Int} : MonoF F (Below m) := fun _ _ _ _ _ _ p => p
theorem mono_nilP {F : Fd} : MonoA F (fun vs _ => vs = []) := fun _ _ _ _ _ _ p => p
theorem mono_consP {F : Fd} {Px : VP} {Pr : List V → Hp → Prop} (m : MonoF F Px) (m' : MonoA F Pr) : MonoA F (fun vs H => ∃ x r, vs = x :: r ∧ Px x H ∧ Pr r H) := fun n v H H' g e ⟨x, r, h1, h2, h3⟩ => ⟨x, r, h1, m n _ _ _ g e h2, m' n _ _ _ g e h3⟩
theorem ra_frs {F : Fd} (o : F.Ok) : EvRA F (tCons (tTup (tCons (tC (.int 0)) (tCons (tC (.int 1)) tNil))) (tCons (tTup (tCons (tC (.int 1)) (tCons (tC (.int 2)) tNil))) (tCons (tTup (tCons (tC (.int 1)) (tCons (tC (.int 3)) tNil))) (tCons (tTup (tCons (tC (.int 11)) (tCons (tC (.int 12)) tNil))) (tCons (tTup (tCons (tC (.int 1)) (tCons (tC (.int 12)) tNil))) (tCons (tTup (tCons (tC (.int 5)) (tCons (tC (.int 12)) tNil)))
    (tCons (tTup (tCons (tC (.int 3)) (tCons (tC (.int 4)) tNil))) (tCons (tTup (tCons (tC (.int 1)) (tCons (tC (.int 6)) tNil))) (tCons (tTup (tCons (tC (.int 2)) (tCons (tC (.int 3)) tNil))) (tCons (tTup (tCons (tC (.int 1)) (tCons (tC (.int 4)) tNil))) (tCons (tTup (tCons (tC (.int 99)) (tCons (tC (.int 100)) tNil))) tNil))))))))))) σ H 0 (fun vs H => DpAll K H vs (lots.map frD)) := by
  have pr : ∀ {p q : Int}, EvR F (tTup (tCons (tC (.int p)) (tCons (tC (.int q)) tNil))) σ H 0 (IsD K (.tuple [.int p, .int q])) := fun {p q} => rd_tup o (ra_cons (ka := 0) (kb := 0) o rd_int (ra_cons (ka := 0) (kb := 0) o rd_int ra_nil))
  exact ra_cons (ka := 0) (kb := 0) o pr (ra_cons (ka := 0) (kb := 0) o pr (ra_cons (ka := 0) (kb := 0) o pr (ra_cons (ka := 0) (kb := 0) o pr (ra_cons (ka := 0) (kb := 0) o pr (ra_cons (ka := 0) (kb := 0) o pr (ra_cons (ka := 0) (kb := 0) o pr (ra_cons (ka := 0) (kb := 0) o pr (ra_cons (ka := 0) (kb := 0) o pr (ra_cons (ka := 0) (kb := 0) o pr (ra_cons (ka := 0) (kb := 0) o pr ra_nil))))))))))
end
end K18
namespace Tr
open PySem PySem.Spec PyProof.Rows L2 Evl Fx Dt
open PySem.W (alike alikeAll AllAlike Sortable dataLe)
mutual
theorem enc_alike : ∀ a b : T, alike (enc a) (enc b) = true
  | .mk s m cs, .mk s' m' cs' => by
    rw [enc, enc]
    simp only [alike, alikeAll, Bool.true_and, Bool.and_true]
    exact encs_alike cs cs'
theorem encs_alike : ∀ a b : List T, alikeAll (encs a) (encs b) = true
  | [], _ => by rw [encs]; simp [alikeAll]
  | _ :: _, [] => by rw [encs, encs]; simp [alikeAll]
  | x :: xs, y :: ys => by rw [encs, encs, alikeAll, enc_alike x y, encs_alike xs ys]; rfl
end
mutual
theorem enc_depth : ∀ t : T, PyData.depth (enc t) ≤ 2 * size t
  | .mk s m cs => by
    have := encs_depth cs
    rw [enc, size]
    simp only [PyData.depth, PyData.depthAll]
    omega
theorem encs_depth : ∀ ts : List T, PyData.depthAll (encs ts) ≤ 2 * sizes ts
  | [] => by rw [encs]; simp [PyData.depthAll]
  | t :: ts => by
    have h1 := enc_depth t
    have h2 := encs_depth ts
    rw [encs, sizes, PyData.depthAll]
    omega
end
theorem all_alike (ts : List T) : AllAlike (ts.map enc) := fun d hd d' hd' => by
  obtain ⟨a, _, rfl⟩ := List.mem_map.mp hd
  obtain ⟨b, _, rfl⟩ := List.mem_map.mp hd'
  exact enc_alike a b
theorem all_sortable (ts : List T) : Sortable (ts.map enc) := .inl fun d hd => by
  obtain ⟨a, _, rfl⟩ := List.mem_map.mp hd
  exact ⟨_, _, enc_eq a⟩
def sortT (ts : List T) : List T := ts.mergeSort fun a b => dataLe false id (enc a) (enc b)
theorem sort_map (ts : List T) : (ts.map enc).mergeSort (dataLe false id) = (sortT ts).map enc :=
  (List.map_mergeSort (r := fun a b => dataLe false id (enc a) (enc b)) (s := dataLe false id) (f := enc) (l := ts) (fun _ _ _ _ => rfl)).symm
theorem sort_perm (ts : List T) : (sortT ts).Perm ts := List.mergeSort_perm _ _
theorem sizes_perm {a b : List T} (h : a.Perm b) : sizes a = sizes b := by
  induction h with
  | nil => rfl
  | cons x _ ih => rw [sizes, sizes, ih]
  | swap x y l => rw [sizes, sizes, sizes, sizes]; omega
  | trans _ _ h1 h2 => exact h1.trans h2
theorem mem_subsA : ∀ {ts : List T} {s : T}, s ∈ subsA ts → ∃ c ∈ ts, s ∈ subs c
  | [], s, h => by rw [subsA] at h; cases h
  | t :: ts, s, h => by
    rw [subsA, List.mem_append] at h
    rcases h with h | h
    · exact ⟨t, List.mem_cons_self .., h⟩
    · obtain ⟨c, hc, hs⟩ := mem_subsA h
      exact ⟨c, List.mem_cons_of_mem _ hc, hs⟩
theorem depth_mem {ts : List T} : ∀ d ∈ ts.map enc, PyData.depth d ≤ 2 * sizes ts := fun d hd => by
  obtain ⟨a, ha, rfl⟩ := List.mem_map.mp hd
  obtain ⟨i, hi, rfl⟩ := List.getElem_of_mem ha
  have h1 := enc_depth ts[i]
  have h2 : size ts[i] ≤ sizes ts := by
    have : ∀ {ts : List T} {i : Nat} {c : T}, ts[i]? = some c → size c ≤ sizes ts := fun h => size_mem h
    exact this (List.getElem?_eq_getElem hi)
  omega
end Tr
namespace Dt
open PySem PySem.Spec PyProof.Rows L2 Evl Fx
theorem q_forRg {F : Fd} {te : TE} {σ : L2.St} {H : Hp} {k n j : Nat} {P : VP} {tb tz : TS} {D : Ends} (h : EvR F te σ H k P) (g0 : F.G n H) (hn : n + k ≤ F.N)
    (kk : ∀ v H1, Kx F.S H H1 → F.G (n + k) H1 → P v H1 → ∃ (m : Nat) (Pv : Nat → L2.St → Hp → Prop), v = .int (m : Int) ∧ m ≤ 40000 ∧ Pv 0 σ H1 ∧ (∀ i σ' H', i < m → Pv i σ' H' → tb { D with nx := Pv (i + 1), ct := Pv (i + 1), bk := tz D } (σ'.set j (some (.int (i : Int)))) H') ∧ ∀ σ' H', Pv m σ' H' → tz D σ' H') :
    tSeq (tFor (iRng1 (tCons te tNil)) (gName j) tb) tz D σ H := h n H hn g0 Kx.refl _ fun v H1 e1 g1 p => by
  obtain ⟨m, Pv, rfl, hm, h0, hs, hd⟩ := kk v H1 e1 g1 p
  refine ⟨(m : Int), rfl, by omega, by omega, ?_⟩
  rw [Int.toNat_natCast]
  exact for_range (lo := 0) (n := m) Pv h0 (fun i σ' H' hi p => by
    have e0 : (0 : Int) + (i : Int) = (i : Int) := Int.zero_add _
    show tb { D with nx := Pv (i + 1), ct := Pv (i + 1), bk := tz D } (σ'.set j (some (.int ((0 : Int) + (i : Int))))) H'
    rw [e0]
    exact hs i σ' H' hi p) hd
end Dt
namespace K18
open PySem PySem.Spec PyProof.Rows L2 Evl Fx Fr Dt Tr
def LeftF (d l e : Addr) : Fd := ⟨fun a => a = d ∨ a = e, fun a => a = d ∨ a = l ∨ a = e, fun n H => FeedAt H d l n ∧ e ≠ d ∧ e ≠ l ∧ ∃ k : Nat, H e = some (.lst [.int (k : Int)]), 1000000⟩
theorem LeftF.ok {d l e : Addr} : (LeftF d l e).Ok where
  sub := fun h => h.elim (fun h => .inl h) fun h => .inr (.inr h)
  at_ := fun {n H a} g t => by
    obtain ⟨⟨ns, s, r, c, h1, h2, _⟩, _, _, k, h3⟩ := g
    rcases t with rfl | rfl | rfl
    · exact ⟨_, h1, .inl ⟨_, rfl⟩⟩
    · exact ⟨_, h2, .inl ⟨_, rfl⟩⟩
    · exact ⟨_, h3, .inl ⟨_, rfl⟩⟩
  loc := fun g k => ⟨g.1.loc fun a o t => k a o (t.elim (fun h => .inl h) fun h => .inr (.inl h)), g.2.1, g.2.2.1, by
    obtain ⟨_, _, _, m, h⟩ := g
    exact ⟨m, k _ _ (.inr (.inr rfl)) h⟩⟩
  up := fun g h => ⟨g.1.up h, g.2⟩
section
variable {P : Program} {w : World} {K : PySem.W.Frag} {mg : Str → Option Value} {base : Heap} {f f2 f3 : Addr} {fd fd2 fd3 : FuncData} {d l e : Addr} {te ta tb : TE} {σ : L2.St} {H : Hp} {k ka kb n : Nat}
def Nice (t : T) : Prop := ∀ s ∈ subs t, (s.name = "db" ∨ s.name = "front" ∨ s.name = "pay") ∧ (s.mark = 0 ∨ s.mark = 1)
/-- a tree, m calls left at the most: what it uses of them -/
def spTree (K : PySem.W.Frag) (m : Nat) : Sp := fun vs H Q _ => ∃ (d l e : Addr) (deep n k : Nat), vs = [.ref d, .ref e, .int (deep : Int)] ∧ deep < m ∧ FeedAt H d l n ∧ e ≠ d ∧ e ≠ l ∧ H e = some (.lst [.int (k : Int)]) ∧ k ≤ 10 ∧ n + 3 * (1 + k) ≤ 1000000 ∧
  ∀ H' v t k', Kx (LeftF d l e).S H H' → size t + k' ≤ 1 + k → FeedAt H' d l (n + 3 * size t) → H' e = some (.lst [.int ((k' : Nat) : Int)]) → Nice t → Dp K H' v (enc t) → Q v H'
end
end K18
namespace Tr
open PySem PySem.Spec PyProof.Rows L2
def leaf (s : Str) (m : Int) : T := .mk s m []
def docT : List T := [leaf "front" 0, .mk "front" 0 [leaf "pay" 0], .mk "front" 0 [leaf "pay" 1]]
def docR : List (Str × Ru) := [("front", .one (.own 1 2)), ("pay", .one .bad)]
end Tr
namespace K18
open PySem PySem.Spec PyProof.Rows L2 Evl Fx Fr Dt Tr
section
variable {P : Program} {w : World} {K : PySem.W.Frag} {mg : Str → Option Value} {base : Heap} {f f2 f3 : Addr} {fd fd2 fd3 : FuncData}
def spDoc (K : PySem.W.Frag) : Sp := spD K fun ds d => ds = [] ∧ d = .tuple [.tuple (docT.map enc), .tuple (docR.map rowD)]
end
end K18
namespace Tr
open PySem PySem.Spec PyProof.Rows L2
def sixT : List T := [.mk "front" 0 [.mk "db" 0 [leaf "pay" 0], .mk "db" 0 [leaf "pay" 0, leaf "pay" 1]], .mk "front" 0 [leaf "db" 0, leaf "db" 0, leaf "db" 0, leaf "pay" 0, leaf "pay" 1]]
end Tr
namespace Dt
open PySem PySem.Spec PyProof.Rows L2 Evl Fx
section
variable {F : Fd} {K : PySem.W.Frag} {ta : TE} {σ : L2.St} {H : Hp} {ka : Nat} {ds : List PyData}
theorem dps_rep {vs : List V} (h : DpAll K H vs ds) : ∀ k : Nat, DpAll K H (List.replicate k vs).flatten (List.replicate k ds).flatten
  | 0 => .nil
  | k + 1 => by
    rw [List.replicate_succ, List.replicate_succ, List.flatten_cons, List.flatten_cons]
    exact dps_app h (dps_rep h k)
/-- t * k, a written k -/
theorem rd_rep {k : Nat} (o : F.Ok) (h : EvR F ta σ H ka (IsD K (.tuple ds))) (hne : ds ≠ []) (h1 : 2 ≤ k) (h2 : k ≤ 1000) (hl : ds.length ≤ 1000) : EvR F (tOp (rRepT K) ta (tC (.int (k : Int)))) σ H ka (IsD K (.tuple (List.replicate k ds).flatten)) := fun n H1 hn g e Q q => h n H1 hn g e _ fun v H2 e2 g2 hd => by
  cases hd with
  | @tup a xs _ ha hx =>
  have lx := dps_len hx
  refine ⟨a, (k : Int), xs, rfl, rfl, ha, ?_, by omega, by omega, by omega, fun p hp => q _ _ (e2.trans (Kx.ex (Ex.new hp))) (o.ex g2 (Ex.new hp)) (.tup (st_of upd_same) (dps_ex (Ex.new hp) _ _ ?_))⟩
  · rintro rfl
    cases ds with
    | nil => exact hne rfl
    | cons _ _ => simp at lx
  · rw [Int.toNat_natCast]
    exact dps_rep hx k
end
end Dt
namespace K18
open PySem PySem.Spec PyProof.Rows L2 Evl Fx Fr Dt Tr
section
variable {P : Program} {w : World} {K : PySem.W.Frag} {mg : Str → Option Value} {base : Heap} {f f2 f3 : Addr} {fd fd2 fd3 : FuncData}
def spSix (K : PySem.W.Frag) : Sp := spL K fun ds es => ds = [] ∧ es = sixT.map enc
theorem rd_node {F : Fd} {ta : TE} {σ : L2.St} {H : Hp} {s : Str} {m : Int} {cs : List T} (o : F.Ok) (h : EvR F ta σ H 0 (IsD K (.tuple (cs.map enc)))) : EvR F (tTup (tCons (tC (.str s)) (tCons (tC (.int m)) (tCons ta tNil)))) σ H 0 (IsD K (enc (.mk s m cs))) :=
  (rd_tup o (ra_cons (ka := 0) (kb := 0) o rd_str (ra_cons (ka := 0) (kb := 0) o rd_int (ra_cons (ka := 0) (kb := 0) o h ra_nil (maps_flat cs)))) (flats_cons.mpr ⟨rfl, flats_cons.mpr ⟨rfl, flats_cons.mpr ⟨maps_flat cs, rfl⟩⟩⟩)).cast (enc_eq (.mk s m cs)).symm
end
end K18
namespace K18
open PySem PySem.Spec PyProof.Rows L2 Evl Fx Fr Dt Tr
section
variable {P : Program} {w : World} {K : PySem.W.Frag} {mg : Str → Option Value} {base : Heap} {f f2 f3 : Addr} {fd fd2 fd3 : FuncData}
def spFeed (K : PySem.W.Frag) : Sp := fun vs H Q _ => ∃ (a : Addr) (ns : List Int), vs = [.ref a] ∧ SqL K H a (ns.map V.int) ∧ ∀ H' d l, Ex H H' → H d = none → FeedAt H' d l 0 → Q (.ref d) H'
end
end K18
/-! ### defs whose activation is told to hold no guards; repr of data -/
namespace DtG
open PySem PySem.Spec PyProof.Rows L2
/-- as FnOk, where the caller holds no guards -/
structure FnG (P : Program) (w : World) (K : PySem.W.Frag) (mg : Str → Option Value) (base : Heap) (CX : CXT) (k : Nat) (f : Addr) (fd : FuncData) (ps : List Str) (sp : Sp) : Prop where
  len : ∀ vs H Q E, sp vs H Q E → vs.length = ps.length
  run : ∀ (A : Around) (outer : List Env) (s : Shared) (H : Hp) (args : Args) (us : List Value) (vs : List V) (Q : VK) (E : XK), A.guards = some [] → Room k A → Env0 P w K mg base A outer s H → BindsTo s fd args (ps.zip us) → Vals vs us → sp vs H Q E →
    codeAny (model P w) A (.call (.ref f) args) (CR CX outer P w H s Q E) s
theorem deeper_guards {A : Around} {env : Env} (h : A.guards = some []) : (A.deeper env).guards = some [] := h
section
variable {P : Program} {w : World} {K : PySem.W.Frag} {mg : Str → Option Value} {base : Heap}
/-- by its body -/
theorem okG {x qual : Str} {st : Stmt} {f : Addr} {fd : FuncData} {N ps : List Str} {k : Nat} {sp : Sp} (F : L2.Fun K x qual st f fd) (S : FnScope N ps (defScope st)) (len : ∀ vs H Q E, sp vs H Q E → vs.length = ps.length)
    (hbody : ∀ (cdv : Value) (A : Around) (outer : List Env) (s : Shared) (H : Hp) (vs : List V) (Q : VK) (E : XK), (A.deeper (envOfC qual (defScope st) s.heap.objs.size f cdv)).guards = some [] → Room k (A.deeper (envOfC qual (defScope st) s.heap.objs.size f cdv)) → sp vs H Q E →
      ∃ t, PSs (cxOf CX0 P w K mg base N qual (defScope st) f cdv A outer s H E).nox (defBody st) t ∧ t { nx := fun _ H' => Q .non H', rt := Q } (start N vs) H) : FnG P w K mg base CX0 (k + 1) f fd ps sp := by
  obtain ⟨oc, od, kV, doc, pm, an, cdv, ct, osl, rfl, lk, hcd⟩ := F.ex
  refine ⟨len, fun A outer s H args us vs Q E hg hr e0 hb r hsp => ?_⟩
  have keep : ∀ b o, base.get? b = some o → s.heap.get? b = some o := fun b o e => (e0.bs b o e).1
  have KX : K.In s.heap := e0.mod.kin.keeps keep
  have names : ∀ y ∈ ps.zip us, (defScope st).names.lookup y.1 = some .local ∨ ((defScope st).names.lookup y.1 = some .cell ∧ ((cellsFrom (s.heap.objs.size + 1) (defScope st).names []).lookup y.1).isSome = true) := by
    rintro ⟨x, v⟩ hy
    exact (S.par x (List.of_mem_zip hy).1).imp id fun q => ⟨q, PySem.W.cellsFrom_some _ _ _ (.inl q)⟩
  refine codeAny_call_function hr.depth (KX _ _ lk) rfl S.co S.gen rfl (PySem.W.codeRec_of KX hcd) (hb _ _ _ _ (wpAny_newFunctionEnv_cells S.kind names ?_))
  intro env he s1 x
  subst he
  obtain ⟨t, ht, hq⟩ := hbody cdv A outer s H vs Q E (deeper_guards hg) (hr.deeper _) hsp
  have I : Inv (cxOf CX0 P w K mg base N qual (defScope st) f cdv A outer s H E) [] (start N vs) H s1 := inv_start S hr.hd e0 (len _ _ _ _ hsp) r x
  refine ⟨(e0.mod.nolimit.keeps keep).keeps x.toInCall.keep, codeAny_func (wpAny_mono (ht.nox.run [] s1 (start N vs) H _ I hq) (fun fl s' hs => ?_) fun e s' hs => hs)⟩
  cases fl with
  | ret u =>
    obtain ⟨v, σ', H', J, rv, q⟩ := hs
    exact ⟨v, H', J.os, J.bare, J.base, J.hok, rv, q⟩
  | next =>
    obtain ⟨σ', H', J, q⟩ := hs
    exact ⟨V.non, H', J.os, J.bare, J.base, J.hok, rfl, q⟩
  | brk =>
    obtain ⟨_, _, _, q⟩ := hs
    exact False.elim q
  | cont =>
    obtain ⟨_, _, _, q⟩ := hs
    exact False.elim q
end
section
variable {X : Cx}
def rReprD (K : PySem.W.Frag) : List V → Hp → VK → Prop := fun xs H Q => ∃ (a : Addr) (d : PyData), xs = [.ref a] ∧ Dp K H (.ref a) d ∧ d.showable = true ∧ d.hasDict = false ∧ d.depth ≤ 60 ∧ d.shown.length ≤ sizeLine ∧ Q (.str d.shown) H
theorem cr_reprD (hg : X.A.guards = some []) (hu : X.A.units + 64 < cLine) : CallR X (.builtin "repr") (rReprD X.K) := by
  intro pins s σ H xs us Q I r h
  obtain ⟨a, d, rfl, hd, h1, h2, h3, h4, q⟩ := h
  obtain ⟨u, rfl, ru⟩ := vals1 r
  cases ru
  obtain ⟨as, rd⟩ := Dp.reads I d (.ref a) (.ref a) hd rfl
  exact repr_of_reads' rd h1 (fun h => by rw [h2] at h; cases h) hg (by omega) (fun _ _ e => e) (fun h' u tk k => ⟨.str d.shown, H, I.kept (t' := tk) k, ⟨_, rfl⟩, q⟩) h4
/-- a call of such a def by its name -/
theorem pe_callG {k : Nat} {f : Addr} {fd : FuncData} {ps : List Str} {sp : Sp} {x : Str} {p pos : Pos} {e : Expr} {es : List Expr} {t : TA} {E : XK} (G : FnG X.prog X.w X.K X.mg X.base CX0 k f fd ps sp) (hgd : X.A.guards = some []) (hr : Room k X.A) (hg : Gl X x) (hm : X.mg x = some (.ref f)) (hk : PySem.W.keepIn X.K (.ref f) = true) (hb : L2.Binds X.K fd ps []) (hx : Passes CX0 X E)
    (ha : PA X (e :: es) t) (hdb : (x == ("__debug__" : Str)) = false := by decide) (he : starEach (e :: es) X.env = (false, eval e X.env) :: starEach es X.env := by rfl) (hpl : (backTo pos (starEach es X.env)).any (·.1) = false := by rfl) :
    PE X (.Call (.Name x p) (e :: es) [] pos) (tCall sp [] E t) := by
  refine ⟨fun pins s σ H Q I h => ?_⟩
  refine wpAny_Call_Name_kw (ld_glob I hg hm ?_ hdb)
  refine PySem.W.callWith_K (h₀ := X.base) I.ok.mod.kin hk (thn (ha.run pos pins s σ H _ I h) fun us s1 ⟨vs, H1, I1, r, q⟩ => ⟨I1.kIn, ?_⟩) he hpl
  replace q : sp (vs ++ []) H1 Q E := q
  rw [List.append_nil] at q
  have hl : us.length = ps.length := by rw [← r.length]; exact G.len _ _ _ _ q
  have hb' : BindsTo s1 fd ⟨us, []⟩ (ps.zip us) := by
    have := hb s1 us I1.kIn (by rw [List.append_nil]; exact hl)
    rwa [List.append_nil] at this
  refine wpAny_call (codeAny_mono (G.run X.A X.stack s1 H1 ⟨us, []⟩ us vs Q E hgd hr I1.env0 hb' r q) fun r s' hq => ?_)
  cases r with
  | error e => exact hx pins σ H1 s1 e s' I1 hq
  | ok fl =>
    cases fl with
    | ret u => exact I1.after hq
    | next => exact False.elim hq
    | brk => exact False.elim hq
    | cont => exact False.elim hq
end
end DtG
/-! ### a law's call, where the caller holds no guards -/
namespace DtG
open PySem PySem.Spec PyProof.Rows L2
section
variable {P : Program} {w : World} {K : PySem.W.Frag} {mg mb : Str → Option Value} {s : Shared} {a : Addr} {vs : List Value} {H : Hp}
/-- the world of a call that tracks the script at the most -/
theorem env_script (KX : K.In s.heap) (hns : s.heap.Ns mainGlobals mg) (hb : s.heap.Ns builtinsNs mb) (hbb : ∀ x : Str, x ≠ "__name__" → mb x = bootBuiltins x) (hlim : s.heap.NoLimit) (hg : s.gens = #[])
    (ha : s.heap.get? a = some { cls := .type "list", data := .seq vs.toArray }) (hok : HOk P w H s.heap) (hA : ∀ b, H b ≠ none → b = a) (hK : H a ≠ none → K.lookup a = none) :
    K.In (hidT s.heap H) ∧ (hidT s.heap H).Ns mainGlobals mg ∧ Env0 P w K mg (hidT s.heap H) callerA [] s H := by
  have free : ∀ {b : Addr} {o : Obj}, s.heap.get? b = some o → (b = a → H b = none) → (hidT s.heap H).get? b = some o := fun {b o} e h => hidT_get e (by
    cases q : H b with
    | none => rfl
    | some u =>
      have e' : b = a := hA b (by rw [q]; exact Option.some_ne_none _)
      rw [h e'] at q
      cases q)
  have names : ∀ {b : Addr} {m : Str → Option Value}, s.heap.Ns b m → (hidT s.heap H).Ns b m := fun {b m} ⟨o, es, ep, e, d, r⟩ => ⟨o, es, ep, free e (fun z => by
    subst z
    rw [ha] at e
    cases e
    cases (show Data.seq vs.toArray _ = Data.dict es ep from d)), d, r⟩
  have kin : K.In (hidT s.heap H) := fun b o e => free (KX b o e) fun z => by
    subst z
    cases q : H b with
    | none => rfl
    | some u =>
      rw [hK (by rw [q]; exact Option.some_ne_none _)] at e
      cases e
  refine ⟨kin, names hns, ⟨rfl, ⟨kin, names hns, ⟨mb, names hb, hbb⟩, ?_⟩, fun b o e => of_hidT e, Nat.le_of_eq (hidT_size _ _), trivial, fun b hb => (by cases hb), hok, .of_eq hg⟩⟩
  obtain ⟨mc, h1, h2⟩ := hlim
  exact ⟨mc, names h1, h2⟩
/-- what the law's end is from -/
theorem end_script (hO : Only H) {r : Result} {s' : Shared} (h : CR CX0 [] P w H s (fun v _ => v = .bl true) (fun _ _ _ => False) r s') (hok : HOk P w H s.heap) : r = .ok (.ret (.bool true)) ∧ OldK s.heap s'.heap ∧ s'.os = s.os ∧ AllBare s'.gens := by
  cases r with
  | error e => exact False.elim h
  | ok fl =>
    cases fl with
    | next => exact False.elim h
    | brk => exact False.elim h
    | cont => exact False.elim h
    | ret u =>
      obtain ⟨v, H', os, bare, un, hok', r', q⟩ := h
      obtain rfl : v = .bl true := q
      obtain rfl : u = Value.bool true := r'
      refine ⟨rfl, OldK.of_keep fun b o e => ?_, os, bare⟩
      rcases hO b with z | ⟨ob, xs, z⟩
      · exact un.keep b o e z (fun y => by cases (show b ∈ ([] : List Addr) from y)) (by simp)
      · have e1 := (hok b _ z).1
        rw [e] at e1
        cases e1
        exact (hok' b _ (un.frzs b _ _ z)).1
theorem law_callG {k : Nat} {fa : Addr} {fd : FuncData} {x : Str} {sp : Sp} {ns : List Int} (KX : K.In s.heap) (hns : s.heap.Ns mainGlobals mg) (hb : s.heap.Ns builtinsNs mb) (hbb : ∀ x : Str, x ≠ "__name__" → mb x = bootBuiltins x) (hlim : s.heap.NoLimit) (hg : s.gens = #[])
    (ha : s.heap.get? a = some { cls := .type "list", data := .seq vs.toArray }) (hi : IntsAre vs ns) (hl : ns.length ≤ sizeLine) (hr : Room k callerA)
    (F : ∀ base : Heap, K.In base → base.Ns mainGlobals mg → FnG P w K mg base CX0 k fa fd [x] sp) (hbind : ∀ (s : Shared) (u : Value), BindsTo s fd ⟨[u], []⟩ [(x, u)])
    (hsp : ∀ H : Hp, Only H → SqL K H a (ns.map V.int) → sp [.ref a] H (fun v _ => v = .bl true) fun _ _ _ => False) :
    codeAny (model P w) callerA (.call (.ref fa) ⟨[.ref a], []⟩) (fun r s' => r = .ok (.ret (.bool true)) ∧ OldK s.heap s'.heap ∧ s'.os = s.os ∧ AllBare s'.gens) s := by
  have rv := vals_ints hi
  have lenV := hi.length
  have go : ∀ H : Hp, Only H → SqL K H a (ns.map V.int) → HOk P w H s.heap → (∀ b, H b ≠ none → b = a) → (H a ≠ none → K.lookup a = none) → codeAny (model P w) callerA (.call (.ref fa) ⟨[.ref a], []⟩) (fun r s' => r = .ok (.ret (.bool true)) ∧ OldK s.heap s'.heap ∧ s'.os = s.os ∧ AllBare s'.gens) s := fun H hO hS hok hA hK => by
    obtain ⟨kin, nm, e0⟩ := env_script KX hns hb hbb hlim hg ha hok hA hK
    exact codeAny_mono ((F _ kin nm).run callerA [] s H ⟨[.ref a], []⟩ [.ref a] [.ref a] _ _ rfl hr e0 (hbind s (.ref a)) (.cons rfl .nil) (hsp H hO hS)) fun r s' h => end_script hO h hok
  cases hk : K.lookup a with
  | some o =>
    have e := KX a o hk
    rw [ha] at e
    cases e
    exact go (fun _ => none) (fun _ => .inl rfl) (.inr ⟨_, vs.toArray, _, hk, rfl, rfl, rfl, by rw [List.size_toArray, lenV]; exact hl, by simpa using rv⟩) (fun b u z => nomatch z) (fun b z => absurd rfl z) fun z => absurd rfl z
  | none =>
    let ob : HO := .frz { cls := .type "list", data := .seq vs.toArray } (.lst (ns.map V.int))
    have yes : (fun b => if b = a then some ob else none : Hp) a = some ob := if_pos rfl
    have no : ∀ {b : Addr}, b ≠ a → (fun b => if b = a then some ob else none : Hp) b = none := fun h => if_neg h
    refine go (fun b => if b = a then some ob else none) (fun b => ?_) (.inl (.inr ⟨_, yes⟩)) (fun b u z => ?_) (fun b z => ?_) fun _ => hk
    · by_cases h : b = a
      · subst h
        exact .inr ⟨_, _, yes⟩
      · exact .inl (no h)
    · by_cases h : b = a
      · subst h
        rw [yes] at z
        cases z
        exact ⟨ha, by rw [List.length_map]; exact hl, vs, _, rv, ha⟩
      · rw [no h] at z
        cases z
    · exact Classical.byContradiction fun h => z (no h)
end
open He in
/-- a law's end over the facts of a head, the law's def by FnG -/
theorem walk_ofG {l : PySem.W.OpenLaw} {n k : Nat} {q : Program} {loose : List Str} {XP : (Str → Option Value) → Heap → Prop} {YP : World → Heap → Prop} {d : DefRec} {x : Str}
    (hn : l.most = some n) (hn2 : n ≤ sizeLine) (hdf : d.params.defaults = []) (hr : Room k callerA)
    (F : ∀ (w : World) (mg : Str → Option Value) (fa : Addr) (h : Heap), YP w h → h.Ns mainGlobals mg → mg d.name = some (.ref fa) →
      ∃ (K : PySem.W.Frag) (fd : FuncData) (sp : Sp), K.In h ∧ (∀ (s : Shared) (u : Value), BindsTo s fd ⟨[u], []⟩ [(x, u)]) ∧
        (∀ (H : Hp) (a : Addr) (ns : List Int), ns.length ≤ n → (∀ z ∈ ns, Builtin.Int.intBits z ≤ 1048576) → Only H → SqL K H a (ns.map V.int) → sp [.ref a] H (fun v _ => v = .bl true) fun _ _ _ => False) ∧
        ∀ base : Heap, K.In base → base.Ns mainGlobals mg → FnG l.prog w K mg base CX0 k fa fd [x] sp) :
    PySem.W.WalkO q loose XP YP l.row.toRowW d [] (fun f vs => PySem.call f vs) := by
  refine Att.attach_callB hn hdf fun w s₀ s₁ mg mb fa o pm cd doc a vs ns G Y ho hd hcd hmg hobj hints hlen hbits hg => ?_
  obtain ⟨K, fd, sp, KX, hb, hsp, hF⟩ := F w mg fa _ Y G.T.g hmg
  exact law_callG KX G.T.g G.T.b G.T.builtins G.T.nolimit hg hobj hints (Nat.le_trans hlen hn2) hr hF hb fun H hO hS => hsp H a ns hlen hbits hO hS
end DtG
/-! ### data whose written form is short enough -/
namespace Dt
open PySem PySem.Spec PyProof.Rows L2 Evl Fx
structure Sh (n w : Nat) (d : PyData) : Prop where
  lay : PyData.canLay0 d = true
  nums : PyData.intsShort 13 d = true
  shows : PyData.showable d = true
  nod : PyData.hasDict d = false
  dep : PyData.depth d ≤ n
  wt : PyData.weight d ≤ w
theorem Sh.mono {n m w v : Nat} {d : PyData} (h : Sh n w d) (h1 : n ≤ m) (h2 : w ≤ v) : Sh m v d := ⟨h.lay, h.nums, h.shows, h.nod, Nat.le_trans h.dep h1, Nat.le_trans h.wt h2⟩
theorem sh_int' {i : Int} (h : i.natAbs < 10 ^ 12) : Sh 0 41 (.int i) := by
  have h40 : i.natAbs < 2 ^ 40 := by omega
  have hl : i.natAbs.log2 < 40 := by
    by_cases h0 : i.natAbs = 0
    · rw [h0]; decide
    · exact (Nat.log2_lt h0).mpr h40
  refine ⟨by simp [PyData.canLay0], ?_, ?_, by simp [PyData.hasDict], by simp [PyData.depth], ?_⟩
  · have := int_text_length_le10 (a := i) (k := 12) (by decide) h
    simp only [PyData.intsShort, PyData.shown]
    exact decide_eq_true (by rw [PySem.ofString_length]; exact this)
  · simp only [PyData.showable]
    exact decide_eq_true (by omega)
  · simp only [PyData.weight]
    split <;> omega
theorem sh_str' {x : Str} {w : Nat} (h : PyData.strOk x = true) (hw : x.cps.size ≤ w) : Sh 0 w (.str x) :=
  ⟨by simp [PyData.canLay0, h], by simp [PyData.intsShort], by simp [PyData.showable], by simp [PyData.hasDict], by simp [PyData.depth], by simp only [PyData.weight]; exact hw⟩
theorem sh_all {n w : Nat} : ∀ {ds : List PyData}, (∀ x ∈ ds, Sh n w x) → PyData.canLayAll0 ds = true ∧ PyData.intsShortAll 13 ds = true ∧ PyData.showableAll ds = true ∧ PyData.hasDictAll ds = false ∧ PyData.depthAll ds ≤ n ∧ PyData.weightAll ds ≤ ds.length * (w + 1)
  | [], _ => by simp [PyData.canLayAll0, PyData.intsShortAll, PyData.showableAll, PyData.hasDictAll, PyData.depthAll, PyData.weightAll]
  | d :: ds, h => by
    obtain ⟨a1, a2, a3, a4, a5, a6⟩ := sh_all fun x hx => h x (List.mem_cons_of_mem _ hx)
    have b := h d (List.mem_cons_self ..)
    have b5 := b.dep
    have b6 := b.wt
    refine ⟨by rw [PyData.canLayAll0, b.lay, a1]; rfl, by rw [PyData.intsShortAll, b.nums, a2]; rfl, by rw [PyData.showableAll, b.shows, a3]; rfl, by rw [PyData.hasDictAll, b.nod, a4]; rfl, by rw [PyData.depthAll]; omega, ?_⟩
    rw [PyData.weightAll, List.length_cons, Nat.succ_mul]
    omega
theorem sh_tup {n w m : Nat} {ds : List PyData} (h : ∀ x ∈ ds, Sh n w x) (hm : ds.length ≤ m) : Sh (n + 1) (m * (w + 1)) (.tuple ds) := by
  obtain ⟨a1, a2, a3, a4, a5, a6⟩ := sh_all h
  refine ⟨by rw [PyData.canLay0]; exact a1, by rw [PyData.intsShort]; exact a2, by rw [PyData.showable]; exact a3, by rw [PyData.hasDict]; exact a4, by rw [PyData.depth]; omega, ?_⟩
  rw [PyData.weight]
  exact Nat.le_trans a6 (Nat.mul_le_mul_right _ hm)
theorem Sh.len {n w : Nat} {d : PyData} (h : Sh n w d) (hn : n ≤ 64) (hw : w ≤ 2 ^ 20) : d.shown.length ≤ sizeLine := by
  have h2 := PyData.shown_fits (B := 13) (by decide) (by decide) (PyData.leavesShort_of_canLay0 13 d h.lay h.nums) (Nat.le_trans h.wt hw)
  exact h2
theorem Sh.shaped {n w : Nat} {d : PyData} (h : Sh n w d) (hn : n ≤ 64) : SeqAt.shaped d = true := by
  show (d.canLay0 && decide (d.depth ≤ 64)) = true
  rw [h.lay, decide_eq_true (Nat.le_trans h.dep hn)]
  rfl
section
variable {F : Fd} {K : PySem.W.Frag} {te : TE} {σ : L2.St} {H : Hp} {k n w : Nat} {ds : List PyData}
/-- repr of a tuple of data -/
theorem rv_repr (h : EvR F te σ H k (IsD K (.tuple ds))) (s : Sh n w (.tuple ds)) (hn : n ≤ 60) (hw : w ≤ 2 ^ 20) : EvR F (tCB (DtG.rReprD K) (tCons te tNil)) σ H k (fun x _ => x = .str (PyData.shown (.tuple ds))) := fun n1 H1 h1 g e Q q => h n1 H1 h1 g e _ fun v H2 e2 g2 hd => by
  cases hd with
  | @tup a xs _ ha hx => exact ⟨a, .tuple ds, rfl, .tup ha hx, s.shows, s.nod, Nat.le_trans s.dep hn, s.len (by omega) hw, q _ H2 e2 g2 rfl⟩
end
end Dt
namespace Tr
open PySem PySem.Spec PyProof.Rows L2 Evl Fx Fr Dt
def NiceM (t : T) : Prop := ∀ s ∈ subs t, (s.name = "db" ∨ s.name = "front" ∨ s.name = "pay") ∧ (s.mark = 0 ∨ s.mark = 1)
def Nm (x : Str) : Prop := x = "db" ∨ x = "front" ∨ x = "pay"
theorem nm_ok {x : Str} (h : Nm x) : PyData.strOk x = true ∧ x.cps.size ≤ 5 := by
  rcases h with rfl | rfl | rfl <;> exact ⟨by decide +kernel, by decide +kernel⟩
theorem w_int {i : Int} (h : i = 0 ∨ i = 1) : PyData.weight (.int i) ≤ 1 := by
  rcases h with rfl | rfl <;> decide +kernel
mutual
theorem sh_tree : ∀ t : T, NiceM t → Sh (2 * size t) (10 * size t - 1) (enc t)
  | .mk s m cs, h => by
    have h0 := h (.mk s m cs) (by rw [subs]; exact List.mem_cons_self ..)
    have n0 := nm_ok (show Nm s from h0.1)
    have hm : m = 0 ∨ m = 1 := h0.2
    obtain ⟨a1, a2, a3, a4, a5, a6⟩ := sh_trees cs fun x hx => h x (by rw [subs]; exact List.mem_cons_of_mem _ hx)
    have hi := sh_int' (i := m) (by rcases hm with rfl | rfl <;> decide)
    have wi := w_int hm
    have ws : PyData.weight (.str s) ≤ 5 := n0.2
    rw [enc, size]
    have hs := sh_str' n0.1 n0.2
    refine ⟨by simp only [PyData.canLay0, PyData.canLayAll0, n0.1, a1, Bool.and_true], ?_, ?_, by simp only [PyData.hasDict, PyData.hasDictAll, a4, Bool.or_false], by simp only [PyData.depth, PyData.depthAll]; omega, ?_⟩
    · have e1 := hi.nums
      simp only [PyData.intsShort, PyData.intsShortAll, a2, Bool.true_and, Bool.and_true] at e1 ⊢
      exact e1
    · have e1 := hi.shows
      simp only [PyData.showable, PyData.showableAll, a3, Bool.true_and, Bool.and_true] at e1 ⊢
      exact e1
    · have : PyData.weight (.tuple [.str s, .int m, .tuple (encs cs)]) = PyData.weight (.str s) + 1 + (PyData.weight (.int m) + 1 + (PyData.weightAll (encs cs) + 1 + 0)) := by
        simp only [PyData.weight, PyData.weightAll]
      rw [this]
      omega
theorem sh_trees : ∀ ts : List T, (∀ s ∈ subsA ts, (s.name = "db" ∨ s.name = "front" ∨ s.name = "pay") ∧ (s.mark = 0 ∨ s.mark = 1)) → PyData.canLayAll0 (encs ts) = true ∧ PyData.intsShortAll 13 (encs ts) = true ∧ PyData.showableAll (encs ts) = true ∧ PyData.hasDictAll (encs ts) = false ∧ PyData.depthAll (encs ts) ≤ 2 * sizes ts ∧ PyData.weightAll (encs ts) ≤ 10 * sizes ts
  | [], _ => by rw [encs]; simp [PyData.canLayAll0, PyData.intsShortAll, PyData.showableAll, PyData.hasDictAll, PyData.depthAll, PyData.weightAll]
  | t :: ts, h => by
    have h1 := sh_tree t fun s hs => h s (by rw [subsA]; exact List.mem_append_left _ hs)
    obtain ⟨a1, a2, a3, a4, a5, a6⟩ := sh_trees ts fun s hs => h s (by rw [subsA]; exact List.mem_append_right _ hs)
    have b5 := h1.dep
    have b6 := h1.wt
    have hs := size_eq t
    rw [encs, sizes]
    refine ⟨by rw [PyData.canLayAll0, h1.lay, a1]; rfl, by rw [PyData.intsShortAll, h1.nums, a2]; rfl, by rw [PyData.showableAll, h1.shows, a3]; rfl, by rw [PyData.hasDictAll, h1.nod, a4]; rfl, by rw [PyData.depthAll]; omega, ?_⟩
    rw [PyData.weightAll]
    omega
end
end Tr
namespace Tr
open PySem PySem.Spec PyProof.Rows L2 Evl Fx Fr Dt
mutual
theorem placed_small : ∀ (q : List Nat) (t : T) (x : List Nat × T), x ∈ placed q t → ∀ i ∈ x.1, i ∈ q ∨ i < size t
  | q, .mk s m cs, x, h, i, hi => by
    rw [placed, List.mem_cons] at h
    rw [size]
    rcases h with rfl | h
    · exact .inl hi
    · rcases placedA_small q 0 cs x h i hi with z | z
      · exact .inl z
      · exact .inr (by omega)
theorem placedA_small : ∀ (q : List Nat) (j : Nat) (ts : List T) (x : List Nat × T), x ∈ placedA q j ts → ∀ i ∈ x.1, i ∈ q ∨ i < j + sizes ts
  | q, j, [], x, h, i, hi => by
    rw [placedA] at h
    cases h
  | q, j, t :: ts, x, h, i, hi => by
    rw [placedA, List.mem_append] at h
    rw [sizes]
    have hs := size_eq t
    rcases h with h | h
    · rcases placed_small (q ++ [j]) t x h i hi with z | z
      · rcases List.mem_append.mp z with z | z
        · exact .inl z
        · have := List.mem_singleton.mp z
          exact .inr (by omega)
      · exact .inr (by omega)
    · rcases placedA_small q (j + 1) ts x h i hi with z | z
      · exact .inl z
      · exact .inr (by omega)
end
theorem fold_mem (ρ : Str → Ru) (late : Bool) (draw : Rat) : ∀ (xs : List ((List Nat × T) × (Rat × Rat))) (acc : List (List Nat)) (p : List Nat), p ∈ xs.foldl (Tr.step ρ late draw) acc → p ∈ acc ∨ ∃ x ∈ xs, x.1.1 = p
  | [], acc, p, h => .inl h
  | x :: xs, acc, p, h => by
    rw [List.foldl_cons] at h
    rcases fold_mem ρ late draw xs _ p h with z | ⟨y, hy, e⟩
    · unfold Tr.step at z
      split at z
      · rcases List.mem_append.mp z with z | z
        · exact .inl z
        · exact .inr ⟨x, List.mem_cons_self .., (List.mem_singleton.mp z).symm⟩
      · exact .inl z
    · exact .inr ⟨y, List.mem_cons_of_mem _ hy, e⟩
theorem kept_mem {ρ : Str → Ru} {t : T} {draw : Rat} {owns : List (Rat × Rat)} {p : List Nat} (h : p ∈ keptBy ρ t draw owns) : ∃ x ∈ placed [] t, x.1 = p := by
  rcases fold_mem ρ (isBad t) draw _ _ p h with z | ⟨x, hx, e⟩
  · cases z
  · exact ⟨x.1, (List.of_mem_zip hx).1, e⟩
theorem kept_len {ρ : Str → Ru} {t : T} {draw : Rat} {owns : List (Rat × Rat)} : (keptBy ρ t draw owns).length ≤ size t := by
  have h := step_len ρ (isBad t) draw ((placed [] t).zip owns) []
  rw [List.length_zip, placed_len, List.length_nil] at h
  unfold keptBy
  omega
theorem sh_kept {ρ : Str → Ru} {t : T} {draw : Rat} {owns : List (Rat × Rat)} (hs : size t ≤ 6) : Sh 2 (6 * (6 * (41 + 1) + 1)) (.tuple ((keptBy ρ t draw owns).map pathD)) := by
  refine sh_tup (n := 1) (w := 6 * (41 + 1)) (m := 6) (fun d hd => ?_) (by rw [List.length_map]; exact Nat.le_trans kept_len hs)
  obtain ⟨p, hp, rfl⟩ := List.mem_map.mp hd
  obtain ⟨x, hx, rfl⟩ := kept_mem hp
  have h1 := placed_path [] t x hx
  have h2 := size_eq x.2
  simp only [List.length_nil] at h1
  refine sh_tup (n := 0) (w := 41) (m := 6) (fun d hd => ?_) (by rw [List.length_map]; omega)
  obtain ⟨i, hi, rfl⟩ := List.mem_map.mp hd
  rcases placed_small [] t x hx i hi with z | z
  · cases z
  · exact sh_int' (by omega)
theorem sh_lot {x : Rat} (h : x ∈ lots) : Sh 1 (2 * (41 + 1)) (frD x) := sh_tup (n := 0) (w := 41) (m := 2) (fun d hd => by
  have hb : x.num.natAbs < 1000 ∧ x.den < 1000 := by
    simp only [lots, List.mem_cons, List.not_mem_nil, or_false] at h
    rcases h with rfl | rfl | rfl | rfl | rfl | rfl | rfl | rfl | rfl | rfl | rfl <;> exact ⟨by decide, by decide⟩
  rcases List.mem_cons.mp hd with rfl | hd
  · exact sh_int' (by omega)
  · rcases List.mem_cons.mp hd with rfl | hd
    · exact sh_int' (by omega)
    · cases hd) (by simp)
theorem word_len (x : Pl) : x.word.cps.size ≤ 6 := by
  cases x with
  | own p q => exact (by decide +kernel : (("own" : Str).cps.size ≤ 6))
  | shared p q => exact (by decide +kernel : (("shared" : Str).cps.size ≤ 6))
  | caller => decide +kernel
  | bad => decide +kernel
  | late => decide +kernel
  | never => decide +kernel
theorem sh_pl {x : Pl} (h : x.Sm) : Sh 1 (3 * (41 + 1)) x.D := by
  have hm : ∀ d ∈ x.more, ∃ i : Int, d = .int i := fun d hd => by
    cases x with
    | own p q =>
      have : d = .int p ∨ d = .int q := by
        have z : d ∈ [PyData.int p, PyData.int q] := hd
        simpa using z
      rcases this with e | e
      · exact ⟨p, e⟩
      · exact ⟨q, e⟩
    | shared p q =>
      have : d = .int p ∨ d = .int q := by
        have z : d ∈ [PyData.int p, PyData.int q] := hd
        simpa using z
      rcases this with e | e
      · exact ⟨p, e⟩
      · exact ⟨q, e⟩
    | caller => cases hd
    | bad => cases hd
    | late => cases hd
    | never => cases hd
  refine sh_tup (n := 0) (w := 41) (m := 3) (fun d hd => ?_) (by cases x <;> simp [Pl.more])
  rcases List.mem_cons.mp hd with rfl | hd
  · exact (sh_str' (word_ok x) (word_len x)).mono (Nat.le_refl _) (by decide)
  · obtain ⟨i, rfl⟩ := hm d hd
    have := h i hd
    exact sh_int' (by omega)
theorem sh_ru {r : Ru} (h : ∀ p ∈ r.plains, p.Sm) : Sh 2 (3 * (3 * (41 + 1) + 1)) r.D := by
  cases r with
  | one a => exact (sh_pl (h a (List.mem_cons_self ..))).mono (by decide) (by decide)
  | or a b =>
    have ha := sh_pl (h a (List.mem_cons_self ..))
    have hb := sh_pl (h b (List.mem_cons_of_mem _ (List.mem_cons_self ..)))
    refine sh_tup (n := 1) (w := 3 * (41 + 1)) (m := 3) (fun d hd => ?_) (by simp)
    rcases List.mem_cons.mp hd with rfl | hd
    · exact (sh_str' (w := 2) (by decide +kernel) (by decide +kernel)).mono (by decide) (by decide)
    · rcases List.mem_cons.mp hd with rfl | hd
      · exact ha
      · rcases List.mem_cons.mp hd with rfl | hd
        · exact hb
        · cases hd
theorem sh_row {x : Str × Ru} (hn : Nm x.1) (h : ∀ p ∈ x.2.plains, p.Sm) : Sh 3 800 (rowD x) := by
  refine (sh_tup (n := 2) (w := 3 * (3 * (41 + 1) + 1)) (m := 2) (fun d hd => ?_) (by simp)).mono (by decide) (by decide)
  rcases List.mem_cons.mp hd with rfl | hd
  · exact (sh_str' (nm_ok hn).1 (nm_ok hn).2).mono (by decide) (by decide)
  · rcases List.mem_cons.mp hd with rfl | hd
    · exact sh_ru h
    · cases hd
end Tr
/-! ### sorted trees and pieces: one list for all orders -/
namespace Tr
open PySem PySem.Spec PyProof.Rows L2 Evl Fx Dt
open PySem.W (alike alikeAll AllAlike Sortable dataLe dataLt keyToks keyToksAll)
mutual
theorem toks_tree : ∀ (t t' : T) (l l' : List (Int ⊕ List Nat)), keyToks (enc t) ++ l = keyToks (enc t') ++ l' → t = t' ∧ l = l'
  | .mk s m cs, .mk s' m' cs', l, l', h => by
    rw [enc, enc] at h
    simp only [keyToks, keyToksAll, List.cons_append, List.nil_append, List.append_assoc, List.singleton_append] at h
    injection h with _ h
    injection h with h1 h
    injection h with _ h
    injection h with h2 h
    injection h with _ h
    obtain ⟨e1, e2⟩ := toks_trees cs cs' _ _ h
    injection e2 with _ e2
    have e3 : s = s' := PySem.W.str_of_cps (Sum.inr.inj h1)
    have e4 : m = m' := Sum.inl.inj h2
    subst e1 e3 e4
    exact ⟨rfl, e2⟩
theorem toks_trees : ∀ (ts ts' : List T) (l l' : List (Int ⊕ List Nat)), keyToksAll (encs ts) ++ l = keyToksAll (encs ts') ++ l' → ts = ts' ∧ l = l'
  | [], [], l, l', h => ⟨rfl, by simpa [encs, keyToksAll] using h⟩
  | [], t :: ts, l, l', h => by
    rw [encs, encs] at h
    simp [keyToksAll] at h
  | t :: ts, [], l, l', h => by
    rw [encs, encs] at h
    simp [keyToksAll] at h
  | t :: ts, t' :: ts', l, l', h => by
    rw [encs, encs] at h
    simp only [keyToksAll, List.cons_append, List.append_assoc] at h
    injection h with _ h
    obtain ⟨e1, h⟩ := toks_tree t t' _ _ h
    obtain ⟨e2, h⟩ := toks_trees ts ts' _ _ h
    exact ⟨by rw [e1, e2], h⟩
end
/-- a piece of a sight -/
inductive Pc where
  | top (t : T)
  | lost (ts : List T)
def Pc.D : Pc → PyData
  | .top t => .tuple [.str "top", enc t]
  | .lost ts => .tuple [.str "lost", .tuple (ts.map enc)]
theorem words_ne : ("top" : Str) ≠ "lost" := by decide +kernel
theorem toks_piece : ∀ p q : Pc, keyToks p.D = keyToks q.D → p = q
  | .top t, .top t', h => by
    simp only [Pc.D, keyToks, keyToksAll, List.cons_append, List.nil_append] at h
    injection h with _ h
    injection h with _ h
    injection h with _ h
    rw [(toks_tree t t' _ _ h).1]
  | .lost ts, .lost ts', h => by
    simp only [Pc.D, keyToks, keyToksAll, List.cons_append, List.nil_append] at h
    injection h with _ h
    injection h with _ h
    injection h with _ h
    rw [← encs_map, ← encs_map] at h
    rw [(toks_trees ts ts' _ _ h).1]
  | .top t, .lost ts, h => by
    simp only [Pc.D, keyToks, keyToksAll, List.cons_append, List.nil_append] at h
    injection h with _ h
    injection h with h _
    exact (words_ne (PySem.W.str_of_cps (Sum.inr.inj h))).elim
  | .lost ts, .top t, h => by
    simp only [Pc.D, keyToks, keyToksAll, List.cons_append, List.nil_append] at h
    injection h with _ h
    injection h with h _
    exact (words_ne (PySem.W.str_of_cps (Sum.inr.inj h)).symm).elim
/-- what is in order has one order -/
theorem one_order {α : Type} {le : α → α → Bool} (anti : ∀ a b, le a b = true → le b a = true → a = b) : ∀ {l m : List α}, l.Pairwise (fun a b => le a b = true) → m.Pairwise (fun a b => le a b = true) → l.Perm m → l = m
  | [], m, _, _, p => by rw [List.nil_perm.mp p]
  | a :: l, [], _, _, p => by
    have := p.length_eq
    simp at this
  | a :: l, b :: m, h1, h2, p => by
    obtain ⟨a1, a2⟩ := List.pairwise_cons.mp h1
    obtain ⟨b1, b2⟩ := List.pairwise_cons.mp h2
    have e : a = b := by
      rcases List.mem_cons.mp (p.mem_iff.mp (List.mem_cons_self ..)) with q | q
      · exact q
      · rcases List.mem_cons.mp (p.mem_iff.mpr (List.mem_cons_self ..)) with r | r
        · exact r.symm
        · exact anti _ _ (a1 _ r) (b1 _ q)
    subst e
    rw [one_order anti a2 b2 p.cons_inv]
theorem le_anti {α : Type} {k : α → PyData} (inj : ∀ a b, keyToks (k a) = keyToks (k b) → a = b) (a b : α) (h1 : dataLe false id (k a) (k b) = true) (h2 : dataLe false id (k b) (k a) = true) : a = b := by
  refine inj a b ((listOrd itemOrd).total _ _ ?_ ?_)
  · exact Bool.not_eq_true' _ |>.mp (show (!(listOrd itemOrd).blt (keyToks (k a)) (keyToks (k b))) = true from h2)
  · exact Bool.not_eq_true' _ |>.mp (show (!(listOrd itemOrd).blt (keyToks (k b)) (keyToks (k a))) = true from h1)
theorem sort_pw {α : Type} (k : α → PyData) (l : List α) : (l.mergeSort fun a b => dataLe false id (k a) (k b)).Pairwise (fun a b => dataLe false id (k a) (k b) = true) :=
  PySem.W.sort_pairwise (PySem.W.sortLe_total (listOrd itemOrd) false fun a : α => keyToks (k a)) l
/-- what is a rearrangement of l and in order is l sorted -/
theorem sort_is {α : Type} {k : α → PyData} (inj : ∀ a b, keyToks (k a) = keyToks (k b) → a = b) {l m : List α} (p : l.Perm m) : (l.mergeSort fun a b => dataLe false id (k a) (k b)) = m.mergeSort fun a b => dataLe false id (k a) (k b) :=
  one_order (le_anti inj) (sort_pw k l) (sort_pw k m) ((List.mergeSort_perm _ _).trans (p.trans (List.mergeSort_perm _ _).symm))
theorem enc_inj (a b : T) (h : keyToks (enc a) = keyToks (enc b)) : a = b := (toks_tree a b [] [] (by rw [h])).1
theorem sortT_perm {a b : List T} (p : a.Perm b) : sortT a = sortT b := sort_is enc_inj p
def sortP (ps : List Pc) : List Pc := ps.mergeSort fun a b => dataLe false id a.D b.D
theorem sortP_map (ps : List Pc) : (ps.map Pc.D).mergeSort (dataLe false id) = (sortP ps).map Pc.D :=
  (List.map_mergeSort (r := fun a b => dataLe false id (Pc.D a) (Pc.D b)) (s := dataLe false id) (f := Pc.D) (l := ps) (fun _ _ _ _ => rfl)).symm
theorem sortP_mem (ps : List Pc) : (sortP ps).Perm ps := List.mergeSort_perm _ _
theorem sortP_perm {a b : List Pc} (p : a.Perm b) : sortP a = sortP b := sort_is toks_piece p
theorem sortT_app (a b : List T) : sortT (sortT a ++ b) = sortT (a ++ b) := sortT_perm ((sort_perm a).append_right b)
theorem sortP_app (a b : List Pc) : sortP (sortP a ++ b) = sortP (a ++ b) := sortP_perm ((sortP_mem a).append_right b)
theorem Pc.flat (p : Pc) : Dt.flat p.D = true := by
  cases p with
  | top t => show Dt.flat (PyData.tuple [.str "top", enc t]) = true; rw [flat_tup, flats, flats, flats, enc_flat]; rfl
  | lost ts => show Dt.flat (PyData.tuple [.str "lost", .tuple (ts.map enc)]) = true; rw [flat_tup, flats, flats, flats, flat_tup, maps_flat]; rfl
theorem pcs_flat (ps : List Pc) : flats (ps.map Pc.D) = true := flats_all.mpr fun d hd => by
  obtain ⟨p, _, rfl⟩ := List.mem_map.mp hd
  exact p.flat
theorem near_pcs (ps : List Pc) : So.Near (ps.map Pc.D) where
  word := fun d hd => by
    obtain ⟨p, _, rfl⟩ := List.mem_map.mp hd
    cases p with
    | top t => exact ⟨_, _, rfl⟩
    | lost ts => exact ⟨_, _, rfl⟩
  two := fun d hd d' hd' => by
    obtain ⟨p, _, rfl⟩ := List.mem_map.mp hd
    obtain ⟨q, _, rfl⟩ := List.mem_map.mp hd'
    cases p with
    | top t =>
      cases q with
      | top t' => exact .inl (by simp only [Pc.D, alike, alikeAll, enc_alike, Bool.true_and, Bool.and_true])
      | lost ts => exact .inr ⟨_, _, _, _, rfl, rfl, words_ne⟩
    | lost ts =>
      cases q with
      | top t' => exact .inr ⟨_, _, _, _, rfl, rfl, words_ne.symm⟩
      | lost us =>
        refine .inl ?_
        have := encs_alike ts us
        rw [encs_map, encs_map] at this
        simp only [Pc.D, alike, alikeAll, this, Bool.true_and, Bool.and_true]
def Pc.size : Pc → Nat
  | .top t => Tr.size t
  | .lost ts => sizes ts
def psizes (ps : List Pc) : Nat := (ps.map Pc.size).sum
theorem Pc.depth (p : Pc) : PyData.depth p.D ≤ 2 * p.size + 2 := by
  cases p with
  | top t =>
    have := enc_depth t
    simp only [Pc.D, Pc.size, PyData.depth, PyData.depthAll]
    omega
  | lost ts =>
    have := encs_depth ts
    rw [encs_map] at this
    simp only [Pc.D, Pc.size, PyData.depth, PyData.depthAll]
    omega
theorem psizes_perm {a b : List Pc} (h : a.Perm b) : psizes a = psizes b := (h.map _).sum_nat
theorem psizes_cons (p : Pc) (ps : List Pc) : psizes (p :: ps) = p.size + psizes ps := by simp [psizes]
theorem psizes_app (a b : List Pc) : psizes (a ++ b) = psizes a + psizes b := by simp [psizes]
theorem psize_mem {p : Pc} : ∀ {ps : List Pc}, p ∈ ps → p.size ≤ psizes ps
  | q :: ps, h => by
    rw [psizes_cons]
    rcases List.mem_cons.mp h with rfl | h
    · omega
    · have := psize_mem h
      omega
end Tr
/-! ### what a lambda's call comes to: ('told', ..) or ('usable', word, at) -/
namespace K17
open PySem PySem.Spec PyProof.Rows L2 Evl Fx Dt So
def topS (i : Nat) : Stmt := PySem.Challenge.pw_thinspans_k04_fractions_told.main.body.getD i (.Pass ⟨0, 0, 0, 0⟩)
section
variable {F : Fd} {K : PySem.W.Frag} {ta tb : TE} {σ : L2.St} {H : Hp} {ds es : List PyData} {k ka kb : Nat} {a C dd : Addr} {fs : List (Str × V)} {v w : V}
theorem rb_eqL (o : F.Ok) (ha : EvR F ta σ H ka (IsL F K ds)) (hb : EvR F tb σ H kb (IsL F K es)) (f : flats ds = true) (s1 : SeqAt.shaped (.list ds) = true) (s2 : SeqAt.shaped (.list es) = true) : EvR F (tOp (rEqD K) ta tb) σ H (ka + kb) (fun x _ => x = .bl (PyData.eqv (.list ds) (.list es))) :=
  r_op (P' := IsL F K es) o (mono_l o f) ha hb fun x y n H1 g e px py Q q => ⟨_, _, px.dp, py.dp, s1, s2, q _ H1 (Ex.refl _) rfl⟩
theorem r_isX1 {u : Value} {b : Bool} {i : Nat} (T : ExcD K C) (hv : σ[i]? = some (some (.ref a))) (hd : H dd = some (.xd fs)) (k : ClsV v u) (e : PySem.W.kitOne K (.ref C) u = some b) : EvR F0 (tCB (rIsX K a (.ref C) (some dd)) (tCons (tVar i) (tCons (tC v) tNil))) σ H 0 (fun x _ => x = .bl b) :=
  fun n H1 hn g ex Q q => ⟨.ref a, hv, C, dd, fs, b, rfl, rfl, F0.ex ex _ _ hd, T, q _ H1 Kx.refl g rfl, .inl ⟨v, u, rfl, k, e⟩⟩
theorem r_isX3 {b : Bool} {i : Nat} {c1 c2 c3 : Addr} (T : ExcD K C) (hv : σ[i]? = some (some (.ref a))) (hd : H dd = some (.xd fs)) (e : PySem.W.kitAny K (.ref C) [.ref c1, .ref c2, .ref c3] = some b) :
    EvR F0 (tCB (rIsX K a (.ref C) (some dd)) (tCons (tVar i) (tCons (tTup (tCons (tC (.ref c1)) (tCons (tC (.ref c2)) (tCons (tC (.ref c3)) tNil)))) tNil))) σ H 0 (fun x _ => x = .bl b) :=
  fun n H1 hn g ex Q q => ⟨.ref a, hv, (by show 3 ≤ sizeLine; decide), fun p hp => ⟨C, dd, fs, b, rfl, rfl, Ex.new hp _ _ (F0.ex ex _ _ hd), T, q _ _ (Kx.ex (Ex.new hp)) g rfl, .inr ⟨p, _, _, rfl, upd_same, .cons (.own c1) (.cons (.own c2) (.cons (.own c3) .nil)), e⟩⟩⟩
theorem r_xf {i : Nat} {n : Str} (hv : σ[i]? = some (some (.ref a))) (hd : H dd = some (.xd fs)) (hl : fs.lookup n = some w) : EvR F0 (tXf a (.ref C) (some dd) C n (tVar i)) σ H 0 (fun x _ => x = w) :=
  fun n1 H1 hn g ex Q q => ⟨.ref a, hv, rfl, rfl, dd, fs, w, rfl, F0.ex ex _ _ hd, hl, q _ H1 Kx.refl g rfl⟩
theorem ra_nilV {F : Fd} : EvRA F tNil σ H 0 (fun vs _ => vs = []) := fun n1 H1 hn g e Q q => q _ H1 Kx.refl g rfl
theorem ra_consV {F : Fd} {te : TE} {tr : TA} {ws : List V} (h : EvR F te σ H ka (fun x _ => x = v)) (hr : EvRA F tr σ H kb (fun vs _ => vs = ws)) : EvRA F (tCons te tr) σ H (ka + kb) (fun vs _ => vs = v :: ws) :=
  fun n H1 hn g e Q q => h n H1 (by omega) g e _ fun x H2 e2 g2 p => hr (n + ka) H2 (by omega) g2 (e.trans e2) _ fun vs H3 e3 g3 p' => q (x :: vs) H3 (e2.trans e3) (by rw [← Nat.add_assoc]; exact g3) (by rw [p, p'])
theorem s_setT {tr : TA} {i : Nat} {PA : List V → Hp → Prop} {D : Ends} (h : EvRA F0 tr σ H 0 PA) (kk : ∀ vs H1, Ex H H1 → PA vs H1 → vs.length ≤ sizeLine ∧ ∀ p, H1 p = none → D.nx (σ.set i (some (.ref p))) (upd H1 p (.tup vs))) : tAsg (tTup tr) (gName i) D σ H :=
  h 0 H (Nat.le_refl _) F0.g Kx.refl _ fun vs H1 k _ p => kk vs H1 (F0.ex k) p
theorem sh_two (x y : Bool) : SeqAt.shaped (.list [.bool x, .bool y]) = true := by cases x <;> cases y <;> decide +kernel
end
def nOut : List Str := ["_law_ask", "_law_found", "e", "_law_kinds_now", "_law_homes", "_law_is_other"]
/-- the classes that the suite names, asked of C -/
structure OutK (K : PySem.W.Frag) (mg : Str → Option Value) (C CT CI CP CR CB CX CN : Addr) : Prop where
  ex : ExcD K C
  xf : XfC K C
  w0 : PySem.W.findIn K (.ref C) "word" = some none
  a0 : PySem.W.findIn K (.ref C) "at" = some none
  gT : mg "ThinError" = some (.ref CT)
  eT : PySem.W.exmOne K (.ref C) (.ref CT) = some true
  gI : mg "InvalidPaper" = some (.ref CI)
  eI : PySem.W.kitOne K (.ref C) (.ref CI) = some false
  gU : mg "NotUsable" = some (.ref C)
  eU : PySem.W.kitOne K (.ref C) (.ref C) = some true
  gP : mg "PaperError" = some (.ref CP)
  eP : PySem.W.kitOne K (.ref C) (.ref CP) = some false
  gR : mg "TraceError" = some (.ref CR)
  eR : PySem.W.kitOne K (.ref C) (.ref CR) = some true
  gB : mg "BookError" = some (.ref CB)
  gX : mg "TextError" = some (.ref CX)
  gN : mg "NotTold" = some (.ref CN)
  eO : PySem.W.kitAny K (.ref C) [.ref CB, .ref CX, .ref CN] = some false
  eV : PySem.W.kitOne K (.ref C) (.type "ValueError") = some true
  mV : mg "ValueError" = none
  mI : mg "isinstance" = none
/-- the error that is told of -/
def exOut (C : Addr) (Q : VK) : XK := fun cls d H => cls = .ref C ∧ ∃ (dd : Addr) (fs : List (Str × V)) (w a : V), d = some dd ∧ H dd = some (.xd fs) ∧ fs.lookup ("word" : Str) = some w ∧ fs.lookup ("at" : Str) = some a ∧
  ∀ H' p, Ex H H' → H' p = some (.tup [.str "usable", w, a]) → Q (.ref p) H'
def TOut (C : Addr) : (XK → Hp → VK → Prop) → Hp → VK → Prop := fun tl H Q => ∀ H1, Ex H H1 → tl (exOut C Q) H1 fun v H2 => ∀ p, H2 p = none → Q (.ref p) (upd H2 p (.tup [.str "told", v]))
theorem takes_len {X : Cx} {W : WX} {n : Nat} (tk : Takes X W) (hn : X.N.length = n) : Takes X (fun cls d σ H => σ.length = n → W cls d σ H) := fun u s' ⟨a, B, sI, pins, σ, H, cls, d, e, I, nb, up, sky, na, os, ag, w⟩ =>
  tk u s' ⟨a, B, sI, pins, σ, H, cls, d, e, I, nb, up, sky, na, os, ag, w (I.len.trans hn)⟩
end K17
/-! ### outcomes of which there is one: mixed -/
namespace K17
open PySem PySem.Spec PyProof.Rows L2 Evl Fx Fr Dt Tr K18 So
theorem pt_never {X : Cx} {e : Expr} : PT X e (fun _ _ _ => False) := ⟨fun _ _ _ _ _ _ h => h.elim⟩
def nMixed : List Str := ["pairs", "merged", "thing", "chance"]
mutual
theorem alike_refl : ∀ d : PyData, flat d = true → PySem.W.alike d d = true
  | .none, _ => by simp [PySem.W.alike]
  | .bool _, _ => by simp [PySem.W.alike]
  | .int _, _ => by simp [PySem.W.alike]
  | .str _, _ => by simp [PySem.W.alike]
  | .list _, h => by simp [flat] at h
  | .tuple ds, h => by
    rw [PySem.W.alike]
    exact alikes_refl ds (by rwa [flat_tup] at h)
  | .dict _, h => by simp [flat] at h
theorem alikes_refl : ∀ ds : List PyData, flats ds = true → PySem.W.alikeAll ds ds = true
  | [], _ => by simp [PySem.W.alikeAll]
  | d :: ds, h => by
    obtain ⟨h1, h2⟩ := flats_cons.mp h
    rw [PySem.W.alikeAll, alike_refl d h1, alikes_refl ds h2]
    rfl
end
theorem srt_one {u v : PyData} (fu : flat u = true) (fv : flat v = true) : Srt [.tuple [u, v]] := by
  refine .inl ⟨fun d hd d' hd' => ?_, .inl fun d hd => ?_⟩
  · rw [List.mem_singleton.mp hd, List.mem_singleton.mp hd']
    exact alike_refl _ (by rw [flat_tup, flats_cons, flats_cons]; exact ⟨fu, fv, rfl⟩)
  · rw [List.mem_singleton.mp hd]
    exact ⟨_, _, rfl⟩
theorem one_sort (d : PyData) : [d].mergeSort (PySem.W.dataLe false id) = [d] := List.mergeSort_singleton d
section
variable {P : Program} {w : World} {K : PySem.W.Frag} {mg : Str → Option Value} {base : Heap} {f f2 f3 : Addr} {fd fd2 fd3 : FuncData} {F : Fd} {te ta tb : TE} {σ : L2.St} {H : Hp} {k ka kb n : Nat} {d : PyData} {ds : List PyData}
theorem rl_sortX (o : F.Ok) (h : EvR F te σ H k (IsL F K ds)) (hs : Srt ds) (hd : ∀ d ∈ ds, PyData.depth d ≤ 40) : EvR F (tCB (rSortX K) (tCons te tNil)) σ H k (IsL F K (ds.mergeSort (PySem.W.dataLe false id))) := fun n H1 hn g e Q q =>
  h n H1 hn g e _ fun v H2 e2 g2 ⟨a, xs, ev, hT, ha, hx⟩ => ⟨a, xs, ds, by rw [ev], .inl (sq_of ha), hx, hs, hd, fun p ws hp hw => q _ _ (e2.trans (Kx.ex (Ex.new hp))) (o.ex g2 (Ex.new hp)) ⟨p, ws, rfl, o.new g2 hp, upd_same, dps_ex (Ex.new hp) _ _ hw⟩⟩
theorem rl_sortXT (o : F.Ok) (h : EvR F te σ H k (IsD K (.tuple ds))) (hs : Srt ds) (hd : ∀ d ∈ ds, PyData.depth d ≤ 40) : EvR F (tCB (rSortX K) (tCons te tNil)) σ H k (IsL F K (ds.mergeSort (PySem.W.dataLe false id))) := fun n H1 hn g e Q q =>
  h n H1 hn g e _ fun v H2 e2 g2 hd' => by
    cases hd' with
    | @tup a xs _ ha hx => exact ⟨a, xs, ds, rfl, .inr ha, hx, hs, hd, fun p ws hp hw => q _ _ (e2.trans (Kx.ex (Ex.new hp))) (o.ex g2 (Ex.new hp)) ⟨p, ws, rfl, o.new g2 hp, upd_same, dps_ex (Ex.new hp) _ _ hw⟩⟩
/-- one pair alone -/
def spMixed (K : PySem.W.Frag) : Sp := spL K fun ds es => ∃ u v : PyData, flat u = true ∧ flat v = true ∧ PyData.depth u ≤ 38 ∧ PyData.depth v ≤ 38 ∧ ds = [.list [.tuple [u, v]]] ∧ es = [.tuple [u, v]]
end
end K17
/-! ### fractions: times, minus -/
namespace K17
open PySem PySem.Spec PyProof.Rows L2 Evl Fx Fr Dt Tr K18 So
theorem scTimes : FnScope ["one", "other"] ["one", "other"] (defScope (K18.topS 23)) := ⟨rfl, rfl, rfl, by decide +kernel, rfl, by decide +kernel, by decide +kernel⟩
theorem scMinus : FnScope ["one", "other"] ["one", "other"] (defScope (K18.topS 22)) := ⟨rfl, rfl, rfl, by decide +kernel, rfl, by decide +kernel, by decide +kernel⟩
section
variable {P : Program} {w : World} {K : PySem.W.Frag} {mg : Str → Option Value} {base : Heap} {f f2 f3 : Addr} {fd fd2 fd3 : FuncData} {te ta tb : TE} {σ : L2.St} {H : Hp} {k ka kb n : Nat} {d : PyData} {ds : List PyData}
theorem made_d {k : Nat} (G : FnOk P w K mg base CX0 k f fd ["p", "q"] (spI2F okR Rat.divInt)) : FnOk P w K mg base CX0 k f fd ["p", "q"] (spMade K) := G.imp fun vs H Q E h => by
  obtain ⟨ds, d, hd, ⟨i, j, hk, rfl, rfl⟩, q⟩ := h
  match vs, hd with
  | [v1, v2], .cons p1 (.cons p2 .nil) =>
  cases p1
  cases p2
  exact ⟨i, j, rfl, hk, fun H' p e hp => q _ H' e (.tup (st_of hp) (.cons (.int _) (.cons (.int _) .nil)))⟩
theorem rv_num {i : Nat} {v : V} {r : Rat} (h : σ[i]? = some (some v)) (hv : Dp K H v (frD r)) : EvR F0 (tOp (rIxT K) (tVar i) (tC (.int 0))) σ H 0 (fun x _ => x = .int r.num) :=
  rv_int (K := K) (rd_ix (ka := 0) (kb := 0) F0.ok (rd_var F0.ok (n := 0) F0.g h hv rfl) rv_c 0 rfl rfl rfl)
theorem rv_den {i : Nat} {v : V} {r : Rat} (h : σ[i]? = some (some v)) (hv : Dp K H v (frD r)) : EvR F0 (tOp (rIxT K) (tVar i) (tC (.int 1))) σ H 0 (fun x _ => x = .int (r.den : Int)) :=
  rv_int (K := K) (rd_ix (ka := 0) (kb := 0) F0.ok (rd_var F0.ok (n := 0) F0.g h hv rfl) rv_c 1 rfl rfl rfl)
theorem rv_mul {i j : Int} {n m : Nat} (ha : EvR F0 ta σ H 0 (fun x _ => x = .int i)) (hb : EvR F0 tb σ H 0 (fun x _ => x = .int j)) (h1 : i.natAbs < 2 ^ n) (h2 : j.natAbs < 2 ^ m) (h : n + m ≤ 4000) : EvR F0 (tOp (rI CMulW fun i j => .int (i * j)) ta tb) σ H 0 (fun x _ => x = .int (i * j)) :=
  rv_op (ka := 0) (kb := 0) F0.ok ha hb fun _ => rv_I (g := fun i j => .int (i * j)) (mulW h1 h2 h)
theorem rv_sub {i j : Int} (ha : EvR F0 ta σ H 0 (fun x _ => x = .int i)) (hb : EvR F0 tb σ H 0 (fun x _ => x = .int j)) : EvR F0 (tOp (rI0 fun i j => .int (i - j)) ta tb) σ H 0 (fun x _ => x = .int (i - j)) :=
  rv_op (ka := 0) (kb := 0) F0.ok ha hb fun _ => rv_I0 (g := fun i j => .int (i - j))
def spOpF (K : PySem.W.Frag) (g : Rat → Rat → Rat) : Sp := spD K fun ds d => ∃ x y, okB 1 x y ∧ ds = [frD x, frD y] ∧ d = frD (g x y)
theorem ok_times (F : Fun K "times" "times" (K18.topS 23) f fd) (cR : C8.Cal P w K mg base 1 "reduced_pair" (spMade K) []) : FnOk P w K mg base CX0 2 f fd ["one", "other"] (spOpF K (· * ·)) := by
  refine F.ok scTimes (fun vs H Q E h => ?_) (fun cdv A outer s H vs Q E hr h => ?_)
  · obtain ⟨ds, es, hd, ⟨x, y, _, rfl, _⟩, _⟩ := h
    exact dps_len hd
  · obtain ⟨ds, es, hd, ⟨x, y, ⟨n, m, h1, h2, hs⟩, rfl, rfl⟩, q⟩ := h
    match vs, hd with
    | [v1, v2], .cons p1 (.cons p2 .nil) =>
    refine ⟨_, pss_one (ps_ret (C8.pe_c cR hr (by decide) (by rfl) (pa_cons (pe_op op_mulW (pe_ix ix_tup (pv 0) pe_int (fun _ _ => rfl)) (pe_ix ix_tup (pv 1) pe_int (fun _ _ => rfl))) (pa_cons (pe_op op_mulW (pe_ix ix_tup (pv 0) pe_int (fun _ _ => rfl)) (pe_ix ix_tup (pv 1) pe_int (fun _ _ => rfl))) pa_nil)))), ?_⟩
    have d1 : (x.den : Int).natAbs < 2 ^ n := h1.2
    have d2 : (y.den : Int).natAbs < 2 ^ m := h2.2
    refine s_retR (F := F0) (n := 0) (k := 0) (P := IsD K (frD (x * y))) ?_ F0.g (Nat.le_refl _) fun v H1 e _ hv => q v H1 (F0.ex e) hv
    refine EvR.cast (rd_call F0.ok (ra_cons (ka := 0) (kb := 0) F0.ok (rd_ofI (rv_mul (rv_num (i := 0) rfl p1) (rv_num (i := 1) rfl p2) h1.1 h2.1 (by omega))) (ra_cons (ka := 0) (kb := 0) F0.ok (rd_ofI (rv_mul (rv_den (i := 0) rfl p1) (rv_den (i := 1) rfl p2) d1 d2 (by omega))) ra_nil)) ⟨_, _, ⟨Int.mul_ne_zero (den_ne x) (den_ne y), lt_up (im_lt h1.1 h2.1) (by omega), lt_up (im_lt d1 d2) (by omega)⟩, rfl, rfl⟩) (congrArg frD (mul_eq x y))
theorem ok_minus (F : Fun K "minus" "minus" (K18.topS 22) f fd) (cR : C8.Cal P w K mg base 1 "reduced_pair" (spMade K) []) : FnOk P w K mg base CX0 2 f fd ["one", "other"] (spOpF K (· - ·)) := by
  refine F.ok scMinus (fun vs H Q E h => ?_) (fun cdv A outer s H vs Q E hr h => ?_)
  · obtain ⟨ds, es, hd, ⟨x, y, _, rfl, _⟩, _⟩ := h
    exact dps_len hd
  · obtain ⟨ds, es, hd, ⟨x, y, ⟨n, m, h1, h2, hs⟩, rfl, rfl⟩, q⟩ := h
    match vs, hd with
    | [v1, v2], .cons p1 (.cons p2 .nil) =>
    refine ⟨_, pss_one (ps_ret (C8.pe_c cR hr (by decide) (by rfl) (pa_cons (pe_op op_sub (pe_op op_mulW (pe_ix ix_tup (pv 0) pe_int (fun _ _ => rfl)) (pe_ix ix_tup (pv 1) pe_int (fun _ _ => rfl))) (pe_op op_mulW (pe_ix ix_tup (pv 1) pe_int (fun _ _ => rfl)) (pe_ix ix_tup (pv 0) pe_int (fun _ _ => rfl)))) (pa_cons (pe_op op_mulW (pe_ix ix_tup (pv 0) pe_int (fun _ _ => rfl)) (pe_ix ix_tup (pv 1) pe_int (fun _ _ => rfl))) pa_nil)))), ?_⟩
    have d1 : (x.den : Int).natAbs < 2 ^ n := h1.2
    have d2 : (y.den : Int).natAbs < 2 ^ m := h2.2
    refine s_retR (F := F0) (n := 0) (k := 0) (P := IsD K (frD (x - y))) ?_ F0.g (Nat.le_refl _) fun v H1 e _ hv => q v H1 (F0.ex e) hv
    have t2 := im_lt h2.1 d1
    rw [Nat.add_comm m n] at t2
    refine EvR.cast (rd_call F0.ok (ra_cons (ka := 0) (kb := 0) F0.ok (rd_ofI (rv_sub (rv_mul (rv_num (i := 0) rfl p1) (rv_den (i := 1) rfl p2) h1.1 d2 (by omega)) (rv_mul (rv_num (i := 1) rfl p2) (rv_den (i := 0) rfl p1) h2.1 d1 (by omega)))) (ra_cons (ka := 0) (kb := 0) F0.ok (rd_ofI (rv_mul (rv_den (i := 0) rfl p1) (rv_den (i := 1) rfl p2) d1 d2 (by omega))) ra_nil)) ⟨_, _, ⟨Int.mul_ne_zero (den_ne x) (den_ne y), lt_up (is_lt (im_lt h1.1 d2) t2) (by omega), lt_up (im_lt d1 d2) (by omega)⟩, rfl, rfl⟩) (congrArg frD (sub_eq x y))
end
end K17
/-! ### a piece more; two outcomes joined -/
namespace K17
open PySem PySem.Spec PyProof.Rows L2 Evl Fx Fr Dt Tr K18 So
abbrev R2 : Type := List T × List Pc
def resD (r : R2) : PyData := .tuple [.tuple (r.1.map enc), .tuple (r.2.map Pc.D)]
def outD (r : R2) : PyData := .tuple [resD r, frD 1]
theorem res_flat (r : R2) : flat (resD r) = true := by
  rw [resD, flat_tup, flats_cons, flats_cons, flat_tup, flat_tup]
  exact ⟨maps_flat _, pcs_flat _, rfl⟩
theorem out_flat (r : R2) : flat (outD r) = true := by
  rw [outD, flat_tup, flats_cons, flats_cons]
  exact ⟨res_flat r, rfl, rfl⟩
/-- of so many spans at the most -/
def Few (n : Nat) (r : R2) : Prop := sizes r.1 + psizes r.2 ≤ n ∧ r.1.length ≤ n ∧ r.2.length ≤ n
def pieceOf (wd : Str) (ts : List T) : Pc := if wd = "top" then (match ts with | t :: _ => .top t | [] => .lost []) else .lost ts
def withP (wd : Str) (ts : List T) (ps : List Pc) : List Pc := match ts with
  | [] => ps
  | _ :: _ => sortP (ps ++ [pieceOf wd ts])
def nWP : List Str := ["trees", "pieces", "word", "piece"]
def nBoth : List Str := ["one", "other", "trees", "pieces", "chance", "more_trees", "more_pieces", "second", "held"]
section
variable {P : Program} {w : World} {K : PySem.W.Frag} {mg : Str → Option Value} {base : Heap} {f f2 f3 : Addr} {fd fd2 fd3 : FuncData} {te ta tb : TE} {σ : L2.St} {H : Hp} {k ka kb n : Nat} {d : PyData} {ds : List PyData}
theorem rt_truT {i : Nat} {v : V} (h : σ[i]? = some (some v)) (hv : Dp K H v (.tuple ds)) : EvRT F0 (tTru K i) σ H 0 (!ds.isEmpty) := fun n H1 hn g e Q q => by
  cases hv with
  | @tup a xs _ ha hx =>
    have hl := dps_len hx
    refine ⟨.ref a, h, !xs.isEmpty, .inr (.inl ⟨xs, ex_t (F0.ex e) ha, rfl⟩), ?_⟩
    have : (!xs.isEmpty) = !ds.isEmpty := by
      cases xs <;> cases ds <;> first | rfl | (simp at hl)
    rw [this]
    exact q H1 Kx.refl g
theorem rv_eqS {a b : Str} (ha : EvR F0 ta σ H 0 (fun x _ => x = .str a)) (hb : EvR F0 tb σ H 0 (fun x _ => x = .str b)) : EvR F0 (tOp rEq ta tb) σ H 0 (fun x _ => x = .bl (decide (a = b))) := by
  have h := rv_op (ka := 0) (kb := 0) (z := .bl (decide (V.str a = V.str b))) F0.ok ha hb (fun _ => rv_eq rfl)
  have e : decide (V.str a = V.str b) = decide (a = b) := decide_eq_decide.mpr ⟨fun h => V.str.inj h, fun h => by rw [h]⟩
  rw [e] at h
  exact h
theorem pieceOf_size (wd : Str) (ts : List T) : (pieceOf wd ts).size ≤ sizes ts := by
  unfold pieceOf
  split
  · cases ts with
    | nil => exact Nat.le_refl _
    | cons t ts => rw [sizes]; exact Nat.le_add_right _ _
  · exact Nat.le_refl _
theorem depth_pcs {ps : List Pc} {n : Nat} (h : ∀ p ∈ ps, p.size ≤ n) (hn : n ≤ 19) : ∀ d ∈ ps.map Pc.D, PyData.depth d ≤ 40 := fun d hd => by
  obtain ⟨p, hp, rfl⟩ := List.mem_map.mp hd
  have := p.depth
  have := h p hp
  omega
def spWP (K : PySem.W.Frag) : Sp := spD K fun ds d => ∃ (ts : List T) (ps : List Pc) (wd : Str), (wd = "top" ∨ wd = "lost") ∧ Few 15 (ts, ps) ∧ ds = [.tuple (ts.map enc), .tuple (ps.map Pc.D), .str wd] ∧ d = .tuple ((withP wd ts ps).map Pc.D)
def spBoth (K : PySem.W.Frag) : Sp := spD K fun ds d => ∃ (r r' : R2), Few 15 (r.1 ++ r'.1, r.2 ++ r'.2) ∧ ds = [outD r, outD r'] ∧ d = outD (sortT (r.1 ++ r'.1), sortP (r.2 ++ r'.2))
end
end K17
/-! ### several outcomes joined -/
namespace K17
open PySem PySem.Spec PyProof.Rows L2 Evl Fx Fr Dt Tr K18 So
section
variable {P : Program} {w : World} {K : PySem.W.Frag} {mg : Str → Option Value} {base : Heap} {f f2 f3 : Addr} {fd fd2 fd3 : FuncData} {te ta tb : TE} {σ : L2.St} {H : Hp} {k ka kb n : Nat} {d : PyData} {ds : List PyData}
/-- one item out of a list of one and another list of one -/
theorem r_lc2one {i j i2 j2 : Nat} {vs vs1 : List Nat} {a b : Addr} {x y : V} (ha : σ[i]? = some (some (.ref a))) (hb : ((wipe σ vs).set j (some x))[i2]? = some (some (.ref b))) (la : SqL K H a [x]) (lb : SqL K H b [y])
    (w1 : wipe ((wipe σ vs).set j (some x)) vs = wipe σ vs) (w2 : wipe ((wipe ((wipe σ vs).set j (some x)) vs1).set j2 (some y)) vs1 = wipe ((wipe σ vs).set j (some x)) vs1)
    (he : ∀ H', Ex H H' → EvR F0 te ((wipe ((wipe σ vs).set j (some x)) vs1).set j2 (some y)) H' 0 (IsD K d)) (hf : flat d = true) :
    EvR F0 (tLc2 (iList K (tVar i)) (gName j) tYes (iList K (tVar i2)) (gName j2) tYes te vs vs1) σ H 0 (IsL F0 K [d]) := fun n H1 hn g e Q q => by
  replace e := F0.ex e
  have la1 := ex_l e la
  have lb1 := ex_l e lb
  refine ⟨.ref a, ha, a, rfl, ⟨[x], la1⟩, fun D hD => ?_⟩
  let P0 : Hp → Prop := fun H' => Ex H1 H' ∧ H' D = some (.lst [])
  let P1 : Hp → Prop := fun H' => Ex H1 H' ∧ ∃ z, H' D = some (.lst [z]) ∧ Dp K H' z d
  have e0 := Ex.new (o := HO.lst []) hD
  refine ⟨fun i m H' => (i = 0 ∧ m = 1 ∧ P0 H') ∨ (i = 1 ∧ m = 0 ∧ P1 H'), ⟨1, .inl ⟨rfl, rfl, e0, upd_same⟩⟩, fun i m H2 hW => ?_⟩
  rcases hW with ⟨rfl, rfl, e2, h2⟩ | ⟨rfl, rfl, e2, z, h2, hz⟩
  · refine .inr ⟨⟨[x], x, ex_l e2 la1, rfl⟩, P1, fun H' p => ⟨0, by decide, .inr ⟨rfl, rfl, p⟩⟩, fun x' H' y' => ?_⟩
    obtain ⟨rfl, y'⟩ := y'
    have ex := y' [x] (ex_l e2 la1)
    cases ex
    refine ⟨w1, .ref b, hb, b, rfl, ⟨[y], ex_l e2 lb1⟩, fun j k H' => (j = 0 ∧ k = 1 ∧ P0 H') ∨ (j = 1 ∧ k = 0 ∧ P1 H'), ⟨1, .inl ⟨rfl, rfl, e2, h2⟩⟩, fun j k H3 hV => ?_⟩
    rcases hV with ⟨rfl, rfl, e3, h3⟩ | ⟨rfl, rfl, p⟩
    · refine .inr ⟨⟨[y], y, ex_l e3 lb1, rfl⟩, P1, fun H' p => ⟨0, by decide, .inr ⟨rfl, rfl, p⟩⟩, fun y2 H' y3 => ?_⟩
      obtain ⟨rfl, y3⟩ := y3
      have ey := y3 [y] (ex_l e3 lb1)
      cases ey
      refine ⟨w2, he _ (e.trans e3) 0 _ (Nat.le_refl _) F0.g Kx.refl _ fun v H4 e4 _ hv => ⟨[], F0.ex e4 _ _ h3, (by show 0 < sizeLine; decide), ?_⟩⟩
      have h4 := F0.ex e4 _ _ h3
      refine ⟨(e3.trans (F0.ex e4)).mut hD, v, upd_same, dp_kt (kt_lst h4) d v hf hv⟩
    · exact .inl ⟨⟨[y], ex_l p.1 lb1, Nat.le_refl _⟩, p⟩
  · exact .inl ⟨⟨[x], ex_l e2 la1, Nat.le_refl _⟩, q (.ref D) H2 (Kx.ex e2) g ⟨D, [z], rfl, fun z => z, h2, .cons hz .nil⟩⟩
/-- the outcomes together -/
def catR (rs : List R2) : R2 := (rs.flatMap Prod.fst, rs.flatMap Prod.snd)
def joinR (rs : List R2) : R2 := (sortT (catR rs).1, sortP (catR rs).2)
def oneD (r : R2) : PyData := .list [outD r]
theorem join_step (rs : List R2) (r : R2) : (sortT ((joinR rs).1 ++ r.1), sortP ((joinR rs).2 ++ r.2)) = joinR (rs ++ [r]) := by
  simp only [joinR, catR, sortT_app, sortP_app, List.flatMap_append, List.flatMap_cons, List.flatMap_nil, List.append_nil]
theorem few_of {n : Nat} {rs : List R2} {r : R2} (h : Few n (catR (rs ++ [r]))) : Few n ((joinR rs).1 ++ r.1, (joinR rs).2 ++ r.2) := by
  obtain ⟨h1, h2, h3⟩ := h
  simp only [catR, List.flatMap_append, List.flatMap_cons, List.flatMap_nil, List.append_nil] at h1 h2 h3
  have p1 := (sort_perm (rs.flatMap Prod.fst)).append_right r.1
  have p2 := (sortP_mem (rs.flatMap Prod.snd)).append_right r.2
  exact ⟨by show sizes _ + psizes _ ≤ n; rw [show sizes ((joinR rs).1 ++ r.1) = _ from sizes_perm p1, show psizes ((joinR rs).2 ++ r.2) = _ from psizes_perm p2]; exact h1,
    by show List.length _ ≤ n; rw [show ((joinR rs).1 ++ r.1).length = _ from p1.length_eq]; exact h2, by show List.length _ ≤ n; rw [show ((joinR rs).2 ++ r.2).length = _ from p2.length_eq]; exact h3⟩
theorem few_join {n : Nat} {rs : List R2} (h : Few n (catR rs)) : Few n (joinR rs) := by
  obtain ⟨h1, h2, h3⟩ := h
  have p1 := sort_perm (catR rs).1
  have p2 := sortP_mem (catR rs).2
  exact ⟨by show sizes (sortT _) + psizes (sortP _) ≤ n; rw [sizes_perm p1, psizes_perm p2]; exact h1, by show List.length (sortT _) ≤ n; rw [p1.length_eq]; exact h2, by show List.length (sortP _) ≤ n; rw [p2.length_eq]; exact h3⟩
theorem few_take {n m : Nat} {rs : List R2} (h : Few n (catR rs)) : Few n (catR (rs.take m)) := by
  obtain ⟨h1, h2, h3⟩ := h
  have e : rs = rs.take m ++ rs.drop m := (List.take_append_drop m rs).symm
  rw [e] at h1 h2 h3
  simp only [catR, List.flatMap_append, sizes_app, psizes_app, List.length_append] at h1 h2 h3
  exact ⟨by show sizes _ + psizes _ ≤ n; simp only [catR]; omega, by show List.length _ ≤ n; simp only [catR]; omega, by show List.length _ ≤ n; simp only [catR]; omega⟩
theorem depth_all {ps : List Pc} {n : Nat} (h : ∀ p ∈ ps, p.size ≤ n) : PyData.depthAll (ps.map Pc.D) ≤ 2 * n + 2 := by
  induction ps with
  | nil => simp [PyData.depthAll]
  | cons p ps ih =>
    have h1 := p.depth
    have h2 := h p (List.mem_cons_self ..)
    have h3 := ih fun q hq => h q (List.mem_cons_of_mem _ hq)
    rw [List.map_cons, PyData.depthAll]
    omega
theorem res_depth {r : R2} (h : Few 15 r) : PyData.depth (resD r) ≤ 38 := by
  obtain ⟨h1, _, _⟩ := h
  have a := encs_depth r.1
  rw [encs_map] at a
  have b := depth_all (ps := r.2) (n := 15) fun p hp => by
    have := psize_mem hp
    omega
  simp only [resD, PyData.depth, PyData.depthAll]
  omega
theorem ra_one {F : Fd} {te : TE} {σ : L2.St} {H : Hp} {k : Nat} {d : PyData} (h : EvR F te σ H k (IsD K d)) : EvRA F (tCons te tNil) σ H k (fun vs H => DpAll K H vs [d]) := fun n H1 hn g e Q q =>
  h n H1 hn g e _ fun v H2 e2 g2 p => q [v] H2 e2 g2 (.cons p .nil)
theorem rd_ofL {F : Fd} {te : TE} {σ : L2.St} {H : Hp} {k : Nat} {ds : List PyData} (h : EvR F te σ H k (IsL F K ds)) : EvR F te σ H k (IsD K (.list ds)) := h.imp fun _ _ _ _ _ p => p.dp
theorem s_asgR {F : Fd} {te : TE} {σ : L2.St} {H : Hp} {k n i : Nat} {P : VP} {D : Ends} (h : EvR F te σ H k P) (g0 : F.G n H) (hn : n + k ≤ F.N) (kk : ∀ v H1, Kx F.S H H1 → F.G (n + k) H1 → P v H1 → D.nx (σ.set i (some v)) H1) : tAsg te (gName i) D σ H := h n H hn g0 Kx.refl _ kk
theorem rd_wr {F : Fd} {a : Addr} {d : PyData} {σ : L2.St} {H : Hp} (h : ∀ H, Dp K H (.ref a) d) : EvR F (tC (.ref a)) σ H 0 (IsD K d) := fun n H1 hn g e Q q => q _ H1 Kx.refl g (h H1)
theorem join_nil : joinR [] = ([], []) := by simp [joinR, catR, sortT, sortP]
theorem rn_call {F : Fd} {tr : TA} {σ : L2.St} {H : Hp} {k : Nat} {ds es : List PyData} {Rl : List PyData → List PyData → Prop} {E : XK} (o : F.Ok) (h : EvRA F tr σ H k (fun vs H => DpAll K H vs ds)) (hR : Rl ds es) : EvR F (tCall (spL K Rl) [] E tr) σ H k (IsN H F K es) := fun n H1 hn g e Q q => h n H1 hn g e _ fun vs H2 e2 g2 p =>
  ⟨ds, es, by rw [List.append_nil]; exact p, hR, fun a xs H3 ha e3 hv hx => q (.ref a) H3 (e2.trans (Kx.ex e3)) (o.ex g2 e3) ⟨a, xs, rfl, kx_none o g e (kx_none o g2 e2 ha), o.new g2 ha, hv, hx⟩⟩
theorem q_forLs {K : PySem.W.Frag} {σ : L2.St} {H : Hp} {i j : Nat} {a : Addr} {xs : List V} {tb tz : TS} {D : Ends} (hv : σ[i]? = some (some (.ref a))) (Pv : Nat → L2.St → Hp → Prop) (h0 : Pv 0 σ H) (hl : ∀ m σ' H', Pv m σ' H' → SqL K H' a xs)
    (hs : ∀ m x σ' H', xs[m]? = some x → Pv m σ' H' → tb { D with nx := Pv (m + 1), ct := Pv (m + 1), bk := tz D } (σ'.set j (some x)) H') (hd : ∀ σ' H', Pv xs.length σ' H' → tz D σ' H') : tSeq (tFor (iList K (tVar i)) (gName j) tb) tz D σ H :=
  ⟨.ref a, hv, a, rfl, ⟨xs, hl 0 σ H h0⟩, for_list Pv h0 (fun m σ' H' _ p => hl m σ' H' p) hs hd⟩
def nJoined : List Str := ["parts", "together", "part", "one", "other"]
def spJoined (K : PySem.W.Frag) : Sp := spL K fun ds es => ∃ rs : List R2, Few 15 (catR rs) ∧ rs.length ≤ 15 ∧ ds = [.list (rs.map oneD)] ∧ es = [outD (joinR rs)]
end
end K17
/-! ### closed, as_sights, kept_or_gone -/
namespace K17
open PySem PySem.Spec PyProof.Rows L2 Evl Fx Fr Dt Tr K18 So
section
variable {P : Program} {w : World} {K : PySem.W.Frag} {mg : Str → Option Value} {base : Heap} {f f2 f3 : Addr} {fd fd2 fd3 : FuncData} {te tl ta tb : TE} {σ σ2 : L2.St} {H : Hp} {k ka kb n : Nat} {d d0 : PyData} {ds : List PyData} {g : TG} {vs : List Nat}
/-- a comprehension over a list of one -/
theorem r_lc1 (hl : EvR F0 tl σ H 0 (IsD K (.list [d0]))) (hg : ∀ x H', Ex H H' → Dp K H' x d0 → ∃ σ2, Gv g x (wipe σ vs) H' σ2 ∧ wipe σ2 vs = wipe σ vs ∧ EvR F0 te σ2 H' 0 (IsD K d)) (hf : flat d = true) :
    EvR F0 (tLc (iList K tl) g tYes te vs) σ H 0 (IsN H F0 K [d]) := fun n H1 hn gg e Q q => hl n H1 hn gg e _ fun v H2 e2 _ hv => by
  replace e := F0.ex e
  replace e2 := F0.ex e2
  cases hv with
  | @lst a xs _ ha hx =>
  cases hx with
  | @cons x xr _ _ hx hr =>
  cases hr
  refine ⟨a, rfl, ⟨[x], ha⟩, fun D hD => ?_⟩
  have e0 := Ex.new (o := HO.lst []) hD
  refine lc_list (xs := [x]) (fun i H' => Ex H2 H' ∧ ((i = 0 ∧ H' D = some (.lst [])) ∨ (i = 1 ∧ ∃ z, H' D = some (.lst [z]) ∧ Dp K H' z d))) ⟨e0, .inl ⟨rfl, upd_same⟩⟩ (fun i H' _ p => ex_l p.1 ha) (fun i y H' hy p => ?_) fun H' p => ?_
  · match i, hy with
    | 0, hy =>
    cases hy
    obtain ⟨e3, p⟩ := p
    rcases p with ⟨_, hDD⟩ | ⟨z, _⟩
    · obtain ⟨σ2, h1, h2, h3⟩ := hg x H' (e.trans (e2.trans e3)) (dp_ex e3 _ _ hx)
      refine h1 _ ⟨h2, h3 0 H' (Nat.le_refl _) F0.g Kx.refl _ fun y H4 e4 _ hy => ⟨[], F0.ex e4 _ _ hDD, (by show 0 < sizeLine; decide), (e3.trans (F0.ex e4)).mut hD, .inr ⟨rfl, y, upd_same, dp_kt (kt_lst (F0.ex e4 _ _ hDD)) d y hf hy⟩⟩⟩
    · cases z
  · obtain ⟨e3, p⟩ := p
    rcases p with ⟨z, _⟩ | ⟨_, z, hDD, hz⟩
    · cases z
    · exact q (.ref D) H' (Kx.ex (e2.trans e3)) gg ⟨D, [z], rfl, fresh_back (e.trans e2) hD, fun z => z, hDD, .cons hz .nil⟩
theorem withP_size (wd : Str) (ts : List T) (ps : List Pc) : psizes (withP wd ts ps) ≤ sizes ts + psizes ps := by
  unfold withP
  cases ts with
  | nil => show psizes ps ≤ _; omega
  | cons t ts =>
    have := pieceOf_size wd (t :: ts)
    show psizes (sortP _) ≤ _
    rw [psizes_perm (sortP_mem _), psizes_app, psizes_cons, show psizes [] = 0 from rfl]
    omega
theorem res_depth' {r : R2} (h1 : sizes r.1 + psizes r.2 ≤ 15) : PyData.depth (resD r) ≤ 38 := by
  have a := encs_depth r.1
  rw [encs_map] at a
  have b := depth_all (ps := r.2) (n := 15) fun p hp => by
    have := psize_mem hp
    omega
  simp only [resD, PyData.depth, PyData.depthAll]
  omega
/-- a name, of any data, where nothing changes -/
theorem rd_var0 {i : Nat} {v : V} {d : PyData} {σ : L2.St} {H : Hp} (h : σ[i]? = some (some v)) (hv : Dp K H v d) : EvR F0 (tVar i) σ H 0 (IsD K d) := fun n H1 hn g e Q q => ⟨v, h, q v H1 Kx.refl g (dp_ex (F0.ex e) _ _ hv)⟩
theorem rd_ofN {F : Fd} {H0 : Hp} {te : TE} {σ : L2.St} {H : Hp} {k : Nat} {ds : List PyData} (h : EvR F te σ H k (IsN H0 F K ds)) : EvR F te σ H k (IsD K (.list ds)) := h.imp fun _ _ _ _ _ ⟨p, xs, e, _, hT, hp, hx⟩ => IsL.dp ⟨p, xs, e, hT, hp, hx⟩
theorem rl_ofN {F : Fd} {H0 : Hp} {te : TE} {σ : L2.St} {H : Hp} {k : Nat} {ds : List PyData} (h : EvR F te σ H k (IsN H0 F K ds)) : EvR F te σ H k (IsL F K ds) := h.imp fun _ _ _ _ _ ⟨p, xs, e, _, hT, hp, hx⟩ => ⟨p, xs, e, hT, hp, hx⟩
/-- a pair of a pair and a value, taken apart -/
theorem gv_out {i j l : Nat} {x : V} {H' : Hp} {σ0 : L2.St} {d1 d2 d3 : PyData} (hx : Dp K H' x (.tuple [.tuple [d1, d2], d3])) : ∃ u1 u2 u3, Gv (gTup K 2 (gCons (gTup K 2 (gCons (gName i) (gCons (gName j) gNil))) (gCons (gName l) gNil))) x σ0 H' (((σ0.set i (some u1)).set j (some u2)).set l (some u3)) ∧ Dp K H' u1 d1 ∧ Dp K H' u2 d2 ∧ Dp K H' u3 d3 := by
  obtain ⟨a, x1, y, rfl, ha, hx1, hy⟩ := dp_two hx
  obtain ⟨b, t, s, rfl, hb, ht, hs⟩ := dp_two hx1
  exact ⟨t, s, y, fun Q q => ⟨a, _, rfl, ha, rfl, .ref b, _, rfl, b, _, rfl, hb, rfl, t, _, rfl, s, _, rfl, rfl, y, _, rfl, rfl, q⟩, ht, hs, hy⟩
/-- mixed, of one outcome -/
theorem rn_mixed {te : TE} {σ : L2.St} {H : Hp} {u v : PyData} {E : XK} (h : EvR F0 te σ H 0 (IsD K (.list [.tuple [u, v]]))) (fu : flat u = true) (fv : flat v = true) (du : PyData.depth u ≤ 38) (dv : PyData.depth v ≤ 38) : EvR F0 (tCall (spMixed K) [] E (tCons te tNil)) σ H 0 (IsN H F0 K [.tuple [u, v]]) :=
  rn_call F0.ok (ra_one h) ⟨u, v, fu, fv, du, dv, rfl, rfl⟩
/-- what a def hands back, a new list -/
theorem s_retN {te : TE} {σ : L2.St} {H : Hp} {ds : List PyData} {D : Ends} (h : EvR F0 te σ H 0 (IsN H F0 K ds)) (q : ∀ p xs H', H p = none → Ex H H' → H' p = some (.lst xs) → DpAll K H' xs ds → D.rt (.ref p) H') : tRet te D σ H :=
  s_retR (F := F0) (n := 0) h F0.g (Nat.le_refl _) fun v H1 e _ ⟨p, xs, ev, nB, _, hp, hx⟩ => by
    subst ev
    exact q p xs H1 nB (F0.ex e) hp hx
def nClosed : List Str := ["outcomes", "word", "trees", "pieces", "chance"]
def spClosed (K : PySem.W.Frag) : Sp := spL K fun ds es => ∃ (r : R2) (wd : Str), (wd = "top" ∨ wd = "lost") ∧ Few 15 r ∧ ds = [oneD r, .str wd] ∧ es = [outD ([], withP wd r.1 r.2)]
end
end K17
/-! ### as_sights, kept_or_gone -/
namespace K17
open PySem PySem.Spec PyProof.Rows L2 Evl Fx Fr Dt Tr K18 So
def nAsS : List Str := ["outcomes", "held", "chance"]
def nKG : List Str := ["chance", "kept", "gone", "found", "trees", "pieces", "part", "held"]
section
variable {P : Program} {w : World} {K : PySem.W.Frag} {mg : Str → Option Value} {base : Heap} {f f2 f3 : Addr} {fd fd2 fd3 : FuncData} {te tl ta tb : TE} {σ σ2 : L2.St} {H : Hp} {k ka kb n : Nat} {d d0 : PyData} {ds es : List PyData} {g : TG} {vs : List Nat}
theorem rn_cat (ha : EvR F0 ta σ H 0 (IsL F0 K ds)) (hb : EvR F0 tb σ H 0 (IsL F0 K es)) (fd : flats ds = true) (hl : ds.length + es.length ≤ 100000) : EvR F0 (tOp rCat ta tb) σ H 0 (IsN H F0 K (ds ++ es)) := fun n H1 hn g e Q q =>
  ha n H1 hn g e _ fun x H2 e2 _ p => hb n H2 hn F0.g (e.trans e2) _ fun y H3 e3 _ p' => by
    obtain ⟨a, xs, rfl, hT, ha, hx⟩ := mono_l F0.ok fd 0 _ _ _ F0.g e3 p
    obtain ⟨b, ys, rfl, hT', hb, hy⟩ := p'
    have l1 := dps_len hx
    have l2 := dps_len hy
    refine ⟨a, b, xs, ys, rfl, rfl, ha, hb, sz_of (by omega), fun l hl => ?_⟩
    have el := Ex.new (o := HO.lst (xs ++ ys)) hl
    exact q (.ref l) _ (e2.trans (e3.trans (Kx.ex el))) F0.g ⟨l, _, rfl, kx_none F0.ok (n := 0) F0.g (e.trans (e2.trans e3)) hl, fun z => z, upd_same, dps_ex el _ _ (dps_app hx hy)⟩
/-- a pair, taken apart -/
theorem gv_two {i j : Nat} {x : V} {H' : Hp} {σ0 : L2.St} {d1 d2 : PyData} (hx : Dp K H' x (.tuple [d1, d2])) : ∃ u1 u2, Gv (gTup K 2 (gCons (gName i) (gCons (gName j) gNil))) x σ0 H' ((σ0.set i (some u1)).set j (some u2)) ∧ Dp K H' u1 d1 ∧ Dp K H' u2 d2 := by
  obtain ⟨a, x1, y, rfl, ha, hx1, hy⟩ := dp_two hx
  exact ⟨x1, y, fun Q q => ⟨a, _, rfl, ha, rfl, x1, _, rfl, y, _, rfl, rfl, q⟩, hx1, hy⟩
theorem gv_three {i j l : Nat} {x : V} {H' : Hp} {σ0 : L2.St} {d1 d2 d3 : PyData} (hx : Dp K H' x (.tuple [d1, d2, d3])) : ∃ u1 u2 u3, Gv (gTup K 3 (gCons (gName i) (gCons (gName j) (gCons (gName l) gNil)))) x σ0 H' (((σ0.set i (some u1)).set j (some u2)).set l (some u3)) ∧ Dp K H' u1 d1 ∧ Dp K H' u2 d2 ∧ Dp K H' u3 d3 := by
  obtain ⟨a, x1, x2, x3, rfl, ha, h1, h2, h3⟩ := dp_three hx
  exact ⟨x1, x2, x3, fun Q q => ⟨a, _, rfl, ha, rfl, x1, _, rfl, x2, _, rfl, x3, _, rfl, rfl, q⟩, h1, h2, h3⟩
def sightD (ps : List Pc) : PyData := .tuple [.tuple (ps.map Pc.D), frD 1]
theorem sight_flat (ps : List Pc) : flat (sightD ps) = true := by
  rw [sightD, flat_tup, flats_cons, flats_cons, flat_tup]
  exact ⟨pcs_flat _, rfl, rfl⟩
def spAsS (K : PySem.W.Frag) : Sp := spL K fun ds es => ∃ r : R2, ds = [oneD r] ∧ es = [sightD r.2]
def keptD (r : R2) : PyData := .tuple [.tuple (r.1.map enc), .tuple (r.2.map Pc.D), frD 1]
theorem kept_flat (r : R2) : flat (keptD r) = true := by
  rw [keptD, flat_tup, flats_cons, flats_cons, flats_cons, flat_tup, flat_tup]
  exact ⟨maps_flat _, pcs_flat _, rfl, rfl⟩
def chD (b : Bool) : PyData := frD (if b then 1 else 0)
def spKG (K : PySem.W.Frag) : Sp := spL K fun ds es => ∃ (b : Bool) (r r' : R2), Few 15 r ∧ Few 15 r' ∧ ds = [chD b, .list [keptD r], oneD r'] ∧ es = [outD (if b then r else r')]
end
end K17
/-! ### a tree's outcome, its spans kept or not (flags in the order of the spans) -/
namespace K17
open PySem PySem.Spec PyProof.Rows L2 Evl Fx Fr Dt Tr K18 So
def nodeR (s : Str) (m : Int) (b : Bool) (j : R2) : R2 := if b then ([.mk s m j.1], j.2) else ([], withP "lost" j.1 j.2)
mutual
def resT : T → List Bool → R2
  | .mk s m cs, bs => nodeR s m (bs.headD false) (joinR (resL cs bs.tail))
def resL : List T → List Bool → List R2
  | [], _ => []
  | t :: ts, bs => resT t (bs.take (size t)) :: resL ts (bs.drop (size t))
end
theorem resT_eq (t : T) (bs : List Bool) : resT t bs = nodeR t.name t.mark (bs.headD false) (joinR (resL t.calls bs.tail)) := by cases t; rw [resT]; rfl
theorem resL_app : ∀ (us ts : List T) (bs : List Bool), resL (us ++ ts) bs = resL us bs ++ resL ts (bs.drop (sizes us))
  | [], ts, bs => by rw [List.nil_append, resL, sizes, List.drop_zero, List.nil_append]
  | u :: us, ts, bs => by rw [List.cons_append, resL, resL, resL_app us ts, sizes, List.drop_drop, List.cons_append]
theorem resL_take : ∀ (ts : List T) (bs : List Bool) (n : Nat), sizes ts ≤ n → resL ts (bs.take n) = resL ts bs
  | [], _, _, _ => by rw [resL, resL]
  | t :: ts, bs, n, h => by
    rw [sizes] at h
    rw [resL, resL, List.take_take, Nat.min_eq_left (by omega), List.drop_take, resL_take ts _ _ (by omega)]
theorem resL_len : ∀ (ts : List T) (bs : List Bool), (resL ts bs).length = ts.length
  | [], _ => by rw [resL]; rfl
  | t :: ts, bs => by rw [resL, List.length_cons, List.length_cons, resL_len ts]
/-- the trees that are left behind so many spans -/
def stepF : List T → List T
  | [] => []
  | t :: us => t.calls ++ us
def roots (t : T) : Nat → List T
  | 0 => [t]
  | k + 1 => stepF (roots t k)
theorem roots_drop (t : T) : ∀ k, (subs t).drop k = subsA (roots t k)
  | 0 => by simp [roots, subsA]
  | k + 1 => by
    have h := roots_drop t k
    rw [← List.drop_drop, h, roots]
    cases roots t k with
    | nil => rw [stepF, subsA]; rfl
    | cons u us => rw [stepF, subsA, subs_eq, subsA_app]; rfl
theorem roots_at {t : T} {k : Nat} (hk : k < size t) : ∃ s us, (subs t)[k]? = some s ∧ roots t k = s :: us ∧ roots t (k + 1) = s.calls ++ us := by
  have h := roots_drop t k
  have hl : k < (subs t).length := by rw [subs_len]; exact hk
  cases hr : roots t k with
  | nil =>
    rw [hr, subsA] at h
    have := congrArg List.length h
    rw [List.length_drop] at this
    simp at this
    omega
  | cons s us =>
    refine ⟨s, us, ?_, rfl, by rw [roots, hr, stepF]⟩
    rw [hr, subsA, subs_eq s, List.cons_append, List.drop_eq_getElem_cons hl] at h
    rw [List.getElem?_eq_getElem hl]
    rw [(List.cons.inj h).1]
theorem roots_size (t : T) (k : Nat) : sizes (roots t k) = size t - k := by
  rw [← subsA_len, ← roots_drop, List.length_drop, subs_len]
/-- one span more -/
theorem res_step {s : T} {us : List T} {b : Bool} {bs : List Bool} : resL (s :: us) (b :: bs) = nodeR s.name s.mark b (joinR (resL s.calls bs)) :: resL us (bs.drop (sizes s.calls)) := by
  rw [resL, resT_eq, size_eq, List.take_succ_cons, List.drop_succ_cons, List.headD_cons, List.tail_cons, resL_take _ _ _ (Nat.le_refl _)]
/-- so many spans at the most, no piece without one -/
def Fw (n : Nat) (r : R2) : Prop := sizes r.1 + psizes r.2 ≤ n ∧ ∀ p ∈ r.2, 1 ≤ p.size
theorem len_psizes : ∀ {ps : List Pc}, (∀ p ∈ ps, 1 ≤ p.size) → ps.length ≤ psizes ps
  | [], _ => Nat.zero_le _
  | p :: ps, h => by
    have h1 := h p (List.mem_cons_self ..)
    have h2 := len_psizes fun q hq => h q (List.mem_cons_of_mem _ hq)
    rw [psizes_cons, List.length_cons]
    omega
theorem Fw.few {n : Nat} {r : R2} (h : Fw n r) : Few n r := by
  have h1 := len_sizes r.1
  have h2 := len_psizes h.2
  have h3 := h.1
  exact ⟨h3, by omega, by omega⟩
theorem Fw.up {n m : Nat} {r : R2} (h : Fw n r) (hm : n ≤ m) : Fw m r := ⟨by have := h.1; omega, h.2⟩
theorem Fw.join {n : Nat} {rs : List R2} (h : Fw n (catR rs)) : Fw n (joinR rs) :=
  ⟨by show sizes (sortT _) + psizes (sortP _) ≤ n; rw [sizes_perm (sort_perm _), psizes_perm (sortP_mem _)]; exact h.1, fun p hp => h.2 p ((sortP_mem _).mem_iff.mp hp)⟩
theorem withP_ne {wd : Str} {ts : List T} {ps : List Pc} (h : ∀ p ∈ ps, 1 ≤ p.size) : ∀ p ∈ withP wd ts ps, 1 ≤ p.size := by
  unfold withP
  cases ts with
  | nil => exact h
  | cons t ts =>
    intro p hp
    rcases List.mem_append.mp ((sortP_mem _).mem_iff.mp hp) with hp | hp
    · exact h p hp
    · rw [List.mem_singleton.mp hp]
      have := size_eq t
      unfold pieceOf
      split
      · show 1 ≤ Tr.size t
        omega
      · show 1 ≤ sizes (t :: ts)
        rw [sizes]
        omega
theorem Fw.node {s : Str} {m : Int} {b : Bool} {j : R2} {n : Nat} (h : Fw n j) : Fw (n + 1) (nodeR s m b j) := by
  obtain ⟨h1, h2⟩ := h
  unfold nodeR
  cases b with
  | true =>
    refine ⟨?_, h2⟩
    show sizes [T.mk s m j.1] + psizes j.2 ≤ n + 1
    rw [sizes, sizes, size]
    omega
  | false =>
    have := withP_size "lost" j.1 j.2
    refine ⟨?_, withP_ne h2⟩
    show sizes [] + psizes (withP "lost" j.1 j.2) ≤ n + 1
    rw [show sizes [] = 0 from by rw [sizes]]
    omega
mutual
theorem resT_few : ∀ (t : T) (bs : List Bool), Fw (size t) (resT t bs)
  | .mk s m cs, bs => by
    rw [resT, size]
    exact (resL_few cs bs.tail).join.node
theorem resL_few : ∀ (ts : List T) (bs : List Bool), Fw (sizes ts) (catR (resL ts bs))
  | [], bs => by
    rw [resL]
    exact ⟨by show sizes [] + psizes [] ≤ sizes []; rw [sizes]; exact Nat.le_refl 0, fun p hp => by cases hp⟩
  | t :: ts, bs => by
    have h1 := resT_few t (bs.take (size t))
    have h2 := resL_few ts (bs.drop (size t))
    rw [resL, sizes]
    refine ⟨?_, fun p hp => ?_⟩
    · have a := h1.1
      have b := h2.1
      simp only [catR, List.flatMap_cons, sizes_app, psizes_app] at a b ⊢
      omega
    · simp only [catR, List.flatMap_cons, List.mem_append] at hp
      exact hp.elim (h1.2 p) (h2.2 p)
end
end K17
namespace K17
open PySem PySem.Spec PyProof.Rows L2 Evl Fx Fr Dt Tr K18 So
def nTO : List Str := ["tree", "chances", "done", "trees", "k", "service", "mark", "calls", "parts", "gone", "kept", "_", "part", "inner", "pieces", "chance"]
section
variable {P : Program} {w : World} {K : PySem.W.Frag} {mg : Str → Option Value} {base : Heap} {f f2 f3 : Addr} {fd fd2 fd3 : FuncData} {te tl ta tb : TE} {σ σ2 : L2.St} {H : Hp} {k ka kb n : Nat} {d d0 : PyData} {ds es : List PyData} {g : TG} {vs : List Nat}
theorem del_ex {A : Addr} {H H' : Hp} (e : ∀ b o, b ≠ A → H b = some o → H' b = some o) : Ex (del H A) (del H' A) := fun b o h => by
  have hb : b ≠ A := fun z => by rw [z, del_same] at h; cases h
  rw [del_ne hb] at h ⊢
  exact e b o hb h
theorem ex_del {A : Addr} {H : Hp} : Ex (del H A) H := fun b o h => by
  have hb : b ≠ A := fun z => by rw [z, del_same] at h; cases h
  rwa [del_ne hb] at h
theorem kt_del {A : Addr} {H : Hp} {xs : List V} (h : H A = some (.lst xs)) : KT K H (del H A) := fun a zs q => by
  have ne : ∀ {o : HO}, (∀ ys, o ≠ .lst ys) → H a = some o → a ≠ A := fun ho e z => by
    rw [z, h] at e
    exact ho xs (Option.some.inj e).symm
  rcases q with (q | ⟨u, q⟩) | q
  · exact .inl (.inl (by rw [del_ne (ne (fun ys z => by cases z) q)]; exact q))
  · exact .inl (.inr ⟨u, by rw [del_ne (ne (fun ys z => by cases z) q)]; exact q⟩)
  · exact .inr q
theorem del_upd {A : Addr} {H : Hp} {o : HO} : del (upd H A o) A = del H A := by
  funext b
  by_cases hb : b = A
  · rw [hb, del_same, del_same]
  · rw [del_ne hb, del_ne hb, upd_ne hb]
/-- for over range(m - 1, -1, -1) -/
theorem q_forDown {m j : Nat} {ta : TA} {tb tz : TS} {D : Ends} (h : EvRA F0 ta σ H 0 (fun vs _ => vs = [.int ((m : Int) - 1), .int (-1), .int (-1)])) (hm : m ≤ 1000) (Pv : Nat → L2.St → Hp → Prop) (h0 : ∀ H1, Ex H H1 → Pv 0 σ H1)
    (hs : ∀ i σ' H', i < m → Pv i σ' H' → tb { D with nx := Pv (i + 1), ct := Pv (i + 1), bk := tz D } (σ'.set j (some (.int ((m - 1 - i : Nat) : Int)))) H') (hd : ∀ σ' H', Pv m σ' H' → tz D σ' H') : tSeq (tFor (iRng3 ta) (gName j) tb) tz D σ H :=
  h 0 H (Nat.le_refl _) F0.g Kx.refl _ fun vs H1 e1 _ ev => by
    subst ev
    have hn : ((m : Int) - 1 - -1).toNat = m := by omega
    refine ⟨(m : Int) - 1, -1, -1, m, rfl, ?_, ?_⟩
    · have := RgC.neg (i := (m : Int) - 1) (j := -1) (by omega) (by omega) (by omega) (by omega)
      rwa [hn] at this
    · refine for_rangeC (lo := (m : Int) - 1) (c := -1) (n := m) Pv (h0 H1 (F0.ex e1)) (fun i σ' H' hi p => ?_) hd
      have e : (m : Int) - 1 + (i : Int) * -1 = ((m - 1 - i : Nat) : Int) := by omega
      show tb { D with nx := Pv (i + 1), ct := Pv (i + 1), bk := tz D } (σ'.set j (some (.int ((m : Int) - 1 + (i : Int) * -1)))) H'
      rw [e]
      exact hs i σ' H' hi p
/-- [xs.pop() for _ in t]: so many of the end, the last first -/
theorem lc_pops {i j l : Nat} {vs : List Nat} {A c : Addr} {cs xs ys : List V} {Q : VK} (hc : σ[i]? = some (some (.ref c))) (hT : SqT K H c cs) (hA : H A = some (.lst (xs ++ ys.reverse))) (hl : cs.length = ys.length)
    (hv : ∀ x : V, ((wipe σ vs).set j (some x))[l]? = some (some (.ref A))) (hw : ∀ x : V, wipe ((wipe σ vs).set j (some x)) vs = wipe σ vs) (hz : ys.length ≤ 1000)
    (q : ∀ D H', H D = none → (∀ b, b ≠ A → b ≠ D → H' b = H b) → H' A = some (.lst xs) → H' D = some (.lst ys) → Q (.ref D) H') : tLc (iTup K (tVar i)) (gName j) tYes (tBM0 K "list" rPop (tVar l)) vs σ H Q := by
  refine ⟨.ref c, hc, c, rfl, ⟨cs, hT⟩, fun D hD => ?_⟩
  have nAD : A ≠ D := ne_addr hD hA
  refine lc_tup (xs := cs) (fun n H' => (∀ b, b ≠ A → b ≠ D → H' b = H b) ∧ H' A = some (.lst (xs ++ (ys.drop n).reverse)) ∧ H' D = some (.lst (ys.take n))) ⟨fun b h1 h2 => upd_ne h2, by rw [upd_ne nAD]; exact hA, upd_same⟩ (fun n H' _ ⟨p1, p2, p3⟩ => ?_) (fun n x H' hx ⟨p1, p2, p3⟩ => ?_) fun H' ⟨p1, p2, p3⟩ => ?_
  · rcases hT with (hT | ⟨u, hT⟩) | hT
    · have n1 : c ≠ A := fun z => by rw [z, hA] at hT; cases hT
      exact .inl (.inl (by rw [p1 c n1 (ne_addr hD hT)]; exact hT))
    · have n1 : c ≠ A := fun z => by rw [z, hA] at hT; cases hT
      exact .inl (.inr ⟨u, by rw [p1 c n1 (ne_addr hD hT)]; exact hT⟩)
    · exact .inr hT
  · have hn : n < ys.length := by
      have := (List.getElem?_eq_some_iff.mp hx).1
      omega
    have hd : (ys.drop n).reverse = (ys.drop (n + 1)).reverse ++ [ys[n]] := by rw [List.drop_eq_getElem_cons hn, List.reverse_cons]
    rw [hd, ← List.append_assoc] at p2
    refine ⟨hw x, .ref A, hv x, .inl ⟨rfl, _, sq_of p2⟩, A, _, ys[n], rfl, rfl, p2, by simp, ?_⟩
    rw [List.dropLast_concat]
    refine ⟨ys.take n, by rw [upd_ne nAD.symm]; exact p3, sz_lt (by rw [List.length_take]; omega), fun b h1 h2 => ?_, ?_, ?_⟩
    · rw [upd_ne h2, upd_ne h1]
      exact p1 b h1 h2
    · rw [upd_ne nAD]
      exact upd_same
    · rw [upd_same, List.take_add_one, List.getElem?_eq_getElem hn]
      rfl
  · rw [hl, List.drop_length, List.reverse_nil, List.append_nil] at p2
    rw [hl, List.take_length] at p3
    exact q D H' hD p1 p2 p3
/-- outcomes of a caller that is kept or not -/
def twoD (r : R2) : PyData := .tuple [oneD r, oneD r]
def flagD (b : Bool) : PyData := .tuple [chD b, chD b]
theorem two_flat : True := trivial
theorem r_lcPick {i j : Nat} {vs : List Nat} {rs : List R2} {c : Int} {v : V} (hc : c = 0 ∨ c = 1) (hv : σ[i]? = some (some v)) (hd : Dp K H v (.list (rs.map twoD))) (hj : ∀ x : V, ((wipe σ vs).set j (some x))[j]? = some (some x)) (hw : ∀ x : V, wipe ((wipe σ vs).set j (some x)) vs = wipe σ vs) (hz : rs.length ≤ 1000) :
    EvR F0 (tLc (iList K (tVar i)) (gName j) tYes (tOp (rIxT K) (tVar j) (tC (.int c))) vs) σ H 0 (IsD K (.list (rs.map oneD))) := fun n H1 hn g e Q q => by
  replace e := F0.ex e
  replace hd := dp_ex e _ _ hd
  cases hd with
  | @lst a xs _ ha hx =>
  have lx := dps_len hx
  rw [List.length_map] at lx
  refine ⟨.ref a, hv, a, rfl, ⟨xs, ha⟩, fun D hD => ?_⟩
  have e0 := Ex.new (o := HO.lst []) hD
  refine lc_list (xs := xs) (fun n H' => Ex H1 H' ∧ ∃ us, H' D = some (.lst us) ∧ DpAll K H1 us ((rs.take n).map oneD)) ⟨e0, [], upd_same, by rw [List.take_zero]; exact .nil⟩ (fun n H' _ p => ex_l p.1 ha) (fun n x H' hxn ⟨p, us, hDD, du⟩ => ?_) fun H' ⟨p, us, hDD, du⟩ => ?_
  · have hm : n < rs.length := by
      have := (List.getElem?_eq_some_iff.mp hxn).1
      omega
    have dx : Dp K H1 x (twoD rs[n]) := by
      obtain ⟨u', hu, du'⟩ := dps_get hx (show (rs.map twoD)[n]? = some (twoD rs[n]) by rw [List.getElem?_map, List.getElem?_eq_getElem hm]; rfl)
      rw [hxn] at hu
      cases hu
      exact du'
    obtain ⟨b, u1, u2, rfl, hb, h1, h2⟩ := dp_two dx
    have lu := dps_len du
    have key : ∀ u, Dp K H1 u (oneD rs[n]) → ∃ acc, H' D = some (.lst acc) ∧ acc.length < sizeLine ∧ Ex H1 (upd H' D (.lst (acc ++ [u]))) ∧ ∃ us, upd H' D (.lst (acc ++ [u])) D = some (.lst us) ∧ DpAll K H1 us ((rs.take (n + 1)).map oneD) := fun u hu => by
      refine ⟨us, hDD, sz_lt (by rw [lu, List.length_map, List.length_take]; omega), p.mut hD, _, upd_same, ?_⟩
      rw [List.take_add_one, List.getElem?_eq_getElem hm, List.map_append]
      exact dps_app du (.cons hu .nil)
    refine ⟨hw _, .ref b, hj _, b, [u1, u2], c, ?_⟩
    rcases hc with rfl | rfl
    · exact ⟨u1, rfl, rfl, ex_t p hb, rfl, key u1 h1⟩
    · exact ⟨u2, rfl, rfl, ex_t p hb, rfl, key u2 h2⟩
  · rw [lx, List.take_length] at du
    exact q (.ref D) H' (Kx.ex p) g (.lst (sq_of hDD) (dps_ex p _ _ du))
theorem r_lcTwo {j : Nat} {vs : List Nat} {b : Bool} {r : R2} {A : Addr} {zs : List V} (hT : EvR F0 tl σ H 0 (IsD K (flagD b))) (hte : ∀ x H', Ex H H' → Dp K H' x (chD b) → EvR F0 te ((wipe σ vs).set j (some x)) H' 0 (IsN H' F0 K [outD r])) (hA : H A = some (.lst zs)) (hw : ∀ x : V, wipe ((wipe σ vs).set j (some x)) vs = wipe σ vs) :
    EvR F0 (tLc (iTup K tl) (gName j) tYes te vs) σ H 0 (fun v H' => ∃ D us, v = .ref D ∧ H' D = some (.lst us) ∧ DpAll K (del H' A) us [oneD r, oneD r]) := fun n H1 hn g e Q q => hT n H1 hn g e _ fun v H2 e2 _ hv => by
  have e12 := (F0.ex e).trans (F0.ex e2)
  obtain ⟨a, c1, c2, rfl, ha, h1, h2⟩ := dp_two hv
  have hA2 := e12 _ _ hA
  refine ⟨a, rfl, ⟨_, ha⟩, fun D hD => ?_⟩
  have nAD : A ≠ D := ne_addr hD hA2
  have e0 := Ex.new (o := HO.lst []) hD
  refine lc_tup (xs := [c1, c2]) (fun n H' => Ex H2 H' ∧ ∃ us, H' D = some (.lst us) ∧ DpAll K (del (del H' D) A) us (List.replicate n (oneD r))) ⟨e0, [], upd_same, .nil⟩ (fun n H' _ p => ex_t p.1 ha) (fun n x H' hxn ⟨p, us, hDD, du⟩ => ?_) fun H' ⟨p, us, hDD, du⟩ => ?_
  · have hx : Dp K H' x (chD b) := by
      match n, hxn with
      | 0, hxn => cases hxn; exact dp_ex p _ _ h1
      | 1, hxn => cases hxn; exact dp_ex p _ _ h2
    have hn2 : n < 2 := (List.getElem?_eq_some_iff.mp hxn).1
    refine ⟨hw x, hte x H' (e12.trans p) hx 0 H' (Nat.le_refl _) F0.g Kx.refl _ fun y H3 e3 _ ⟨l, ws, ey, nl, _, hl, dw⟩ => ?_⟩
    subst ey
    replace e3 := F0.ex e3
    have hD3 := e3 _ _ hDD
    have hA3 := e3 _ _ (p _ _ hA2)
    have lu := dps_len du
    have nlD : l ≠ D := fun z => by rw [z, hDD] at nl; cases nl
    have nlA : l ≠ A := fun z => by rw [z, p _ _ hA2] at nl; cases nl
    have hAd : del H3 D A = some (.lst zs) := by rw [del_ne nAD]; exact hA3
    refine ⟨us, hD3, sz_lt (by rw [lu, List.length_replicate]; omega), (p.trans e3).mut hD, _, upd_same, ?_⟩
    rw [del_upd, List.replicate_succ']
    refine dps_app (dps_ex (del_ex fun b o hb h => ?_) _ _ du) (.cons (.lst (sq_of (by rw [del_ne nlA, del_ne nlD]; exact hl)) ?_) .nil)
    · have hbD : b ≠ D := fun z => by rw [z, del_same] at h; cases h
      rw [del_ne hbD] at h ⊢
      exact e3 _ _ h
    · cases dw with
      | @cons w1 wr _ _ dw1 dwr =>
      cases dwr
      exact .cons (dp_kt (kt_del hAd) _ _ (out_flat r) (dp_kt (kt_del hD3) _ _ (out_flat r) dw1)) .nil
  · refine q (.ref D) H' (Kx.ex ((F0.ex e2).trans p)) g ⟨D, us, rfl, hDD, dps_ex (fun b o h => ?_) _ _ du⟩
    have hbA : b ≠ A := fun z => by rw [z, del_same] at h; cases h
    rw [del_ne hbA] at h ⊢
    exact ex_del _ _ h
theorem q_asgX {i : Nat} {tz : TS} {D : Ends} (h : te σ H fun v H1 => tz D (σ.set i (some v)) H1) : tSeq (tAsg te (gName i)) tz D σ H := h
theorem ra_cons0 {tr : TA} (h : EvR F0 te σ H 0 (IsD K d)) (hr : EvRA F0 tr σ H 0 (fun vs H => DpAll K H vs ds)) : EvRA F0 (tCons te tr) σ H 0 (fun vs H => DpAll K H vs (d :: ds)) :=
  fun n H1 hn g e Q q => h n H1 hn g e _ fun x H2 e2 g2 p => hr n H2 hn F0.g (e.trans e2) _ fun vs H3 e3 g3 p' => q (x :: vs) H3 (e2.trans e3) g3 (.cons (dp_ex (F0.ex e3) _ _ p) p')
theorem rd_ixD {i : Int} (ha : EvR F0 ta σ H 0 (IsD K (.list ds))) (hb : EvR F0 tb σ H 0 (fun x _ => x = .int i)) (j : Nat) (hj : ixN ds.length i = some j) (hd : ds[j]? = some d) : EvR F0 (tOp (rIxL K) ta tb) σ H 0 (IsD K d) := fun n H1 hn g e Q q =>
  ha n H1 hn g e _ fun x H2 e2 g2 p => hb n H2 hn F0.g (e.trans e2) _ fun y H3 e3 g3 ey => by
    subst ey
    cases p with
    | @lst a xs _ ha hx =>
    obtain ⟨u, hu, du⟩ := dps_get hx hd
    exact ⟨a, xs, i, u, rfl, rfl, ex_l (F0.ex e3) ha, by unfold atI; rw [dps_len hx, hj]; exact hu, q u H3 (e2.trans e3) F0.g (dp_ex (F0.ex e3) _ _ du)⟩
theorem rv_neg1 : EvR F0 (tUn (rU fun i => .int (-i)) (tC (.int 1))) σ H 0 (fun x _ => x = .int (-1)) := fun n H1 hn g e Q q => ⟨1, rfl, q _ H1 Kx.refl g rfl⟩
theorem r_tupTwo {A : Addr} {zs : List V} (h : EvR F0 te σ H 0 (fun v H' => ∃ D us, v = .ref D ∧ H' D = some (.lst us) ∧ DpAll K (del H' A) us ds)) (hA : H A = some (.lst zs)) : EvR F0 (tCB (rTupOf K) (tCons te tNil)) σ H 0 (fun v H' => Dp K (del H' A) v (.tuple ds)) := fun n H1 hn g e Q q =>
  h n H1 hn g e _ fun v H2 e2 _ ⟨D, us, ev, hD, du⟩ => ⟨D, us, by rw [ev], .inl ⟨sq_of hD, fun l hl => by
    have hA2 := ((F0.ex e).trans (F0.ex e2)) _ _ hA
    have nl : l ≠ A := fun z => by rw [z, hA2] at hl; cases hl
    have el := Ex.new (o := HO.tup us) hl
    exact q (.ref l) _ (e2.trans (Kx.ex el)) F0.g (.tup (st_of (by rw [del_ne nl]; exact upd_same)) (dps_ex (del_ex fun b o _ h => el _ _ h) _ _ du))⟩⟩
theorem dps_split {as bs : List PyData} {vs : List V} (h : DpAll K H vs (as ++ bs)) : ∃ xs ys, vs = xs ++ ys ∧ DpAll K H xs as ∧ DpAll K H ys bs := by
  have h1 := dps_take (n := as.length) h
  have h2 := dps_drop (n := as.length) h
  rw [List.take_left] at h1
  rw [List.drop_left] at h2
  exact ⟨_, _, (List.take_append_drop _ _).symm, h1, h2⟩
theorem roots_end (t : T) : roots t (size t) = [] := by
  have h := roots_size t (size t)
  have := len_sizes (roots t (size t))
  rw [h, Nat.sub_self] at this
  exact List.length_eq_zero_iff.mp (by omega)
def spTO (K : PySem.W.Frag) : Sp := fun vs H Q _ => ∃ (v1 v2 : V) (t : T) (bs : List Bool), vs = [v1, v2] ∧ size t ≤ 6 ∧ bs.length = size t ∧ Dp K H v1 (enc t) ∧ Dp K H v2 (.list (bs.map flagD)) ∧ ∀ v H', Ex H H' → Dp K H' v (twoD (resT t bs)) → Q v H'
end
end K17
/-! ### paths, also of values that are none -/
namespace K17
open PySem PySem.Spec PyProof.Rows L2 Evl Fx Fr Dt Tr K18 So
def tyN : PyData → String
  | .none => "NoneType"
  | .bool _ => "bool"
  | .int _ => "int"
  | .str _ => "str"
  | .list _ => "list"
  | .tuple _ => "tuple"
  | .dict _ => "dict"
def walkB : T → List PyData → Bool
  | _, [] => true
  | t, .int i :: ps => if 0 ≤ i then (match t.calls[i.toNat]? with | some c => walkB c ps | none => false) else false
  | _, _ :: _ => false
def pathB (t : T) : PyData → Bool
  | .tuple ps => walkB t ps
  | _ => false
def nPath : List Str := ["tree", "thing", "here", "place"]
section
variable {P : Program} {w : World} {K : PySem.W.Frag} {mg : Str → Option Value} {base : Heap} {f f2 f3 : Addr} {fd fd2 fd3 : FuncData} {te tl ta tb : TE} {σ σ2 : L2.St} {H : Hp} {k ka kb n : Nat} {d d0 : PyData} {ds es : List PyData} {g : TG} {vs : List Nat}
theorem dp_ty {v : V} (h : Dp K H v d) : TyX K H v (.type (tyN d)) := by
  cases h with
  | non => exact .base .non
  | bl b => exact .base (.bl b)
  | int i => exact .base (.int i)
  | str x => exact .base (.str x)
  | lst h1 h2 =>
    rcases h1 with (h1 | ⟨u, h1⟩) | ⟨o, its, n, h1, h3, _⟩
    · exact .base (.lst h1)
    · exact .base (.frz h1)
    · exact .kList h1 h3
  | tup h1 h2 =>
    rcases h1 with (h1 | ⟨u, h1⟩) | ⟨o, its, n, h1, h3, _⟩
    · exact .base (.tup h1)
    · exact .fTuple h1
    · exact .kTuple h1 h3
def isIntB : PyData → Bool
  | .int _ => true
  | _ => false
def isIB : PyData → Bool
  | .int _ => true
  | .bool _ => true
  | _ => false
def isTupB : PyData → Bool
  | .tuple _ => true
  | _ => false
theorem kit_int (h : ∀ es, d ≠ .dict es) : kitB (tyN d) "int" = some (isIB d) := by
  cases d with
  | dict es => exact absurd rfl (h es)
  | none => exact (by decide +kernel : kitB "NoneType" "int" = some false)
  | bool _ => exact (by decide +kernel : kitB "bool" "int" = some true)
  | int _ => exact (by decide +kernel : kitB "int" "int" = some true)
  | str _ => exact (by decide +kernel : kitB "str" "int" = some false)
  | list _ => exact (by decide +kernel : kitB "list" "int" = some false)
  | tuple _ => exact (by decide +kernel : kitB "tuple" "int" = some false)
theorem kit_bool (h : ∀ es, d ≠ .dict es) : ∃ b, kitB (tyN d) "bool" = some b ∧ (isIB d && !b) = isIntB d := by
  cases d with
  | dict es => exact absurd rfl (h es)
  | none => exact ⟨false, (by decide +kernel : kitB "NoneType" "bool" = some false), rfl⟩
  | bool _ => exact ⟨true, (by decide +kernel : kitB "bool" "bool" = some true), rfl⟩
  | int _ => exact ⟨false, (by decide +kernel : kitB "int" "bool" = some false), rfl⟩
  | str _ => exact ⟨false, (by decide +kernel : kitB "str" "bool" = some false), rfl⟩
  | list _ => exact ⟨false, (by decide +kernel : kitB "list" "bool" = some false), rfl⟩
  | tuple _ => exact ⟨false, (by decide +kernel : kitB "tuple" "bool" = some false), rfl⟩
theorem kit_tup (h : ∀ es, d ≠ .dict es) : kitB (tyN d) "tuple" = some (isTupB d) := by
  cases d with
  | dict es => exact absurd rfl (h es)
  | none => exact (by decide +kernel : kitB "NoneType" "tuple" = some false)
  | bool _ => exact (by decide +kernel : kitB "bool" "tuple" = some false)
  | int _ => exact (by decide +kernel : kitB "int" "tuple" = some false)
  | str _ => exact (by decide +kernel : kitB "str" "tuple" = some false)
  | list _ => exact (by decide +kernel : kitB "list" "tuple" = some false)
  | tuple _ => exact (by decide +kernel : kitB "tuple" "tuple" = some true)
theorem dp_nod {v : V} (h : Dp K H v d) : ∀ es, d ≠ .dict es := fun es z => by
  subst z
  cases h
theorem rv_isTup {i : Nat} {v : V} (h : σ[i]? = some (some v)) (hv : Dp K H v d) : EvR F0 (tCB (rIsi K) (tCons (tVar i) (tCons (tC (.ty "tuple")) tNil))) σ H 0 (fun x _ => x = .bl (isTupB d)) := fun n H1 hn g e Q q =>
  ⟨v, h, v, .ty "tuple", _, _, _, rfl, .ty "tuple", dp_ty (dp_ex (F0.ex e) _ _ hv), kit_ty (kit_tup (dp_nod hv)), q _ H1 Kx.refl g rfl⟩
theorem rv_whole {i : Nat} {v : V} {E : XK} (h : σ[i]? = some (some v)) (hv : Dp K H v d) : EvR F0 (tCall (spWhole K) [] E (tCons (tVar i) tNil)) σ H 0 (fun x _ => x = .bl (isIntB d)) := fun n H1 hn g e Q q => by
  obtain ⟨b, h1, h2⟩ := kit_bool (dp_nod hv)
  exact ⟨v, h, v, tyN d, isIB d, b, rfl, dp_ty (dp_ex (F0.ex e) _ _ hv), kit_int (dp_nod hv), h1, by rw [h2]; exact q _ H1 Kx.refl g rfl⟩
theorem rv_lt {i j : Int} (ha : EvR F0 ta σ H 0 (fun x _ => x = .int i)) (hb : EvR F0 tb σ H 0 (fun x _ => x = .int j)) : EvR F0 (tOp (rI0 fun i j => .bl (decide (i < j))) ta tb) σ H 0 (fun x _ => x = .bl (decide (i < j))) :=
  rv_op (ka := 0) (kb := 0) F0.ok ha hb fun _ => rv_I0 (g := fun i j => .bl (decide (i < j)))
theorem rv_ge {i j : Int} (ha : EvR F0 ta σ H 0 (fun x _ => x = .int i)) (hb : EvR F0 tb σ H 0 (fun x _ => x = .int j)) : EvR F0 (tOp (rI0 fun i j => .bl (decide (j ≤ i))) ta tb) σ H 0 (fun x _ => x = .bl (decide (j ≤ i))) :=
  rv_op (ka := 0) (kb := 0) F0.ok ha hb fun _ => rv_I0 (g := fun i j => .bl (decide (j ≤ i)))
theorem q_forTs {i j : Nat} {a : Addr} {xs : List V} {tb tz : TS} {D : Ends} (hv : σ[i]? = some (some (.ref a))) (Pv : Nat → L2.St → Hp → Prop) (h0 : Pv 0 σ H) (hl : ∀ m σ' H', Pv m σ' H' → SqT K H' a xs)
    (hs : ∀ m x σ' H', xs[m]? = some x → Pv m σ' H' → tb { D with nx := Pv (m + 1), ct := Pv (m + 1), bk := tz D } (σ'.set j (some x)) H') (hd : ∀ σ' H', Pv xs.length σ' H' → tz D σ' H') : tSeq (tFor (iTup K (tVar i)) (gName j) tb) tz D σ H :=
  ⟨.ref a, hv, a, rfl, ⟨xs, hl 0 σ H h0⟩, for_tup Pv h0 (fun m σ' H' _ p => hl m σ' H' p) hs hd⟩
theorem rd_calls {i : Nat} {v : V} {t : T} (h : σ[i]? = some (some v)) (hv : Dp K H v (enc t)) : EvR F0 (tOp (rIxT K) (tVar i) (tC (.int 2))) σ H 0 (IsD K (.tuple (t.calls.map enc))) := by
  have f := enc_flat t
  rw [enc_eq] at hv f
  exact rd_ix (ka := 0) (kb := 0) F0.ok (rd_var0 h hv) rv_c 2 rfl rfl f
def spPath (K : PySem.W.Frag) : Sp := spD K fun ds d' => ∃ (t : T) (d : PyData), size t ≤ 6 ∧ ds = [enc t, d] ∧ d' = .bool (pathB t d)
end
end K17
/-! ### is_ascending, is_kept -/
namespace K17
open PySem PySem.Spec PyProof.Rows L2 Evl Fx Fr Dt Tr K18 So
def intsP (p : List Nat) : List Int := p.map fun (i : Nat) => (i : Int)
def pathLt (p q : List Nat) : Bool := HT.lexLt (intsP p) (intsP q)
/-- each less than the next -/
def ascB (ks : List (List Nat)) : Bool := (List.range (ks.length - 1)).all fun i => pathLt (ks.getD i []) (ks.getD (i + 1) [])
theorem all_range (m : Nat) (b : Nat → Bool) : ((List.range m).map b).all id = (List.range m).all b := by rw [List.all_map]; rfl
section
variable {P : Program} {w : World} {K : PySem.W.Frag} {mg : Str → Option Value} {base : Heap} {f f2 f3 : Addr} {fd fd2 fd3 : FuncData} {te tl ta tb : TE} {σ σ2 : L2.St} {H : Hp} {k ka kb n : Nat} {d d0 : PyData} {ds es : List PyData} {g : TG} {vs : List Nat}
/-- a list of truth values, out of a tuple -/
theorem r_lcB {i j : Nat} {a : Addr} {xs : List V} (b : Nat → Bool) (hv : σ[i]? = some (some (.ref a))) (hT : SqT K H a xs) (hz : xs.length ≤ 1000) (hw : ∀ x : V, wipe ((wipe σ vs).set j (some x)) vs = wipe σ vs)
    (ht : ∀ n x H', xs[n]? = some x → Ex H H' → EvR F0 te ((wipe σ vs).set j (some x)) H' 0 (fun v _ => v = .bl (b n))) : EvR F0 (tLc (iTup K (tVar i)) (gName j) tYes te vs) σ H 0 (fun v H' => ∃ D, v = .ref D ∧ H' D = some (.lst (((List.range xs.length).map b).map V.bl))) := fun n H1 hn g e Q q => by
  replace e := F0.ex e
  have hT1 := ex_t e hT
  refine ⟨.ref a, hv, a, rfl, ⟨xs, hT1⟩, fun D hD => ?_⟩
  have e0 := Ex.new (o := HO.lst []) hD
  refine lc_tup (xs := xs) (fun n H' => Ex H1 H' ∧ H' D = some (.lst (((List.range n).map b).map V.bl))) ⟨e0, upd_same⟩ (fun n H' _ p => ex_t p.1 hT1) (fun n x H' hx ⟨p, hDD⟩ => ?_) fun H' ⟨p, hDD⟩ => q _ H' (Kx.ex p) g ⟨D, rfl, hDD⟩
  have hn' : n < xs.length := (List.getElem?_eq_some_iff.mp hx).1
  refine ⟨hw x, ht n x H' hx (e.trans p) 0 H' (Nat.le_refl _) F0.g Kx.refl _ fun v H2 e2 _ ev => ⟨_, F0.ex e2 _ _ hDD, sz_lt (by rw [List.length_map, List.length_map, List.length_range]; omega), (p.trans (F0.ex e2)).mut hD, ?_⟩⟩
  subst ev
  rw [upd_same, List.range_succ, List.map_append, List.map_append]
  rfl
/-- .. out of range(1, m + 1) -/
theorem r_lcB2 {j m : Nat} {tr : TA} (b : Nat → Bool) (hr : EvRA F0 tr σ H 0 (fun us _ => us = [.int 1, .int (m : Int)])) (hz : m ≤ 1000) (hw : ∀ x : V, wipe ((wipe σ vs).set j (some x)) vs = wipe σ vs)
    (ht : ∀ n H', n < m - 1 → Ex H H' → EvR F0 te ((wipe σ vs).set j (some (.int (1 + (n : Int))))) H' 0 (fun v _ => v = .bl (b n))) : EvR F0 (tLc (iRng2 tr) (gName j) tYes te vs) σ H 0 (fun v H' => ∃ D, v = .ref D ∧ H' D = some (.lst (((List.range (m - 1)).map b).map V.bl))) := fun n H1 hn g e Q q => hr n H1 hn g e _ fun us H2 e2 _ eu => by
  subst eu
  replace e := (F0.ex e).trans (F0.ex e2)
  have hm : ((m : Int) - 1).toNat = m - 1 := by omega
  refine ⟨1, m, rfl, ⟨by omega, by omega, by omega, by omega⟩, fun D hD => ?_⟩
  rw [hm]
  have e0 := Ex.new (o := HO.lst []) hD
  refine lc_range (lo := 1) (n := m - 1) (fun n H' => Ex H2 H' ∧ H' D = some (.lst (((List.range n).map b).map V.bl))) ⟨e0, upd_same⟩ (fun n H' hn' ⟨p, hDD⟩ => ?_) fun H' ⟨p, hDD⟩ => q _ H' (e2.trans (Kx.ex p)) g ⟨D, rfl, hDD⟩
  refine ⟨hw _, ht n H' hn' (e.trans p) 0 H' (Nat.le_refl _) F0.g Kx.refl _ fun v H3 e3 _ ev => ⟨_, F0.ex e3 _ _ hDD, sz_lt (by rw [List.length_map, List.length_map, List.length_range]; omega), (p.trans (F0.ex e3)).mut hD, ?_⟩⟩
  subst ev
  rw [upd_same, List.range_succ, List.map_append, List.map_append]
  rfl
theorem rv_all {bs : List Bool} (h : EvR F0 te σ H 0 (fun v H' => ∃ D, v = .ref D ∧ H' D = some (.lst (bs.map V.bl)))) : EvR F0 (tCB (rAll K) (tCons te tNil)) σ H 0 (fun x _ => x = .bl (bs.all id)) := fun n H1 hn g e Q q =>
  h n H1 hn g e _ fun v H2 e2 _ ⟨D, ev, hD⟩ => ⟨D, bs, by rw [ev], sq_of hD, q _ H2 e2 g rfl⟩
theorem dp_path {v : V} {p : List Nat} (h : Dp K H v (pathD p)) : ∃ a, v = .ref a ∧ SqT K H a ((intsP p).map V.int) := by
  cases h with
  | @tup a xs _ ha hx =>
    refine ⟨a, rfl, ?_⟩
    have : xs = (intsP p).map V.int := by
      have e : (p.map fun (i : Nat) => PyData.int (i : Int)) = (intsP p).map PyData.int := by unfold intsP; rw [List.map_map]; rfl
      rw [e] at hx
      exact dps_ints hx
    rw [← this]
    exact ha
theorem rv_ltP {p q : List Nat} (ha : EvR F0 ta σ H 0 (IsD K (pathD p))) (hb : EvR F0 tb σ H 0 (IsD K (pathD q))) : EvR F0 (tOp (rLtT K) ta tb) σ H 0 (fun x _ => x = .bl (pathLt p q)) := fun n H1 hn g e Q q' =>
  ha n H1 hn g e _ fun x H2 e2 g2 px => hb n H2 hn F0.g (e.trans e2) _ fun y H3 e3 g3 py => by
    obtain ⟨a, rfl, sa⟩ := dp_path (dp_ex (F0.ex e3) _ _ px)
    obtain ⟨b, rfl, sb⟩ := dp_path py
    exact ⟨a, b, _, _, rfl, rfl, sa, sb, q' _ H3 (e2.trans e3) F0.g rfl⟩
def nAsc : List Str := ["things", "k"]
def spAsc (K : PySem.W.Frag) : Sp := spD K fun ds d' => ∃ ks : List (List Nat), ks.length ≤ 100 ∧ ds = [.tuple (ks.map pathD)] ∧ d' = .bool (ascB ks)
end
end K17
/-! ### is_kept -/
namespace K17
open PySem PySem.Spec PyProof.Rows L2 Evl Fx Fr Dt Tr K18 So
def natOf : PyData → Nat
  | .int i => i.toNat
  | _ => 0
def natsOf : PyData → List Nat
  | .tuple ps => ps.map natOf
  | _ => []
def keptB (t : T) : PyData → Bool
  | .tuple ps => ps.all (pathB t) && ascB (ps.map natsOf)
  | _ => false
theorem walk_nats : ∀ {t : T} {ps : List PyData}, walkB t ps = true → ps = (ps.map natOf).map fun (i : Nat) => PyData.int (i : Int)
  | _, [], _ => rfl
  | t, p :: ps, h => by
    cases p with
    | int i =>
      rw [walkB] at h
      split at h
      · rename_i h0
        split at h
        · have := walk_nats h
          rw [List.map_cons, List.map_cons, ← this]
          congr 2
          show i = ((i.toNat : Nat) : Int)
          omega
        · cases h
      · cases h
    | _ => exact absurd h (by simp [walkB])
theorem path_nats {t : T} {d : PyData} (h : pathB t d = true) : d = pathD (natsOf d) := by
  cases d with
  | tuple ps =>
    show PyData.tuple ps = .tuple _
    rw [natsOf]
    exact congrArg PyData.tuple (walk_nats h)
  | _ => exact absurd h (by simp [pathB])
theorem all_nats {t : T} : ∀ {ps : List PyData}, ps.all (pathB t) = true → ps = (ps.map natsOf).map pathD
  | [], _ => rfl
  | p :: ps, h => by
    rw [List.all_cons, Bool.and_eq_true] at h
    rw [List.map_cons, List.map_cons, ← path_nats h.1, ← all_nats h.2]
def nKept : List Str := ["tree", "thing", "path"]
section
variable {P : Program} {w : World} {K : PySem.W.Frag} {mg : Str → Option Value} {base : Heap} {f f2 f3 : Addr} {fd fd2 fd3 : FuncData} {te tl ta tb : TE} {σ σ2 : L2.St} {H : Hp} {k ka kb n : Nat} {d d0 : PyData} {ds es : List PyData} {g : TG} {vs : List Nat}
def spKeptQ (K : PySem.W.Frag) : Sp := spD K fun ds d' => ∃ (t : T) (d : PyData), size t ≤ 6 ∧ (∀ ps, d = .tuple ps → ps.length ≤ 100) ∧ ds = [enc t, d] ∧ d' = .bool (keptB t d)
end
end K17
/-! ### NotUsable; sight_of -/
namespace L2
open PySem PySem.Spec PyProof.Rows
/-- x in t, t a tuple of data -/
def rInDT (K : PySem.W.Frag) : R2 := fun x y H Q => ∃ d ds, Dp K H x d ∧ Dp K H y (.tuple ds) ∧ SeqAt.shaped d = true ∧ SeqAt.shaped (.tuple ds) = true ∧ Q (.bl (ds.any fun z => PyData.eqv z d)) H
theorem op_inDT {X : Cx} (hu : X.A.units + 65 < cLine) : OpR X (compareOp .In) (rInDT X.K) := by
  intro pins s σ H x y v u Q I rx ry h
  obtain ⟨d, ds, hd, he, sd, se, q⟩ := h
  obtain ⟨as, r1⟩ := Dp.reads I d x v hd rx
  obtain ⟨bs, r2⟩ := Dp.reads I (.tuple ds) y u he ry
  exact SeqAt.in_tuple_reads r2 r1 (SeqAt.canLay_of_shaped se) (SeqAt.canLay_of_shaped sd) (room_in_shaped sd hu) ⟨.bl _, H, I, rfl, q⟩
end L2
namespace K17
open PySem PySem.Spec PyProof.Rows L2 Evl Fx Fr Dt Tr K18 So
def bodyOf : Stmt → List Stmt
  | .ClassDef _ _ _ b _ _ _ _ _ _ _ => b
  | _ => []
/-- NotUsable.__init__ -/
def initS : Stmt := (bodyOf (K18.topS 8)).getD 0 (.Pass ⟨0, 0, 0, 0⟩)
theorem scInit : FnScope ["self", "word", "at"] ["self", "word", "at"] (defScope initS) := ⟨rfl, rfl, rfl, by decide +kernel, rfl, by decide +kernel, by decide +kernel⟩
def nSight : List Str := ["tree", "kept", "chances", "path", "_"]
section
variable {P : Program} {w : World} {K : PySem.W.Frag} {mg : Str → Option Value} {base : Heap} {f f2 f3 : Addr} {fd fd2 fd3 : FuncData} {te tl ta tb : TE} {σ σ2 : L2.St} {H : Hp} {k ka kb n : Nat} {d d0 : PyData} {ds es : List PyData} {g : TG} {vs : List Nat} {C : Addr}
def spInit (C : Addr) : Sp := fun vs H Q _ => ∃ (a : Addr) (w1 w2 : V), vs = [.ref a, w1, w2] ∧ H a = some (exo a C none) ∧ ∀ dx, H dx = none → dx ≠ a → Q .non (upd (upd (upd H dx (exd dx [("word", w1)])) a (exo a C (some dx))) dx (exd dx [("at", w2), ("word", w1)]))
theorem ok_init (F : Fun K "__init__" "NotUsable.__init__" initS f fd) (T : OexC K C) (w0 : PySem.W.findIn K (.ref C) "word" = some none) (a0 : PySem.W.findIn K (.ref C) "at" = some none) : FnOk P w K mg base (L2.CX P w) 1 f fd ["self", "word", "at"] (spInit C) := by
  refine F.okX scInit (fun vs H Q E h => ?_) (fun cdv A outer s H vs Q E hr h => ?_)
  · obtain ⟨a, w1, w2, rfl, _⟩ := h
    rfl
  · obtain ⟨a, w1, w2, rfl, hA, q⟩ := h
    refine ⟨_, pss_cons (ps_ost (pv 0) (pv 1)) (pss_one (ps_ost (pv 0) (pv 2))), ?_⟩
    refine ⟨w1, rfl, .ref a, rfl, a, C, rfl, T, w0, .inl ⟨hA, fun dx hdx hne => ?_⟩⟩
    refine ⟨w2, rfl, .ref a, rfl, a, C, rfl, T, a0, .inr ⟨dx, [("word", w1)], upd_same, ?_, (by show 1 ≤ 900; decide), q dx hdx hne⟩⟩
    rw [upd_ne hne]
    exact upd_same
theorem rd_ixT0 {i : Int} (ha : EvR F0 ta σ H 0 (IsD K (.tuple ds))) (hb : EvR F0 tb σ H 0 (fun x _ => x = .int i)) (j : Nat) (hj : ixN ds.length i = some j) (hd : ds[j]? = some d) : EvR F0 (tOp (rIxT K) ta tb) σ H 0 (IsD K d) := fun n H1 hn g e Q q =>
  ha n H1 hn g e _ fun x H2 e2 g2 p => hb n H2 hn F0.g (e.trans e2) _ fun y H3 e3 g3 ey => by
    subst ey
    cases p with
    | @tup a xs _ ha hx =>
    obtain ⟨u, hu, du⟩ := dps_get hx hd
    exact ⟨a, xs, i, u, rfl, rfl, ex_t (F0.ex e3) ha, by unfold atI; rw [dps_len hx, hj]; exact hu, q u H3 (e2.trans e3) F0.g (dp_ex (F0.ex e3) _ _ du)⟩
theorem sh_pathsT (ks : List (List Nat)) : SeqAt.shaped (.tuple (ks.map pathD)) = true := by
  have h := sh_paths ks
  simp only [SeqAt.shaped, PyData.canLay0, PyData.depth] at h ⊢
  exact h
theorem any_paths (ks : List (List Nat)) (p : List Nat) : ((ks.map pathD).any fun z => PyData.eqv z (pathD p)) = ks.any fun z => z == p := by
  rw [List.any_map]
  congr 1
  funext z
  exact path_eqv z p
theorem rv_inDT {p : List Nat} {ks : List (List Nat)} (ha : EvR F0 ta σ H 0 (IsD K (pathD p))) (hb : EvR F0 tb σ H 0 (IsD K (.tuple (ks.map pathD)))) : EvR F0 (tOp (rInDT K) ta tb) σ H 0 (fun x _ => x = .bl (ks.any fun z => z == p)) := fun n H1 hn g e Q q =>
  ha n H1 hn g e _ fun x H2 e2 g2 px => hb n H2 hn F0.g (e.trans e2) _ fun y H3 e3 g3 py => ⟨pathD p, _, dp_ex (F0.ex e3) _ _ px, py, sh_path p, sh_pathsT ks, by rw [any_paths]; exact q _ H3 (e2.trans e3) F0.g rfl⟩
def flagOf (ks : List (List Nat)) (p : List Nat) : Bool := ks.any fun z => z == p
def flagsOf (t : T) (ks : List (List Nat)) : List Bool := (placed [] t).map fun x => flagOf ks x.1
/-- the sight of kept paths -/
def sightOf (t : T) (ks : List (List Nat)) : List Pc := withP "top" (resT t (flagsOf t ks)).1 (resT t (flagsOf t ks)).2
def spSight (K : PySem.W.Frag) (C : Addr) : Sp := fun vs H Q E => ∃ (v1 v2 : V) (t : T) (d : PyData), vs = [v1, v2] ∧ size t ≤ 6 ∧ (∀ ps, d = .tuple ps → ps.length ≤ 100) ∧ Dp K H v1 (enc t) ∧ Dp K H v2 d ∧
  (keptB t d = true → ∀ ps, d = .tuple ps → ∀ v H', Ex H H' → Dp K H' v (.tuple ((sightOf t (ps.map natsOf)).map Pc.D)) → Q v H') ∧
  (keptB t d = false → ∀ H' dd fs, Ex H H' → H' dd = some (.xd fs) → fs.lookup ("word" : Str) = some (.str "kept") → fs.lookup ("at" : Str) = some (.int (-1)) → E (.ref C) (some dd) H')
end
end K17
/-! ### the law's own look: what it finds -/
namespace K17
open PySem PySem.Spec PyProof.Rows L2 Evl Fx Fr Dt Tr K18 So
abbrev S2 : Type := Option T × List Pc
def pcLost (ts : List T) : List Pc := if ts = [] then [] else [.lost (sortT ts)]
mutual
def seenT (keep : List Nat → Bool) : List Nat → T → S2
  | w, .mk s m cs => if keep w then (some (.mk s m (sortT (seenL keep w 0 cs).1)), (seenL keep w 0 cs).2) else (none, (seenL keep w 0 cs).2 ++ pcLost (seenL keep w 0 cs).1)
def seenL (keep : List Nat → Bool) : List Nat → Nat → List T → List T × List Pc
  | _, _, [] => ([], [])
  | w, i, t :: ts => ((seenT keep (w ++ [i]) t).1.toList ++ (seenL keep w (i + 1) ts).1, (seenT keep (w ++ [i]) t).2 ++ (seenL keep w (i + 1) ts).2)
end
theorem seen_eq (keep : List Nat → Bool) (w : List Nat) (t : T) : seenT keep w t = if keep w then (some (.mk t.name t.mark (sortT (seenL keep w 0 t.calls).1)), (seenL keep w 0 t.calls).2) else (none, (seenL keep w 0 t.calls).2 ++ pcLost (seenL keep w 0 t.calls).1) := by
  cases t
  rw [seenT]
  rfl
theorem seen_snoc (keep : List Nat → Bool) (w : List Nat) (t : T) : ∀ (ts : List T) (i : Nat), seenL keep w i (ts ++ [t]) = ((seenL keep w i ts).1 ++ (seenT keep (w ++ [i + ts.length]) t).1.toList, (seenL keep w i ts).2 ++ (seenT keep (w ++ [i + ts.length]) t).2)
  | [], i => by
    rw [List.nil_append, seenL, seenL, seenL]
    simp
  | u :: ts, i => by
    rw [List.cons_append, seenL, seen_snoc keep w t ts (i + 1), seenL, List.length_cons, show i + 1 + ts.length = i + (ts.length + 1) by omega]
    simp only [List.append_assoc]
def Lay (t : T) : Prop := (enc t).canLay0 = true
theorem lay_all : ∀ {ts : List T}, (PyData.canLayAll0 (ts.map enc) = true) ↔ ∀ t ∈ ts, Lay t
  | [] => by simp [PyData.canLayAll0]
  | t :: ts => by
    rw [List.map_cons, PyData.canLayAll0, Bool.and_eq_true, lay_all]
    simp [Lay]
theorem lay_mk {t : T} : Lay t ↔ PyData.strOk t.name = true ∧ ∀ c ∈ t.calls, Lay c := by
  rw [Lay, enc_eq, ← lay_all]
  simp [PyData.canLay0, PyData.canLayAll0]
theorem lost_psizes (ts : List T) : psizes (pcLost ts) = sizes ts := by
  unfold pcLost
  by_cases h : ts = []
  · rw [if_pos h, h]
    simp [psizes, sizes]
  · rw [if_neg h, psizes_cons]
    simp only [Pc.size, psizes, List.map_nil, List.sum_nil, Nat.add_zero]
    exact sizes_perm (sort_perm ts)
theorem lost_len (ts : List T) : (pcLost ts).length ≤ 1 := by
  unfold pcLost
  split <;> simp
mutual
theorem seen_bd (keep : List Nat → Bool) : ∀ (w : List Nat) (t : T), sizes (seenT keep w t).1.toList + psizes (seenT keep w t).2 ≤ size t ∧ (seenT keep w t).2.length ≤ size t ∧ (Lay t → ∀ s ∈ (seenT keep w t).1.toList, Lay s)
  | w, .mk s m cs => by
    obtain ⟨h1, h2, h3⟩ := seens_bd keep w 0 cs
    have hz : size (.mk s m cs) = sizes cs + 1 := by rw [size]
    have hs : sizes (sortT (seenL keep w 0 cs).1) = sizes (seenL keep w 0 cs).1 := sizes_perm (sort_perm _)
    have hl := lost_len (seenL keep w 0 cs).1
    rw [seenT, hz]
    by_cases hk : keep w = true
    · rw [if_pos hk]
      refine ⟨?_, by show (seenL keep w 0 cs).2.length ≤ _; omega, fun hy x hx => ?_⟩
      · simp only [Option.toList_some, sizes, size, hs]
        omega
      · simp only [Option.toList_some, List.mem_singleton] at hx
        subst hx
        obtain ⟨y1, y2⟩ := lay_mk.mp hy
        exact lay_mk.mpr ⟨y1, fun c hc => h3 y2 c ((sort_perm _).mem_iff.mp hc)⟩
    · rw [if_neg hk]
      refine ⟨?_, ?_, fun hy x hx => by simp at hx⟩
      · simp only [Option.toList_none, sizes, psizes_app, lost_psizes]
        omega
      · rw [List.length_append]
        omega
theorem seens_bd (keep : List Nat → Bool) : ∀ (w : List Nat) (i : Nat) (ts : List T), sizes (seenL keep w i ts).1 + psizes (seenL keep w i ts).2 ≤ sizes ts ∧ (seenL keep w i ts).2.length ≤ sizes ts ∧ ((∀ t ∈ ts, Lay t) → ∀ s ∈ (seenL keep w i ts).1, Lay s)
  | w, i, [] => by
    rw [seenL]
    simp [sizes, psizes]
  | w, i, t :: ts => by
    obtain ⟨a1, a2, a3⟩ := seen_bd keep (w ++ [i]) t
    obtain ⟨b1, b2, b3⟩ := seens_bd keep w (i + 1) ts
    rw [seenL, sizes]
    refine ⟨?_, ?_, fun hy x hx => ?_⟩
    · simp only [sizes_app, psizes_app]
      omega
    · rw [List.length_append]
      omega
    · rcases List.mem_append.mp hx with hx | hx
      · exact a3 (hy t (List.mem_cons_self ..)) x hx
      · exact b3 (fun u hu => hy u (List.mem_cons_of_mem _ hu)) x hx
end
theorem sh_trs {ts : List T} (h : ∀ t ∈ ts, Lay t) (hs : sizes ts ≤ 20) : SeqAt.shaped (.list (ts.map enc)) = true := by
  have h1 := encs_depth ts
  rw [encs_map] at h1
  show ((PyData.list (ts.map enc)).canLay0 && decide ((PyData.list (ts.map enc)).depth ≤ 64)) = true
  rw [Bool.and_eq_true]
  exact ⟨by rw [PyData.canLay0]; exact lay_all.mpr h, decide_eq_true (by rw [PyData.depth]; omega)⟩
def optD : Option T → PyData
  | none => .none
  | some t => enc t
section
variable {P : Program} {w : World} {K : PySem.W.Frag} {mg : Str → Option Value} {base : Heap} {f f2 f3 : Addr} {fd fd2 fd3 : FuncData} {te tl ta tb : TE} {σ σ2 : L2.St} {H : Hp} {k ka kb n : Nat} {d d0 : PyData} {ds es : List PyData} {g : TG} {vs : List Nat} {C : Addr}
def rInt1 : List V → Hp → VK → Prop := fun xs H Q => (∃ i, xs = [.int i] ∧ Q (.int i) H) ∨ ∃ k, xs = [.bl k] ∧ Q (.int (if k then 1 else 0)) H
def rNot : L2.R2 := fun x y H Q => y = .non ∧ Q (.bl (!decide (x = .non))) H
theorem rv_int1 {b : Bool} (h : EvR F0 te σ H 0 (fun x _ => x = .bl b)) : EvR F0 (tCB rInt1 (tCons te tNil)) σ H 0 (fun x _ => x = .int (if b then 1 else 0)) := fun n H1 hn g e Q q =>
  h n H1 hn g e _ fun v H2 e2 g2 p => .inr ⟨b, by rw [p], q _ H2 e2 g2 rfl⟩
theorem rl_rep {b : Bool} (ha : EvR F0 ta σ H 0 (IsL F0 K ds)) (hb : EvR F0 tb σ H 0 (fun x _ => x = .int (if b then 1 else 0))) (fd : flats ds = true) (hl : ds.length ≤ 100000) : EvR F0 (tOp rRep ta tb) σ H 0 (IsL F0 K (if b then ds else [])) := fun n H1 hn g e Q q =>
  ha n H1 hn g e _ fun x H2 e2 _ p => hb n H2 hn F0.g (e.trans e2) _ fun y H3 e3 _ p' => by
    obtain ⟨a, xs, rfl, hT, ha, hx⟩ := mono_l F0.ok fd 0 _ _ _ F0.g e3 p
    subst p'
    have l1 := dps_len hx
    refine ⟨a, _, xs, rfl, rfl, ha, by cases b <;> decide, by cases b <;> decide, sz_of (by cases b <;> simp <;> omega), fun l hl => ?_⟩
    refine q (.ref l) _ (e2.trans (e3.trans (Kx.ex (Ex.new hl)))) F0.g ⟨l, _, rfl, fun z => z, upd_same, ?_⟩
    have el := Ex.new (o := HO.lst (List.replicate (if b then (1 : Int) else 0).toNat xs).flatten) hl
    cases b with
    | true =>
      have : (List.replicate (if true = true then (1 : Int) else 0).toNat xs).flatten = xs := by simp
      rw [this]
      rw [this] at el
      exact dps_ex el _ _ hx
    | false => exact .nil
theorem rb_neTs {ts : List T} (ha : EvR F0 ta σ H 0 (IsL F0 K (ts.map enc))) (hs : SeqAt.shaped (.list (ts.map enc)) = true) : EvR F0 (tOp (rNeD K) ta (tLst tNil)) σ H 0 (fun u _ => u = .bl (!ts.isEmpty)) :=
  r_op (ka := 0) (kb := 0) (P' := IsL F0 K []) F0.ok (mono_l F0.ok (maps_flat _)) ha (rl_lst F0.ok ra_nil) fun x y n H1 g e px py Q q => ⟨_, _, px.dp, py.dp, hs, rfl, q _ H1 (Ex.refl _) (by cases ts <;> simp [PyData.eqv, PyData.eqvAll])⟩
theorem rv_inDL {p : List Nat} {ks : List (List Nat)} (ha : EvR F0 ta σ H 0 (IsD K (pathD p))) (hb : EvR F0 tb σ H 0 (IsD K (.list (ks.map pathD)))) : EvR F0 (tOp (rInD K) ta tb) σ H 0 (fun x _ => x = .bl (flagOf ks p)) := fun n H1 hn g e Q q =>
  ha n H1 hn g e _ fun x H2 e2 g2 px => hb n H2 hn F0.g (e.trans e2) _ fun y H3 e3 g3 py => ⟨pathD p, _, dp_ex (F0.ex e3) _ _ px, py, sh_path p, sh_paths ks, by rw [any_paths]; exact q _ H3 (e2.trans e3) F0.g rfl⟩
end
end K17
/-! ### comprehensions of drawn data: each item is some data of which Pe holds -/
namespace Dt
open PySem PySem.Spec PyProof.Rows L2 Evl Fx
section
variable {F : Fd} {K : PySem.W.Frag} {te ta tb tl : TE} {tr : TA} {g : TG} {σ : L2.St} {H H' : Hp} {ds es : List PyData} {n k ke : Nat} {v : V} {Pe : PyData → Prop}
/-- data of which Pe holds -/
def SomeD (K : PySem.W.Frag) (Pe : PyData → Prop) : VP := fun v H => ∃ x, Pe x ∧ Dp K H v x
/-- a list of its own, m items of which Pe holds -/
def IsLP (F : Fd) (K : PySem.W.Frag) (Pe : PyData → Prop) (m : Nat) : VP := fun v H => ∃ es, es.length = m ∧ (∀ x ∈ es, Pe x) ∧ IsL F K es v H
def CdP (F : Fd) (K : PySem.W.Frag) (H1 : Hp) (Dl : Addr) (n0 k : Nat) (Pe : PyData → Prop) (i : Nat) (H' : Hp) : Prop :=
  Kx F.S H1 H' ∧ F.G (n0 + i * k) H' ∧ ∃ vs es, H' Dl = some (.lst vs) ∧ DpAll K H' vs es ∧ es.length = i ∧ ∀ x ∈ es, Pe x
theorem cdp_turn (o : F.Ok) {H1 H' : Hp} {Dl : Addr} {n0 m i : Nat} {σ2 : L2.St} (fP : ∀ x, Pe x → flat x = true) (g1 : F.G n0 H1) (hD : H1 Dl = none) (p : CdP F K H1 Dl n0 ke Pe i H') (hi : i < m) (hm : m ≤ 40000) (hN : n0 + m * ke ≤ F.N) (he : EvR F te σ2 H' ke (SomeD K Pe)) :
    te σ2 H' fun y H4 => ∃ acc, H4 Dl = some (.lst acc) ∧ acc.length < sizeLine ∧ CdP F K H1 Dl n0 ke Pe (i + 1) (upd H4 Dl (.lst (acc ++ [y]))) := by
  obtain ⟨p1, p2, vs, es, p3, p4, p5, p6⟩ := p
  have nS : ¬ F.S Dl := fun s => o.new g1 hD (o.sub s)
  have hk : n0 + (i + 1) * ke = n0 + i * ke + ke := by rw [Nat.succ_mul]; omega
  have hb : n0 + i * ke + ke ≤ F.N := by
    have : (i + 1) * ke ≤ m * ke := Nat.mul_le_mul_right _ hi
    rw [Nat.succ_mul] at this
    omega
  have fo : flats es = true := flats_all.mpr fun x hx => fP x (p6 x hx)
  refine he _ H' hb p2 Kx.refl _ fun y H4 e4 g4 ⟨x, hx, hy⟩ => ?_
  have h4D : H4 Dl = some (.lst vs) := e4 _ _ p3 nS
  have kl : KT K H4 (upd H4 Dl (.lst (vs ++ [y]))) := fun a xs h => by
    have hne : ∀ u, H4 a = some u → (∀ ys, u ≠ .lst ys) → a ≠ Dl := fun u q z => by
      rintro rfl
      rw [h4D] at q
      cases q
      exact z _ rfl
    rcases h with (h | ⟨u, h⟩) | h
    · exact .inl (.inl (by rw [upd_ne (hne _ h fun _ z => by cases z)]; exact h))
    · exact .inl (.inr ⟨u, by rw [upd_ne (hne _ h fun _ z => by cases z)]; exact h⟩)
    · exact .inr h
  have lv := dps_len p4
  refine ⟨vs, h4D, sz_lt (by omega), (p1.trans e4).mut hD, ?_, vs ++ [y], es ++ [x], upd_same, dps_snoc (dps_kt kl _ _ fo (mono_ds o fo _ _ _ _ p2 e4 p4)) (dp_kt kl _ _ (fP x hx) hy), by rw [List.length_append, List.length_singleton, p5], fun z hz => ?_⟩
  · rw [hk]
    exact o.put g1 hD g4
  · rcases List.mem_append.mp hz with h | h
    · exact p6 z h
    · cases List.mem_singleton.mp h
      exact hx
/-- [.. for .. in xs], xs a list of its own -/
theorem r_lcLP (o : F.Ok) {vs : List Nat} (fP : ∀ x, Pe x → flat x = true) (h : EvR F tl σ H k (IsL F K ds)) (fd : flats ds = true) (hm : ds.length ≤ 40000)
    (ht : ∀ (i : Nat) (x : V) (d : PyData) (n : Nat) (H' : Hp), ds[i]? = some d → Dp K H' x d → F.G n H' → Kx F.S H H' → ∃ σ2, Gv g x (wipe σ vs) H' σ2 ∧ wipe σ2 vs = wipe σ vs ∧ EvR F te σ2 H' ke (SomeD K Pe)) :
    EvR F (tLc (iList K tl) g tYes te vs) σ H (k + ds.length * ke) (IsLP F K Pe ds.length) := fun n H0 hn g0 e0 Q q => h n H0 (by omega) g0 e0 _ fun v H1 e1 g1 ⟨a, xs, ev, hT, ha, hx⟩ => by
  subst ev
  have hl := dps_len hx
  have nS : ¬ F.S a := fun s => hT (o.sub s)
  refine ⟨a, rfl, ⟨xs, sq_of ha⟩, fun Dl hD => lc_list (xs := xs) (CdP F K H1 Dl (n + k) ke Pe) ?_ (fun i H' _ p => sq_of (p.1 a _ ha nS)) (fun i x H' hi p => ?_) fun H' p => ?_⟩
  · exact ⟨Kx.ex (Ex.new hD), by rw [Nat.zero_mul]; exact o.put g1 hD g1, [], [], upd_same, .nil, rfl, fun x hx => by cases hx⟩
  · have hlt := (List.getElem?_eq_some_iff.mp hi).1
    have hdi : ds[i]? = some ds[i] := List.getElem?_eq_getElem (by omega)
    obtain ⟨u, hu, hdu⟩ := dps_get (mono_ds o fd _ _ _ _ g1 p.1 hx) hdi
    rw [hi] at hu
    cases hu
    obtain ⟨σ2, q1, q2, q3⟩ := ht i x _ _ H' hdi hdu p.2.1 (e0.trans (e1.trans p.1))
    exact q1 _ ⟨q2, cdp_turn (m := ds.length) o fP g1 hD p (by omega) hm (by rw [Nat.add_assoc]; exact hn) q3⟩
  · rw [hl] at p
    obtain ⟨p1, p2, ws, es, p3, p4, p5, p6⟩ := p
    exact q (.ref Dl) H' (e1.trans p1) (by rw [← Nat.add_assoc]; exact p2) ⟨es, p5, p6, Dl, ws, rfl, o.new g1 hD, p3, p4⟩
/-- .. over range(m) -/
theorem r_lcRP (o : F.Ok) {vs : List Nat} {m : Nat} (fP : ∀ x, Pe x → flat x = true) (h : EvRA F tr σ H k (fun us _ => us = [.int (m : Int)])) (hm : m ≤ 40000)
    (ht : ∀ i n H', i < m → F.G n H' → Kx F.S H H' → ∃ σ2, Gv g (.int (i : Int)) (wipe σ vs) H' σ2 ∧ wipe σ2 vs = wipe σ vs ∧ EvR F te σ2 H' ke (SomeD K Pe)) :
    EvR F (tLc (iRng1 tr) g tYes te vs) σ H (k + m * ke) (IsLP F K Pe m) := fun n H0 hn g0 e0 Q q => h n H0 (by omega) g0 e0 _ fun us H1 e1 g1 hd => by
  subst hd
  refine ⟨(m : Int), rfl, by omega, by omega, fun Dl hD => lc_range (lo := 0) (n := (m : Int).toNat) (CdP F K H1 Dl (n + k) ke Pe) ?_ (fun i H' hi p => ?_) fun H' p => ?_⟩
  · exact ⟨Kx.ex (Ex.new hD), by rw [Nat.zero_mul]; exact o.put g1 hD g1, [], [], upd_same, .nil, rfl, fun x hx => by cases hx⟩
  · have him : i < m := by omega
    have e00 : (0 : Int) + (i : Int) = (i : Int) := Int.zero_add _
    obtain ⟨σ2, q1, q2, q3⟩ := ht i _ H' him p.2.1 (e0.trans (e1.trans p.1))
    rw [e00]
    exact q1 _ ⟨q2, cdp_turn (m := m) o fP g1 hD p him hm (by rw [Nat.add_assoc]; exact hn) q3⟩
  · rw [show (m : Int).toNat = m from Int.toNat_natCast m] at p
    obtain ⟨p1, p2, ws, es, p3, p4, p5, p6⟩ := p
    exact q (.ref Dl) H' (e1.trans p1) (by rw [← Nat.add_assoc]; exact p2) ⟨es, p5, p6, Dl, ws, rfl, o.new g1 hD, p3, p4⟩
/-- tuple(xs) of such a list -/
theorem rd_tupOfP {m : Nat} (o : F.Ok) (h : EvR F te σ H k (IsLP F K Pe m)) : EvR F (tCB (rTupOf K) (tCons te tNil)) σ H k (SomeD K fun x => ∃ es, x = .tuple es ∧ es.length = m ∧ ∀ y ∈ es, Pe y) := fun n H1 hn g e Q q => h n H1 hn g e _ fun v H2 e2 g2 ⟨es, h1, h2, p, xs, ev, hT, ha, hx⟩ => by
  subst ev
  exact ⟨p, xs, rfl, .inl ⟨sq_of ha, fun l hl => q (.ref l) _ (e2.trans (Kx.ex (Ex.new hl))) (o.ex g2 (Ex.new hl)) ⟨_, ⟨es, rfl, h1, h2⟩, .tup (st_of upd_same) (dps_ex (Ex.new hl) _ _ hx)⟩⟩⟩
end
end Dt
/-! ### != of two lists of the same plain items -/
namespace L2
open PySem PySem.Spec PyProof.Rows
theorem same_items {A : Around} {s : Shared} : ∀ {xs : List V} {us ws : List Value}, (∀ v ∈ xs, flatB v = true) → Vals xs us → Vals xs ws → ∀ j (h1 : j < us.length) (h2 : j < ws.length), SeqAt.EqAt A s us[j] ws[j] true
  | _, _, _, f, .nil, .nil, j, h1, _ => absurd h1 (Nat.not_lt_zero j)
  | _, _, _, f, .cons a1 b1, .cons a2 b2, 0, _, _ => eqAt_same a1 a2 (f _ (List.mem_cons_self ..))
  | _, _, _, f, .cons a1 b1, .cons a2 b2, j + 1, h1, h2 => same_items (fun v hv => f v (List.mem_cons_of_mem _ hv)) b1 b2 j (Nat.lt_of_succ_lt_succ h1) (Nat.lt_of_succ_lt_succ h2)
section
variable {X : Cx}
def rNeL (K : PySem.W.Frag) : R2 := fun x y H Q => ∃ a b xs, x = .ref a ∧ y = .ref b ∧ SqL K H a xs ∧ SqL K H b xs ∧ (∀ v ∈ xs, flatB v = true) ∧ Q (.bl false) H
theorem op_neL (hu : X.A.units + 64 < cLine) : OpR X (compareOp .NotEq) (rNeL X.K) := by
  intro pins s σ H x y v u Q I rx ry h
  obtain ⟨a, b, xs, rfl, rfl, ha, hb, f, q⟩ := h
  cases (show v = Value.ref a from rx)
  cases (show u = Value.ref b from ry)
  obtain ⟨us, r1, p1, _⟩ := I.list ha
  obtain ⟨ws, r2, p2, _⟩ := I.list hb
  show wpAny _ _ (richCompare .NotEq _ _) _ _ _
  refine SeqAt.RcNeAt.lists (e := fun _ => true) p1.isList p2.isList (by rw [List.size_toArray, List.size_toArray, ← r1.length, ← r2.length]) (by omega) (fun j h1 h2 => ?_) _ _ _ _ ?_
  · have k := same_items (A := X.A.in1) (s := s) f r1 r2 j (by simpa using h1) (by simpa using h2)
    simpa using k
  · have e : (!((List.range us.toArray.size).all fun _ => true)) = false := by rw [List.all_eq_true.mpr fun _ _ => rfl]; rfl
    rw [e]
    exact ⟨.bl false, H, I, rfl, q⟩
end
end L2
namespace Dt
open PySem PySem.Spec PyProof.Rows L2 Evl Fx
section
variable {F : Fd} {K : PySem.W.Frag} {te ta tb : TE} {tr : TA} {tz : TS} {D : Ends} {σ : L2.St} {H : Hp} {ds : List PyData} {k ka kb : Nat} {ns : List Str}
/-- two lists of the same texts -/
theorem rb_neTxt (o : F.Ok) (ha : EvR F ta σ H ka (IsL F K (ns.map PyData.str))) (hb : EvR F tb σ H kb (IsL F K (ns.map PyData.str))) : EvR F (tOp (rNeL K) ta tb) σ H (ka + kb) (fun x _ => x = .bl false) :=
  r_op o (mono_l o (flats_all.mpr fun d hd => by
    obtain ⟨b, _, rfl⟩ := List.mem_map.mp hd
    rfl)) ha hb fun x y n H1 g e ⟨p, xs, ex, _, hp, hx⟩ ⟨p', xs', ey, _, hp', hx'⟩ Q q => by
    have e1 := dps_strs hx
    have e2 := dps_strs hx'
    subst ex ey e1 e2
    exact ⟨p, p', _, rfl, rfl, sq_of hp, sq_of hp', fun v hv => by
      obtain ⟨b, _, rfl⟩ := List.mem_map.mp hv
      rfl, q _ H1 (Ex.refl _) rfl⟩
/-- a text != itself -/
theorem rb_neOne {x : Str} (o : F.Ok) (ha : EvR F ta σ H ka (fun u _ => u = .str x)) (hb : EvR F tb σ H kb (fun u _ => u = .str x)) : EvR F (tOp rNe ta tb) σ H (ka + kb) (fun u _ => u = .bl false) :=
  r_op o mono_eq ha hb fun u v n H1 g e e1 e2 Q q => by
    subst e1 e2
    exact ⟨rfl, q _ H1 (Ex.refl _) (by simp)⟩
theorem q_par2 {i j : Nat} (h : tr σ H fun vs H1 => ∃ u v, vs = [u, v] ∧ tz D ((σ.set i (some u)).set j (some v)) H1) : tSeq (tPar i j tr) tz D σ H := h
theorem q_nil {Q : List V → Hp → Prop} (h : Q [] H) : tNil σ H Q := h
end
end Dt
/-! ### the law's own look: _law_seen -/
namespace K17
open PySem PySem.Spec PyProof.Rows L2 Evl Fx Fr Dt Tr K18 So
def nSeen : List Str := ["_law_root", "_law_way", "_law_held", "_law_below", "_law_pieces_now", "_law_k", "_law_call", "_law_own", "_law_more"]
section
variable {P : Program} {w : World} {K : PySem.W.Frag} {mg : Str → Option Value} {base : Heap} {f f2 f3 : Addr} {fd fd2 fd3 : FuncData} {te tl ta tb : TE} {σ σ2 : L2.St} {H : Hp} {k ka kb n : Nat} {d d0 : PyData} {ds es : List PyData} {g : TG} {vs : List Nat} {C : Addr}
theorem rl_sortT {ts : List T} (h : EvR F0 te σ H 0 (IsL F0 K (ts.map enc))) (hz : sizes ts ≤ 20) : EvR F0 (tCB (rSortD K) (tCons te tNil)) σ H 0 (IsL F0 K ((sortT ts).map enc)) := by
  have := rl_sorted F0.ok h (all_alike ts) (all_sortable ts) fun dd hdd => by have := depth_mem dd hdd; omega
  rwa [sort_map] at this
theorem q_asgC {tr : TA} {sp : Sp} {E : XK} {tz : TS} {D : Ends} {R : List V → Hp → Prop} (h : EvRA F0 tr σ H 0 R) (kk : ∀ vs H1, Ex H H1 → R vs H1 → sp (vs ++ []) H1 (fun v H2 => g v σ H2 (tz D)) E) : tSeq (tAsg (tCall sp [] E tr) g) tz D σ H := h 0 H (Nat.le_refl _) F0.g Kx.refl _ fun vs H1 e _ p => kk vs H1 (F0.ex e) p
theorem s_ret2 {D : Ends} {R : VP} (h : EvR F0 ta σ H 0 R) (h2 : ∀ v H1, Ex H H1 → R v H1 → tb σ H1 fun u H2 => [v, u].length ≤ sizeLine ∧ ∀ a, H2 a = none → D.rt (.ref a) (upd H2 a (.tup [v, u]))) : tRet (tTup (tCons ta (tCons tb tNil))) D σ H := h 0 H (Nat.le_refl _) F0.g Kx.refl _ fun v H1 e _ p => h2 v H1 (F0.ex e) p
/-- n: how many spans at the most -/
def spSeen (K : PySem.W.Frag) (n : Nat) : Sp := fun vs H Q _ => ∃ (v1 v2 v3 : V) (t : T) (p : List Nat) (hs : List (List Nat)), vs = [v1, v2, v3] ∧ size t ≤ n ∧ n ≤ 8 ∧ p.length + n ≤ 100 ∧ hs.length ≤ 100 ∧ Lay t ∧ Dp K H v1 (enc t) ∧ Dp K H v2 (pathD p) ∧ Dp K H v3 (.list (hs.map pathD)) ∧
  ∀ a vo l xs H', Ex H H' → SqT K H' a [vo, .ref l] → H l = none → H' l = some (.lst xs) → Dp K H' vo (optD (seenT (flagOf hs) p t).1) → DpAll K H' xs ((seenT (flagOf hs) p t).2.map Pc.D) → Q (.ref a) H'
end
end K17
/-! ### the law's own sight: _law_kept_sight, _law_own_sight -/
namespace K17
open PySem PySem.Spec PyProof.Rows L2 Evl Fx Fr Dt Tr K18 So
/-- the pieces that the law finds, in the order in which it finds them -/
def rawS (keep : List Nat → Bool) (t : T) : List Pc := (seenT keep [0] t).2 ++ (seenT keep [0] t).1.toList.map Pc.top
def ownS (keep : List Nat → Bool) (t : T) : List Pc := sortP (rawS keep t)
theorem raw_sizes (keep : List Nat → Bool) (t : T) : psizes (rawS keep t) ≤ size t ∧ (rawS keep t).length ≤ size t + 1 := by
  obtain ⟨h1, h2, _⟩ := seen_bd keep [0] t
  unfold rawS
  rw [psizes_app, List.length_append, List.length_map]
  have e : psizes ((seenT keep [0] t).1.toList.map Pc.top) = sizes (seenT keep [0] t).1.toList := by
    cases (seenT keep [0] t).1 with
    | none => simp [psizes, sizes]
    | some s => simp [psizes, sizes, Pc.size]
  refine ⟨by omega, ?_⟩
  cases (seenT keep [0] t).1 with
  | none => simp; omega
  | some s => simp; omega
theorem pcs_depth {ps : List Pc} (h : psizes ps ≤ 15) : ∀ d ∈ ps.map Pc.D, PyData.depth d ≤ 40 := fun d hd => by
  obtain ⟨p, hp, rfl⟩ := List.mem_map.mp hd
  have h1 := p.depth
  have h2 := psize_mem hp
  omega
def topD (t : T) : PyData := .tuple [.str "top", enc t]
theorem topD_flat (t : T) : flat (topD t) = true := Pc.flat (.top t)
def nKS : List Str := ["_law_seen_here", "_law_held", "_law_found", "_law_i", "_law_word", "_law_part", "_law_own", "_law_more"]
section
variable {P : Program} {w : World} {K : PySem.W.Frag} {mg : Str → Option Value} {base : Heap} {f f2 f3 : Addr} {fd fd2 fd3 : FuncData} {te tl ta tb : TE} {σ σ2 : L2.St} {H : Hp} {k ka kb n : Nat} {d d0 : PyData} {ds es : List PyData} {g : TG} {vs : List Nat} {C : Addr}
def spKS (K : PySem.W.Frag) : Sp := fun vs H Q _ => ∃ (v1 v2 : V) (t : T) (hs : List (List Nat)), vs = [v1, v2] ∧ size t ≤ 6 ∧ hs.length ≤ 100 ∧ Lay t ∧ Dp K H v1 (.tuple [topD t]) ∧ Dp K H v2 (.list (hs.map pathD)) ∧
  ∀ v H', Ex H H' → Dp K H' v (.tuple ((ownS (flagOf hs) t).map Pc.D)) → Q v H'
end
end K17
/-! ### the law's own sight: _law_own_sight -/
namespace K17
open PySem PySem.Spec PyProof.Rows L2 Evl Fx Fr Dt Tr K18 So
def nOwn : List Str := ["_law_root", "_law_held", "_law_way"]
section
variable {P : Program} {w : World} {K : PySem.W.Frag} {mg : Str → Option Value} {base : Heap} {f f2 f3 : Addr} {fd fd2 fd3 : FuncData} {te tl ta tb : TE} {σ σ2 : L2.St} {H : Hp} {k ka kb n : Nat} {d d0 : PyData} {ds es : List PyData} {g : TG} {vs : List Nat} {C : Addr}
def spOwn (K : PySem.W.Frag) : Sp := fun vs H Q _ => ∃ (v1 v2 : V) (t : T) (ks : List (List Nat)), vs = [v1, v2] ∧ size t ≤ 6 ∧ ks.length ≤ 100 ∧ (∀ p ∈ ks, p.length ≤ 100) ∧ Lay t ∧ Dp K H v1 (enc t) ∧ IsL F0 K (ks.map pathD) v2 H ∧
  ∀ v H', Ex H H' → Dp K H' v (.tuple ((ownS (flagOf (ks.map (0 :: ·))) t).map Pc.D)) → Q v H'
theorem paths_flats (ks : List (List Nat)) : flats (ks.map pathD) = true := flats_all.mpr fun d hd => by
  obtain ⟨p, _, rfl⟩ := List.mem_map.mp hd
  exact path_flat p
theorem s_retC {tr : TA} {sp : Sp} {E : XK} {D : Ends} {R : List V → Hp → Prop} (h : EvRA F0 tr σ H 0 R) (kk : ∀ vs H1, Ex H H1 → R vs H1 → sp (vs ++ []) H1 D.rt E) : tRet (tCall sp [] E tr) D σ H := h 0 H (Nat.le_refl _) F0.g Kx.refl _ fun vs H1 e _ p => kk vs H1 (F0.ex e) p
end
end K17
/-! ### all sets of paths: _law_sets -/
namespace K17
open PySem PySem.Spec PyProof.Rows L2 Evl Fx Fr Dt Tr K18 So
/-- lists of their own, each of which reads as data -/
inductive LsAll (K : PySem.W.Frag) (H : Hp) : List V → List (List PyData) → Prop where
  | nil : LsAll K H [] []
  | cons {l : Addr} {us xs : List V} {s : List PyData} {ss : List (List PyData)} (h : H l = some (.lst us)) (d : DpAll K H us s) (r : LsAll K H xs ss) : LsAll K H (.ref l :: xs) (s :: ss)
def setsF {α : Type} (l : List α) : List (List α) := l.foldl (fun acc x => acc ++ acc.map fun s => s ++ [x]) [[]]
theorem sets_snoc {α : Type} (l : List α) (x : α) : setsF (l ++ [x]) = setsF l ++ (setsF l).map fun s => s ++ [x] := by
  unfold setsF
  rw [List.foldl_append]
  rfl
theorem snoc_ind {α : Type} {p : List α → Prop} (h0 : p []) (h1 : ∀ l x, p l → p (l ++ [x])) (l : List α) : p l := by
  have : p l.reverse.reverse := by
    induction l.reverse with
    | nil => exact h0
    | cons x r ih => rw [List.reverse_cons]; exact h1 _ _ ih
  rwa [List.reverse_reverse] at this
theorem sets_len {α : Type} (l : List α) : (setsF l).length = 2 ^ l.length := by
  refine snoc_ind (p := fun l : List α => (setsF l).length = 2 ^ l.length) rfl (fun l x ih => ?_) l
  rw [sets_snoc, List.length_append, List.length_map, ih, List.length_append, List.length_singleton, Nat.pow_succ]
  omega
theorem sets_mem {α : Type} (l : List α) : ∀ s ∈ setsF l, s.length ≤ l.length ∧ ∀ x ∈ s, x ∈ l := by
  refine snoc_ind (p := fun l : List α => ∀ s ∈ setsF l, s.length ≤ l.length ∧ ∀ x ∈ s, x ∈ l) (fun s h => ?_) (fun l x ih s h => ?_) l
  · rw [List.mem_singleton.mp h]
    simp
  · rw [sets_snoc] at h
    rcases List.mem_append.mp h with h | h
    · obtain ⟨a, b⟩ := ih s h
      exact ⟨by rw [List.length_append]; omega, fun y hy => List.mem_append_left _ (b y hy)⟩
    · obtain ⟨z, hz, rfl⟩ := List.mem_map.mp h
      obtain ⟨a, b⟩ := ih z hz
      refine ⟨by rw [List.length_append, List.length_append]; simp; omega, fun y hy => ?_⟩
      rcases List.mem_append.mp hy with hy | hy
      · exact List.mem_append_left _ (b y hy)
      · exact List.mem_append_right _ hy
section
variable {P : Program} {w : World} {K : PySem.W.Frag} {mg : Str → Option Value} {base : Heap} {f f2 f3 : Addr} {fd fd2 fd3 : FuncData} {te tl ta tb : TE} {σ σ2 : L2.St} {H H' : Hp} {k ka kb n : Nat} {d d0 : PyData} {ds es : List PyData} {g : TG} {vs : List Nat} {C : Addr} {xs ys : List V} {ss zz : List (List PyData)}
theorem ls_ex (e : Ex H H') (h : LsAll K H xs ss) : LsAll K H' xs ss := by
  induction h with
  | nil => exact .nil
  | cons h d _ ih => exact .cons (e _ _ h) (dps_ex e _ _ d) ih
theorem ls_app (h : LsAll K H xs ss) (h' : LsAll K H ys zz) : LsAll K H (xs ++ ys) (ss ++ zz) := by
  induction h with
  | nil => exact h'
  | cons h d _ ih => exact .cons h d ih
theorem ls_len (h : LsAll K H xs ss) : xs.length = ss.length := by
  induction h with
  | nil => rfl
  | cons h d _ ih => simp [ih]
theorem ls_get (h : LsAll K H xs ss) : ∀ {i : Nat} {x : V}, xs[i]? = some x → ∃ l us s, x = .ref l ∧ H l = some (.lst us) ∧ ss[i]? = some s ∧ DpAll K H us s := by
  induction h with
  | nil => intro i x h; simp at h
  | @cons l us xs s ss h d _ ih =>
    intro i x hx
    cases i with
    | zero => cases hx; exact ⟨l, us, s, rfl, h, rfl, d⟩
    | succ i => exact ih hx
theorem r_lcSet {i j m : Nat} {a : Addr} {u : V} (hv : σ[i]? = some (some (.ref a))) (hA : H a = some (.lst xs)) (hl : LsAll K H xs ss) (hz : xs.length ≤ 1000) (hs : ∀ s ∈ ss, s.length ≤ 100 ∧ flats s = true) (du : Dp K H u d) (fd : flat d = true)
    (hu : ∀ x : V, ((wipe σ vs).set j (some x))[m]? = some (some u)) (hj : ∀ x : V, ((wipe σ vs).set j (some x))[j]? = some (some x)) (hw : ∀ x : V, wipe ((wipe σ vs).set j (some x)) vs = wipe σ vs) :
    EvR F0 (tLc (iList K (tVar i)) (gName j) tYes (tOp rCat (tVar j) (tLst (tCons (tVar m) tNil))) vs) σ H 0 (fun v H' => ∃ D us, v = .ref D ∧ H' D = some (.lst us) ∧ LsAll K H' us (ss.map fun s => s ++ [d])) := fun n H1 hn g e Q q => by
  replace e := F0.ex e
  replace hA := e _ _ hA
  replace hl := ls_ex e hl
  replace du := dp_ex e _ _ du
  refine ⟨.ref a, hv, a, rfl, ⟨xs, sq_of hA⟩, fun D hD => ?_⟩
  have e0 := Ex.new (o := HO.lst []) hD
  have lx := ls_len hl
  refine lc_list (xs := xs) (fun n H' => Ex H1 H' ∧ ∃ us, H' D = some (.lst us) ∧ LsAll K (del H' D) us ((ss.take n).map fun s => s ++ [d])) ⟨e0, [], upd_same, by rw [List.take_zero]; exact .nil⟩ (fun n H' _ p => sq_of (p.1 _ _ hA)) (fun n x H' hxn ⟨p, us, hDD, du'⟩ => ?_) fun H' ⟨p, us, hDD, du'⟩ => ?_
  · obtain ⟨l, os, s, rfl, hl1, hsn, ds1⟩ := ls_get hl hxn
    obtain ⟨hs1, hs2⟩ := hs s (List.mem_of_getElem? hsn)
    have lus := ls_len du'
    rw [List.length_map, List.length_take] at lus
    have los := dps_len ds1
    have hln : n < xs.length := (List.getElem?_eq_some_iff.mp hxn).1
    refine ⟨hw _, .ref l, hj _, u, hu _, sz_of (by simp), fun b hb => ⟨l, b, os, [u], rfl, rfl, ?_, upd_same, sz_of (by simp; omega), fun c hc => ?_⟩⟩
    · rw [upd_ne (ne_addr hb (p _ _ hl1))]
      exact p _ _ hl1
    · have eb := Ex.new (o := HO.lst [u]) hb
      have ec := Ex.new (o := HO.lst (os ++ [u])) hc
      have ebc := eb.trans ec
      have hD4 := ebc _ _ hDD
      have hcD : c ≠ D := (ne_addr hc (eb _ _ hDD)).symm
      refine ⟨us, hD4, sz_lt (by omega), (p.trans ebc).mut hD, _, upd_same, ?_⟩
      rw [del_upd, List.take_add_one, hsn, List.map_append]
      refine ls_app (ls_ex (del_ex fun b' o _ h => ebc _ _ h) du') (.cons (us := os ++ [u]) (by rw [del_ne hcD]; exact upd_same) ?_ .nil)
      refine dps_kt (kt_del hD4) _ _ ?_ (dps_app (dps_ex (p.trans ebc) _ _ ds1) (.cons (dp_ex (p.trans ebc) _ _ du) .nil))
      exact flats_all.mpr fun z hz => by
        rcases List.mem_append.mp hz with hz | hz
        · exact flats_all.mp hs2 z hz
        · rw [List.mem_singleton.mp hz]
          exact fd
  · rw [lx, List.take_length] at du'
    exact q (.ref D) H' (Kx.ex p) g ⟨D, us, rfl, hDD, ls_ex ex_del du'⟩
def nSets : List Str := ["_law_some", "_law_found", "_law_one", "_law_lot"]
def spSets (K : PySem.W.Frag) : Sp := fun vs H Q _ => ∃ (v1 : V) (ws : List (List Nat)), vs = [v1] ∧ ws.length ≤ 6 ∧ Dp K H v1 (.list (ws.map pathD)) ∧ ∀ a xs H', H a = none → Ex H H' → H' a = some (.lst xs) → LsAll K H' xs (setsF (ws.map pathD)) → Q (.ref a) H'
end
end K17
/-! ### the written form of a path; repr of any data -/
namespace K17
open PySem PySem.Spec PyProof.Rows L2 Evl Fx Fr Dt Tr K18 So
def dig (p : List Nat) : Prop := ∀ x ∈ p, x ≤ 9
def jn : List Nat → List Nat
  | [] => []
  | [a] => [48 + a]
  | a :: b :: r => (48 + a) :: 44 :: 32 :: jn (b :: r)
def charsP (p : List Nat) : List Nat := 40 :: (jn p ++ (if p.length = 1 then [44, 41] else [41]))
theorem dig_text : ∀ n : Nat, n ≤ 9 → (PyData.shown (.int (n : Int))).cps.toList = [48 + n] := by
  intro n h
  match n, h with
  | 0, _ | 1, _ | 2, _ | 3, _ | 4, _ | 5, _ | 6, _ | 7, _ | 8, _ | 9, _ => decide +kernel
theorem shownAll_map : ∀ ds : List PyData, PyData.shownAll ds = ds.map PyData.shown
  | [] => rfl
  | d :: ds => by rw [PyData.shownAll, shownAll_map ds]; rfl
theorem join_text : ∀ p : List Nat, dig p → (Str.join ", " ((p.map fun (i : Nat) => PyData.int (i : Int)).map PyData.shown)).cps.toList = jn p
  | [], _ => rfl
  | [a], h => dig_text a (h a (List.mem_cons_self ..))
  | a :: b :: r, h => by
    have ih := join_text (b :: r) fun x hx => h x (List.mem_cons_of_mem _ hx)
    have ha := dig_text a (h a (List.mem_cons_self ..))
    show (PyData.shown (.int (a : Int)) ++ ", " ++ Str.join ", " (((b :: r).map fun (i : Nat) => PyData.int (i : Int)).map PyData.shown)).cps.toList = _
    rw [Str.cps_append, Str.cps_append, Array.toList_append, Array.toList_append, ih, ha]
    rfl
theorem path_text (p : List Nat) (h : dig p) : (PyData.shown (pathD p)).cps.toList = charsP p := by
  have e : PyData.shown (pathD p) = tupleText ((p.map fun (i : Nat) => PyData.int (i : Int)).map PyData.shown) := by
    rw [pathD, PyData.shown, shownAll_map]
  have hl : ((p.map fun (i : Nat) => PyData.int (i : Int)).map PyData.shown).length = p.length := by rw [List.length_map, List.length_map]
  rw [e, tupleText, Str.cps_append, Str.cps_append, Array.toList_append, Array.toList_append, join_text p h, hl]
  unfold charsP
  by_cases h1 : p.length = 1
  · rw [if_pos h1, if_pos (by simpa using h1)]
    rfl
  · rw [if_neg h1, if_neg (by simpa using h1)]
    rfl
theorem jn_len : ∀ p : List Nat, p ≠ [] → (jn p).length + 2 = 3 * p.length
  | [], h => absurd rfl h
  | [a], _ => rfl
  | a :: b :: r, _ => by
    have := jn_len (b :: r) (by simp)
    simp only [jn, List.length_cons] at this ⊢
    omega
theorem jn_inj : ∀ p q : List Nat, p.length = q.length → jn p = jn q → p = q
  | [], [], _, _ => rfl
  | [a], [b], _, h => by simp only [jn, List.cons.injEq] at h; congr 1; omega
  | a :: b :: r, c :: d :: s, hl, h => by
    simp only [jn, List.cons.injEq, true_and] at h
    have ih := jn_inj (b :: r) (d :: s) (by simpa using hl) h.2
    rw [ih]
    congr 1
    omega
  | [], _ :: _, hl, _ => by simp at hl
  | _ :: _, [], hl, _ => by simp at hl
  | [_], _ :: _ :: _, hl, _ => by simp at hl
  | _ :: _ :: _, [_], hl, _ => by simp at hl
theorem chars_len (p : List Nat) : (charsP p).length = if p.length = 0 then 2 else if p.length = 1 then 4 else 3 * p.length := by
  cases p with
  | nil => rfl
  | cons a r =>
    have := jn_len (a :: r) (by simp)
    unfold charsP
    by_cases h1 : (a :: r).length = 1
    · rw [if_pos h1]
      simp only [List.length_cons, List.length_append, List.length_nil] at this h1 ⊢
      simp [h1]
      omega
    · rw [if_neg h1]
      simp only [List.length_cons, List.length_append, List.length_nil] at this h1 ⊢
      rw [if_neg (by omega), if_neg (by omega)]
      omega
theorem chars_inj {p q : List Nat} (h : charsP p = charsP q) : p = q := by
  have hl : p.length = q.length := by
    have h1 := chars_len p
    have h2 := chars_len q
    rw [h, h2] at h1
    split at h1 <;> split at h1 <;> (try split at h1) <;> (try split at h1) <;> omega
  unfold charsP at h
  rw [hl] at h
  injection h with _ h
  exact jn_inj p q hl (List.append_cancel_right h)
/-- a text that may be a path's -/
def okHead : List Nat → Bool
  | 40 :: c :: _ => c == 41 || (decide (48 ≤ c) && decide (c ≤ 57))
  | _ => false
theorem path_head {p : List Nat} (h : dig p) : okHead (charsP p) = true := by
  match p with
  | [] => rfl
  | [a] =>
    have := h a (List.mem_cons_self ..)
    simp [charsP, jn, okHead]
    omega
  | a :: b :: r =>
    have := h a (List.mem_cons_self ..)
    simp [charsP, jn, okHead]
    omega
theorem shown_inj {p q : List Nat} (hp : dig p) (hq : dig q) (h : PyData.shown (pathD p) = PyData.shown (pathD q)) : p = q := chars_inj (by rw [← path_text p hp, ← path_text q hq, h])
/-- no path -/
def oddB (d : PyData) : Bool := !okHead (PyData.shown d).cps.toList
theorem odd_ne {d : PyData} {p : List Nat} (ho : oddB d = true) (hp : dig p) : PyData.shown d ≠ PyData.shown (pathD p) := fun h => by
  rw [oddB, h, path_text p hp, path_head hp] at ho
  cases ho
theorem chars_ok {p : List Nat} (h : dig p) : PyData.strOk (PyData.shown (pathD p)) = true := by
  have hj : ∀ q : List Nat, dig q → ∀ c ∈ jn q, c < 0x110000 := fun q => by
    induction q with
    | nil => intro _ c hc; simp [jn] at hc
    | cons a r ih =>
      intro hq c hc
      have ha := hq a (List.mem_cons_self ..)
      cases r with
      | nil =>
        simp only [jn, List.mem_singleton] at hc
        omega
      | cons b s =>
        simp only [jn, List.mem_cons] at hc
        rcases hc with hc | hc | hc | hc
        · omega
        · omega
        · omega
        · exact ih (fun x hx => hq x (List.mem_cons_of_mem _ hx)) c hc
  show ((PyData.shown (pathD p)).cps.all (· < 0x110000)) = true
  rw [← Array.all_toList, path_text p h, List.all_eq_true]
  intro c hc
  refine decide_eq_true ?_
  unfold charsP at hc
  rcases List.mem_cons.mp hc with hc | hc
  · omega
  · rcases List.mem_append.mp hc with hc | hc
    · exact hj p h c hc
    · split at hc <;> simp at hc <;> omega
section
variable {X : Cx} {K : PySem.W.Frag} {te : TE} {σ : L2.St} {H : Hp} {d : PyData}
/-- repr of any data -/
def rReprX (K : PySem.W.Frag) : List V → Hp → VK → Prop := fun xs H Q => ∃ (x : V) (d : PyData), xs = [x] ∧ Dp K H x d ∧ d.showable = true ∧ d.hasDict = false ∧ d.depth ≤ 60 ∧ d.shown.length ≤ sizeLine ∧ Q (.str d.shown) H
theorem cr_reprX (hg : X.A.guards = some []) (hu : X.A.units + 64 < cLine) : CallR X (.builtin "repr") (rReprX X.K) := by
  intro pins s σ H xs us Q I r h
  obtain ⟨x, d, rfl, hd, h1, h2, h3, h4, q⟩ := h
  cases x with
  | ref a => exact DtG.cr_reprD hg hu pins s σ H [.ref a] us Q I r ⟨a, d, rfl, hd, h1, h2, h3, h4, q⟩
  | non =>
    cases hd
    obtain ⟨u, rfl, ru⟩ := vals1 r
    cases ru
    exact PySem.P.repr_of_none ⟨.str _, H, I.tok _, ⟨_, rfl⟩, q⟩
  | int i =>
    cases hd
    obtain ⟨u, rfl, t, rfl⟩ := vals1 r
    exact PySem.P.repr_of_int (of_decide_eq_true h1) ⟨.str _, H, I.tok _, ⟨_, rfl⟩, q⟩
  | str z =>
    cases hd
    obtain ⟨u, rfl, t, rfl⟩ := vals1 r
    exact PySem.P.repr_of_str ⟨.str _, H, I.tok _, ⟨_, rfl⟩, q⟩ h4
  | bl b =>
    cases hd
    obtain ⟨u, rfl, ru⟩ := vals1 r
    cases ru
    exact PySem.P.repr_of_bool ⟨.str _, H, I.tok _, ⟨_, rfl⟩, q⟩
  | _ => cases hd
theorem rv_reprX {n w : Nat} (h : EvR F0 te σ H 0 (IsD K d)) (s : Sh n w d) (hn : n ≤ 60) (hw : w ≤ 2 ^ 20) : EvR F0 (tCB (rReprX K) (tCons te tNil)) σ H 0 (fun x _ => x = .str (PyData.shown d)) := fun n1 H1 h1 g e Q q => h n1 H1 h1 g e _ fun v H2 e2 g2 hd =>
  ⟨v, d, rfl, hd, s.shows, s.nod, Nat.le_trans s.dep hn, s.len (by omega) hw, q _ H2 e2 g2 rfl⟩
end
end K17
/-! ### what is due: _law_due -/
namespace K17
open PySem PySem.Spec PyProof.Rows L2 Evl Fx Fr Dt Tr K18 So DtG
def rTupListOf (K : PySem.W.Frag) : List V → Hp → VK → Prop := fun xs H Q => ∃ p ys, xs = [.ref p] ∧ (SqL K H p ys ∨ SqT K H p ys) ∧ ∀ l, H l = none → Q (.ref l) (upd H l (.lst ys))
def waysOf (t : T) : List (List Nat) := (placed [] t).map (·.1)
def goodB (t : T) (x : PyData) : Bool := ((waysOf t).map fun q => PyData.shown (pathD q)).any fun z => z == PyData.shown x
def leP (p q : List Nat) : Bool := Ob.lexAt (fun j => decide ((intsP p).getD j 0 = (intsP q).getD j 0)) (fun j => decide ((intsP p).getD j 0 ≤ (intsP q).getD j 0)) (decide ((intsP p).length ≤ (intsP q).length)) 0 (min (intsP p).length (intsP q).length)
/-- a thing of which the law's tuples are made -/
def ElOk (x : PyData) : Prop := (∃ q, x = pathD q ∧ dig q ∧ q.length ≤ 10) ∨ (oddB x = true ∧ PyData.strOk (PyData.shown x) = true ∧ Sh 10 1000 x)
def stepB (t : T) (ps : List PyData) (k : Nat) : Bool := goodB t (ps.getD k .none) && !(decide (0 < k) && leP (natsOf (ps.getD k .none)) (natsOf (ps.getD (k - 1) .none)))
def dueB (t : T) : PyData → Bool
  | .tuple ps => (List.range ps.length).all (stepB t ps)
  | _ => false
theorem snoc_dig {p : List Nat} {i : Nat} (h : dig p) (hi : i ≤ 9) : dig (p ++ [i]) := fun x hx => by
  rcases List.mem_append.mp hx with hx | hx
  · exact h x hx
  · rw [List.mem_singleton.mp hx]
    exact hi
mutual
theorem placed_dig : ∀ (p : List Nat) (t : T), dig p → size t ≤ 10 → ∀ x ∈ placed p t, dig x.1
  | p, .mk s m cs, hp, hs, x, h => by
    rw [Tr.placed, List.mem_cons] at h
    rw [size] at hs
    rcases h with rfl | h
    · exact hp
    · have := len_sizes cs
      exact placedA_dig p 0 cs hp (by omega) (by omega) x h
theorem placedA_dig : ∀ (p : List Nat) (i : Nat) (ts : List T), dig p → i + ts.length ≤ 10 → sizes ts ≤ 10 → ∀ x ∈ placedA p i ts, dig x.1
  | _, _, [], _, _, _, x, h => by rw [placedA] at h; cases h
  | p, i, t :: ts, hp, hi, hs, x, h => by
    rw [placedA] at h
    rw [sizes] at hs
    rw [List.length_cons] at hi
    rcases List.mem_append.mp h with h | h
    · exact placed_dig (p ++ [i]) t (snoc_dig hp (by omega)) (by omega) x h
    · exact placedA_dig p (i + 1) ts hp (by omega) (by omega) x h
end
theorem ways_dig {t : T} (h : size t ≤ 6) : ∀ q ∈ waysOf t, dig q := fun q hq => by
  obtain ⟨x, hx, rfl⟩ := List.mem_map.mp hq
  exact placed_dig [] t (fun y hy => by cases hy) (by omega) x hx
theorem nats_path (q : List Nat) : natsOf (pathD q) = q := by
  show (q.map fun (i : Nat) => PyData.int (i : Int)).map natOf = q
  rw [List.map_map]
  refine (List.map_congr_left fun i _ => ?_).trans (List.map_id q)
  simp [natOf]
/-- what is good is a way of the tree -/
theorem good_is {t : T} {x : PyData} (hs : size t ≤ 6) (he : ElOk x) (h : goodB t x = true) : ∃ q, x = pathD q ∧ q ∈ waysOf t ∧ q.length ≤ 10 := by
  obtain ⟨z, hz, e⟩ := List.any_eq_true.mp h
  obtain ⟨q, hq, rfl⟩ := List.mem_map.mp hz
  have e' : PyData.shown (pathD q) = PyData.shown x := by simpa using e
  rcases he with ⟨p, rfl, hp, hl⟩ | ⟨ho, _, _⟩
  · have := shown_inj (ways_dig hs q hq) hp e'
    subst this
    exact ⟨q, rfl, hq, hl⟩
  · exact absurd e'.symm (odd_ne ho (ways_dig hs q hq))
theorem el_str {x : PyData} (he : ElOk x) : PyData.strOk (PyData.shown x) = true := by
  rcases he with ⟨p, rfl, hp, hl⟩ | ⟨_, h, _⟩
  · exact chars_ok hp
  · exact h
theorem path_sh {q : List Nat} (hq : dig q) (hl : q.length ≤ 10) : Sh 10 1000 (pathD q) := by
  refine (sh_tup (n := 0) (w := 41) (m := 10) (fun d hd => ?_) (by rw [List.length_map]; exact hl)).mono (by decide) (by decide)
  obtain ⟨i, hi, rfl⟩ := List.mem_map.mp hd
  have := hq i hi
  exact sh_int' (by omega)
theorem el_sh {x : PyData} (he : ElOk x) : Sh 10 1000 x := by
  rcases he with ⟨p, rfl, hp, hl⟩ | ⟨_, _, h⟩
  · exact path_sh hp hl
  · exact h
theorem ways_len {t : T} (h : size t ≤ 6) : ∀ q ∈ waysOf t, q.length ≤ 6 := fun q hq => by
  obtain ⟨x, hx, rfl⟩ := List.mem_map.mp hq
  have := placed_path [] t x hx
  simp only [List.length_nil] at this
  omega
def oddD : PyData := .tuple [.str "usable", .str "kept", .int (-1)]
def toldD (ps : List Pc) : PyData := .tuple [.str "told", .tuple (ps.map Pc.D)]
def nDue : List Str := ["_law_root", "_law_item", "_law_ways", "_law_span", "_law_k", "_law_way", "_law_own"]
section
variable {P : Program} {w : World} {K : PySem.W.Frag} {mg : Str → Option Value} {base : Heap} {f f2 f3 : Addr} {fd fd2 fd3 : FuncData} {te tl ta tb : TE} {σ σ2 : L2.St} {H H' : Hp} {k ka kb n : Nat} {d d0 : PyData} {ds es : List PyData} {g : TG} {vs : List Nat} {C : Addr} {xs ys : List V}
def sD (q : List Nat) : PyData := .str (PyData.shown (pathD q))
theorem sh_strs {qs : List (List Nat)} (h : ∀ q ∈ qs, dig q) : SeqAt.shaped (.list (qs.map sD)) = true := by
  have h1 : PyData.canLayAll0 (qs.map sD) = true := by
    induction qs with
    | nil => rfl
    | cons q qs ih =>
      rw [List.map_cons, PyData.canLayAll0, Bool.and_eq_true]
      exact ⟨chars_ok (h q (List.mem_cons_self ..)), ih fun z hz => h z (List.mem_cons_of_mem _ hz)⟩
  have h2 : PyData.depthAll (qs.map sD) = 0 := by
    clear h h1
    induction qs with
    | nil => rfl
    | cons q qs ih => rw [List.map_cons, PyData.depthAll, ih]; rfl
  show ((PyData.list (qs.map sD)).canLay0 && decide ((PyData.list (qs.map sD)).depth ≤ 64)) = true
  rw [Bool.and_eq_true]
  exact ⟨by rw [PyData.canLay0]; exact h1, decide_eq_true (by rw [PyData.depth, h2]; omega)⟩
theorem strs_flat (qs : List (List Nat)) : flats (qs.map sD) = true := flats_all.mpr fun d hd => by
  obtain ⟨q, _, rfl⟩ := List.mem_map.mp hd
  rfl
theorem rv_notIn {t : T} {x : PyData} (hs : size t ≤ 6) (he : ElOk x) (ha : EvR F0 ta σ H 0 (fun v _ => v = .str (PyData.shown x))) (hb : EvR F0 tb σ H 0 (IsL F0 K ((waysOf t).map sD))) : EvR F0 (tOp (rNotInD K) ta tb) σ H 0 (fun v _ => v = .bl (!goodB t x)) := fun n H1 hn g e Q q =>
  ha n H1 hn g e _ fun y H2 e2 g2 ey => hb n H2 hn F0.g (e.trans e2) _ fun z H3 e3 g3 pz => by
    subst ey
    refine ⟨.str (PyData.shown x), _, .str _, pz.dp, ?_, sh_strs (ways_dig hs), ?_⟩
    · show (PyData.strOk (PyData.shown x) && decide (PyData.depth (.str (PyData.shown x)) ≤ 64)) = true
      rw [el_str he]
      rfl
    · refine q _ H3 (e2.trans e3) F0.g ?_
      unfold goodB
      rw [List.any_map, List.any_map]
      rfl
theorem rv_leP {p q : List Nat} (ha : EvR F0 ta σ H 0 (IsD K (pathD p))) (hb : EvR F0 tb σ H 0 (IsD K (pathD q))) : EvR F0 (tOp (rLeT K) ta tb) σ H 0 (fun x _ => x = .bl (leP p q)) := fun n H1 hn g e Q q' =>
  ha n H1 hn g e _ fun x H2 e2 g2 px => hb n H2 hn F0.g (e.trans e2) _ fun y H3 e3 g3 py => by
    obtain ⟨a, rfl, sa⟩ := dp_path (dp_ex (F0.ex e3) _ _ px)
    obtain ⟨b, rfl, sb⟩ := dp_path py
    exact ⟨a, b, _, _, rfl, rfl, sa, sb, q' _ H3 (e2.trans e3) F0.g rfl⟩
theorem rl_listOf (h : EvR F0 te σ H 0 (IsD K (.tuple ds))) : EvR F0 (tCB (rTupListOf K) (tCons te tNil)) σ H 0 (IsL F0 K ds) := fun n H1 hn g e Q q => h n H1 hn g e _ fun v H2 e2 g2 hd => by
  cases hd with
  | @tup a xs _ ha hx => exact ⟨a, xs, rfl, .inr ha, fun l hl => q (.ref l) _ (e2.trans (Kx.ex (Ex.new hl))) F0.g ⟨l, xs, rfl, fun z => z, upd_same, dps_ex (Ex.new hl) _ _ hx⟩⟩
theorem q_forEx {i : Nat} {a : Addr} {tb tz : TS} {D : Ends} (hv : σ[i]? = some (some (.ref a))) (hT : SqT K H a xs) (hx : DpAll K H xs ds) (Pv : Nat → L2.St → Hp → Prop) (h0 : Pv 0 σ H) (hk : ∀ m σ' H', Pv m σ' H' → Ex H H')
    (hs : ∀ m x T d σ' H', ds[m]? = some d → Pv m σ' H' → H' T = none → Dp K (upd H' T (.tup [.int (m : Nat), x])) x d → g (.ref T) σ' (upd H' T (.tup [.int (m : Nat), x])) fun σ2 H2 => tb { D with nx := Pv (m + 1), ct := Pv (m + 1), bk := tz D } σ2 H2)
    (hd : ∀ σ' H', Pv ds.length σ' H' → tz D σ' H') : tSeq (tFor (DtE.iEnumT K (tCons (tVar i) tNil)) g tb) tz D σ H := by
  have lx := dps_len hx
  refine ⟨.ref a, hv, a, xs, rfl, hT, for_enumT Pv h0 (fun m σ' H' p => ex_t (hk _ _ _ p) hT) (fun m x T σ' H' hi p hT' => ?_) fun σ' H' p => hd σ' H' (by rw [← lx]; exact p)⟩
  have h1 := (List.getElem?_eq_some_iff.mp hi).1
  have hdi : ds[m]? = some ds[m] := List.getElem?_eq_getElem (by omega)
  obtain ⟨u, hu, hdu⟩ := dps_get (dps_ex ((hk _ _ _ p).trans (Ex.new (o := HO.tup [.int (m : Nat), x]) hT')) _ _ hx) hdi
  rw [hi] at hu
  cases hu
  exact hs m x T _ σ' H' hdi p hT' hdu
theorem c_call {tr : TA} {sp : Sp} {E : XK} {Q : VK} {R : List V → Hp → Prop} (h : EvRA F0 tr σ H 0 R) (kk : ∀ vs H1, Ex H H1 → R vs H1 → sp (vs ++ []) H1 Q E) : tCall sp [] E tr σ H Q := h 0 H (Nat.le_refl _) F0.g Kx.refl _ fun vs H1 e _ p => kk vs H1 (F0.ex e) p
theorem rv_gt {i j : Int} (ha : EvR F0 ta σ H 0 (fun x _ => x = .int i)) (hb : EvR F0 tb σ H 0 (fun x _ => x = .int j)) : EvR F0 (tOp (rI0 fun i j => .bl (decide (j < i))) ta tb) σ H 0 (fun x _ => x = .bl (decide (j < i))) :=
  rv_op (ka := 0) (kb := 0) F0.ok ha hb fun _ => rv_I0 (g := fun i j => .bl (decide (j < i)))
def spDue (K : PySem.W.Frag) : Sp := fun vs H Q _ => ∃ (v1 v2 : V) (t : T) (d : PyData), vs = [v1, v2] ∧ size t ≤ 6 ∧ Lay t ∧ (∀ ps, d = .tuple ps → ps.length ≤ 100 ∧ ∀ x ∈ ps, ElOk x) ∧ Dp K H v1 (enc t) ∧ Dp K H v2 d ∧
  (dueB t d = true → ∀ ps, d = .tuple ps → ∀ v H', Ex H H' → Dp K H' v (toldD (ownS (flagOf ((ps.map natsOf).map (0 :: ·))) t)) → Q v H') ∧ (dueB t d = false → ∀ v H', Ex H H' → Dp K H' v oddD → Q v H')
end
end K17
/-! ### the program's sight is the law's -/
namespace K17
open PySem PySem.Spec PyProof.Rows L2 Evl Fx Fr Dt Tr K18 So
theorem sortP_idem (ps : List Pc) : sortP (sortP ps) = sortP ps := sortP_perm (sortP_mem ps)
theorem sortT_nil {ts : List T} : sortT ts = [] ↔ ts = [] := by
  have h := (sort_perm ts).length_eq
  refine ⟨fun e => ?_, fun e => by rw [e]; simp [sortT]⟩
  rw [e] at h
  exact List.length_eq_zero_iff.mp h.symm
theorem placed_cons (w : List Nat) (s : Str) (m : Int) (cs : List T) : Tr.placed w (.mk s m cs) = (w, .mk s m cs) :: placedA w 0 cs := by rw [Tr.placed]
theorem placedA_len : ∀ (w : List Nat) (i : Nat) (ts : List T), (placedA w i ts).length = sizes ts
  | _, _, [] => by rw [placedA, sizes]; rfl
  | w, i, t :: ts => by rw [placedA, sizes, List.length_append, placed_len, placedA_len w (i + 1) ts]
theorem piece_lost (ts : List T) : pieceOf "lost" ts = .lost ts := by
  unfold pieceOf
  rw [if_neg words_ne.symm]
theorem withP_lost (ts : List T) (ps : List Pc) : withP "lost" (sortT ts) (sortP ps) = sortP (ps ++ pcLost ts) := by
  unfold pcLost
  by_cases h : ts = []
  · rw [if_pos h, sortT_nil.mpr h, withP, List.append_nil]
  · rw [if_neg h]
    have h' : sortT ts ≠ [] := fun z => h (sortT_nil.mp z)
    cases e : sortT ts with
    | nil => exact absurd e h'
    | cons a r =>
      rw [withP, piece_lost]
      exact sortP_app _ _
mutual
theorem res_seen (keep : List Nat → Bool) : ∀ (w : List Nat) (t : T), (resT t ((Tr.placed w t).map fun x => keep x.1)).1 = (seenT keep w t).1.toList ∧ (resT t ((Tr.placed w t).map fun x => keep x.1)).2 = sortP (seenT keep w t).2
  | w, .mk s m cs => by
    obtain ⟨h1, h2⟩ := ress_seen keep w 0 cs
    rw [placed_cons, List.map_cons, resT, seenT, List.headD_cons, List.tail_cons]
    have j1 : (joinR (resL cs ((placedA w 0 cs).map fun x => keep x.1))).1 = sortT (seenL keep w 0 cs).1 := by rw [joinR, h1]
    have j2 : (joinR (resL cs ((placedA w 0 cs).map fun x => keep x.1))).2 = sortP (seenL keep w 0 cs).2 := by rw [joinR]; exact sortP_perm h2
    unfold nodeR
    by_cases hk : keep w = true
    · rw [if_pos hk, if_pos hk]
      exact ⟨by rw [j1]; rfl, j2⟩
    · rw [if_neg hk, if_neg hk]
      refine ⟨rfl, ?_⟩
      rw [j1, j2]
      exact withP_lost _ _
theorem ress_seen (keep : List Nat → Bool) : ∀ (w : List Nat) (i : Nat) (ts : List T), (catR (resL ts ((placedA w i ts).map fun x => keep x.1))).1 = (seenL keep w i ts).1 ∧ (catR (resL ts ((placedA w i ts).map fun x => keep x.1))).2.Perm (seenL keep w i ts).2
  | w, i, [] => by
    rw [resL, seenL]
    exact ⟨rfl, .refl _⟩
  | w, i, t :: ts => by
    obtain ⟨a1, a2⟩ := res_seen keep (w ++ [i]) t
    obtain ⟨b1, b2⟩ := ress_seen keep w (i + 1) ts
    have hl : ((Tr.placed (w ++ [i]) t).map fun x => keep x.1).length = size t := by rw [List.length_map, placed_len]
    rw [placedA, List.map_append, resL, seenL, ← hl, List.take_left, List.drop_left]
    simp only [catR, List.flatMap_cons] at b1 b2 ⊢
    refine ⟨by rw [a1, b1], ?_⟩
    rw [a2]
    exact (sortP_mem _).append b2
end
mutual
theorem seen_shift (keep keep' : List Nat → Bool) (h : ∀ p, keep' (0 :: p) = keep p) : ∀ (w : List Nat) (t : T), seenT keep' (0 :: w) t = seenT keep w t
  | w, .mk s m cs => by rw [seenT, seenT, h, seens_shift keep keep' h w 0 cs]
theorem seens_shift (keep keep' : List Nat → Bool) (h : ∀ p, keep' (0 :: p) = keep p) : ∀ (w : List Nat) (i : Nat) (ts : List T), seenL keep' (0 :: w) i ts = seenL keep w i ts
  | w, i, [] => by rw [seenL, seenL]
  | w, i, t :: ts => by rw [seenL, seenL, List.cons_append, seen_shift keep keep' h (w ++ [i]) t, seens_shift keep keep' h w (i + 1) ts]
end
theorem flag_shift (ks : List (List Nat)) (p : List Nat) : flagOf (ks.map (0 :: ·)) (0 :: p) = flagOf ks p := by
  unfold flagOf
  rw [List.any_map]
  congr 1
theorem piece_top (t : T) (ts : List T) : pieceOf "top" (t :: ts) = .top t := by
  unfold pieceOf
  rw [if_pos rfl]
/-- the program's sight is the law's -/
theorem sight_own (t : T) (ks : List (List Nat)) : sightOf t ks = ownS (flagOf (ks.map (0 :: ·))) t := by
  obtain ⟨h1, h2⟩ := res_seen (flagOf ks) [] t
  have e := seen_shift (flagOf ks) (flagOf (ks.map (0 :: ·))) (flag_shift ks) [] t
  unfold sightOf ownS rawS flagsOf
  rw [e, h1, h2]
  cases (seenT (flagOf ks) [] t).1 with
  | none => simp [withP]
  | some s =>
    simp only [Option.toList_some, withP, piece_top, List.map_cons, List.map_nil]
    exact sortP_app _ _
end K17
/-! ### what is due is what the program tells -/
namespace K17
open PySem PySem.Spec PyProof.Rows L2 Evl Fx Fr Dt Tr K18 So
theorem lexAt_shift (e r : Nat → Bool) (z : Bool) : ∀ (k i : Nat), Ob.lexAt e r z (i + 1) k = Ob.lexAt (fun j => e (j + 1)) (fun j => r (j + 1)) z i k
  | 0, i => rfl
  | k + 1, i => by rw [Ob.lexAt_succ, Ob.lexAt_succ, lexAt_shift e r z k (i + 1)]
theorem lexAt_lt : ∀ ns ms : List Int, Ob.lexAt (fun j => decide (ns.getD j 0 = ms.getD j 0)) (fun j => decide (ns.getD j 0 ≤ ms.getD j 0)) (decide (ns.length ≤ ms.length)) 0 (min ns.length ms.length) = !HT.lexLt ms ns
  | [], [] => rfl
  | [], y :: ys => by simp [Ob.lexAt, HT.lexLt]
  | x :: xs, [] => by simp [Ob.lexAt, HT.lexLt]
  | x :: xs, y :: ys => by
    have ih := lexAt_lt xs ys
    have hm : min (x :: xs).length (y :: ys).length = min xs.length ys.length + 1 := by simp only [List.length_cons]; omega
    rw [hm, Ob.lexAt_succ, lexAt_shift, HT.lexLt_cons]
    have hz : decide ((x :: xs).length ≤ (y :: ys).length) = decide (xs.length ≤ ys.length) := by simp
    rw [hz]
    simp only [List.getD_cons_zero, List.getD_cons_succ]
    by_cases h : x = y
    · rw [if_pos (by simpa using h), if_pos h.symm]
      exact ih
    · rw [if_neg (by simpa using h), if_neg (fun z => h z.symm)]
      by_cases h2 : x ≤ y
      · rw [decide_eq_true h2, decide_eq_false (by omega)]
        rfl
      · rw [decide_eq_false h2, decide_eq_true (by omega)]
        rfl
theorem le_lt (p q : List Nat) : leP p q = !pathLt q p := lexAt_lt _ _
/-- a way from the root -/
def walkN : T → List Nat → Bool
  | _, [] => true
  | t, i :: ps => match t.calls[i]? with | some c => walkN c ps | none => false
theorem walk_path : ∀ (q : List Nat) (t : T), walkB t (q.map fun (i : Nat) => PyData.int (i : Int)) = walkN t q
  | [], t => by rw [List.map_nil, walkB, walkN]
  | i :: q, t => by
    rw [List.map_cons, walkB, walkN, if_pos (by omega), Int.toNat_natCast]
    cases t.calls[i]? with
    | none => rfl
    | some c => exact walk_path q c
mutual
theorem placed_walk : ∀ (w : List Nat) (t : T) (p : List Nat), p ∈ (Tr.placed w t).map (·.1) ↔ ∃ q, p = w ++ q ∧ walkN t q = true
  | w, .mk s m cs, p => by
    have ih := placedA_walk w 0 cs p
    rw [placed_cons, List.map_cons, List.mem_cons, ih]
    constructor
    · rintro (rfl | ⟨k, c, q, hk, rfl, hq⟩)
      · exact ⟨[], by simp, by rw [walkN]⟩
      · refine ⟨k :: q, by simp, ?_⟩
        rw [walkN]
        show (match cs[k]? with | some c => walkN c q | none => false) = true
        rw [hk]
        exact hq
    · rintro ⟨q, rfl, hq⟩
      cases q with
      | nil => exact .inl (by simp)
      | cons k q =>
        rw [walkN] at hq
        change (match cs[k]? with | some c => walkN c q | none => false) = true at hq
        cases hk : cs[k]? with
        | none => rw [hk] at hq; cases hq
        | some c =>
          rw [hk] at hq
          exact .inr ⟨k, c, q, hk, by simp, hq⟩
theorem placedA_walk : ∀ (w : List Nat) (i : Nat) (ts : List T) (p : List Nat), p ∈ (placedA w i ts).map (·.1) ↔ ∃ k c q, ts[k]? = some c ∧ p = w ++ (i + k) :: q ∧ walkN c q = true
  | w, i, [], p => by
    rw [placedA]
    simp
  | w, i, t :: ts, p => by
    have h1 := placed_walk (w ++ [i]) t p
    have h2 := placedA_walk w (i + 1) ts p
    rw [placedA, List.map_append, List.mem_append, h1, h2]
    constructor
    · rintro (⟨q, rfl, hq⟩ | ⟨k, c, q, hk, rfl, hq⟩)
      · exact ⟨0, t, q, rfl, by simp, hq⟩
      · exact ⟨k + 1, c, q, hk, by rw [show i + (k + 1) = i + 1 + k by omega], hq⟩
    · rintro ⟨k, c, q, hk, rfl, hq⟩
      cases k with
      | zero =>
        cases hk
        exact .inl ⟨q, by simp, hq⟩
      | succ k => exact .inr ⟨k, c, q, hk, by rw [show i + 1 + k = i + (k + 1) by omega], hq⟩
end
theorem ways_walk {t : T} {q : List Nat} : q ∈ waysOf t ↔ walkN t q = true := by
  rw [waysOf, placed_walk]
  simp
theorem good_path {t : T} {x : PyData} (hs : size t ≤ 6) (he : ElOk x) : goodB t x = pathB t x := by
  rw [Bool.eq_iff_iff]
  constructor
  · intro h
    obtain ⟨q, rfl, hq, _⟩ := good_is hs he h
    show walkB t (q.map fun (i : Nat) => PyData.int (i : Int)) = true
    rw [walk_path]
    exact ways_walk.mp hq
  · intro h
    cases x with
    | tuple ps =>
      have h' : walkB t ps = true := h
      have e := walk_nats h'
      have hq : ps.map natOf ∈ waysOf t := by
        rw [e, walk_path] at h'
        exact ways_walk.mpr h'
      refine List.any_eq_true.mpr ⟨PyData.shown (pathD (ps.map natOf)), List.mem_map.mpr ⟨_, hq, rfl⟩, ?_⟩
      have : PyData.tuple ps = pathD (ps.map natOf) := by
        show PyData.tuple ps = .tuple ((ps.map natOf).map fun (i : Nat) => PyData.int (i : Int))
        rw [← e]
      rw [this]
      simp
    | _ => exact absurd h (by simp [pathB])
theorem due_kept {t : T} {d : PyData} (hs : size t ≤ 6) (he : ∀ ps, d = .tuple ps → ps.length ≤ 100 ∧ ∀ x ∈ ps, ElOk x) : dueB t d = keptB t d := by
  cases d with
  | tuple ps =>
    obtain ⟨_, he⟩ := he ps rfl
    show (List.range ps.length).all (stepB t ps) = (ps.all (pathB t) && ascB (ps.map natsOf))
    rw [Bool.eq_iff_iff, Bool.and_eq_true, List.all_eq_true, List.all_eq_true]
    have gD : ∀ k, k < ps.length → ps.getD k .none ∈ ps := fun k hk => by
      rw [List.getD_eq_getElem?_getD, List.getElem?_eq_getElem hk]
      exact List.getElem_mem hk
    have nD : ∀ k, k < ps.length → (ps.map natsOf).getD k [] = natsOf (ps.getD k .none) := fun k hk => by
      rw [List.getD_eq_getElem?_getD, List.getD_eq_getElem?_getD, List.getElem?_map, List.getElem?_eq_getElem hk]
      rfl
    constructor
    · intro h
      refine ⟨fun x hx => ?_, ?_⟩
      · obtain ⟨k, hk, rfl⟩ := List.getElem_of_mem hx
        have h1 := h k (List.mem_range.mpr hk)
        unfold stepB at h1
        rw [Bool.and_eq_true] at h1
        have h2 := h1.1
        rw [List.getD_eq_getElem?_getD, List.getElem?_eq_getElem hk] at h2
        rw [← good_path hs (he _ (List.getElem_mem hk))]
        exact h2
      · unfold ascB
        rw [List.all_eq_true]
        intro i hi
        rw [List.mem_range, List.length_map] at hi
        have h1 := h (i + 1) (List.mem_range.mpr (by omega))
        unfold stepB at h1
        rw [Bool.and_eq_true] at h1
        have h2 := h1.2
        rw [decide_eq_true (show 0 < i + 1 by omega), Bool.true_and, le_lt, Bool.not_not, Nat.add_sub_cancel] at h2
        rw [nD i (by omega), nD (i + 1) (by omega)]
        exact h2
    · rintro ⟨h1, h2⟩ k hk
      have hk := List.mem_range.mp hk
      unfold ascB at h2
      rw [List.all_eq_true] at h2
      unfold stepB
      rw [Bool.and_eq_true]
      refine ⟨by rw [good_path hs (he _ (gD k hk))]; exact h1 _ (gD k hk), ?_⟩
      by_cases h0 : 0 < k
      · obtain ⟨i, rfl⟩ : ∃ i, k = i + 1 := ⟨k - 1, by omega⟩
        have h3 := h2 i (List.mem_range.mpr (by rw [List.length_map]; omega))
        rw [nD i (by omega), nD (i + 1) hk] at h3
        rw [decide_eq_true h0, Bool.true_and, le_lt, Bool.not_not, Nat.add_sub_cancel]
        exact h3
      · rw [decide_eq_false h0]
        rfl
  | _ => rfl
end K17
/-! ### a def called with keywords alone -/
namespace Dt
open PySem PySem.Spec PyProof.Rows L2 Evl Fx
section
variable {X : Cx} {CX : CXT} {k : Nat} {f : Addr} {fd : FuncData} {ps ks : List Str} {sp : Sp} {E : XK} {x : Str} {p pos : Pos} {kws : List Keyword} {tk : TA} {g : List Value → List Value → List Value} {gV : List V → List V → List V}
theorem pe_callW0 (F : FnOk X.prog X.w X.K X.mg X.base CX k f fd ps sp) (hr : Room k X.A) (hg : Gl X x) (hm : X.mg x = some (.ref f)) (hk : PySem.W.keepIn X.K (.ref f) = true) (hb : KBn X.K fd ps 0 ks g gV) (hx : Passes CX X E) (hkw : PK X kws tk)
    (hall : (backToKw pos (keywordEach kws X.env)).all (·.1.isSome) = true := by rfl) (hks : (backToKw pos (keywordEach kws X.env)).filterMap (·.1) = ks := by rfl) (hdb : (x == ("__debug__" : Str)) = false := by decide)
    (hpl : ((backTo pos (starEach [] X.env)).any (·.1) || (backToKw pos (keywordEach kws X.env)).any (·.1.isNone)) = false := by rfl) :
    PE X (.Call (.Name x p) [] kws pos) (tCallN 0 ks.length sp gV E tNil tk) := by
  refine ⟨fun pins s σ H Q I h => ?_⟩
  refine wpAny_Call_Name_kw (ld_glob I hg hm ?_ hdb)
  refine PySem.W.callWith_KW0 (h₀ := X.base) I.ok.mod.kin hk hall ?_ hpl
  refine thn (hkw.run pos pins s σ H _ I h) fun ws s2 ⟨zs, H2, I2, rz, l1, l2, q2⟩ => ⟨I2.kIn, ?_⟩
  rw [hks]
  exact run_fnN (us := []) (vs := []) F hr hb hx I2 .nil rz rfl l2 q2
end
/-- how it binds: the values in another order -/
theorem kbn_of {K : PySem.W.Frag} {x qual : Str} {st : Stmt} {f : Addr} {fd : FuncData} {ps ks : List Str} {go : {α : Type} → List α → List α} (F : L2.Fun K x qual st f fd)
    (h : ∀ (kV doc pm : Value) (an : Option Addr) (cdv ct : Value) (ws : List Value), ws.length = ks.length → bindArgs (PySem.W.fnOf x qual (defArgs st) (defBody st) (defScope st) .none kV doc pm an cdv ct) ⟨[], ks.zip ws⟩ = pure (ps.zip (go ws)))
    (hv : ∀ {zs : List V} {ws : List Value}, Vals zs ws → Vals (go zs) (go ws)) : KBn K fd ps 0 ks (fun _ ws => go ws) (fun _ zs => go zs) := by
  obtain ⟨oc, od, kV, doc, pm, an, cdv, ct, osl, rfl, lk, hcd⟩ := F.ex
  exact ⟨fun s us ws _ h0 h1 => by
    obtain rfl := List.length_eq_zero_iff.mp h0
    exact .of_eq (h kV doc pm an cdv ct ws h1), fun _ rz => hv rz⟩
end Dt
namespace Dt
open PySem PySem.Spec PyProof.Rows L2 Evl Fx
section
variable {F : Fd} {K : PySem.W.Frag} {tk : TA} {σ : L2.St} {H : Hp} {k m : Nat} {ds : List PyData} {d : PyData}
/-- a call by keywords alone, the values turned round -/
theorem rd_callW {Rl : List PyData → PyData → Prop} {E : XK} (o : F.Ok) (h : EvRA F tk σ H k (fun vs H => DpAll K H vs ds)) (hm : ds.length = m) (hR : Rl ds.reverse d) : EvR F (tCallN 0 m (spD K Rl) (fun _ zs => zs.reverse) E tNil tk) σ H k (IsD K d) := fun n H1 hn g e Q q =>
  h n H1 hn g e _ fun zs H2 e2 g2 p => ⟨rfl, (dps_len p).trans hm, ds.reverse, d, dps_rev p, hR, fun v H3 e3 hv => q v H3 (e2.trans (Kx.ex e3)) (o.ex g2 e3) hv⟩
end
end Dt
/-! ### defs whose code object is told; what stays when a table of code objects is written -/
namespace K17
open PySem PySem.Spec PyProof.Rows L2 Evl Fx Fr Dt Tr K18 So DtG
/-- as Fun, the code object at c -/
structure FunC (K : PySem.W.Frag) (x qual : Str) (st : Stmt) (f : Addr) (fd : FuncData) (c : Addr) : Prop where
  ex : ∃ (oc : Value) (od : Option Addr) (kV doc pm : Value) (an : Option Addr) (ct : Value) (osl : Array (Option Value)),
    fd = PySem.W.fnOf x qual (defArgs st) (defBody st) (defScope st) .none kV doc pm an (.ref c) ct ∧ K.lookup f = some ⟨oc, od, .func fd, osl⟩ ∧ PySem.W.codeIn K (.ref c) qual = true
  kp : PySem.W.keepIn K (.ref f) = true
section
variable {P : Program} {w : World} {K : PySem.W.Frag} {mg : Str → Option Value} {base : Heap}
theorem okGC {x qual : Str} {st : Stmt} {f c : Addr} {fd : FuncData} {N ps : List Str} {k : Nat} {sp : Sp} (F : FunC K x qual st f fd c) (S : FnScope N ps (defScope st)) (len : ∀ vs H Q E, sp vs H Q E → vs.length = ps.length)
    (hbody : ∀ (A : Around) (outer : List Env) (s : Shared) (H : Hp) (vs : List V) (Q : VK) (E : XK), (A.deeper (envOfC qual (defScope st) s.heap.objs.size f (.ref c))).guards = some [] → Room k (A.deeper (envOfC qual (defScope st) s.heap.objs.size f (.ref c))) → sp vs H Q E →
      ∃ t, PSs (cxOf CX0 P w K mg base N qual (defScope st) f (.ref c) A outer s H E).nox (defBody st) t ∧ t { nx := fun _ H' => Q .non H', rt := Q } (start N vs) H) : FnG P w K mg base CX0 (k + 1) f fd ps sp := by
  obtain ⟨oc, od, kV, doc, pm, an, ct, osl, rfl, lk, hcd⟩ := F.ex
  refine ⟨len, fun A outer s H args us vs Q E hg hr e0 hb r hsp => ?_⟩
  have keep : ∀ b o, base.get? b = some o → s.heap.get? b = some o := fun b o e => (e0.bs b o e).1
  have KX : K.In s.heap := e0.mod.kin.keeps keep
  have names : ∀ y ∈ ps.zip us, (defScope st).names.lookup y.1 = some .local ∨ ((defScope st).names.lookup y.1 = some .cell ∧ ((cellsFrom (s.heap.objs.size + 1) (defScope st).names []).lookup y.1).isSome = true) := by
    rintro ⟨x, v⟩ hy
    exact (S.par x (List.of_mem_zip hy).1).imp id fun q => ⟨q, PySem.W.cellsFrom_some _ _ _ (.inl q)⟩
  refine codeAny_call_function hr.depth (KX _ _ lk) rfl S.co S.gen rfl (PySem.W.codeRec_of KX hcd) (hb _ _ _ _ (wpAny_newFunctionEnv_cells S.kind names ?_))
  intro env he s1 x
  subst he
  obtain ⟨t, ht, hq⟩ := hbody A outer s H vs Q E (deeper_guards hg) (hr.deeper _) hsp
  have I : Inv (cxOf CX0 P w K mg base N qual (defScope st) f (.ref c) A outer s H E) [] (start N vs) H s1 := inv_start S hr.hd e0 (len _ _ _ _ hsp) r x
  refine ⟨(e0.mod.nolimit.keeps keep).keeps x.toInCall.keep, codeAny_func (wpAny_mono (ht.nox.run [] s1 (start N vs) H _ I hq) (fun fl s' hs => ?_) fun e s' hs => hs)⟩
  cases fl with
  | ret u =>
    obtain ⟨v, σ', H', J, rv, q⟩ := hs
    exact ⟨v, H', J.os, J.bare, J.base, J.hok, rv, q⟩
  | next =>
    obtain ⟨σ', H', J, q⟩ := hs
    exact ⟨V.non, H', J.os, J.bare, J.base, J.hok, rfl, q⟩
  | brk =>
    obtain ⟨_, _, _, q⟩ := hs
    exact False.elim q
  | cont =>
    obtain ⟨_, _, _, q⟩ := hs
    exact False.elim q
end
section
variable {K : PySem.W.Frag} {H H' : Hp} {a : Addr} {xs : List V}
theorem rd_n {o : HO} (e : LamX.ExtN H H') (ho : ∀ ps, o ≠ .tbl ps) (h : Rd H a o) : Rd H' a o := by
  rcases h with h | ⟨u, h⟩
  · exact .inl (e _ _ h ho)
  · exact .inr ⟨u, e _ _ h fun ps z => by cases z⟩
theorem sqL_n (e : LamX.ExtN H H') (h : SqL K H a xs) : SqL K H' a xs := h.imp (rd_n e fun ps z => by cases z) id
theorem sqT_n (e : LamX.ExtN H H') (h : SqT K H a xs) : SqT K H' a xs := h.imp (rd_n e fun ps z => by cases z) id
theorem ex_n (e : Ex H H') : LamX.ExtN H H' := LamX.ExtN.of e
mutual
theorem dp_n (e : LamX.ExtN H H') : ∀ (d : PyData) (v : V), Dp K H v d → Dp K H' v d
  | .none, v, h => by cases h; exact .non
  | .bool _, v, h => by cases h; exact .bl _
  | .int _, v, h => by cases h; exact .int _
  | .str _, v, h => by cases h; exact .str _
  | .list ds, v, h => by
    cases h with
    | @lst a xs _ ha hx => exact .lst (sqL_n e ha) (dps_n e ds xs hx)
  | .tuple ds, v, h => by
    cases h with
    | @tup a xs _ ha hx => exact .tup (sqT_n e ha) (dps_n e ds xs hx)
  | .dict _, v, h => by cases h
theorem dps_n (e : LamX.ExtN H H') : ∀ (ds : List PyData) (vs : List V), DpAll K H vs ds → DpAll K H' vs ds
  | [], vs, h => by cases h; exact .nil
  | d :: ds, vs, h => by
    cases h with
    | @cons v vs' _ _ h1 h2 => exact .cons (dp_n e d v h1) (dps_n e ds vs' h2)
end
end
end K17
set_option maxHeartbeats 2000000
/-! ### the law's look at one tree: _law_agrees -/
namespace K17
open PySem PySem.Spec PyProof.Rows L2 Evl Fx Fr Dt Tr K18 So DtG
def nAgr : List Str := ["_law_root", "_law_ways", "_law_span", "_law_items", "_law_lot", "_law_every", "_law_item", "_law_before", "_law_due_here", "_law_told", "_law_own"]
section
variable {P : Program} {w : World} {K : PySem.W.Frag} {mg : Str → Option Value} {base : Heap} {f f2 f3 : Addr} {fd fd2 fd3 : FuncData} {te tl ta tb : TE} {σ σ2 : L2.St} {H H' : Hp} {k ka kb n : Nat} {d d0 : PyData} {ds es : List PyData} {g : TG} {vs : List Nat} {C : Addr} {xs ys : List V}
def lamQ : Str := "_law_agrees.<locals>.<lambda>"
def spAgr (K : PySem.W.Frag) (P : Addr) : Sp := fun vs H Q _ => ∃ (v1 : V) (t : T), vs = [v1] ∧ Dp K H v1 (enc t) ∧ size t ≤ 6 ∧ NiceM t ∧ LamX.Tabs [(P, lamQ)] H ∧ ∀ H', LamX.ExtN H H' → LamX.Tabs [(P, lamQ)] H' → Q (.bl true) H'
end
end K17
/-! ### the law's items; what is told is short -/
namespace K17
open PySem PySem.Spec PyProof.Rows L2 Evl Fx Fr Dt Tr K18 So DtG
theorem sh_lst {n w m : Nat} {ds : List PyData} (h : ∀ x ∈ ds, Sh n w x) (hm : ds.length ≤ m) : Sh (n + 1) (m * (w + 1)) (.list ds) := by
  obtain ⟨a1, a2, a3, a4, a5, a6⟩ := sh_all h
  refine ⟨by rw [PyData.canLay0]; exact a1, by rw [PyData.intsShort]; exact a2, by rw [PyData.showable]; exact a3, by rw [PyData.hasDict]; exact a4, by rw [PyData.depth]; omega, ?_⟩
  rw [PyData.weight]
  exact Nat.le_trans a6 (Nat.mul_le_mul_right _ hm)
theorem nice_mk {t : T} : NiceM t ↔ (Nm t.name ∧ (t.mark = 0 ∨ t.mark = 1)) ∧ ∀ c ∈ t.calls, NiceM c := by
  have mem : ∀ {ts : List T} {s : T}, s ∈ subsA ts ↔ ∃ c ∈ ts, s ∈ subs c := fun {ts s} => by
    induction ts with
    | nil => rw [subsA]; simp
    | cons t ts ih => rw [subsA, List.mem_append, ih]; simp
  unfold NiceM
  rw [subs_eq]
  constructor
  · intro h
    exact ⟨h t (List.mem_cons_self ..), fun c hc s hs => h s (List.mem_cons_of_mem _ (mem.mpr ⟨c, hc, hs⟩))⟩
  · rintro ⟨h1, h2⟩ s hs
    rcases List.mem_cons.mp hs with rfl | hs
    · exact h1
    · obtain ⟨c, hc, hs⟩ := mem.mp hs
      exact h2 c hc s hs
def NiceP : Pc → Prop
  | .top t => NiceM t
  | .lost ts => ∀ t ∈ ts, NiceM t
mutual
theorem seen_nice (keep : List Nat → Bool) : ∀ (w : List Nat) (t : T), NiceM t → (∀ s ∈ (seenT keep w t).1.toList, NiceM s) ∧ ∀ p ∈ (seenT keep w t).2, NiceP p
  | w, .mk s m cs, h => by
    obtain ⟨h1, h2⟩ := nice_mk.mp h
    obtain ⟨a, b⟩ := seens_nice keep w 0 cs h2
    rw [seenT]
    by_cases hk : keep w = true
    · rw [if_pos hk]
      refine ⟨fun x hx => ?_, b⟩
      simp only [Option.toList_some, List.mem_singleton] at hx
      subst hx
      exact nice_mk.mpr ⟨h1, fun c hc => a c ((sort_perm _).mem_iff.mp hc)⟩
    · rw [if_neg hk]
      refine ⟨fun x hx => by simp at hx, fun p hp => ?_⟩
      rcases List.mem_append.mp hp with hp | hp
      · exact b p hp
      · unfold pcLost at hp
        split at hp
        · cases hp
        · rw [List.mem_singleton.mp hp]
          exact fun t ht => a t ((sort_perm _).mem_iff.mp ht)
theorem seens_nice (keep : List Nat → Bool) : ∀ (w : List Nat) (i : Nat) (ts : List T), (∀ t ∈ ts, NiceM t) → (∀ s ∈ (seenL keep w i ts).1, NiceM s) ∧ ∀ p ∈ (seenL keep w i ts).2, NiceP p
  | w, i, [], _ => by
    rw [seenL]
    exact ⟨fun s h => (by cases h), fun p h => (by cases h)⟩
  | w, i, t :: ts, h => by
    obtain ⟨a1, a2⟩ := seen_nice keep (w ++ [i]) t (h t (List.mem_cons_self ..))
    obtain ⟨b1, b2⟩ := seens_nice keep w (i + 1) ts fun x hx => h x (List.mem_cons_of_mem _ hx)
    rw [seenL]
    refine ⟨fun s hs => ?_, fun p hp => ?_⟩
    · rcases List.mem_append.mp hs with hs | hs
      · exact a1 s hs
      · exact b1 s hs
    · rcases List.mem_append.mp hp with hp | hp
      · exact a2 p hp
      · exact b2 p hp
end
theorem str_sh {x : Str} (h : PyData.strOk x = true) (hw : x.cps.size ≤ 8) : Sh 0 8 (.str x) := sh_str' h hw
theorem sh_pc {p : Pc} (h : NiceP p) (hs : p.size ≤ 6) : Sh 20 1000 p.D := by
  cases p with
  | top t =>
    have h1 : size t ≤ 6 := hs
    have h2 := sh_tree t h
    refine (sh_tup (n := 12) (w := 60) (m := 2) (fun d hd => ?_) (by simp)).mono (by decide) (by decide)
    rcases List.mem_cons.mp hd with rfl | hd
    · exact (str_sh (by decide +kernel) (by decide +kernel)).mono (by decide) (by decide)
    · rw [List.mem_singleton.mp hd]
      exact h2.mono (by omega) (by omega)
  | lost ts =>
    have h1 : sizes ts ≤ 6 := hs
    have hl := len_sizes ts
    refine (sh_tup (n := 13) (w := 400) (m := 2) (fun d hd => ?_) (by simp)).mono (by decide) (by decide)
    rcases List.mem_cons.mp hd with rfl | hd
    · exact (str_sh (by decide +kernel) (by decide +kernel)).mono (by decide) (by decide)
    · rw [List.mem_singleton.mp hd]
      refine (sh_tup (n := 12) (w := 60) (m := 6) (fun d hd => ?_) (by rw [List.length_map]; omega)).mono (by decide) (by decide)
      obtain ⟨t, ht, rfl⟩ := List.mem_map.mp hd
      have h2 := sh_tree t (h t ht)
      have h3 : size t ≤ 6 := by
        obtain ⟨i, hi, rfl⟩ := List.getElem_of_mem ht
        have := size_mem (List.getElem?_eq_getElem hi)
        omega
      exact h2.mono (by omega) (by omega)
theorem own_sh (keep : List Nat → Bool) {t : T} (hN : NiceM t) (hs : size t ≤ 6) : Sh 30 20000 (toldD (ownS keep t)) := by
  obtain ⟨z1, z2⟩ := raw_sizes keep t
  obtain ⟨n1, n2⟩ := seen_nice keep [0] t hN
  have hp : ∀ p ∈ ownS keep t, NiceP p ∧ p.size ≤ 6 := fun p h => by
    have h := (sortP_mem _).mem_iff.mp h
    have h2 := psize_mem h
    refine ⟨?_, by omega⟩
    unfold rawS at h
    rcases List.mem_append.mp h with h | h
    · exact n2 p h
    · obtain ⟨s, hs, rfl⟩ := List.mem_map.mp h
      exact n1 s hs
  have hl : (ownS keep t).length ≤ 7 := by
    rw [ownS, (sortP_mem _).length_eq]
    omega
  refine (sh_tup (n := 21) (w := 7 * 1001) (m := 2) (fun d hd => ?_) (by simp)).mono (by decide) (by decide)
  rcases List.mem_cons.mp hd with rfl | hd
  · exact (str_sh (by decide +kernel) (by decide +kernel)).mono (by decide) (by decide)
  · rw [List.mem_singleton.mp hd]
    refine (sh_tup (n := 20) (w := 1000) (m := 7) (fun d hd => ?_) (by rw [List.length_map]; exact hl))
    obtain ⟨p, hp', rfl⟩ := List.mem_map.mp hd
    exact sh_pc (hp p hp').1 (hp p hp').2
/-- what is due of the item d -/
def dueD (t : T) : PyData → PyData
  | .tuple ps => if keptB t (.tuple ps) then toldD (ownS (flagOf ((ps.map natsOf).map (0 :: ·))) t) else oddD
  | _ => oddD
theorem odd_sh : Sh 30 20000 oddD := ⟨by decide +kernel, by decide +kernel, by decide +kernel, by decide +kernel, by decide +kernel, by decide +kernel⟩
theorem due_sh {t : T} {d : PyData} (hN : NiceM t) (hs : size t ≤ 6) : Sh 30 20000 (dueD t d) := by
  cases d with
  | tuple ps =>
    rw [dueD]
    split
    · exact own_sh _ hN hs
    · exact odd_sh
  | _ => exact odd_sh
theorem told_flat (ps : List Pc) : flat (toldD ps) = true := by
  rw [toldD, flat_tup, flats_cons, flats_cons, flat_tup]
  exact ⟨rfl, pcs_flat _, rfl⟩
theorem due_flat (t : T) (d : PyData) : flat (dueD t d) = true := by
  cases d with
  | tuple ps =>
    rw [dueD]
    split
    · exact told_flat _
    · rfl
  | _ => rfl
theorem due_some {t : T} (d : PyData) : ∃ ps, dueD t d = .tuple ps := by
  cases d with
  | tuple ps =>
    rw [dueD]
    split
    · exact ⟨_, rfl⟩
    · exact ⟨_, rfl⟩
  | _ => exact ⟨_, rfl⟩
/-- an item of the law -/
def ItemOk (d : PyData) : Prop := (∀ ps, d = .tuple ps → ps.length ≤ 100 ∧ ∀ x ∈ ps, ElOk x) ∧ Sh 30 100000 d
theorem nice_lay {t : T} (h : NiceM t) : Lay t := (sh_tree t h).lay
def oddItems : List PyData := [.none, .int 0, .str "()"]
def oddItems2 : List PyData := [.tuple [.none], .tuple [.tuple [.bool true]], .tuple [.list []], .tuple [.tuple [.int (-1)]], .tuple [.int 0], .tuple [.tuple [], .tuple [.tuple []]], .tuple [.str ""], .tuple [.tuple [.bool false]]]
def itemsOf (W : List PyData) : List PyData := (setsF W).map .tuple ++ [.tuple W.reverse, .tuple (W ++ W.drop (W.length - 1)), .tuple (W ++ [pathD [9]]), .tuple (W ++ [pathD [0, 0, 0, 0]]), .list W] ++ oddItems ++ oddItems2
theorem sh_path_el {q : List Nat} (h1 : dig q) (h2 : q.length ≤ 10) : ElOk (pathD q) ∧ Sh 10 1000 (pathD q) := ⟨.inl ⟨q, rfl, h1, h2⟩, path_sh h1 h2⟩
theorem item_tup {ps : List PyData} (h : ∀ x ∈ ps, ElOk x) (hl : ps.length ≤ 64) : ItemOk (.tuple ps) := ⟨fun qs e => by cases e; exact ⟨by omega, h⟩, (sh_tup (n := 10) (w := 1000) (m := 64) (fun x hx => el_sh (h x hx)) hl).mono (by decide) (by decide)⟩
theorem items_ok {W : List PyData} (h : ∀ x ∈ W, ∃ q, x = pathD q ∧ dig q ∧ q.length ≤ 10) (hl : W.length ≤ 6) : ∀ d ∈ itemsOf W, ItemOk d := fun d hd => by
  have hE : ∀ x ∈ W, ElOk x := fun x hx => .inl (h x hx)
  have shw : Sh 30 100000 (.list W) := (sh_lst (n := 10) (w := 1000) (m := 6) (fun x hx => el_sh (hE x hx)) hl).mono (by decide) (by decide)
  have p9 : ElOk (pathD [9]) := .inl ⟨_, rfl, fun x hx => (by rw [List.mem_singleton.mp hx]; decide), by decide⟩
  have p0 : ElOk (pathD [0, 0, 0, 0]) := .inl ⟨_, rfl, fun x hx => (by simp at hx; omega), by decide⟩
  have app : ∀ {a b : List PyData}, (∀ x ∈ a, ElOk x) → (∀ x ∈ b, ElOk x) → ∀ x ∈ a ++ b, ElOk x := fun ha hb x hx => (List.mem_append.mp hx).elim (ha x) (hb x)
  unfold itemsOf at hd
  rcases List.mem_append.mp hd with hd | hd
  · rcases List.mem_append.mp hd with hd | hd
    · rcases List.mem_append.mp hd with hd | hd
      · obtain ⟨s, hs, rfl⟩ := List.mem_map.mp hd
        obtain ⟨s1, s2⟩ := sets_mem W s hs
        exact item_tup (fun x hx => hE x (s2 x hx)) (by omega)
      · simp only [List.mem_cons, List.not_mem_nil, or_false] at hd
        rcases hd with rfl | rfl | rfl | rfl | rfl
        · exact item_tup (fun x hx => hE x (List.mem_reverse.mp hx)) (by rw [List.length_reverse]; omega)
        · exact item_tup (app hE fun x hx => hE x (List.mem_of_mem_drop hx)) (by rw [List.length_append, List.length_drop]; omega)
        · exact item_tup (app hE fun x hx => (List.mem_singleton.mp hx) ▸ p9) (by rw [List.length_append, List.length_singleton]; omega)
        · exact item_tup (app hE fun x hx => (List.mem_singleton.mp hx) ▸ p0) (by rw [List.length_append, List.length_singleton]; omega)
        · exact ⟨fun ps e => (by cases e), shw⟩
    · simp only [oddItems, List.mem_cons, List.not_mem_nil, or_false] at hd
      rcases hd with rfl | rfl | rfl <;> exact ⟨fun ps e => (by cases e), ⟨by decide +kernel, by decide +kernel, by decide +kernel, by decide +kernel, by decide +kernel, by decide +kernel⟩⟩
  · have od : ∀ {x : PyData}, oddB x = true → PyData.strOk (PyData.shown x) = true → Sh 10 1000 x → ElOk x := fun a b c => .inr ⟨a, b, c⟩
    simp only [oddItems2, List.mem_cons, List.not_mem_nil, or_false] at hd
    have one : ∀ {x : PyData}, ElOk x → ItemOk (.tuple [x]) := fun h => item_tup (fun y hy => (List.mem_singleton.mp hy) ▸ h) (by simp)
    have pe : ElOk (.tuple []) := .inl ⟨[], rfl, fun x hx => (by cases hx), by decide⟩
    rcases hd with rfl | rfl | rfl | rfl | rfl | rfl | rfl | rfl
    · exact one (od (by decide +kernel) (by decide +kernel) ⟨by decide +kernel, by decide +kernel, by decide +kernel, by decide +kernel, by decide +kernel, by decide +kernel⟩)
    · exact one (od (by decide +kernel) (by decide +kernel) ⟨by decide +kernel, by decide +kernel, by decide +kernel, by decide +kernel, by decide +kernel, by decide +kernel⟩)
    · exact one (od (by decide +kernel) (by decide +kernel) ⟨by decide +kernel, by decide +kernel, by decide +kernel, by decide +kernel, by decide +kernel, by decide +kernel⟩)
    · exact one (od (by decide +kernel) (by decide +kernel) ⟨by decide +kernel, by decide +kernel, by decide +kernel, by decide +kernel, by decide +kernel, by decide +kernel⟩)
    · exact one (od (by decide +kernel) (by decide +kernel) ⟨by decide +kernel, by decide +kernel, by decide +kernel, by decide +kernel, by decide +kernel, by decide +kernel⟩)
    · refine item_tup (fun y hy => ?_) (by simp)
      rcases List.mem_cons.mp hy with rfl | hy
      · exact pe
      · rw [List.mem_singleton.mp hy]
        exact od (by decide +kernel) (by decide +kernel) ⟨by decide +kernel, by decide +kernel, by decide +kernel, by decide +kernel, by decide +kernel, by decide +kernel⟩
    · exact one (od (by decide +kernel) (by decide +kernel) ⟨by decide +kernel, by decide +kernel, by decide +kernel, by decide +kernel, by decide +kernel, by decide +kernel⟩)
    · exact one (od (by decide +kernel) (by decide +kernel) ⟨by decide +kernel, by decide +kernel, by decide +kernel, by decide +kernel, by decide +kernel, by decide +kernel⟩)
end K17
set_option maxHeartbeats 2000000
/-! ### the law's look at one tree: _law_agrees, its reading -/
namespace K17
open PySem PySem.Spec PyProof.Rows L2 Evl Fx Fr Dt Tr K18 So DtG
theorem sets_last {α : Type} (l : List α) : (setsF l)[(setsF l).length - 1]? = some l := by
  refine snoc_ind (p := fun l : List α => (setsF l)[(setsF l).length - 1]? = some l) rfl (fun l x ih => ?_) l
  have h1 := sets_len l
  have h2 : 0 < 2 ^ l.length := Nat.two_pow_pos _
  rw [sets_snoc, List.length_append, List.length_map, List.getElem?_append_right (by omega), List.getElem?_map, show (setsF l).length + (setsF l).length - 1 - (setsF l).length = (setsF l).length - 1 by omega, ih]
  rfl
section
variable {P : Program} {w : World} {K : PySem.W.Frag} {mg : Str → Option Value} {base : Heap} {f f2 f3 : Addr} {fd fd2 fd3 : FuncData} {te tl ta tb : TE} {σ σ2 : L2.St} {H H' : Hp} {k ka kb n : Nat} {d d0 : PyData} {ds es : List PyData} {g : TG} {vs : List Nat} {C : Addr} {xs ys : List V} {ss : List (List PyData)} {TS : List (Addr × Str)}
def items1 (W : List PyData) : List PyData := (setsF W).map PyData.tuple ++ [PyData.tuple W.reverse, PyData.tuple (W ++ W.drop (W.length - 1)), PyData.tuple (W ++ [pathD [9]]), PyData.tuple (W ++ [pathD [0, 0, 0, 0]]), PyData.list W]
theorem items1_len (W : List PyData) : (items1 W).length = (setsF W).length + 5 := by simp [items1]
theorem rd_non : EvR F0 (tC .non) σ H 0 (IsD K .none) := fun n1 H1 hn g e Q q => q _ H1 Kx.refl g .non
theorem isL_ex {v : V} (e : Ex H H') (p : IsL F0 K ds v H) : IsL F0 K ds v H' := by
  obtain ⟨a, xs, rfl, hT, ha, hx⟩ := p
  exact ⟨a, xs, rfl, hT, e _ _ ha, dps_ex e _ _ hx⟩
theorem rl_varX {i : Nat} {v : V} (h : σ[i]? = some (some v)) (p : IsL F0 K ds v H) : EvR F0 (tVar i) σ H 0 (IsL F0 K ds) := fun n H1 hn g e Q q => ⟨v, h, q v H1 Kx.refl g (isL_ex (F0.ex e) p)⟩
theorem rd_tup0 {tr : TA} (h : EvRA F0 tr σ H 0 (fun vs H => DpAll K H vs ds)) (hl : ds.length ≤ 100000 := by simp) : EvR F0 (tTup tr) σ H 0 (IsD K (.tuple ds)) :=
  fun n H1 hn g e Q q => h n H1 hn g e _ fun vs H2 e2 g2 p => ⟨sz_of (by rw [dps_len p]; exact hl), fun a ha => q (.ref a) _ (e2.trans (Kx.ex (Ex.new ha))) F0.g (.tup (st_of upd_same) (dps_ex (Ex.new ha) _ _ p))⟩
theorem rl_catX (ha : EvR F0 ta σ H 0 (IsL F0 K ds)) (hb : EvR F0 tb σ H 0 (IsL F0 K es)) (hl : ds.length + es.length ≤ 100000) : EvR F0 (tOp rCat ta tb) σ H 0 (IsL F0 K (ds ++ es)) := fun n H1 hn g e Q q =>
  ha n H1 hn g e _ fun x H2 e2 _ p => hb n H2 hn F0.g (e.trans e2) _ fun y H3 e3 _ p' => by
    obtain ⟨a, xs, rfl, hT, ha, hx⟩ := isL_ex (F0.ex e3) p
    obtain ⟨b, ys, rfl, hT', hb, hy⟩ := p'
    have l1 := dps_len hx
    have l2 := dps_len hy
    refine ⟨a, b, xs, ys, rfl, rfl, ha, hb, sz_of (by omega), fun l hl => ?_⟩
    have el := Ex.new (o := HO.lst (xs ++ ys)) hl
    exact q (.ref l) _ (e2.trans (e3.trans (Kx.ex el))) F0.g ⟨l, _, rfl, fun z => z, upd_same, dps_ex el _ _ (dps_app hx hy)⟩
theorem r_lcTup {j : Nat} (h : EvR F0 tl σ H 0 (fun v H' => ∃ a xs, v = .ref a ∧ H' a = some (.lst xs) ∧ LsAll K H' xs ss)) (hz : ss.length ≤ 1000) (hj : ∀ x : V, ((wipe σ vs).set j (some x))[j]? = some (some x)) (hw : ∀ x : V, wipe ((wipe σ vs).set j (some x)) vs = wipe σ vs) :
    EvR F0 (tLc (iList K tl) (gName j) tYes (tCB (rTupOf K) (tCons (tVar j) tNil)) vs) σ H 0 (IsL F0 K (ss.map .tuple)) := fun n H0 hn g e Q q => h n H0 hn g e _ fun v H1 e1 _ ⟨a, xs, ev, hA, hl⟩ => by
  subst ev
  refine ⟨a, rfl, ⟨xs, sq_of hA⟩, fun D hD => ?_⟩
  have lx := ls_len hl
  refine lc_list (xs := xs) (fun n H' => Ex H1 H' ∧ ∃ us, H' D = some (.lst us) ∧ DpAll K (del H' D) us ((ss.take n).map .tuple)) ⟨Ex.new hD, [], upd_same, by rw [List.take_zero]; exact .nil⟩ (fun n H' _ p => sq_of (p.1 _ _ hA)) (fun n x H' hxn ⟨p, us, hDD, du'⟩ => ?_) fun H' ⟨p, us, hDD, du'⟩ => ?_
  · obtain ⟨l, os, s, rfl, hl1, hsn, ds1⟩ := ls_get hl hxn
    have lus := dps_len du'
    rw [List.length_map, List.length_take] at lus
    have hln : n < xs.length := (List.getElem?_eq_some_iff.mp hxn).1
    refine ⟨hw _, .ref l, hj _, l, os, rfl, .inl ⟨sq_of (p _ _ hl1), fun c hc => ?_⟩⟩
    have ec := Ex.new (o := HO.tup os) hc
    have hD4 := ec _ _ hDD
    have hcD : c ≠ D := (ne_addr hc hDD).symm
    have e1D : Ex H1 (del (upd H' c (.tup os)) D) := fun b o hb => by
      have hbD : b ≠ D := fun z => by rw [z, hD] at hb; cases hb
      rw [del_ne hbD]
      exact ec _ _ (p _ _ hb)
    refine ⟨us, hD4, sz_lt (by omega), (p.trans ec).mut hD, _, upd_same, ?_⟩
    rw [del_upd, List.take_add_one, hsn, List.map_append]
    exact dps_app (dps_ex (del_ex fun b' o _ h => ec _ _ h) _ _ du') (.cons (.tup (st_of (by rw [del_ne hcD]; exact upd_same)) (dps_ex e1D _ _ ds1)) .nil)
  · rw [lx, List.take_length] at du'
    exact q (.ref D) H' (e1.trans (Kx.ex p)) F0.g ⟨D, us, rfl, fun z => z, hDD, dps_ex ex_del _ _ du'⟩
theorem extN_mut {l : Addr} {o : HO} (e : LamX.ExtN H H') (h : ∀ b u, H b = some u → (∀ ps, u ≠ .tbl ps) → b ≠ l) : LamX.ExtN H (upd H' l o) := fun b u hb hn => by
  rw [upd_ne (h b u hb hn)]
  exact e b u hb hn
theorem tabs_lst {l : Addr} {o : HO} (t : LamX.Tabs TS H) (h : H l = some (.lst xs)) : LamX.Tabs TS (upd H l o) := fun p hp => by
  obtain ⟨ps, h1, h2, h3⟩ := t p hp
  have ne : ∀ {b : Addr} {u : HO}, H b = some u → (∀ ys, u ≠ .lst ys) → b ≠ l := fun hb hu z => by
    rw [z, h] at hb
    exact hu xs (Option.some.inj hb).symm
  refine ⟨ps, by rw [upd_ne (ne h1 fun ys z => by cases z)]; exact h1, h2, fun pos cv hc => ?_⟩
  obtain ⟨c, e1, e2⟩ := h3 pos cv hc
  exact ⟨c, e1, by rw [upd_ne (ne e2 fun ys z => by cases z)]; exact e2⟩
theorem r_sets {i : Nat} {v : V} {ws : List (List Nat)} {E : XK} (h : σ[i]? = some (some v)) (hl : ws.length ≤ 6) (hv : Dp K H v (.list (ws.map pathD))) : EvR F0 (tCall (spSets K) [] E (tCons (tVar i) tNil)) σ H 0 (fun v H' => ∃ a xs, v = .ref a ∧ H' a = some (.lst xs) ∧ LsAll K H' xs (setsF (ws.map pathD))) := fun n H1 hn g e Q q =>
  ⟨v, h, v, ws, rfl, hl, dp_ex (F0.ex e) _ _ hv, fun a xs H' _ ex ha hls => q (.ref a) H' (Kx.ex ex) F0.g ⟨a, xs, rfl, ha, hls⟩⟩
theorem r_due {i j : Nat} {v x : V} {t : T} {E : XK} (hi : σ[i]? = some (some v)) (hj : σ[j]? = some (some x)) (hs : size t ≤ 6) (hN : NiceM t) (ok : ItemOk d) (p1 : Dp K H v (enc t)) (p2 : Dp K H x d) : EvR F0 (tCall (spDue K) [] E (tCons (tVar i) (tCons (tVar j) tNil))) σ H 0 (IsD K (dueD t d)) := fun n H1 hn g e Q q => by
  have ek := due_kept hs ok.1
  refine ⟨v, hi, x, hj, v, x, t, d, rfl, hs, nice_lay hN, ok.1, dp_ex (F0.ex e) _ _ p1, dp_ex (F0.ex e) _ _ p2, fun hb ps ed v' H' ex dv => ?_, fun hb v' H' ex dv => ?_⟩
  · subst ed
    refine q v' H' (Kx.ex ex) F0.g ?_
    show Dp K H' v' (dueD t (.tuple ps))
    rw [dueD, if_pos (by rw [← ek]; exact hb)]
    exact dv
  · refine q v' H' (Kx.ex ex) F0.g ?_
    have : dueD t d = oddD := by
      cases d with
      | tuple ps => rw [dueD, if_neg (by rw [← ek, hb]; decide)]
      | _ => rfl
    show Dp K H' v' (dueD t d)
    rw [this]
    exact dv
/-- what the lambda's call is asked for -/
theorem sight_told {v x : V} {t : T} {Q : VK} (hs : size t ≤ 6) (ok : ItemOk d) (p1 : Dp K H v (enc t)) (p2 : Dp K H x d) (q : ∀ p H', Ex H H' → Dp K H' (.ref p) (dueD t d) → Q (.ref p) H') :
    spSight K C [v, x] H (fun u H2 => ∀ p, H2 p = none → Q (.ref p) (upd H2 p (.tup [.str "told", u]))) (exOut C Q) := by
  refine ⟨v, x, t, d, rfl, hs, fun ps e => (ok.1 ps e).1, p1, p2, fun hb ps e u H2 e2 du p hp => ?_, fun hb H2 dd fs e2 hd lw la => ⟨rfl, dd, fs, _, _, rfl, hd, lw, la, fun H3 p e3 hp => ?_⟩⟩
  · subst e
    have ep := Ex.new (o := HO.tup [V.str "told", u]) hp
    refine q p _ (e2.trans ep) ?_
    rw [dueD, if_pos hb, toldD, ← sight_own]
    exact .tup (st_of upd_same) (.cons (.str _) (.cons (dp_ex ep _ _ du) .nil))
  · refine q p H3 (e2.trans e3) ?_
    have : dueD t d = oddD := by
      cases d with
      | tuple ps => rw [dueD, if_neg (by rw [hb]; decide)]
      | _ => rfl
    rw [this]
    exact .tup (st_of hp) (.cons (.str _) (.cons (.str _) (.cons (.int _) .nil)))
theorem lam1 {PT : Addr} {i j : Nat} {v x : V} {t : T} {Q : VK} (hi : σ[i]? = some (some v)) (hj : σ[j]? = some (some x)) (hT : LamX.Tabs [(PT, lamQ)] H) (hs : size t ≤ 6) (ok : ItemOk d) (p1 : Dp K H v (enc t)) (p2 : Dp K H x d)
    (q : ∀ p H', LamX.ExtN H H' → LamX.Tabs [(PT, lamQ)] H' → Dp K H' (.ref p) (dueD t d) → Q (.ref p) H') : LamX.tLam [(PT, lamQ)] (TOut C) (fun E => tCall (spSight K C) [] E (tCons (tVar i) (tCons (tVar j) tNil))) σ H Q :=
  ⟨hT, fun H1 e1 T1 H2 e2 => ⟨v, hi, x, hj, sight_told hs ok (dp_ex e2 _ _ (dp_n e1 _ _ p1)) (dp_ex e2 _ _ (dp_n e1 _ _ p2)) fun p H3 e3 dp => q p H3 (e1.trans (ex_n (e2.trans e3))) (T1.ext fun b o h => (e2.trans e3) b o h) dp⟩⟩
theorem lam2 {PT : Addr} {i j : Nat} {v x : V} {t : T} {Q : VK} (hi : σ[i]? = some (some v)) (hj : σ[j]? = some (some x)) (hT : LamX.Tabs [(PT, lamQ)] H) (hs : size t ≤ 6) (ok : ItemOk d) (p1 : Dp K H v (enc t)) (p2 : Dp K H x d)
    (q : ∀ p H', LamX.ExtN H H' → LamX.Tabs [(PT, lamQ)] H' → Dp K H' (.ref p) (dueD t d) → Q (.ref p) H') : LamX.tLam [(PT, lamQ)] (TOut C) (fun E => tCallN 0 (["kept", "tree"] : List Str).length (spSight K C) (fun _ zs => zs.reverse) E tNil (tCons (tVar j) (tCons (tVar i) tNil))) σ H Q :=
  ⟨hT, fun H1 e1 T1 H2 e2 => ⟨x, hj, v, hi, rfl, rfl, sight_told hs ok (dp_ex e2 _ _ (dp_n e1 _ _ p1)) (dp_ex e2 _ _ (dp_n e1 _ _ p2)) fun p H3 e3 dp => q p H3 (e1.trans (ex_n (e2.trans e3))) (T1.ext fun b o h => (e2.trans e3) b o h) dp⟩⟩
end
end K17
set_option maxHeartbeats 2000000
/-! ### law -/
namespace K17
open PySem PySem.Spec PyProof.Rows L2 Evl Fx Fr Dt Tr K18 So DtG
theorem pe_c0 {X : Cx} {j k : Nat} {x : Str} {sp : Sp} {p pos : Pos} (c : C8.Cal X.prog X.w X.K X.mg X.base k x sp []) (hr : Room j X.A) (hk : k ≤ j) (hg : Gl X x) (hdb : (x == ("__debug__" : Str)) = false := by decide) : PE X (.Call (.Name x p) [] [] pos) (tCall sp [] C8.E0 tNil) := by
  obtain ⟨f, fd, ps, ds, F, hm, kp, b, d⟩ := c.ex
  cases d
  exact pe_call0 F (hr.mono hk) hg hm kp b .nil C8.pass0 hdb
def nLawT : List Str := ["_law_script", "_law_feed_here", "_law_root", "_law_k"]
section
variable {P : Program} {w : World} {K : PySem.W.Frag} {mg : Str → Option Value} {base : Heap} {f f2 f3 : Addr} {fd fd2 fd3 : FuncData} {te tl ta tb : TE} {σ σ2 : L2.St} {H H' : Hp} {k ka kb n : Nat} {d l : Addr} {ds es : List PyData} {g : TG} {vs : List Nat} {C : Addr} {xs ys : List V}
def GoodT (x : PyData) : Prop := ∃ t, x = enc t ∧ size t ≤ 6 ∧ NiceM t
theorem goodT_flat (x : PyData) (h : GoodT x) : flat x = true := by
  obtain ⟨t, rfl, _⟩ := h
  exact enc_flat t
theorem r_treeT {E : XK} {i : Nat} (hd : σ[i]? = some (some (.ref d))) : EvR (FeedF d l) (tCall (spTree K 4) [] E (tCons (tVar i) (tCons (tLst (tCons (tC (.int 3)) tNil)) (tCons (tC (.int 3)) tNil)))) σ H 12 (SomeD K GoodT) :=
  fun n H1 hn g e Q q => ⟨.ref d, hd, by show 1 ≤ sizeLine; decide, fun a ha => by
    have e1 := Ex.new (o := HO.lst [.int 3]) ha
    have g1 : FeedAt (upd H1 a (.lst [.int 3])) d l n := FeedF.ok.ex g e1
    have na : ¬ (a = d ∨ a = l) := FeedF.ok.new g ha
    refine ⟨d, l, a, 3, n, 3, rfl, by decide, g1, fun z => na (.inl z), fun z => na (.inr z), upd_same, by decide, by have : (FeedF d l).N = 1000000 := rfl; omega, fun H3 v t k' k3 hs g3 _ nt dt => ?_⟩
    refine q v H3 (fun b o hb hne => k3 b o (e1 b o hb) fun z => z.elim hne fun z => ?_) (FeedAt.up g3 (by omega)) ⟨enc t, ⟨t, rfl, by omega, nt⟩, dt⟩
    subst z
    rw [ha] at hb
    cases hb⟩
theorem r_listOf {F : Fd} (o : F.Ok) (h : EvR F te σ H k (IsD K (.tuple ds))) : EvR F (tCB (rTupListOf K) (tCons te tNil)) σ H k (IsL F K ds) := fun n H1 hn g e Q q => h n H1 hn g e _ fun v H2 e2 g2 hd => by
  cases hd with
  | @tup a xs _ ha hx => exact ⟨a, xs, rfl, .inr ha, fun l hl => q (.ref l) _ (e2.trans (Kx.ex (Ex.new hl))) (o.ex g2 (Ex.new hl)) ⟨l, xs, rfl, o.new g2 hl, upd_same, dps_ex (Ex.new hl) _ _ hx⟩⟩
theorem r_cat {F : Fd} {Pe : PyData → Prop} {m : Nat} (o : F.Ok) (ha : EvR F ta σ H ka (IsL F K ds)) (hb : EvR F tb σ H kb (IsLP F K Pe m)) (fd : flats ds = true) (hl : ds.length + m ≤ 100000) : EvR F (tOp rCat ta tb) σ H (ka + kb) (fun v H' => ∃ es, es.length = m ∧ (∀ x ∈ es, Pe x) ∧ IsL F K (ds ++ es) v H') :=
  fun n H1 hn g e Q q => ha n H1 (by omega) g e _ fun x H2 e2 g2 p => hb (n + ka) H2 (by omega) g2 (e.trans e2) _ fun y H3 e3 g3 ⟨es, el, ep, p'⟩ => by
    obtain ⟨a, xs, rfl, hT, ha, hx⟩ := mono_l o fd _ _ _ _ g2 e3 p
    obtain ⟨b, ys, rfl, hT', hb, hy⟩ := p'
    have l1 := dps_len hx
    have l2 := dps_len hy
    refine ⟨a, b, xs, ys, rfl, rfl, ha, hb, sz_of (by omega), fun c hc => ?_⟩
    have ec := Ex.new (o := HO.lst (xs ++ ys)) hc
    exact q (.ref c) _ (e2.trans (e3.trans (Kx.ex ec))) (by rw [← Nat.add_assoc]; exact o.ex g3 ec) ⟨es, el, ep, c, _, rfl, o.new g3 hc, upd_same, dps_ex ec _ _ (dps_app hx hy)⟩
theorem r_catL {F : Fd} (o : F.Ok) (ha : EvR F ta σ H ka (IsL F K ds)) (hb : EvR F tb σ H kb (IsL F K es)) (fd : flats ds = true) (hl : ds.length + es.length ≤ 100000) : EvR F (tOp rCat ta tb) σ H (ka + kb) (IsL F K (ds ++ es)) :=
  fun n H1 hn g e Q q => ha n H1 (by omega) g e _ fun x H2 e2 g2 p => hb (n + ka) H2 (by omega) g2 (e.trans e2) _ fun y H3 e3 g3 p' => by
    obtain ⟨a, xs, rfl, hT, ha, hx⟩ := mono_l o fd _ _ _ _ g2 e3 p
    obtain ⟨b, ys, rfl, hT', hb, hy⟩ := p'
    have l1 := dps_len hx
    have l2 := dps_len hy
    refine ⟨a, b, xs, ys, rfl, rfl, ha, hb, sz_of (by omega), fun c hc => ?_⟩
    have ec := Ex.new (o := HO.lst (xs ++ ys)) hc
    exact q (.ref c) _ (e2.trans (e3.trans (Kx.ex ec))) (by rw [← Nat.add_assoc]; exact o.ex g3 ec) ⟨c, _, rfl, o.new g3 hc, upd_same, dps_ex ec _ _ (dps_app hx hy)⟩
theorem doc_sizes : ∀ t ∈ docT, size t ≤ 6 := by
  intro t ht
  simp only [docT, List.mem_cons, List.not_mem_nil, or_false] at ht
  rcases ht with rfl | rfl | rfl <;> simp only [leaf, size, sizes] <;> decide
theorem six_sizes : ∀ t ∈ sixT, size t ≤ 6 := by
  intro t ht
  simp only [sixT, List.mem_cons, List.not_mem_nil, or_false] at ht
  rcases ht with rfl | rfl <;> simp only [leaf, size, sizes] <;> decide
theorem nice_of {s : Str} {m : Int} {cs : List T} (h1 : Nm s) (h2 : m = 0 ∨ m = 1) (h : ∀ c ∈ cs, NiceM c) : NiceM (.mk s m cs) := nice_mk.mpr ⟨⟨h1, h2⟩, h⟩
theorem doc_nice : ∀ t ∈ docT, NiceM t := by
  have no : ∀ c ∈ ([] : List T), NiceM c := fun c hc => by cases hc
  have one : ∀ {t : T}, NiceM t → ∀ c ∈ [t], NiceM c := fun h c hc => (List.mem_singleton.mp hc) ▸ h
  intro t ht
  simp only [docT, List.mem_cons, List.not_mem_nil, or_false] at ht
  rcases ht with rfl | rfl | rfl
  · exact nice_of (.inr (.inl rfl)) (.inl rfl) no
  · exact nice_of (.inr (.inl rfl)) (.inl rfl) (one (nice_of (.inr (.inr rfl)) (.inl rfl) no))
  · exact nice_of (.inr (.inl rfl)) (.inl rfl) (one (nice_of (.inr (.inr rfl)) (.inr rfl) no))
theorem six_names : ∀ t ∈ sixT, NiceM t := by
  have no : ∀ c ∈ ([] : List T), NiceM c := fun c hc => by cases hc
  have cn : ∀ {t : T} {ts : List T}, NiceM t → (∀ c ∈ ts, NiceM c) → ∀ c ∈ t :: ts, NiceM c := fun h hs c hc => (List.mem_cons.mp hc).elim (fun e => e ▸ h) (hs c)
  have p0 : NiceM (leaf "pay" 0) := nice_of (.inr (.inr rfl)) (.inl rfl) no
  have p1 : NiceM (leaf "pay" 1) := nice_of (.inr (.inr rfl)) (.inr rfl) no
  have d0 : NiceM (leaf "db" 0) := nice_of (.inl rfl) (.inl rfl) no
  intro t ht
  simp only [sixT, List.mem_cons, List.not_mem_nil, or_false] at ht
  rcases ht with rfl | rfl
  · exact nice_of (.inr (.inl rfl)) (.inl rfl) (cn (nice_of (.inl rfl) (.inl rfl) (cn p0 no)) (cn (nice_of (.inl rfl) (.inl rfl) (cn p0 (cn p1 no))) no))
  · exact nice_of (.inr (.inl rfl)) (.inl rfl) (cn d0 (cn d0 (cn d0 (cn p0 (cn p1 no)))))
theorem giv_all : ∀ x ∈ docT.map enc ++ sixT.map enc, GoodT x := fun x hx => by
  rcases List.mem_append.mp hx with hx | hx
  · obtain ⟨t, ht, rfl⟩ := List.mem_map.mp hx
    exact ⟨t, rfl, doc_sizes t ht, doc_nice t ht⟩
  · obtain ⟨t, ht, rfl⟩ := List.mem_map.mp hx
    exact ⟨t, rfl, six_sizes t ht, six_names t ht⟩
def spLawT (K : PySem.W.Frag) (PT : Addr) : Sp := fun vs H Q _ => ∃ (a : Addr) (ns : List Int), vs = [.ref a] ∧ SqL K H a (ns.map V.int) ∧ LamX.Tabs [(PT, lamQ)] H ∧ ∀ H', Q (.bl true) H'
end
end K17
set_option maxHeartbeats 2000000
/-! ### a comprehension over range(n) where an exception is handled: the heap bears it all the way, so the iterator may end -/
namespace Hc
open PySem PySem.Spec PyProof.Rows L2 L2H HotX
/-- what is asked of the state where a range's iterator is: at turn i of n -/
abbrev At (n : Nat) (it : Addr) (i : Nat) (h : Heap) : Prop := IsRangeIter h it (0 + (i : Nat) * 1) ((n : Int) - (i : Nat)) 1
section
variable {B : Cx} {σ σv : L2.St} {vs : List Nat} {H : Hp} {s : Shared} {it : Addr} {n i : Nat} {tg : Expr} {Er : Value → Shared → Prop}
theorem at_next (I : Inv B [] σ H s) (ok : FpOk B [] H it) (a : At n it i s.heap) (lt : i < n) :
    wpAny (model B.prog B.w) B.A (pyNext (.ref it)) (fun r s1 => ∃ u, r = some u ∧ wpAny (model B.prog B.w) B.A (letOwnedTupleGo tg (.ref it) u) (fun _ s2 => Inv B [] σ H s2 ∧ RelV (.int (i : Int)) u ∧ At n it (i + 1) s2.heap) Er s1) Er s :=
  wpAny_pyNext_range_item a (by omega) fun h2 a2 other => by
    obtain ⟨o1, o2, o3, o4, o5, o6⟩ := ok
    have shift : At n it (i + 1) h2 := by
      show IsRangeIter h2 it (0 + ((i + 1 : Nat) : Int) * 1) ((n : Int) - ((i + 1 : Nat) : Int)) 1
      have l : (0 : Int) + ((i : Nat) : Int) * 1 + 1 = 0 + ((i + 1 : Nat) : Int) * 1 := by omega
      have r : (n : Int) - ((i : Nat) : Int) - 1 = (n : Int) - ((i + 1 : Nat) : Int) := by omega
      rwa [l, r] at a2
    have J := I.turned (t' := s.toks + 1) (fun b u hb e => (other.2 b hb).trans e) o1 o2 o4 o5 o6
    exact ⟨_, rfl, go_of (s := { s with heap := h2, toks := s.toks + 1 }) (n := "range_iterator") shift rfl rfl (by decide) ⟨J, ⟨s.toks, by rw [Int.mul_one, Int.zero_add]⟩, shift⟩⟩
theorem at_end {x1 : Addr} (hot : HotAt B.A x1 s.heap) (I : Inv B [] σ H s) (ok : FpOk B [] H it) (a : At n it i s.heap) (le : n ≤ i) :
    wpAny (model B.prog B.w) B.A (pyNext (.ref it)) (fun r s1 => r = none ∧ Inv B [] σ H s1) Er s :=
  pyNext_range_end_hot hot a (by omega) fun h2 same => by
    obtain ⟨o1, o2, o3, o4, o5, o6⟩ := ok
    exact ⟨rfl, I.turned (t' := s.toks) (fun b u _ e => same b u e) o1 o2 o4 o5 o6⟩
/-- the turns of such a block: V i holds ahead of turn i, the list at D -/
theorem turnsZ {g : TG} {tt : TT} {te : TE} {elt iter : Expr} {ifs : List Expr} {scope : Scope} {pos : Pos} {D : Addr} {R : Result → Shared → Prop} {V : Nat → Hp → Prop} (hxe : B.xe = fun _ _ => False) (pg : PG B tg g) (pt : PTs B ifs tt) (pe : PE B elt te)
    (hot : ∀ {σ' : L2.St} {H' : Hp} {s' : Shared}, Inv B [] σ' H' s' → ∃ x1, HotAt B.A x1 s'.heap) (free : ∀ {σ' : L2.St} {H' : Hp} {s' : Shared}, Inv B [] σ' H' s' → H' it = none → FpOk B [] H' it)
    (es : σ = wipe σv vs) (step : ∀ i H', i < n → V i H' → ∃ Nx : Hp → Prop, (∀ H2, Nx H2 → V (i + 1) H2) ∧ g (.int (i : Int)) σ H' fun σ2 H2 => wipe σ2 vs = σ ∧ tt σ2 H2 fun b H3 => if b = true then te σ2 H3 fun y H4 => ∃ acc, H4 D = some (.lst acc) ∧ acc.length < sizeLine ∧ Nx (upd H4 D (.lst (acc ++ [y]))) else Nx H3)
    (fin : ∀ H' s', Inv B [] σ H' s' → V n H' → R (.ok .next) s') (I : Inv B [] σ H s) (a : At n it 0 s.heap) (nit : H it = none) (v : V 0 H) :
    codeAny (model B.prog B.w) B.A (.compLoop (.ListComp elt [⟨tg, iter, ifs, 0⟩] scope pos) 0 (.ref it) (.ref D) B.env) R s := by
  have no : ∀ {α : Type} {t : Sem α} {Q Q' : α → Shared → Prop} {E : Value → Shared → Prop} {s : Shared}, wpAny (model B.prog B.w) B.A t Q B.xe s → (∀ a s, Q a s → Q' a s) → wpAny (model B.prog B.w) B.A t Q' E s := fun h k => wpAny_mono h k fun _ _ z => (by rw [hxe] at z; exact z.elim)
  refine compLoop_any (fun m s' => ∃ i H', m = n - i ∧ i ≤ n ∧ Inv B [] σ H' s' ∧ At n it i s'.heap ∧ H' it = none ∧ V i H') (fun m s' => ?_) n ⟨0, H, rfl, Nat.zero_le _, I, a, nit, v⟩
  rintro ⟨i, H', rfl, le, J, aJ, nJ, vJ⟩
  by_cases lt : i < n
  · refine wpAny_mono (at_next (tg := tg) J (free J nJ) aJ lt) (fun r s1 ⟨u, e, go⟩ => ?_) fun _ _ z => z
    subst e
    refine wpAny_mono go (fun _ s2 ⟨J2, ru, a2⟩ => ?_) fun _ _ z => z
    have held : ∀ b ∈ [it], ∃ o, s2.heap.get? b = some o ∧ ∀ v, o.data ≠ .cell v := fun b hb => by
      obtain rfl := List.mem_singleton.mp hb
      exact ⟨_, a2, fun v z => by
        have : Data.fields _ = Data.cell v := z
        cases this⟩
    have P2 := J2.pinned (fun b hb => by
      obtain rfl := List.mem_singleton.mp hb
      exact free J2 nJ) held
    obtain ⟨Nx, hN, st⟩ := step i H' lt vJ
    refine no (pg.run _ s2 σ H' _ u _ P2 ru st) fun _ s3 ⟨σ3, H3, P3, ew, q3⟩ => ?_
    have close : ∀ {s' : Shared} {H4 : Hp}, Inv B ([] ++ pinsAt [it] s2.heap) σ3 H4 s' → V (i + 1) H4 → ∃ m', m' < n - i ∧ ∃ i' H', m' = n - i' ∧ i' ≤ n ∧ Inv B [] σ H' s' ∧ At n it i' s'.heap ∧ H' it = none ∧ V i' H' := fun {s' H4} P4 v4 => by
      have pin := P4.pin (it, _) (List.mem_append_right _ (List.mem_append_right _ (mem_pinsAt List.mem_cons_self a2)))
      exact ⟨n - (i + 1), by omega, i + 1, H4, rfl, lt, (P4.unpinned (pins := [])).weak (by rw [← ew, wipe_length]) (fun j v e => by rw [← ew] at e; exact (wipe_some e).1), pin.1, pin.2.1, v4⟩
    refine no (pt.run _ s3 σ3 H3 _ P3 q3) fun b s4 ⟨H4, P4, q4⟩ => ?_
    cases b with
    | false => exact close P4 (hN _ q4)
    | true => exact no (pe.run _ s4 σ3 H4 _ P4 q4) fun z s5 ⟨y, H5, P5, ry, acc, hD, hz, v5⟩ => app_ok P5 hD hz ry fun s6 P6 => close P6 (hN _ v5)
  · obtain ⟨x1, hx⟩ := hot J
    refine wpAny_mono (at_end hx J (free J nJ) aJ (by omega)) (fun r s1 ⟨e, J1⟩ => ?_) fun _ _ z => z
    subst e
    have : i = n := by omega
    subst this
    exact fin H' s1 J1 vJ
end
section
variable {X : Cx} {pins : List (Addr × Obj)} {σ : L2.St} {H : Hp} {s : Shared} {Q : VK}
/-- the block, from where its iterator has come -/
theorem blockZ {elt tg iter : Expr} {ifs : List Expr} {scope : Scope} {own : List (Str × Nat)} {pos : Pos} {g : TG} {tt : TT} {te : TE} {it : Addr} {n : Nat} {use : Option (Value → Sem Unit)} {Qf : Value → Shared → Prop} (hc : HotC X) (hN : X.N.Nodup) (ok : BlkOk X.N X.env.scope scope own)
    (hg : ∀ (s : Shared) (H : Hp) (C : Addr) (cl : List (Str × Addr)) (fp : List Addr), PG (X.blk s H scope (compEnvC scope cl C X.env) fp) tg g) (ht : ∀ (s : Shared) (H : Hp) (C : Addr) (cl : List (Str × Addr)) (fp : List Addr), PTs (X.blk s H scope (compEnvC scope cl C X.env) fp) ifs tt)
    (he : ∀ (s : Shared) (H : Hp) (C : Addr) (cl : List (Str × Addr)) (fp : List Addr), PE (X.blk s H scope (compEnvC scope cl C X.env) fp) elt te) (I : Inv X pins σ H s) (a : At n it 0 s.heap) (fr : FpOk X pins H it)
    (rest : ∀ D, H D = none → ∃ V : Nat → Hp → Prop, V 0 (upd H D (.lst [])) ∧ (∀ i H', i < n → V i H' → ∃ Nx : Hp → Prop, (∀ H2, Nx H2 → V (i + 1) H2) ∧ g (.int (i : Int)) (wipe σ (own.map (·.2))) H' fun σ2 H2 => wipe σ2 (own.map (·.2)) = wipe σ (own.map (·.2)) ∧ tt σ2 H2 fun b H3 => if b = true then te σ2 H3 fun y H4 => ∃ acc, H4 D = some (.lst acc) ∧ acc.length < sizeLine ∧ Nx (upd H4 D (.lst (acc ++ [y]))) else Nx H3) ∧ ∀ C s' m H', Inv X pins σ H' s' → V n H' → s'.heap.Ns C m → FpOk X pins H' C → compPost (model X.prog X.w) X.A X.xe use Qf (.ref D) C (.ok .next) s') :
    wpAny (model X.prog X.w) X.A (newList []) (fun acc s3 => wpAny (model X.prog X.w) X.A (newFunctionEnv scope X.env.globals (cloFrom X.env.cells scope.names []) [] X.env.qual none Value.none (some X.env))
      (fun cenv s4 => codeAny (model X.prog X.w) X.A (.compStart (.ListComp elt [⟨tg, iter, ifs, 0⟩] scope pos) 0 (.ref it) acc { cenv with scope := relabel scope X.env })
        (compPost (model X.prog X.w) X.A X.xe use Qf acc cenv.locals) s4) X.xe s3) X.xe s := by
  refine wpAny_newObj_type (newEnv_comp ?_) (by show 0 ≤ sizeLine; decide)
  obtain ⟨D, eD⟩ : ∃ D, D = s.heap.objs.size := ⟨_, rfl⟩
  obtain ⟨u, eu⟩ : ∃ u : Shared, u = { s with heap := s.heap.push { cls := .type "list", data := .seq ([] : List Value).toArray } } := ⟨_, rfl⟩
  have hu : u.heap = s.heap.push { cls := .type "list", data := .seq ([] : List Value).toArray } := by rw [eu]
  rw [← eD, ← eu]
  have nD : H D = none := I.hok.fresh (Nat.le_of_eq eD.symm)
  obtain ⟨V, v0, step, last⟩ := rest D nD
  have ltD : it < D := by rw [eD]; exact Heap.lt_size a
  have J : Inv X pins σ (upd H D (.lst [])) u := by
    rw [eu, eD]
    exact I.laid (t' := s.toks) (fun b o e => Heap.get?_push_of_some _ e) (Nat.le_refl _) ⟨Nat.zero_le _, [], 0, .nil, Heap.get?_push_size _ rfl⟩
  have fJ : FpOk X pins (upd H D (.lst [])) it := ⟨by rw [upd_ne (Nat.ne_of_lt ltD)]; exact fr.1, fr.2⟩
  have szu : it < u.heap.objs.size := by
    rw [hu, Heap.size_push, ← eD]
    exact Nat.lt_succ_of_lt ltD
  have L := block_start (fp := [it]) J ok hN fun b hb => by
    obtain rfl := List.mem_singleton.mp hb
    exact ⟨fJ, szu⟩
  obtain ⟨Hu, eH⟩ : ∃ Hu, Hu = upd H D (.lst []) := ⟨_, rfl⟩
  rw [← eH] at v0 J fJ L
  obtain ⟨env, ev⟩ : ∃ env, env = compEnvC scope (cellsFrom (u.heap.objs.size + 1) scope.names (cloFrom X.env.cells scope.names [])) u.heap.objs.size X.env := ⟨_, rfl⟩
  have pg := hg u Hu u.heap.objs.size (cellsFrom (u.heap.objs.size + 1) scope.names (cloFrom X.env.cells scope.names [])) [it]
  have pt := ht u Hu u.heap.objs.size (cellsFrom (u.heap.objs.size + 1) scope.names (cloFrom X.env.cells scope.names [])) [it]
  have pe := he u Hu u.heap.objs.size (cellsFrom (u.heap.objs.size + 1) scope.names (cloFrom X.env.cells scope.names [])) [it]
  rw [← ev] at L pg pt pe
  have el : env.locals = u.heap.objs.size := by rw [ev]; rfl
  show codeAny _ _ (.compStart (.ListComp elt [⟨tg, iter, ifs, 0⟩] scope pos) 0 (.ref it) (.ref D) (compEnvC scope (cellsFrom (u.heap.objs.size + 1) scope.names (cloFrom X.env.cells scope.names [])) u.heap.objs.size X.env)) (compPost (model X.prog X.w) X.A X.xe use Qf (.ref D) u.heap.objs.size) { u with heap := pushCells (u.heap.push { cls := .type "dict", data := .dict #[] }) scope.names }
  rw [← ev]
  obtain ⟨p, ⟨hh, v1, e1, c1⟩, hp⟩ := hc
  obtain ⟨pg1, pn1, pl1, pf1, _⟩ := J.pin p (List.mem_append_left _ hp)
  have out : p.1 ∉ frs X.stack := fun z => (List.mem_cons.mp (J.stkSub p.1 z)).elim pl1 pf1
  have apart : p.1 ∉ [it] := fun z => fr.2.2.2.2.2 p (List.mem_append_left _ hp) (List.mem_singleton.mp z)
  have aL : At n it 0 (pushCells (u.heap.push { cls := .type "dict", data := .dict #[] }) scope.names) := pushCells_keeps _ _ _ _ (Heap.get?_push_of_some _ (by rw [hu]; exact Heap.get?_push_of_some _ a))
  have turns := turnsZ (B := X.blk u Hu scope env [it]) (iter := iter) (scope := scope) (pos := pos) (D := D) (V := V) (R := compPost (model X.prog X.w) X.A X.xe use Qf (.ref D) u.heap.objs.size) rfl pg pt pe
    (fun J' => ⟨p.1, hh, p.2, v1, J'.base.keep p.1 p.2 pg1 pn1 out apart, e1, c1⟩)
    (fun J' z => ⟨z, (J'.ok.exf it List.mem_cons_self).1, J'.ok.exfs it List.mem_cons_self, .inl List.mem_cons_self, fun x c e => (J'.ok.exf it List.mem_cons_self).2 x c e, fun q hq => absurd (show q ∈ ([] : List (Addr × Obj)) ++ [] from hq) (by simp)⟩)
    rfl step (fun H' s' J' v => ?_) L aL fJ.1 v0
  · exact codeAny_compStart_list turns (wpAny_pyIter_rangeiter aL turns)
  · have back : Inv X pins σ H' s' := J.call' (ch := [it]) J'.os J'.base J'.hok J'.bare fun b hb => by
      obtain rfl := List.mem_singleton.mp hb
      exact ⟨fJ.2.2.2.1, fJ.2.1, fJ.2.2.2.2.1, fJ.2.2.2.2.2⟩
    have nC : H' u.heap.objs.size = none := by
      have z : H' env.locals = none := J'.free
      rwa [el] at z
    obtain ⟨m, ns, _⟩ := J'.loc
    have ns : s'.heap.Ns env.locals m := ns
    rw [el] at ns
    exact last _ s' m H' back v ns (J.fpOk (Nat.le_refl _) nC)
/-- such a comprehension, whatever is done with its list -/
theorem lc_rangeZ {elt tg a : Expr} {ifs : List Expr} {scope : Scope} {own : List (Str × Nat)} {pos pos' p q : Pos} {ta : TA} {g : TG} {tt : TT} {te : TE} {use : Option (Value → Sem Unit)} {Qf : Value → Shared → Prop} (hc : HotC X) (hN : X.N.Nodup) (gr : Gl X "range") (mr : X.mg "range" = none) (ha : PA X [a] ta) (ok : BlkOk X.N X.env.scope scope own)
    (hg : ∀ (s : Shared) (H : Hp) (C : Addr) (cl : List (Str × Addr)) (fp : List Addr), PG (X.blk s H scope (compEnvC scope cl C X.env) fp) tg g) (ht : ∀ (s : Shared) (H : Hp) (C : Addr) (cl : List (Str × Addr)) (fp : List Addr), PTs (X.blk s H scope (compEnvC scope cl C X.env) fp) ifs tt)
    (he : ∀ (s : Shared) (H : Hp) (C : Addr) (cl : List (Str × Addr)) (fp : List Addr), PE (X.blk s H scope (compEnvC scope cl C X.env) fp) elt te) (hst : starEach [a] X.env = [(false, eval a X.env)]) (I : Inv X pins σ H s) (h : tLc (iRng1 ta) g tt te (own.map (·.2)) σ H Q)
    (last : ∀ D C s' m H', Inv X pins σ H' s' → Q (.ref D) H' → s'.heap.Ns C m → FpOk X pins H' C → compPost (model X.prog X.w) X.A X.xe use Qf (.ref D) C (.ok .next) s') :
    wpAny (model X.prog X.w) X.A (comprehension (.ListComp elt [⟨tg, .Call (.Name "range" p) [a] [] q, ifs, 0⟩] scope pos) scope X.env pos' (newList []) false (eval (.Call (.Name "range" p) [a] [] q) X.env) use) Qf X.xe s := by
  refine wpAny_comprehension_free (use := use) rfl (by intro _; rfl) (closure_ok fun y hy e => (ok.free y hy e).elim (fun k => I.ok.has _ (.inl k)) fun k => I.ok.has _ (.inr k)) ok.kind (fun y hy e => by rw [ok.uniq y hy, e]) ?_
  refine Call_ (ld_blt I gr mr boot_range (PyProof.Rows.callWith_type1 (thn (ha.run q pins s σ H _ I h) fun us s1 ⟨xs, H1, I1, r1, j, e, j1, j2, rest⟩ => ?_) hst rfl))
  subst e
  cases r1 with
  | cons r rr =>
  cases rr
  obtain ⟨tk, rfl⟩ := r
  refine call_range_1 (wpAny_pyIter_range (IsRange.new ..) (small_one (by omega) (by omega) j1 j2) ?_)
  obtain ⟨h1, e1⟩ : ∃ h1, h1 = s1.heap.push { cls := .type "range", data := .fields #[.int 0 s1.toks, .int j tk, .int 1 (s1.toks + 1)] } := ⟨_, rfl⟩
  rw [← e1]
  have I2 : Inv X pins σ H1 { s1 with heap := h1, toks := s1.toks + 1 + 1 } := I1.kept (t' := s1.toks + 1 + 1) fun b o e => by rw [e1]; exact Heap.get?_push_of_some _ e
  have len : Builtin.Range.rangeSize 0 j 1 = (j.toNat : Int) - ((0 : Nat) : Int) := by
    rw [rangeSize_one]
    split <;> omega
  refine blockZ (n := j.toNat) hc hN ok hg ht he (I2.kept (t' := s1.toks + 1 + 1) fun b o e => Heap.get?_push_of_some _ e) ?_ (I2.fpOk (Nat.le_refl _) (I2.hok.fresh (Nat.le_refl _))) fun D nD => ?_
  · show IsRangeIter _ _ (0 + ((0 : Nat) : Int) * 1) ((j.toNat : Int) - ((0 : Nat) : Int)) 1
    rw [← len, show (0 : Int) + ((0 : Nat) : Int) * 1 = 0 from by simp]
    exact Heap.get?_push_size _ rfl
  · obtain ⟨W, ⟨m0, w0⟩, turn⟩ := rest D nD
    refine ⟨fun i H' => ∃ m, W i m H', ⟨m0, w0⟩, fun i H' lt ⟨m, w⟩ => ?_, fun C s' ms H' J ⟨m, w⟩ ns fp => ?_⟩
    · rcases turn i m H' w with ⟨stop, _⟩ | ⟨_, Nx, hN, st⟩
      · exact absurd (show j.toNat ≤ i from stop) (by omega)
      · have r := st (.int (0 + (i : Int))) H' ⟨rfl, rfl⟩
        rw [Int.zero_add] at r
        exact ⟨Nx, fun H2 h2 => (hN H2 h2).imp fun _ z => z.2, r⟩
    · rcases turn j.toNat m H' w with ⟨_, q⟩ | ⟨go, _⟩
      · exact last D C s' ms H' J q ns fp
      · exact absurd (show j.toNat < j.toNat from go) (by omega)
/-- as a value -/
theorem pe_rangeZ {elt tg a : Expr} {ifs : List Expr} {scope : Scope} {own : List (Str × Nat)} {pos p q : Pos} {ta : TA} {g : TG} {tt : TT} {te : TE} (hc : HotC X) (hN : X.N.Nodup) (gr : Gl X "range") (mr : X.mg "range" = none) (ha : PA X [a] ta) (ok : BlkOk X.N X.env.scope scope own)
    (hg : ∀ (s : Shared) (H : Hp) (C : Addr) (cl : List (Str × Addr)) (fp : List Addr), PG (X.blk s H scope (compEnvC scope cl C X.env) fp) tg g) (ht : ∀ (s : Shared) (H : Hp) (C : Addr) (cl : List (Str × Addr)) (fp : List Addr), PTs (X.blk s H scope (compEnvC scope cl C X.env) fp) ifs tt)
    (he : ∀ (s : Shared) (H : Hp) (C : Addr) (cl : List (Str × Addr)) (fp : List Addr), PE (X.blk s H scope (compEnvC scope cl C X.env) fp) elt te) (hst : starEach [a] X.env = [(false, eval a X.env)] := by rfl) :
    PE X (.ListComp elt [⟨tg, .Call (.Name "range" p) [a] [] q, ifs, 0⟩] scope pos) (tLc (iRng1 ta) g tt te (own.map (·.2))) := by
  refine ⟨fun pins s σ H Q I h => ?_⟩
  rw [eval_ListComp]
  refine lc_rangeZ hc hN gr mr ha ok hg ht he hst I h fun D C s' m H' J q ns fp => ⟨m, ns, fun h3 sb => ?_⟩
  obtain ⟨g0, g1, g2, g3, g4, g5⟩ := fp
  exact ⟨.ref D, H', J.turned (t' := s'.toks) (fun b o hb e => (sb.2 b hb).trans e) g0 g1 g3 g4 g5, rfl, q⟩
/-- name = such a comprehension, the name a local -/
theorem ps_rangeZ {i : Nat} {y : Str} {py : Pos} {elt tg a : Expr} {ifs : List Expr} {scope : Scope} {own : List (Str × Nat)} {pos spos p q : Pos} {ta : TA} {g : TG} {tt : TT} {te : TE} (hc : HotC X) (hN : X.N.Nodup) (hi : X.N[i]? = some y) (hl : X.env.scope.names.lookup y = some .local)
    (hsw : swapsWith (.ListComp elt [⟨tg, .Call (.Name "range" p) [a] [] q, ifs, 0⟩] scope pos) (some (.Name y py)) spos.line X.env = pure true) (gr : Gl X "range") (mr : X.mg "range" = none) (ha : PA X [a] ta) (ok : BlkOk X.N X.env.scope scope own)
    (hg : ∀ (s : Shared) (H : Hp) (C : Addr) (cl : List (Str × Addr)) (fp : List Addr), PG (X.blk s H scope (compEnvC scope cl C X.env) fp) tg g) (ht : ∀ (s : Shared) (H : Hp) (C : Addr) (cl : List (Str × Addr)) (fp : List Addr), PTs (X.blk s H scope (compEnvC scope cl C X.env) fp) ifs tt)
    (he : ∀ (s : Shared) (H : Hp) (C : Addr) (cl : List (Str × Addr)) (fp : List Addr), PE (X.blk s H scope (compEnvC scope cl C X.env) fp) elt te) (hst : starEach [a] X.env = [(false, eval a X.env)] := by rfl) :
    PS X (.Assign [.Name y py] (.ListComp elt [⟨tg, .Call (.Name "range" p) [a] [] q, ifs, 0⟩] scope pos) spos) (tAsg (tLc (iRng1 ta) g tt te (own.map (·.2))) (gName i)) := by
  refine ⟨fun pins s σ H D I h => ?_⟩
  rw [exec_Assign_Name_used _ _ _ _ hsw]
  refine wpAny_bind (wpAny_standAt (wpAny_bind (wpAny_bind (thn (lc_rangeZ (use := some (assign (.Name y py) X.env)) (Qf := fun _ s' => SP X pins D .next s') (Q := fun x H1 => gName i x σ H1 D.nx) hc hN gr mr ha ok hg ht he hst I h ?_) fun _ s' done => wpAny_pure (wpAny_pure done)))))
  intro L C s' m H' J q ns fp
  obtain ⟨g0, g1, g2, g3, g4, g5⟩ := fp
  refine wpAny_assign_Name (store_ok2 (v := V.ref L) J hN hi (.inl hl) rfl (fun s2 J2 ⟨b, other, hb⟩ => ?_) (.inr hl))
  have away : C ≠ b := by
    rcases hb with rfl | z
    · exact g1
    · exact fun e => g4 y b z e.symm
  exact ⟨m, ns.sameBut other away, fun h3 sb => ⟨_, H', J2.turned (t' := s2.toks) (fun b o hb e => (sb.2 b hb).trans e) g0 g1 g3 g4 g5, q⟩⟩
end
end Hc
set_option maxHeartbeats 2000000
/-! ### defs called in an except suite that take the exception itself -/
namespace Hc
open PySem PySem.Spec PyProof.Rows L2 L2H HotX Evl So
/-- a def that is called where the exception at a (class cls, dict d) is handled; sp speaks of these -/
structure FnP (P : Program) (w : World) (K : PySem.W.Frag) (mg : Str → Option Value) (base : Heap) (k : Nat) (f : Addr) (fd : FuncData) (ps : List Str) (sp : Addr → Value → Option Addr → Sp) : Prop where
  len : ∀ a cls d vs H Q E, sp a cls d vs H Q E → vs.length = ps.length
  run : ∀ (A : Around) (outer : List Env) (s : Shared) (H : Hp) (args : Args) (us : List Value) (vs : List V) (Q : VK) (E : XK) (a : Addr) (oe : Obj) (cls : Value) (d : Option Addr), RoomH k A → Hot1 A (a, oe) → Zc cls d oe → PinOk outer H s (a, oe) → Env0 P w K mg base A outer s H →
    BindsTo s fd args (ps.zip us) → Vals vs us → sp a cls d vs H Q E → codeAny (model P w) A (.call (.ref f) args) (CR CX0 outer P w H s Q E) s
section
variable {P : Program} {w : World} {K : PySem.W.Frag} {mg : Str → Option Value} {base : Heap} {x qual : Str} {st : Stmt} {f : Addr} {fd : FuncData} {N ps : List Str} {k : Nat}
theorem okP {sp : Addr → Value → Option Addr → Sp} (F : Fun K x qual st f fd) (S : FnScope N ps (defScope st)) (len : ∀ a cls d vs H Q E, sp a cls d vs H Q E → vs.length = ps.length)
    (body : ∀ (cdv : Value) (A : Around) (outer : List Env) (s : Shared) (H : Hp) (vs : List V) (Q : VK) (E : XK) (a : Addr) (oe : Obj) (cls : Value) (d : Option Addr), Hot1 A (a, oe) → Zc cls d oe → RoomH k (A.deeper (envOfC qual (defScope st) s.heap.objs.size f cdv)) → sp a cls d vs H Q E →
      ∃ t, PSs (cxH CX0 P w K mg base N qual (defScope st) f cdv A outer s H E (a, oe)) (defBody st) t ∧ t { nx := fun _ H' => Q .non H', rt := Q } (L2.start N vs) H) : FnP P w K mg base (k + 1) f fd ps sp := by
  obtain ⟨oc, od, kV, doc, pm, an, cdv, ct, osl, rfl, lk, hcd⟩ := F.ex
  refine ⟨len, fun A outer s H args us vs Q E a oe cls d hr hot hz pin e0 hb r hsp => ?_⟩
  have keep : ∀ b o, base.get? b = some o → s.heap.get? b = some o := fun b o e => (e0.bs b o e).1
  have KX : K.In s.heap := e0.mod.kin.keeps keep
  have names : ∀ y ∈ ps.zip us, (defScope st).names.lookup y.1 = some .local ∨ ((defScope st).names.lookup y.1 = some .cell ∧ ((cellsFrom (s.heap.objs.size + 1) (defScope st).names []).lookup y.1).isSome = true) := by
    rintro ⟨x, v⟩ hy
    exact (S.par x (List.of_mem_zip hy).1).imp id fun q => ⟨q, PySem.W.cellsFrom_some _ _ _ (.inl q)⟩
  refine codeAny_call_function hr.depth (KX _ _ lk) rfl S.co S.gen rfl (PySem.W.codeRec_of KX hcd) (hb _ _ _ _ (wpAny_newFunctionEnv_cells S.kind names ?_))
  intro env he s1 ic
  subst he
  obtain ⟨t, ht, hq⟩ := body cdv A outer s H vs Q E a oe cls d hot hz (hr.deeper _) hsp
  have I := inv_startH (CX := CX0) (qual := qual) (f := f) (cd := cdv) (E := E) S pin e0 (len _ _ _ _ _ _ _ hsp) r ic
  refine ⟨(e0.mod.nolimit.keeps keep).keeps ic.toInCall.keep, codeAny_func (wpAny_mono (ht.run [] s1 (L2.start N vs) H _ I hq) (fun fl s' hs => ?_) fun e s' hs => hs)⟩
  cases fl with
  | ret u =>
    obtain ⟨v, σ', H', J, rv, q⟩ := hs
    exact ⟨v, H', J.os, J.bare, J.base, J.hok, rv, q⟩
  | next =>
    obtain ⟨σ', H', J, q⟩ := hs
    exact ⟨V.non, H', J.os, J.bare, J.base, J.hok, rfl, q⟩
  | brk =>
    obtain ⟨_, _, _, q⟩ := hs
    exact False.elim q
  | cont =>
    obtain ⟨_, _, _, q⟩ := hs
    exact False.elim q
end
section
variable {X : Cx} {a : Addr} {oe : Obj} {cls : Value} {d : Option Addr} {k : Nat} {f : Addr} {fd : FuncData} {ps : List Str} {x : Str} {p pos : Pos} {e : Expr} {es : List Expr} {t : TA} {E : XK}
theorem pe_callP {sp : Addr → Value → Option Addr → Sp} (G : FnP X.prog X.w X.K X.mg X.base k f fd ps sp) (hp : (a, oe) ∈ X.pn) (hot : Hot1 X.A (a, oe)) (hz : Zc cls d oe) (hr : RoomH k X.A) (hg : Gl X x) (hm : X.mg x = some (.ref f)) (hk : PySem.W.keepIn X.K (.ref f) = true) (hb : L2.Binds X.K fd ps [])
    (ha : PA X (e :: es) t) (hdb : (x == ("__debug__" : Str)) = false := by decide) (he : starEach (e :: es) X.env = (false, eval e X.env) :: starEach es X.env := by rfl) (hpl : (backTo pos (starEach es X.env)).any (·.1) = false := by rfl) :
    PE X (.Call (.Name x p) (e :: es) [] pos) (tCall (sp a cls d) [] E t) := by
  refine ⟨fun pins s σ H Q I h => ?_⟩
  refine wpAny_Call_Name_kw (ld_glob I hg hm ?_ hdb)
  refine PySem.W.callWith_K (h₀ := X.base) I.ok.mod.kin hk (thn (ha.run pos pins s σ H _ I h) fun us s1 ⟨vs, H1, I1, r, q⟩ => ⟨I1.kIn, ?_⟩) he hpl
  replace q : sp a cls d (vs ++ []) H1 Q E := q
  rw [List.append_nil] at q
  have hl : us.length = ps.length := by rw [← r.length]; exact G.len _ _ _ _ _ _ _ q
  have hb' : BindsTo s1 fd ⟨us, []⟩ (ps.zip us) := by
    have := hb s1 us I1.kIn (by rw [List.append_nil]; exact hl)
    rwa [List.append_nil] at this
  obtain ⟨g1, g2, g3, g4, g5⟩ := I1.pin (a, oe) (List.mem_append_left _ hp)
  have pin : PinOk X.stack H1 s1 (a, oe) := ⟨g1, g2, fun z => (List.mem_cons.mp (I1.stkSub a z)).elim g3 g4, g5⟩
  refine wpAny_call (codeAny_mono (G.run X.A X.stack s1 H1 ⟨us, []⟩ us vs Q E a oe cls d hr hot hz pin I1.env0 hb' r q) fun r s' hq => ?_)
  cases r with
  | error e => exact hq.elim
  | ok fl =>
    cases fl with
    | ret u => exact I1.after hq
    | next => exact False.elim hq
    | brk => exact False.elim hq
    | cont => exact False.elim hq
/-- isinstance of the handled exception, wherever it is told of -/
theorem call_isP (hp : (a, oe) ∈ X.pn) (hz : Zc cls d oe) (hf : ∃ vs, oe.data = .fields vs) : CallR X (.builtin "isinstance") (rIsX X.K a cls d) := by
  intro pins s σ H xs us Q I r h
  obtain ⟨C, dd, fs, b, rfl, rfl, hdd, T, q, h⟩ := h
  have hget := (I.pin (a, oe) (List.mem_append_left _ hp)).1
  obtain ⟨vs, hv⟩ := hf
  obtain ⟨mA, hns, _⟩ : ObjOk X.prog X.w H s.heap dd (.xd fs) := I.hok dd _ hdd
  obtain ⟨od, ho, _⟩ := lookIn_ns hns
  have J : PySem.W.InstAt s.heap a oe C (some od) := ⟨hget, hz.1, by unfold PySem.W.notCls; rw [hv] <;> rfl, by rw [hz.2]; exact ho⟩
  have Z := PySem.W.kitx_exc (x := a) (ox := oe) (od := some od) T.cl T.ga T.gt T.bx T.ca T.sg T.tk T.mo
  rcases h with ⟨c, u, rfl, k, e⟩ | ⟨tp, cs, ws, rfl, hT, k, e⟩
  · obtain ⟨u1, u2, rfl, r1, r2⟩ := vals2 r
    have e2 := k.eq r2
    subst e2
    cases (show u1 = Value.ref a from r1)
    exact PySem.W.kia_one Z I.kIn J e (fun z => nomatch z) fun tk => ⟨.bl b, H, I.tok tk, rfl, q⟩
  · obtain ⟨u1, u2, rfl, r1, r2⟩ := vals2 r
    cases (show u1 = Value.ref a from r1)
    cases (show u2 = Value.ref tp from r2)
    obtain ⟨_, its, rv, o, h1, h2, n, h3⟩ := (show ObjOk X.prog X.w H s.heap tp (.tup cs) from I.hok tp _ hT)
    have e3 := ClsV.all k rv
    subst e3
    obtain ⟨oc, od', dt, sl⟩ := o
    simp only at h2 h3
    subst h2 h3
    exact PySem.W.kia_tup Z I.kIn J h1 e (fun z => nomatch z) fun tk => ⟨.bl b, H, I.tok tk, rfl, q⟩
/-- a field of it -/
theorem pe_xfP {C : Addr} {o : Expr} {n : Str} {te : TE} (hp : (a, oe) ∈ X.pn) (hz : Zc cls d oe) (hf : ∃ vs, oe.data = .fields vs) (T : XfC X.K C) (hno : PySem.W.findIn X.K (.ref C) n = some none) (ho : PE X o te) (hb : attributeBase o n X.env (eval o X.env) = eval o X.env := by rfl) :
    PE X (.Attribute o n pos) (tXf a cls d C n te) :=
  ⟨fun pins s σ H Q I h => attr_of hb (thn (ho.run pins s σ H _ I h) fun u s1 ⟨x, H1, I1, rx, ex, ec, dd, fs, v, ed, ea, l, q⟩ => by
    subst ex ec ed
    cases (show u = Value.ref a from rx)
    obtain ⟨vs, hd⟩ := hf
    obtain ⟨mA, hns, hr⟩ : ObjOk X.prog X.w H1 s1.heap dd (.xd fs) := I1.hok dd _ ea
    obtain ⟨od, hod, hl⟩ := lookIn_ns hns
    obtain ⟨u, hu, ru⟩ := RelO.some_of (v := v) (o := mA n) (by rw [← l]; exact hr n)
    have J : PySem.W.InstAt s1.heap a oe C (some od) := ⟨(I1.pin (a, oe) (List.mem_append_left _ hp)).1, hz.1, by unfold PySem.W.notCls; rw [hd] <;> rfl, by rw [hz.2]; exact hod⟩
    exact HandSPX.exc_get I1.kIn J T.ga T.gg T.exC (PySem.W.findObj_own T.hdC hno rfl (by rw [hl, hu])) (handed_of ru) ⟨v, H1, I1.tok _, ru, q⟩)⟩
end
end Hc
set_option maxHeartbeats 2000000
/-! ### an own exception whose context is told to be None: made, let out of a lambda, caught -/
namespace Hc
open PySem PySem.Spec PyProof.Rows L2 HotX Evl So
/-- in the suite the caught one is the handled one -/
theorem hot_suite {X : Cx} {a : Addr} {oe : Obj} {cls : Value} {d : Option Addr} {pn : List (Addr × Obj)} (hz : L2N.Zn cls d oe) (hf : ∃ vs, oe.data = .fields vs) : L2H.Hot1 (X.suite a ((a, oe) :: pn)).A (a, oe) := by
  obtain ⟨vs, hd⟩ := hf
  exact ⟨rfl, vs, hd, hz.2.2 vs hd⟩
section
variable {P : Program} {w : World} {K : PySem.W.Frag} {mg : Str → Option Value} {base : Heap} {x qual : Str} {st : Stmt} {f : Addr} {fd : FuncData} {N ps : List Str} {k : Nat} {sp : Sp}
theorem okN (F : Fun K x qual st f fd) (S : FnScope N ps (defScope st)) (len : ∀ vs H Q E, sp vs H Q E → vs.length = ps.length)
    (body : ∀ (cdv : Value) (A : Around) (outer : List Env) (s : Shared) (H : Hp) (vs : List V) (Q : VK) (E : XK), Room k (A.deeper (envOfC qual (defScope st) s.heap.objs.size f cdv)) → sp vs H Q E →
      ∃ t, PSs (cxOf (L2N.CX P w) P w K mg base N qual (defScope st) f cdv A outer s H E) (defBody st) t ∧ t { nx := fun _ H' => Q .non H', rt := Q } (L2.start N vs) H) : FnOk P w K mg base (L2N.CX P w) (k + 1) f fd ps sp := by
  obtain ⟨oc, od, kV, doc, pm, an, cdv, ct, osl, rfl, lk, hcd⟩ := F.ex
  exact fn_of lk hcd S len fun A outer s H vs Q E hr hsp => body cdv A outer s H vs Q E hr hsp
theorem okHot (F : Fun K x qual st f fd) (S : FnScope N ps (defScope st)) (len : ∀ vs H Q E, sp vs H Q E → vs.length = ps.length)
    (body : ∀ (cdv : Value) (A : Around) (outer : List Env) (s : Shared) (H : Hp) (vs : List V) (Q : VK) (E : XK) (p : Addr × Obj), L2H.Hot1 A p → L2H.RoomH k (A.deeper (envOfC qual (defScope st) s.heap.objs.size f cdv)) → sp vs H Q E →
      ∃ t, PSs (L2H.cxH CX0 P w K mg base N qual (defScope st) f cdv A outer s H E p) (defBody st) t ∧ t { nx := fun _ H' => Q .non H', rt := Q } (L2.start N vs) H) : L2H.FnH P w K mg base CX0 (k + 1) f fd ps sp := by
  obtain ⟨oc, od, kV, doc, pm, an, cdv, ct, osl, rfl, lk, hcd⟩ := F.ex
  exact L2H.fn_ofH lk hcd S len fun A outer s H vs Q E p hot hr hsp => body cdv A outer s H vs Q E p hot hr hsp
end
section
variable {X : Cx} {x : Str} {e : Expr} {es : List Expr} {ta : TA} {p pos : Pos} {C fI : Addr} {k : Nat} {fd : FuncData} {ps : List Str} {sp : Sp}
/-- C(..) for an own exception class whose __init__ is a def: made, its context None -/
theorem pmk_ownN {CX : CXT} (T : OexC X.K C) (iC : PySem.W.findIn X.K (.ref C) "__init__" = some (some (.ref fI))) (tI : PySem.W.typeIn X.K (.ref fI) = some (.type "function")) (G : FnOk X.prog X.w X.K X.mg X.base CX k fI fd ps sp) (hr : Room (k + 1) X.A) (hb : L2.Binds X.K fd ps [])
    (out : Passes CX X (fun _ _ _ => False)) (hg : Gl X x) (hm : X.mg x = some (.ref C)) (ha : PA X (e :: es) ta) (hdb : (x == ("__debug__" : Str)) = false := by decide)
    (he : starEach (e :: es) X.env = (false, eval e X.env) :: starEach es X.env := by rfl) (hpl : (backTo pos (starEach es X.env)).any (·.1) = false := by rfl) : L2N.PMk X (.Call (.Name x p) (e :: es) [] pos) (tMkO C sp [] ta) := by
  intro pins s σ H Q I h
  obtain ⟨_, _, _, _, bm, _, _, _, _, _, _, _, _, _, _, isC, tail⟩ := T.cls
  refine wpAny_Call_Name_kw (ld_glob I hg hm (PySem.W.callWith_K (h₀ := X.base) I.ok.mod.kin T.kC (thn (ha.run pos pins s σ H _ I h) ?_) he hpl) hdb)
  rintro us ⟨h1, g, dr, tk, os⟩ ⟨vs, H1, I1, rv, _, want⟩
  refine ⟨I1.kIn, ?_⟩
  have at1 : h1.objs.size ≤ h1.objs.size + 1 := Nat.le_succ _
  have want := want _ (I1.hok.fresh at1)
  rw [List.append_nil] at want
  obtain ⟨h2, e2⟩ : ∃ h2, h2 = (h1.push (PySem.W.kdv_tup us)).push (PySem.HandSPX.excO C h1.objs.size) := ⟨_, rfl⟩
  have grow : ∀ b o, h1.get? b = some o → h2.get? b = some o := fun b o z => by
    rw [e2]
    exact Heap.get?_push_of_some _ (Heap.get?_push_of_some _ z)
  have there : h2.get? (h1.objs.size + 1) = some (PySem.HandSPX.excO C h1.objs.size) := by
    rw [e2]
    heap_get
  have J := I1.laid (t' := tk) (a := h1.objs.size + 1) (o := exo (h1.objs.size + 1) C none) (h' := h2) grow at1 (exo_ok there)
  have rs : Vals (V.ref (h1.objs.size + 1) :: vs) (Value.ref (h1.objs.size + 1) :: us) := .cons rfl rv
  have many : (Value.ref (h1.objs.size + 1) :: us).length = ps.length := by rw [← rs.length]; exact G.len _ _ _ _ want
  have few : us.length ≤ sizeLine := by
    have : (V.ref (h1.objs.size + 1) :: vs).length = ps.length := G.len _ _ _ _ want
    rw [← Paired.length rv, sizeLine_eq]
    omega
  have bound := hb _ (Value.ref (h1.objs.size + 1) :: us) J.kIn (by rw [List.append_nil]; exact many)
  rw [List.append_nil] at bound
  have made := G.run _ X.stack _ _ ⟨Value.ref (h1.objs.size + 1) :: us, []⟩ (Value.ref (h1.objs.size + 1) :: us) _ _ (fun _ _ _ => False) (hr.make C us []) (J.env0.make C us []) bound rs want
  rw [e2] at made
  refine wpAny_call (PySem.HandSPX.call_own F.excBase_ValueError (fun Y => PySem.HandSPX.refsVE_contains Y bm tail) (I1.kIn _ _ isC) (PySem.W.looks_findIn I1.kIn iC) (fun self => PySem.W.bind_fn I1.kIn self tI) few (codeAny_mono made ?_))
  rintro (er | fl) ⟨h3, g3, d3, t3, os3⟩ hq
  · rw [← e2] at hq
    exact out pins σ _ _ er _ J hq
  · cases fl with
    | ret u =>
      obtain ⟨v, H3, os', bare, un, hok, r, ev, dd, fs, ea, ed, new, q⟩ := hq
      subst ev
      rw [← e2] at un
      obtain ⟨t0, G0, J0, k0, ge, hoe, na⟩ := mk_end0 (d2 := d3) (t2 := t3) I1 at1 grow un hok os' bare ea ed new
      exact ⟨r, _, _, _, ⟨G0, g3, d3, t3, os3⟩, _, .ref C, some dd, rfl, J0, k0, ge, hoe, ⟨rfl, rfl, fun vs z => by cases z; rfl⟩, rfl, rfl, na, rfl, bare, raises_own T.exC T.tyC, q⟩
    | next => exact hq.elim
    | brk => exact hq.elim
    | cont => exact hq.elim
end
end Hc
set_option maxHeartbeats 2000000
/-! ### lambdas that may let such an exception out -/
namespace Hc
open PySem PySem.Spec PyProof.Rows L2 HotX Evl So LamX
/-- the context of the lambda's body; what leaves it has None as its context -/
abbrev bodyN (X : Cx) (A : Around) (outer : List Env) (s : Shared) (H : Hp) (E : XK) (scope : Scope) (f c' : Addr) : Cx :=
  (lamCx X A outer s H E scope f c').tr [] fun e s' => wpAny (model X.prog X.w) (A.deeper (lamEnv X scope s.heap.objs.size f c')) (leaving (lamEnv X scope s.heap.objs.size f c') e) (fun _ s'' => L2N.CX X.prog X.w outer H s E e s'') (fun e' s'' => L2N.CX X.prog X.w outer H s E e' s'') s'
theorem inv_tr {X : Cx} {σ : L2.St} {H : Hp} {s : Shared} (I : Inv X [] σ H s) (xe : Value → Shared → Prop) (hp : X.pn = []) : Inv (X.tr [] xe) [] σ H s :=
  ⟨I.ok.toTry [] xe, I.os, I.bare, I.base, I.loc, I.cell, I.free, I.freeC, fun p hp' => I.pin p (by rw [hp]; exact hp'), I.hok, I.len⟩
section
variable {X : Cx} {pins : List (Addr × Obj)} {σ : L2.St} {H : Hp} {s : Shared}
/-- what the def that got the lambda f knows: how calling it goes -/
def CallsN (X : Cx) (Ng : List Str) (x : Str) (sg : Scope) (g : Addr) (cdg : Value) (a : Str) (q : Str) (f c' : Addr) (s : Shared) (H : Hp) (tl : XK → Hp → VK → Prop) : Prop :=
  ∀ (W : WX) (pn : List (Addr × Obj)) (xe : Value → Shared → Prop) (E : XK) (p1 p2 : Pos), L2N.Takes ((cxOf C8.CX0 X.prog X.w X.K X.mg X.base Ng x sg g cdg X.A X.stack s H C8.E0).tr pn xe) W → (∀ cls d σ' H', E cls d H' → W cls d σ' H') →
    PE ((cxOf C8.CX0 X.prog X.w X.K X.mg X.base Ng x sg g cdg X.A X.stack s H C8.E0).tr pn xe) (.Call (.Name a p1) [] [] p2) (fun σZ HZ Q => σZ[0]? = some (some (.ref f)) ∧ HZ c' = some (CodeO c' q) ∧ tl E HZ Q)
/-- the def's promise, of its lambda's reading -/
def TellsN (X : Cx) (Ng : List Str) (x : Str) (sg : Scope) (g : Addr) (cdg : Value) (bg : List Stmt) (a : Str) (q : Str) (TT : (XK → Hp → VK → Prop) → Hp → VK → Prop) : Prop :=
  ∀ (f c' : Addr) (s : Shared) (H : Hp) (Q : VK) (tl : XK → Hp → VK → Prop), CallsN X Ng x sg g cdg a q f c' s H tl → H c' = some (CodeO c' q) → TT tl H Q →
    ∃ t, PSs (cxOf C8.CX0 X.prog X.w X.K X.mg X.base Ng x sg g cdg X.A X.stack s H C8.E0).nox bg t ∧ t { nx := fun _ H' => Q .non H', rt := Q } (L2.start Ng [.ref f]) H
theorem calls_lam {Ng : List Str} {x : Str} {sg : Scope} {g f c' : Addr} {cdg pm ctv : Value} {params : Arguments} {body : Expr} {scope : Scope} {k : Nat} {a : Str} {tb : XK → TE}
    (I : Inv X pins σ H s) (L : LamS X.env.scope scope) (hf : s.heap.get? f = some (PySem.W.kla_obj "<lambda>" (X.env.qual ++ "<lambda>") params body scope (cloFrom X.env.cells scope.names []) pm c' ctv)) (hfn : H f = none) (hfr : f ∉ frs X.stack)
    (hbind : bindArgs (PySem.W.kla_fn "<lambda>" (X.env.qual ++ "<lambda>") params body scope (cloFrom X.env.cells scope.names []) pm (.ref c') ctv) ⟨[], []⟩ = pure []) (hr : Room (k + 1) (X.A.deeper (envOfC x sg s.heap.objs.size g cdg)))
    (hbody : ∀ (A : Around) (outer : List Env) (s : Shared) (H : Hp) (E : XK), Room k (A.deeper (lamEnv X scope s.heap.objs.size f c')) → PE (bodyN X A outer s H E scope f c') body (tb E))
    (hN : Ng[0]? = some a) (hv : Vis sg a) (hd : (a == ("__debug__" : Str)) = false) (hcd : (a == ("__classdict__" : Str)) = false) : CallsN X Ng x sg g cdg a (X.env.qual ++ "<lambda>") f c' s H fun E H' Q' => tb E σ H' Q' := by
  intro W pn xe E p1 p2 tk hW
  refine ⟨fun pinsZ sZ σZ HZ Q IZ ⟨hs, hc, ht⟩ => wpAny_Call_Name_kw (thn ((pe_var (pos := p1) (i := 0) hN hv hd hcd).run pinsZ sZ σZ HZ (fun v H1 => v = .ref f ∧ H1 = HZ) IZ ⟨.ref f, hs, rfl, rfl⟩) ?_)⟩
  rintro u s1 ⟨v, H1, I1, r1, ev, eH⟩
  subst ev eH
  cases (show u = Value.ref f from r1)
  have lamAt := I1.base.keep f _ hf hfn hfr (fun z => nomatch (show f ∈ ([] : List Addr) from z))
  obtain ⟨⟨oc, vs, t, hoc, hdc, hvc⟩, _, _⟩ := I1.hok c' _ hc
  refine PySem.W.callWith_F0 ⟨_, _, _, _, lamAt⟩ ?_
  have deep := hr.deeper (lamEnv X scope s1.heap.objs.size f c')
  have run : codeAny (model X.prog X.w) (X.A.deeper (envOfC x sg s.heap.objs.size g cdg)) (.call (.ref f) ⟨[], []⟩) (CR (L2N.CX X.prog X.w) (envOfC x sg s.heap.objs.size g cdg :: X.stack) X.prog X.w H1 s1 Q E) s1 := by
    refine PySem.W.kla_callFunE hr.depth lamAt rfl L.co L.gen rfl ⟨c', oc, vs, t, rfl, hoc, hdc, hvc⟩ ?_
    rw [hbind]
    refine wpAny_pure (wpAny_newFunctionEnv (fun y hy => (L.own y hy).2) (fun y hy => absurd hy (by simp)) (fun h₁ hns hsb => ⟨I1.nolimit.fresh _ hsb, ?_⟩) L.kind)
    have kept : ∀ b o, s1.heap.get? b = some o → h₁.get? b = some o := fun b o e => hsb.extBut b o (Nat.ne_of_lt (Heap.lt_size e)) (Heap.get?_push_of_some _ e)
    have J := inv_tr (lam_start2 (E := E) (f := f) (c' := c') (tk := s1.toks + ([] : List (Str × Value)).length) I L I1.env0 hr.hd I1.base hns kept)
      (fun e s' => wpAny (model X.prog X.w) ((X.A.deeper (envOfC x sg s.heap.objs.size g cdg)).deeper (lamEnv X scope s1.heap.objs.size f c')) (leaving (lamEnv X scope s1.heap.objs.size f c') e) (fun _ s'' => L2N.CX X.prog X.w (envOfC x sg s.heap.objs.size g cdg :: X.stack) H1 s1 E e s'') (fun e' s'' => L2N.CX X.prog X.w (envOfC x sg s.heap.objs.size g cdg :: X.stack) H1 s1 E e' s'') s') rfl
    exact PySem.W.kla_codeExpr (wpAny_mono ((hbody _ _ s1 H1 E deep).run [] _ _ H1 Q J ht) (fun v s' ⟨w', H', J', rv, q⟩ => ⟨w', H', J'.os, J'.bare, J'.base, J'.hok, rv, q⟩) fun e s' hq => hq)
  have out := L2N.passes_call tk hW
  refine wpAny_call (codeAny_mono run ?_)
  rintro (e | fl) s' hq
  · exact out pinsZ σZ H1 s1 e s' I1 hq
  · cases fl with
    | ret u => exact I1.after hq
    | next => exact hq.elim
    | brk => exact hq.elim
    | cont => exact hq.elim
/-- x(lambda: body), x a def that takes a lambda -/
theorem pe_lamN {T : List (Addr × Str)} {TT : (XK → Hp → VK → Prop) → Hp → VK → Prop} {x a : Str} {g c P : Addr} {k : Nat} {fd : FuncData} {st : Stmt} {Ng : List Str} {params : Arguments} {body : Expr} {scope : Scope} {t : XK → TE} {p lpos pos : Pos}
    (F : Fun X.K x x st g fd) (hg : Gl X x) (hm : X.mg x = some (.ref g)) (hb : L2.Binds X.K fd [a] []) (Sg : FnScope Ng [a] (defScope st)) (hNg : Ng[0]? = some a) (hva : Vis (defScope st) a)
    (hG : ∀ cdv, TellsN X Ng x (defScope st) g cdv (defBody st) a (X.env.qual ++ "<lambda>") TT)
    (TB : TabB X.base X.mg c P) (hcode : X.env.code = .ref c) (hmT : (P, X.env.qual ++ "<lambda>") ∈ T) (hu : ∀ p ∈ T, p.1 = P → p.2 = X.env.qual ++ "<lambda>") (hr : Room (k + 2) X.A) (L : LamS X.env.scope scope) (hdef : defaultsOf params X.env = ([], []))
    (hbind : ∀ (q : Str) (cl : List (Str × Addr)) (pm cv ctv : Value), bindArgs (PySem.W.kla_fn "<lambda>" q params body scope cl pm cv ctv) ⟨[], []⟩ = pure [])
    (hbody : ∀ (A : Around) (outer : List Env) (s : Shared) (H : Hp) (E : XK) (f c' : Addr), Room k (A.deeper (lamEnv X scope s.heap.objs.size f c')) → PE (bodyN X A outer s H E scope f c') body (t E))
    (hdb : (x == ("__debug__" : Str)) = false := by decide) (hd : (a == ("__debug__" : Str)) = false := by decide) (hcd : (a == ("__classdict__" : Str)) = false := by decide) :
    PE X (.Call (.Name x p) [.Lambda params body scope lpos] [] pos) (tLam T TT t) := by
  have hk := F.kp
  obtain ⟨oc, od, kV, doc, pm, an, cdv, ct, osl, rfl, lk, hcg⟩ := F.ex
  refine ⟨fun pins s σ H Q I ⟨hT, h⟩ => wpAny_Call_Name_kw (ld_glob I hg hm (PySem.W.callWith_K (h₀ := X.base) I.ok.mod.kin hk ?_ (by rfl) (by rfl)) hdb)⟩
  show wpAny _ _ (spliced ((false, eval (.Lambda params body scope lpos) X.env) :: backTo pos (starEach [] X.env))) _ _ s
  refine Calls.spliced_cons (lam_make2 I TB hcode hmT hu hT hdef (L.has I.ok) fun f c' pm' ctv H1 s' I1 eN T1 hf hfn hfr hco => Calls.spliced_nil ⟨I1.kIn, ?_⟩)
  have call : codeAny (model X.prog X.w) X.A (.call (.ref g) ⟨[.ref f], []⟩) (CR C8.CX0 X.stack X.prog X.w H1 s' Q C8.E0) s' :=
    run_ofS (N := Ng) (ps := [a]) (us := [.ref f]) (vs := [.ref f]) lk hcg Sg hr I1.env0 (hb s' [.ref f] I1.kIn rfl) (.cons rfl .nil) rfl fun hr' => by
      obtain ⟨t', ht', hq'⟩ := hG cdv f c' s' H1 Q _ (calls_lam (tb := t) I1 L hf hfn hfr (hbind _ _ _ _ _) hr' (fun A outer s H E hr2 => hbody A outer s H E f c' hr2) hNg hva hd hcd) hco (h H1 eN T1)
      exact ⟨t', ht'.nox, hq'⟩
  refine wpAny_call (codeAny_mono call ?_)
  rintro (e | fl) s2 hq
  · exact (show False from hq).elim
  · cases fl with
    | ret u => exact I1.after hq
    | next => exact hq.elim
    | brk => exact hq.elim
    | cont => exact hq.elim
end
end Hc
set_option maxHeartbeats 2000000
/-! ### k04: made, plus, over, total_of, with what they raise -/
namespace Q4
open PySem PySem.Spec PyProof.Rows L2 Evl Fx Fr Dt Tr K18 So K17 Hc
/-- the error that is due -/
def Rs (C : Addr) (w : Str) (E : XK) (H : Hp) : Prop := ∀ H' dd fs, Ex H H' → H' dd = some (.xd fs) → fs.lookup ("word" : Str) = some (.str w) → fs.lookup ("at" : Str) = some (.int (-1)) → E (.ref C) (some dd) H'
section
variable {P : Program} {w : World} {K : PySem.W.Frag} {mg : Str → Option Value} {base : Heap} {f f1 f2 f3 : Addr} {fd fd1 fd2 fd3 : FuncData} {te tl ta tb : TE} {σ σ2 : L2.St} {H H1 : Hp} {k ka kb n : Nat} {d d0 : PyData} {ds es : List PyData} {g : TG} {vs : List Nat} {C : Addr}
theorem raise_ok {wd : Str} {tr : TA} {E : XK} (e1 : Ex H H1) (r : Rs C wd E H) (hw : (List.lookup ("word" : Str) [(("at" : Str), V.int (-1)), ("word", V.str wd)]) = some (.str wd)) (ha0 : (List.lookup ("at" : Str) [(("at" : Str), V.int (-1)), ("word", V.str wd)]) = some (.int (-1))) (ht : ∀ Q : List V → Hp → Prop, Q [.str wd, .int (-1)] H1 → tr σ H1 Q) : tMkO C (spInit C) [] tr σ H1 fun cls d H' => E cls d H' := by
  refine ht _ ⟨(by show 2 ≤ 1000; decide), fun a ha => ⟨a, .str wd, .int (-1), rfl, upd_same, fun dx hdx hne => ?_⟩⟩
  have hd1 : H1 dx = none := by rwa [upd_ne hne] at hdx
  refine ⟨rfl, dx, [("at", .int (-1)), ("word", .str wd)], by rw [upd_ne hne.symm]; exact upd_same, upd_same, hd1, r _ dx _ (fun b o h => ?_) upd_same hw ha0⟩
  have h1 := e1 _ _ h
  have b1 : b ≠ a := fun z => by rw [z, ha] at h1; cases h1
  have b2 : b ≠ dx := fun z => by rw [z, hd1] at h1; cases h1
  rw [upd_ne b2, del_ne b1, upd_ne b2, upd_ne b1, upd_ne b2, upd_ne b1]
  exact h1
theorem no_out {X : Cx} : Passes (L2.CX X.prog X.w) X (fun _ _ _ => False) := fun _ _ _ _ _ _ _ h => by
  obtain ⟨_, _, _, _, _, _, _, _, _, _, _, _, z⟩ := h
  exact z.elim
/-- what is asked for the class NotUsable to be raised -/
structure Nu (P : Program) (w : World) (K : PySem.W.Frag) (mg : Str → Option Value) (base : Heap) (C f1 : Addr) (fd1 : FuncData) : Prop where
  T : OexC K C
  gC : mg "NotUsable" = some (.ref C)
  iC : PySem.W.findIn K (.ref C) "__init__" = some (some (.ref f1))
  tI : PySem.W.typeIn K (.ref f1) = some (.type "function")
  F1 : FnOk P w K mg base (L2.CX P w) 1 f1 fd1 ["self", "word", "at"] (spInit C)
  B1 : L2.Binds K fd1 ["self", "word", "at"] []
theorem ps_nu {X : Cx} {W : L2.WX} {wd : Str} {j : Nat} {p1 p2 p3 p4 p5 pos : Pos} (hc : X.calm = true) (tk : L2N.Takes X W) (n : Nu X.prog X.w X.K X.mg X.base C f1 fd1) (hr : Room 2 X.A) (hg : Gl X "NotUsable") :
    PS X (.Raise (some (.Call (.Name "NotUsable" p1) [.Constant (.str wd) j p2, .UnaryOp .USub (.Constant (.int 1) 0 p3) p4] [] p5)) none pos) (fun _ σ H => tMkO C (spInit C) [] (tCons (tC (.str wd)) (tCons (tUn (rU fun i => .int (-i)) (tC (.int 1))) tNil)) σ H fun cls d H' => W cls d σ H') :=
  L2N.ps_raise hc tk (pmk_ownN n.T n.iC n.tI n.F1 hr n.B1 no_out hg n.gC (pa_cons pe_str (pa_cons (pe_un un_neg pe_int) pa_nil)))
theorem neg1 {wd : Str} (Q : List V → Hp → Prop) (q : Q [.str wd, .int (-1)] H1) : (tCons (tC (.str wd)) (tCons (tUn (rU fun i => .int (-i)) (tC (.int 1))) tNil)) σ H1 Q := ⟨1, rfl, q⟩
theorem rv_eqI {a b : Int} (ha : EvR F0 ta σ H 0 (fun x _ => x = .int a)) (hb : EvR F0 tb σ H 0 (fun x _ => x = .int b)) : EvR F0 (tOp rEq ta tb) σ H 0 (fun x _ => x = .bl (decide (a = b))) := by
  have h := rv_op (ka := 0) (kb := 0) (z := .bl (decide (V.int a = V.int b))) F0.ok ha hb (fun _ => rv_eq rfl)
  have e : decide (V.int a = V.int b) = decide (a = b) := decide_eq_decide.mpr ⟨fun h => V.int.inj h, fun h => by rw [h]⟩
  rw [e] at h
  exact h
theorem rv_add {i j : Int} (ha : EvR F0 ta σ H 0 (fun x _ => x = .int i)) (hb : EvR F0 tb σ H 0 (fun x _ => x = .int j)) : EvR F0 (tOp (rI0 fun i j => .int (i + j)) ta tb) σ H 0 (fun x _ => x = .int (i + j)) :=
  rv_op (ka := 0) (kb := 0) F0.ok ha hb fun _ => rv_I0 (g := fun i j => .int (i + j))
def intN : PyData → Int
  | .int i => i
  | _ => 0
theorem int_of {d : PyData} (h : isIntB d = true) : d = .int (intN d) := by cases d <;> first | rfl | (exact absurd h (by simp [isIntB]))
def spMadeX (K : PySem.W.Frag) (C : Addr) : Sp := fun vs H Q E => ∃ (v1 v2 : V) (d1 d2 : PyData), vs = [v1, v2] ∧ Dp K H v1 d1 ∧ Dp K H v2 d2 ∧ ((isIntB d1 && isIntB d2) = false → Rs C "integer" E H) ∧
  (isIntB d1 = true → isIntB d2 = true → (intN d2 = 0 → Rs C "zero" E H) ∧ (intN d2 ≠ 0 → okR (intN d1) (intN d2) ∧ ∀ v H', Ex H H' → Dp K H' v (frD (Rat.divInt (intN d1) (intN d2))) → Q v H'))
theorem scMadeX : FnScope ["p", "q"] ["p", "q"] (defScope (K18.topS 19)) := ⟨rfl, rfl, rfl, by decide +kernel, rfl, by decide +kernel, by decide +kernel⟩
theorem ok_madeX (F : Fun K "made" "made" (K18.topS 19) f fd) (cI : C8.Cal P w K mg base 2 "is_integer" (spWhole K) []) (cR : C8.Cal P w K mg base 1 "reduced_pair" (spMade K) []) (n : Nu P w K mg base C f1 fd1) : FnOk P w K mg base (L2N.CX P w) 3 f fd ["p", "q"] (spMadeX K C) := by
  refine okN F scMadeX (fun vs H Q E h => ?_) (fun cdv A outer s H vs Q E hr h => ?_)
  · obtain ⟨v1, v2, d1, d2, rfl, _⟩ := h
    rfl
  · obtain ⟨v1, v2, d1, d2, rfl, p1, p2, qb, qg⟩ := h
    refine ⟨_, pss_cons (ps_if (PW.pt (pw_or (pt_not (pt_val (C8.pe_c cI hr (by decide) (by rfl) (pa_cons (pv 0) pa_nil)))) (pw_or1 (pt_not (pt_val (C8.pe_c cI hr (by decide) (by rfl) (pa_cons (pv 1) pa_nil))))))) (pss_one (ps_nu rfl (L2N.takes_of rfl rfl rfl rfl) n (hr.mono (by decide)) (by rfl))) pss_nil)
      (pss_cons (ps_if (pt_cmpR op_eq (pv 1) pe_int (nomark _)) (pss_one (ps_nu rfl (L2N.takes_of rfl rfl rfl rfl) n (hr.mono (by decide)) (by rfl))) pss_nil)
      (pss_one (ps_ret (C8.pe_c cR hr (by decide) (by rfl) (pa_cons (pv 0) (pa_cons (pv 1) pa_nil)))))), ?_⟩
    have r0 : ∀ {H2 : Hp}, Ex H H2 → EvR F0 (tCall (spWhole K) [] C8.E0 (tCons (tVar 0) tNil)) [some v1, some v2] H2 0 (fun x _ => x = .bl (isIntB d1)) := fun e => rv_whole rfl (dp_ex e _ _ p1)
    have r1 : ∀ {H2 : Hp}, Ex H H2 → EvR F0 (tCall (spWhole K) [] C8.E0 (tCons (tVar 1) tNil)) [some v1, some v2] H2 0 (fun x _ => x = .bl (isIntB d2)) := fun e => rv_whole rfl (dp_ex e _ _ p2)
    refine q_whenR (F := F0) (n := 0) (k := 0) (b := !isIntB d1 || !isIntB d2) (rt_or (ka := 0) (kb := 0) F0.ok (rt_not (rt_val (r0 (Ex.refl H)))) fun _ => rt_not (rt_val (r1 (Ex.refl H)))) F0.g (Nat.le_refl _) (fun hb H1 e1 _ => ?_) fun hb H1 e1 _ => ?_
    · exact raise_ok (F0.ex e1) (qb (by revert hb; cases isIntB d1 <;> cases isIntB d2 <;> simp)) (by decide +kernel) (by decide +kernel) fun Q q => neg1 Q q
    · have g1 : isIntB d1 = true := by revert hb; cases isIntB d1 <;> simp
      have g2 : isIntB d2 = true := by revert hb; cases isIntB d1 <;> cases isIntB d2 <;> simp
      obtain ⟨qz, qn⟩ := qg g1 g2
      rw [int_of g1] at p1
      rw [int_of g2] at p2
      cases p1
      cases p2
      replace e1 := F0.ex e1
      refine q_whenR (F := F0) (n := 0) (k := 0) (b := decide (intN d2 = 0)) (rt_B (rv_eqI (rv_var rfl) rv_c)) F0.g (Nat.le_refl _) (fun hb H2 e2 _ => ?_) fun hb H2 e2 _ => ?_
      · exact raise_ok (e1.trans (F0.ex e2)) (qz (of_decide_eq_true hb)) (by decide +kernel) (by decide +kernel) fun Q q => neg1 Q q
      · obtain ⟨ok, q⟩ := qn (of_decide_eq_false hb)
        exact s_retR (F := F0) (n := 0) (k := 0) (P := IsD K (frD (Rat.divInt (intN d1) (intN d2)))) (rd_call F0.ok (ra_cons (ka := 0) (kb := 0) F0.ok (rd_ofI (rv_var rfl)) (ra_cons (ka := 0) (kb := 0) F0.ok (rd_ofI (rv_var rfl)) ra_nil)) ⟨_, _, ok, rfl, rfl⟩) F0.g (Nat.le_refl _) fun v H3 e _ hv => q v H3 (e1.trans ((F0.ex e2).trans (F0.ex e))) hv
/-! ### plus, over -/
theorem scPlus : FnScope ["one", "other"] ["one", "other"] (defScope (K18.topS 21)) := ⟨rfl, rfl, rfl, by decide +kernel, rfl, by decide +kernel, by decide +kernel⟩
theorem ok_plus (F : Fun K "plus" "plus" (K18.topS 21) f fd) (cR : C8.Cal P w K mg base 1 "reduced_pair" (spMade K) []) : FnOk P w K mg base CX0 2 f fd ["one", "other"] (spOpF K (· + ·)) := by
  refine F.ok scPlus (fun vs H Q E h => ?_) (fun cdv A outer s H vs Q E hr h => ?_)
  · obtain ⟨ds, es, hd, ⟨x, y, _, rfl, _⟩, _⟩ := h
    exact dps_len hd
  · obtain ⟨ds, es, hd, ⟨x, y, ⟨n, m, h1, h2, hs⟩, rfl, rfl⟩, q⟩ := h
    match vs, hd with
    | [v1, v2], .cons p1 (.cons p2 .nil) =>
    refine ⟨_, pss_one (ps_ret (C8.pe_c cR hr (by decide) (by rfl) (pa_cons (pe_op op_add (pe_op op_mulW (pe_ix ix_tup (pv 0) pe_int (fun _ _ => rfl)) (pe_ix ix_tup (pv 1) pe_int (fun _ _ => rfl))) (pe_op op_mulW (pe_ix ix_tup (pv 1) pe_int (fun _ _ => rfl)) (pe_ix ix_tup (pv 0) pe_int (fun _ _ => rfl)))) (pa_cons (pe_op op_mulW (pe_ix ix_tup (pv 0) pe_int (fun _ _ => rfl)) (pe_ix ix_tup (pv 1) pe_int (fun _ _ => rfl))) pa_nil)))), ?_⟩
    have d1 : (x.den : Int).natAbs < 2 ^ n := h1.2
    have d2 : (y.den : Int).natAbs < 2 ^ m := h2.2
    refine s_retR (F := F0) (n := 0) (k := 0) (P := IsD K (frD (x + y))) ?_ F0.g (Nat.le_refl _) fun v H1 e _ hv => q v H1 (F0.ex e) hv
    have t2 := im_lt h2.1 d1
    rw [Nat.add_comm m n] at t2
    refine EvR.cast (rd_call F0.ok (ra_cons (ka := 0) (kb := 0) F0.ok (rd_ofI (rv_add (rv_mul (rv_num (i := 0) rfl p1) (rv_den (i := 1) rfl p2) h1.1 d2 (by omega)) (rv_mul (rv_num (i := 1) rfl p2) (rv_den (i := 0) rfl p1) h2.1 d1 (by omega)))) (ra_cons (ka := 0) (kb := 0) F0.ok (rd_ofI (rv_mul (rv_den (i := 0) rfl p1) (rv_den (i := 1) rfl p2) d1 d2 (by omega))) ra_nil)) ⟨_, _, ⟨Int.mul_ne_zero (den_ne x) (den_ne y), lt_up (ia_lt (im_lt h1.1 d2) t2) (by omega), lt_up (im_lt d1 d2) (by omega)⟩, rfl, rfl⟩) (congrArg frD (add_eq x y))
def spOverX (K : PySem.W.Frag) (C : Addr) : Sp := fun vs H Q E => ∃ (v1 v2 : V) (x y : Rat), vs = [v1, v2] ∧ Dp K H v1 (frD x) ∧ Dp K H v2 (frD y) ∧ okB 1 x y ∧ (y = 0 → Rs C "zero" E H) ∧ (y ≠ 0 → ∀ v H', Ex H H' → Dp K H' v (frD (x / y)) → Q v H')
theorem scOver : FnScope ["one", "other"] ["one", "other"] (defScope (K18.topS 24)) := ⟨rfl, rfl, rfl, by decide +kernel, rfl, by decide +kernel, by decide +kernel⟩
theorem ok_overX (F : Fun K "over" "over" (K18.topS 24) f fd) (cR : C8.Cal P w K mg base 1 "reduced_pair" (spMade K) []) (n : Nu P w K mg base C f1 fd1) : FnOk P w K mg base (L2N.CX P w) 3 f fd ["one", "other"] (spOverX K C) := by
  refine okN F scOver (fun vs H Q E h => ?_) (fun cdv A outer s H vs Q E hr h => ?_)
  · obtain ⟨v1, v2, x, y, rfl, _⟩ := h
    rfl
  · obtain ⟨v1, v2, x, y, rfl, p1, p2, ⟨i, m, h1, h2, hs⟩, qz, qn⟩ := h
    refine ⟨_, pss_cons (ps_if (pt_cmpR op_eq (pe_ix ix_tup (pv 1) pe_int (fun _ _ => rfl)) pe_int (nomark _)) (pss_one (ps_nu rfl (L2N.takes_of rfl rfl rfl rfl) n (hr.mono (by decide)) (by rfl))) pss_nil)
      (pss_one (ps_ret (C8.pe_c cR hr (by decide) (by rfl) (pa_cons (pe_op op_mulW (pe_ix ix_tup (pv 0) pe_int (fun _ _ => rfl)) (pe_ix ix_tup (pv 1) pe_int (fun _ _ => rfl))) (pa_cons (pe_op op_mulW (pe_ix ix_tup (pv 0) pe_int (fun _ _ => rfl)) (pe_ix ix_tup (pv 1) pe_int (fun _ _ => rfl))) pa_nil))))), ?_⟩
    have d1 : (x.den : Int).natAbs < 2 ^ i := h1.2
    have d2 : (y.den : Int).natAbs < 2 ^ m := h2.2
    refine q_whenR (F := F0) (n := 0) (k := 0) (b := decide (y.num = 0)) (rt_B (rv_eqI (rv_num (i := 1) rfl p2) rv_c)) F0.g (Nat.le_refl _) (fun hb H1 e1 _ => ?_) fun hb H1 e1 _ => ?_
    · exact raise_ok (F0.ex e1) (qz (Rat.num_eq_zero.mp (of_decide_eq_true hb))) (by decide +kernel) (by decide +kernel) fun Q q => neg1 Q q
    · have nz : y ≠ 0 := fun z => of_decide_eq_false hb (by rw [z]; rfl)
      replace e1 := F0.ex e1
      have r1 := dp_ex e1 _ _ p1
      have r2 := dp_ex e1 _ _ p2
      refine s_retR (F := F0) (n := 0) (k := 0) (P := IsD K (frD (x / y))) ?_ F0.g (Nat.le_refl _) fun v H2 e _ hv => qn nz v H2 (e1.trans (F0.ex e)) hv
      have t2 := im_lt d1 h2.1
      refine EvR.cast (rd_call F0.ok (ra_cons (ka := 0) (kb := 0) F0.ok (rd_ofI (rv_mul (rv_num (i := 0) rfl r1) (rv_den (i := 1) rfl r2) h1.1 d2 (by omega))) (ra_cons (ka := 0) (kb := 0) F0.ok (rd_ofI (rv_mul (rv_den (i := 0) rfl r1) (rv_num (i := 1) rfl r2) d1 h2.1 (by omega))) ra_nil)) ⟨_, _, ⟨Int.mul_ne_zero (den_ne x) (num_ne nz), lt_up (im_lt h1.1 d2) (by omega), lt_up t2 (by omega)⟩, rfl, rfl⟩) (congrArg frD (div_eq x y))
end
end Q4
set_option maxHeartbeats 2000000
/-! ### k04: total_of -/
namespace Q4
open PySem PySem.Spec PyProof.Rows L2 Evl Fx Fr Dt Tr K18 So K17 Hc
section
variable {P : Program} {w : World} {K : PySem.W.Frag} {mg : Str → Option Value} {base : Heap} {f f1 f2 f3 : Addr} {fd fd1 fd2 fd3 : FuncData} {te tl ta tb : TE} {σ σ2 : L2.St} {H H1 : Hp} {k ka kb n : Nat} {d d0 : PyData} {ds es : List PyData} {g : TG} {vs : List Nat} {C : Addr}
def intsD (xs : List Int) : PyData := .tuple (xs.map PyData.int)
theorem ints_flat : ∀ xs : List Int, flats (xs.map PyData.int) = true
  | [] => rfl
  | x :: xs => by rw [List.map_cons, flats_cons]; exact ⟨rfl, ints_flat xs⟩
theorem dps_vals : ∀ (ns : List Int) (vs : List V), DpAll K H vs (ns.map PyData.int) → vs = ns.map V.int
  | [], _, h => by cases h; rfl
  | n :: ns, _, h => by
    cases h with
    | cons h1 h2 =>
      cases h1
      rw [List.map_cons, dps_vals ns _ h2]
theorem rv_sumL {ns : List Int} (h : EvR F0 te σ H 0 (IsL F0 K (ns.map PyData.int))) : EvR F0 (tCB (rSum K) (tCons te tNil)) σ H 0 (fun x _ => x = .int ns.sum) := fun n H1 hn g e Q q =>
  h n H1 hn g e _ fun v H2 e2 g2 ⟨a, xs, ev, hT, ha, hd⟩ => ⟨a, ns, by rw [ev], by rw [dps_vals ns xs hd] at ha; exact sq_of ha, q _ H2 e2 g2 rfl⟩
theorem rv_neI {a b : Int} (ha : EvR F0 ta σ H 0 (fun x _ => x = .int a)) (hb : EvR F0 tb σ H 0 (fun x _ => x = .int b)) : EvR F0 (tOp rNe ta tb) σ H 0 (fun x _ => x = .bl (!decide (a = b))) := by
  have h := rv_op (ka := 0) (kb := 0) (r := rNe) (z := .bl (!decide (V.int a = V.int b))) F0.ok ha hb (fun _ => rv_ne rfl)
  have e : decide (V.int a = V.int b) = decide (a = b) := decide_eq_decide.mpr ⟨fun h => V.int.inj h, fun h => by rw [h]⟩
  rw [e] at h
  exact h
/-- small enough to be multiplied -/
def Sm4 (xs : List Int) : Prop := ∀ x ∈ xs, x.natAbs < 2 ^ 400
def spTotX (K : PySem.W.Frag) (C : Addr) : Sp := fun vs H Q E => ∃ (v1 v2 : V) (xs ys : List Int), vs = [v1, v2] ∧ Dp K H v1 (intsD xs) ∧ Dp K H v2 (intsD ys) ∧ xs.length ≤ 1000 ∧ ys.length ≤ 1000 ∧ Sm4 xs ∧ Sm4 ys ∧ (xs.length ≠ ys.length → Rs C "many" E H) ∧ (xs.length = ys.length → ∀ H', Ex H H' → Q (.int (dot xs ys)) H')
def nTot : List Str := ["question", "crowd", "integer", "number"]
theorem scTotX : FnScope nTot ["question", "crowd"] (defScope (K18.topS 26)) := ⟨rfl, rfl, rfl, by decide +kernel, rfl, by decide +kernel, by decide +kernel⟩
theorem ok_totX (F : Fun K "total_of" "total_of" (K18.topS 26) f fd) (n : Nu P w K mg base C f1 fd1) (m_len : mg "len" = none) (m_sum : mg "sum" = none) (m_zip : mg "zip" = none) : FnOk P w K mg base (L2N.CX P w) 3 f fd ["question", "crowd"] (spTotX K C) := by
  refine okN F scTotX (fun vs H Q E h => ?_) (fun cdv A outer s H vs Q E hr h => ?_)
  · obtain ⟨v1, v2, x, y, rfl, _⟩ := h
    rfl
  · obtain ⟨v1, v2, xs, ys, rfl, p1, p2, l1, l2, s1, s2, qm, qg⟩ := h
    refine ⟨_, pss_cons (ps_if (pt_cmpR op_ne (pe_callB (r := rLenS K) call_lenS (by rfl) m_len PySem.boot_len (pa_cons (pv 0) pa_nil)) (pe_callB (r := rLenS K) call_lenS (by rfl) m_len PySem.boot_len (pa_cons (pv 1) pa_nil)) (nomark _)) (pss_one (ps_nu rfl (L2N.takes_of rfl rfl rfl rfl) n (hr.mono (by decide)) (by rfl))) pss_nil)
      (pss_one (ps_ret (pe_callB (cr_sum rfl) (by rfl) m_sum (by decide +kernel) (pa_cons (pe_lc (own := [("integer", 2), ("number", 3)]) (g := gTup K 2 (gCons (gName 2) (gCons (gName 3) gNil))) (by rfl) scTotX.nd (RZ.pi_zipA (by rfl) m_zip (pa_cons (pv 0) (pa_cons (pv 1) pa_nil))) (blkOk_by (own := [("integer", 2), ("number", 3)]) (N := nTot) (sc := defScope (K18.topS 26)) (by decide +kernel)) (fun _ _ _ _ _ => pg_tup (by rfl) (pgs_cons (pg_name (i := 2) scTotX.nd rfl (Or.inl rfl)) (pgs_cons (pg_name (i := 3) scTotX.nd rfl (Or.inl rfl)) pgs_nil))) (fun _ _ _ _ _ => pts_nil) (fun _ _ _ _ _ => pe_op op_mulW (pv 2) (pv 3))) pa_nil)))), ?_⟩
    have n1 : (!decide ((((xs.map PyData.int).length : Nat) : Int) = (((ys.map PyData.int).length : Nat) : Int))) = !decide (xs.length = ys.length) := by
      rw [List.length_map, List.length_map]
      congr 1
      exact decide_eq_decide.mpr ⟨fun h => by omega, fun h => by rw [h]⟩
    refine q_whenR (F := F0) (n := 0) (k := 0) (b := !decide (xs.length = ys.length)) (rt_B (by rw [← n1]; exact rv_neI (rv_lenT (rd_var0 rfl p1)) (rv_lenT (rd_var0 rfl p2)))) F0.g (Nat.le_refl _) (fun hb H1 e1 _ => ?_) fun hb H1 e1 _ => ?_
    · exact raise_ok (F0.ex e1) (qm (by simpa using hb)) (by decide +kernel) (by decide +kernel) fun Q q => neg1 Q q
    · have hl : xs.length = ys.length := by simpa using hb
      replace e1 := F0.ex e1
      have r1 := dp_ex e1 _ _ p1
      have r2 := dp_ex e1 _ _ p2
      have zl : (List.zipWith (· * ·) xs ys).length = (xs.map PyData.int).length := by rw [List.length_zipWith, List.length_map]; omega
      have lc := r_lcZ (F := F0) (K := K) (k := 0) (kt := 0) (ke := 0) (H := H1) (σ := [some v1, some v2, none, none]) (g := gTup K 2 (gCons (gName 2) (gCons (gName 3) gNil))) (tt := tYes) (te := tOp (rI CMulW fun i j => .int (i * j)) (tVar 2) (tVar 3)) (tr := tCons (tVar 0) (tCons (tVar 1) tNil)) (vs := [2, 3]) (ds := xs.map PyData.int) (es := ys.map PyData.int)
        F0.ok (fun _ => true) (fun i => ((List.zipWith (· * ·) xs ys).map PyData.int).getD i .none) (ra_cons0 (rd_var0 rfl r1) (ra_one (rd_var0 rfl r2))) (ints_flat xs) (ints_flat ys) (by rw [List.length_map, List.length_map]; omega) (by rw [List.length_map]; omega) (fun j hj _ => ?_)
        (fun i x y T d d' n H' hi hj dx dy hT _ e => by
          rw [List.getElem?_map] at hi hj
          obtain ⟨a, ea, rfl⟩ := Option.map_eq_some_iff.mp hi
          obtain ⟨b, eb, rfl⟩ := Option.map_eq_some_iff.mp hj
          cases dx
          cases dy
          refine ⟨_, fun Q q => ⟨T, _, rfl, hT, rfl, _, _, rfl, _, _, rfl, rfl, q⟩, rfl, fun n H1 hn g e Q q => q H1 Kx.refl g, fun _ => ?_⟩
          have ez : ((List.zipWith (· * ·) xs ys).map PyData.int).getD i .none = .int (a * b) := by
            rw [List.getD_eq_getElem?_getD, List.getElem?_map, List.getElem?_zipWith, ea, eb]
            rfl
          show EvR F0 _ _ H' 0 (IsD K (((List.zipWith (· * ·) xs ys).map PyData.int).getD i .none))
          rw [ez]
          exact rd_ofI (rv_mul (n := 400) (m := 400) (rv_var rfl) (rv_var rfl) (s1 _ (List.mem_of_getElem? ea)) (s2 _ (List.mem_of_getElem? eb)) (by decide)))
      · rw [outs_getD .none ((List.zipWith (· * ·) xs ys).map PyData.int) (by rw [List.length_map, zl]), show 0 + (xs.map PyData.int).length * (0 + 0) = 0 from by simp] at lc
        refine s_retR (F := F0) (n := 0) (k := 0) (P := fun x _ => x = .int (List.zipWith (· * ·) xs ys).sum) (rv_sumL lc) F0.g (Nat.le_refl _) fun v H2 e2 _ hv => ?_
        subst hv
        show Q _ H2
        rw [dot_sum]
        exact qg hl H2 (e1.trans (F0.ex e2))
      · have hz : j < (List.zipWith (· * ·) xs ys).length := by rw [zl]; exact hj
        rw [List.getD_eq_getElem?_getD, List.getElem?_map, List.getElem?_eq_getElem hz]
        rfl
end
end Q4
namespace Q4
open PySem PySem.Spec PyProof.Rows L2 Evl Fx Fr Dt K18
abbrev sReader : Stmt := K18.topS 28
abbrev sDraw : Stmt := K18.topS 29
theorem scReader : FnScope ["_law_script"] ["_law_script"] (defScope sReader) := ⟨rfl, rfl, rfl, by decide +kernel, rfl, by decide +kernel, by decide +kernel⟩
theorem scDraw : FnScope ["_law_reader_here", "_law_many", "_law_calls", "_law_figure", "_law_spot", "_law_cells", "_law_cell", "_law_once"] ["_law_reader_here", "_law_many"] (defScope sDraw) := ⟨rfl, rfl, rfl, by decide +kernel, rfl, by decide +kernel, by decide +kernel⟩
section
variable {P : Program} {w : World} {K : PySem.W.Frag} {mg : Str → Option Value} {base : Heap} {f : Addr} {fd : FuncData}
theorem merge_rd (l : Addr) : mergeK ([] : List (Key × V)) [(.inr "cells", .ref l), (.inr "spot", .int 0), (.inr "rest", .int 0), (.inr "calls", .int 0)] = rdK l 0 0 0 := by
  show putK (putK (putK (putK ([] : List (Key × V)) (.inr "cells") (.ref l)) (.inr "spot") (.int 0)) (.inr "rest") (.int 0)) (.inr "calls") (.int 0) = rdK l 0 0 0
  have e1 : putK ([] : List (Key × V)) (.inr "cells") (.ref l) = [(.inr "cells", .ref l)] := putK_new _ valV_nil
  have e2 : putK ([(.inr "cells", .ref l)] : List (Key × V)) (.inr "spot") (.int 0) = [(.inr "cells", .ref l), (.inr "spot", .int 0)] := putK_new _ ((valV_neg n1).trans valV_nil)
  have e3 : putK ([(.inr "cells", .ref l), (.inr "spot", .int 0)] : List (Key × V)) (.inr "rest") (.int 0) = [(.inr "cells", .ref l), (.inr "spot", .int 0), (.inr "rest", .int 0)] := putK_new _ ((valV_neg n2).trans ((valV_neg n4).trans valV_nil))
  have e4 : putK ([(.inr "cells", .ref l), (.inr "spot", .int 0), (.inr "rest", .int 0)] : List (Key × V)) (.inr "calls") (.int 0) = rdK l 0 0 0 := putK_new _ ((valV_neg n3).trans ((valV_neg n5).trans ((valV_neg n6).trans valV_nil)))
  rw [e1, e2, e3, e4]
def spReader (K : PySem.W.Frag) : Sp := fun vs H Q _ => ∃ (a : Addr) (ns : List Int), vs = [.ref a] ∧ SqL K H a (ns.map V.int) ∧ ∀ H' d l, Ex H H' → RdAt H' d l 0 → Q (.ref d) H'
theorem ok_reader (F : Fun K "_law_reader" "_law_reader" sReader f fd) (m_list : mg "list" = none) : FnOk P w K mg base CX0 1 f fd ["_law_script"] (spReader K) := by
  refine F.ok scReader (fun vs H Q E h => ?_) (fun cdv A outer s H vs Q E hr h => ?_)
  · obtain ⟨a, ns, rfl, _⟩ := h
    rfl
  · obtain ⟨a, ns, rfl, hS, q⟩ := h
    refine ⟨_, pss_one (ps_ret (pe_disp (pps_cons pe_str (pe_callTy call_list_of (by rfl) m_list (by decide +kernel) (pa_cons (pe_slice sl_list (pv 0) po_none (po_some pe_int)) pa_nil)) (pps_cons pe_str pe_int (pps_cons pe_str pe_int (pps_cons pe_str pe_int pps_nil)))) (by rfl) (by rfl) (fun z => by cases z) (by decide))), ?_⟩
    intro p hp
    have s1 : Ex H (upd H p (.dK [])) := Ex.new hp
    -- list(script[:63])
    refine ⟨.ref a, rfl, 63, rfl, a, ns.map V.int, rfl, ex_l s1 hS, fun c hc => ?_⟩
    have s2 := Ex.new (o := HO.lst (cutV (ns.map V.int) none (some 63))) hc
    refine ⟨c, _, rfl, .inl (sq_of upd_same), fun l hl => ?_⟩
    have s3 := Ex.new (o := HO.lst (cutV (ns.map V.int) none (some 63))) hl
    have npc : p ≠ c := ne_of_none upd_same hc
    have npl : p ≠ l := ne_of_none (s2 p _ upd_same) hl
    refine ⟨by rw [upd_ne npl, upd_ne npc, upd_same], [(.inr "cells", .ref l), (.inr "spot", .int 0), (.inr "rest", .int 0), (.inr "calls", .int 0)], rfl, (by show 4 ≤ 15; decide), ?_⟩
    have em := merge_rd l
    have ec : cutV (ns.map V.int) none (some 63) = (ns.take 63).map V.int := by
      unfold cutV
      rw [HT.sIx_none, show HT.sIx (ns.map V.int).length (ns.map V.int).length (some 63) = min 63 (ns.map V.int).length from HT.sIx_nat _ _ 63, List.drop_zero, Nat.sub_zero, List.map_take]
      rw [List.take_eq_take_iff]
      omega
    refine q _ p l (fun b o hb => ?_) ⟨ns.take 63, 0, 0, 0, ?_, ?_, ?_, Int.le_refl 0, Int.le_refl 0, Int.le_refl 0⟩
    · rw [upd_ne (ne_of_none hb hp)]
      exact s3 _ _ (s2 _ _ (s1 _ _ hb))
    · rw [upd_same, em]
    · rw [upd_ne npl.symm, upd_same, ec]
    · rw [List.length_take]
      omega

theorem natAbs_lt64 {x : Int} (h0 : 0 ≤ x) (h : x < 2 ^ 64) : x.natAbs < 2 ^ 64 := by omega
theorem ok_draw (F : Fun K "_law_draw" "_law_draw" sDraw f fd) (m_int : mg "int" = none) (m_len : mg "len" = none) : FnOk P w K mg base CX0 1 f fd ["_law_reader_here", "_law_many"] Fx.spDraw := by
  refine F.ok scDraw (fun vs H Q E h => ?_) (fun cdv A outer s H vs Q E hr h => ?_)
  · obtain ⟨d, l, many, n, rfl, _⟩ := h
    rfl
  · obtain ⟨d, l, many, n, rfl, ⟨ns, sp, rest, calls, hd, hl, hn, hs0, hc0, hcn⟩, hn2, hm0, hm1, q⟩ := h
    have hu := hu_of hr
    have dv : ∀ i : Int, CDivW i many := fun i => wide_div (b := 60) hm0 (by omega) (by decide) (by decide)
    have nl : l ≠ d := ne_of hl hd (by intro z; cases z)
    have hL : ∀ o, (upd H d o) l = some (.lst (ns.map V.int)) := fun o => by
      rw [upd_ne nl]
      exact hl
    have rd : ∀ (a b : Int), 0 ≤ a → RdAt (upd H d (.dK (rdK l a b (calls + 1)))) d l (n + 1) := fun a b ha => ⟨ns, a, b, calls + 1, upd_same, hL _, hn, ha, by omega, by omega⟩
    have md : ∀ i : Int, 0 ≤ i % many ∧ i % many < many := fun i => ⟨Int.emod_nonneg i (by omega), Int.emod_lt_of_pos i hm0⟩
    refine ⟨_, (pss_cons (ps_set (i := 2) scDraw.nd rfl (.inl rfl) (pe_op op_add (pe_dget hu (pv 0) pe_str (fun _ _ => rfl)) pe_int))
      (pss_cons (ps_dput hu (pv 0) pe_str (pv 2) rfl)
      (pss_cons (ps_if (pt_cmpR op_gt (pe_dget hu (pv 0) pe_str (fun _ _ => rfl)) pe_int (nomark _)) (pss_cons (ps_set (i := 3) scDraw.nd rfl (.inl rfl) (pe_op op_mod (pe_callTy call_int1 (by rfl) m_int (by decide +kernel) (pa_cons (pe_dget hu (pv 0) pe_str (fun _ _ => rfl)) pa_nil)) (pv 1)))
      (pss_cons (ps_dput hu (pv 0) pe_str (pe_op op_fdivW (pe_dget hu (pv 0) pe_str (fun _ _ => rfl)) (pv 1)) rfl)
      (pss_one (ps_ret (pv 3))))) pss_nil)
      (pss_cons (ps_set (i := 4) scDraw.nd rfl (.inl rfl) (pe_dget hu (pv 0) pe_str (fun _ _ => rfl)))
      (pss_cons (ps_dput hu (pv 0) pe_str (pe_op op_add (pv 4) pe_int) rfl)
      (pss_cons (ps_set (i := 5) scDraw.nd rfl (.inl rfl) (pe_dget hu (pv 0) pe_str (fun _ _ => rfl)))
      (pss_cut (ps_set (i := 6) scDraw.nd rfl (.inl rfl) (pe_ifExp (pt_cmpR op_gt (pe_callB call_len (by rfl) m_len PySem.boot_len (pa_cons (pv 5) pa_nil)) pe_int (nomark _)) (pe_ix ix_list (pv 5) (pe_op op_mod (pe_callTy call_int1 (by rfl) m_int (by decide +kernel) (pa_cons (pv 4) pa_nil)) (pe_callB call_len (by rfl) m_len PySem.boot_len (pa_cons (pv 5) pa_nil))) (fun _ _ => rfl)) pe_int))
      (pss_cut (ps_if (PW.pt (pw_and (pt_cmpR op_lt (pv 4) (pe_callB call_len (by rfl) m_len PySem.boot_len (pa_cons (pv 5) pa_nil)) (nomark _)) (pw_and1 (pt_cmpR op_ge (pv 6) (pe_op op_pow pe_int pe_int) (nomark _))))) (pss_cons (ps_dput hu (pv 0) pe_str (pe_op op_fdivW (pv 6) (pv 1)) rfl)
      (pss_one (ps_ret (pe_op op_mod (pe_callTy call_int1 (by rfl) m_int (by decide +kernel) (pa_cons (pv 6) pa_nil)) (pv 1))))) pss_nil)
      (pss_cons (ps_set (i := 7) scDraw.nd rfl (.inl rfl) (pe_op op_mod (pe_callTy call_int1 (by rfl) m_int (by decide +kernel) (pa_cons (pe_op op_pow (pe_op op_add (pe_op op_add (pe_op op_mod (pe_callTy call_int1 (by rfl) m_int (by decide +kernel) (pa_cons (pv 6) pa_nil)) pe_int) (pe_op op_mulW pe_int (pv 2))) pe_int) pe_int) pa_nil)) pe_int))
      (pss_one (ps_ret (pe_op op_mod (pe_callTy call_int1 (by rfl) m_int (by decide +kernel) (pa_cons (pe_op op_fdivW (pe_op op_mod (pe_callTy call_int1 (by rfl) m_int (by decide +kernel) (pa_cons (pe_op op_pow (pe_op op_add (pv 7) (pe_op op_mulW (pe_op op_mulW pe_int (pv 2)) (pv 2))) pe_int) pa_nil)) pe_int) pe_int) pa_nil)) (pv 1))))))))))))), ?_⟩
    -- calls = reader["calls"] + 1; reader["calls"] = calls
    refine ⟨_, rfl, d, _, rfl, get_calls hd, _, _, rfl, rfl, ?_⟩
    refine ⟨_, rfl, _, rfl, d, _, rfl, dput_calls hd, ?_⟩
    -- if reader["rest"] > 0
    refine ⟨_, rfl, d, _, rfl, get_rest upd_same, _, _, rfl, rfl, _, rfl, ite2 (fun _ => ?_) (fun _ => ?_)⟩
    · refine ⟨_, rfl, d, _, rfl, get_rest upd_same, .inl ⟨_, rfl, _, rfl, _, _, rfl, rfl, hm0, ?_⟩⟩
      refine ⟨_, rfl, d, _, rfl, get_rest upd_same, _, rfl, _, _, rfl, rfl, dv _, _, rfl, d, _, rfl, dput_rest, ?_⟩
      exact ⟨_, rfl, q _ _ Kp.upd (rd _ _ hs0) (md _).1 (md _).2⟩
    · -- spot, cells
      refine ⟨_, rfl, d, _, rfl, get_spot upd_same, ?_⟩
      refine ⟨_, rfl, _, _, rfl, rfl, _, rfl, d, _, rfl, dput_spot, ?_⟩
      refine ⟨_, rfl, d, _, rfl, get_cells upd_same, ?_⟩
      -- cell
      refine q_cut (M := fun σ' H' => ∃ c : Int, σ' = [some (.ref d), some (.int many), some (.int (calls + 1)), none, some (.int sp), some (.ref l), some (.int c), none] ∧ H' = upd H d (.dK (rdK l (sp + 1) rest (calls + 1)))) ?_ ?_
      · refine ⟨_, rfl, .ref l, _, rfl, .inl ⟨_, sq_of (hL _), rfl⟩, _, _, rfl, rfl, _, rfl, ite2 (fun h => ?_) (fun _ => ⟨31, rfl, rfl⟩)⟩
        have hp : (0 : Int) < ((ns.map V.int).length : Int) := of_decide_eq_true h
        refine ⟨_, rfl, _, rfl, .inl ⟨_, rfl, _, rfl, .ref l, _, rfl, .inl ⟨_, sq_of (hL _), rfl⟩, _, _, rfl, rfl, hp, ?_⟩⟩
        have b1 := Int.emod_nonneg sp (show ((ns.map V.int).length : Int) ≠ 0 by omega)
        have b2 := Int.emod_lt_of_pos sp hp
        have hj : (sp % ((ns.map V.int).length : Int)).toNat < ns.length := by
          rw [List.length_map] at b1 b2 ⊢
          omega
        refine ⟨l, _, _, .int (ns[(sp % ((ns.map V.int).length : Int)).toNat]), rfl, rfl, sq_of (hL _), at_of (j := (sp % ((ns.map V.int).length : Int)).toNat) (by omega) ?_, _, rfl, rfl⟩
        rw [List.getElem?_map, List.getElem?_eq_getElem hj]
        rfl
      · rintro σ' H' ⟨c, rfl, rfl⟩
        -- a great cell
        refine q_cut (M := fun σ' H' => σ' = [some (.ref d), some (.int many), some (.int (calls + 1)), none, some (.int sp), some (.ref l), some (.int c), none] ∧ H' = upd H d (.dK (rdK l (sp + 1) rest (calls + 1)))) ?_ ?_
        · refine ⟨_, rfl, _, rfl, .ref l, _, rfl, .inl ⟨_, sq_of (hL _), rfl⟩, _, _, rfl, rfl, _, rfl, ite2 (fun _ => ?_) (fun z => ?_)⟩
          · refine ⟨_, rfl, _, _, rfl, rfl, ⟨by decide, by decide, by decide⟩, _, _, rfl, rfl, _, rfl, ite2 (fun _ => ?_) (fun _ => ⟨rfl, rfl⟩)⟩
            refine ⟨_, rfl, _, rfl, _, _, rfl, rfl, dv _, _, rfl, d, _, rfl, dput_rest, ?_⟩
            exact ⟨_, rfl, .inl ⟨_, rfl, _, rfl, _, _, rfl, rfl, hm0, q _ _ Kp.upd (rd _ _ (by omega)) (md _).1 (md _).2⟩⟩
          · exact iteF ⟨rfl, rfl⟩
        · rintro σ' H' ⟨rfl, rfl⟩
          have c1 := Int.emod_nonneg c (show (2147483629 : Int) ≠ 0 by decide)
          have c2 := Int.emod_lt_of_pos c (show (0 : Int) < 2147483629 by decide)
          have k1 : (c % 2147483629 + 6163 * (calls + 1) + 37).natAbs < 2 ^ 64 := by omega
          refine ⟨_, rfl, .inl ⟨_, rfl, _, _, rfl, rfl, (show (0 : Int) < 2147483629 by decide), _, rfl, _, _, rfl, rfl, mulW (n := 60) (m := 60) (by decide) (by omega) (by decide), _, _, rfl, rfl, _, _, rfl, rfl, _, _, rfl, rfl, ⟨by decide, by decide, k1⟩, .inl ⟨_, rfl, _, _, rfl, rfl, (show (0 : Int) < 2147483647 by decide), ?_⟩⟩⟩
          have q1 : 4211 * (calls + 1) < 2 ^ 40 := by omega
          have q2 : 4211 * (calls + 1) * (calls + 1) ≤ 2 ^ 40 * 2 ^ 20 := Int.mul_le_mul (by omega) (by omega) (by omega) (by decide)
          have q3 : 0 ≤ 4211 * (calls + 1) * (calls + 1) := Int.mul_nonneg (by omega) (by omega)
          have k2 : ∀ x : Int, (x % 2147483647 + 4211 * (calls + 1) * (calls + 1)).natAbs < 2 ^ 64 := fun x => by
            have o1 := Int.emod_nonneg x (show (2147483647 : Int) ≠ 0 by decide)
            have o2 := Int.emod_lt_of_pos x (show (0 : Int) < 2147483647 by decide)
            generalize 4211 * (calls + 1) * (calls + 1) = t at q2 q3
            omega
          exact ⟨_, rfl, _, rfl, _, _, rfl, rfl, mulW (n := 60) (m := 60) (by decide) (by omega) (by decide), _, rfl, _, _, rfl, rfl, mulW (n := 60) (m := 60) (by omega) (by omega) (by decide), _, _, rfl, rfl, _, _, rfl, rfl, ⟨by decide, by decide, k2 _⟩,
            .inl ⟨_, rfl, _, _, rfl, rfl, (show (0 : Int) < 2147483587 by decide), _, _, rfl, rfl, wide_div (b := 60) (by decide) (by decide) (by decide) (by decide), .inl ⟨_, rfl, _, rfl, _, _, rfl, rfl, hm0, q _ _ Kp.upd (rd _ _ (by omega)) (md _).1 (md _).2⟩⟩⟩

end

/-! ### the reader as what changes -/
def RdF (d l : Addr) : Fd := ⟨fun a => a = d, fun a => a = d ∨ a = l, fun n H => RdAt H d l n, 900000⟩
theorem RdF.ok {d l : Addr} : (RdF d l).Ok where
  sub := fun h => .inl h
  at_ := fun g t => by
    obtain ⟨ns, s, r, c, h1, h2, _⟩ := g
    rcases t with rfl | rfl
    · exact ⟨_, h1, .inr ⟨_, rfl⟩⟩
    · exact ⟨_, h2, .inl ⟨_, rfl⟩⟩
  loc := fun g k => by
    obtain ⟨ns, s, r, c, h1, h2, h3⟩ := g
    exact ⟨ns, s, r, c, k _ _ (.inl rfl) h1, k _ _ (.inr rfl) h2, h3⟩
  up := fun g h => by
    obtain ⟨ns, s, r, c, h1, h2, h3, h4, h5, h6⟩ := g
    exact ⟨ns, s, r, c, h1, h2, h3, h4, h5, by omega⟩
section
variable {P : Program} {w : World} {K : PySem.W.Frag} {mg : Str → Option Value} {base : Heap} {d l : Addr} {te ta tb : TE} {σ : L2.St} {H : Hp} {k ka kb n : Nat}
theorem kpR {H H' : Hp} (h : Kp d H H') : Kx (RdF d l).S H H' := fun b o hb hn => h b o hb hn
theorem kxR {H H' : Hp} (h : Kx (RdF d l).S H H') : Kp d H H' := fun b o hb hn => h b o hb hn
/-- a draw below many -/
def Below (many : Int) : VP := fun v _ => ∃ r, v = .int r ∧ 0 ≤ r ∧ r < many
theorem r_drawR {many : Int} {E : XK} {i : Nat} (hd : σ[i]? = some (some (.ref d))) (hb : EvR (RdF d l) tb σ H kb (fun x _ => x = .int many)) (h0 : 0 < many) (h1 : many < 2 ^ 60) : EvR (RdF d l) (tCall Fx.spDraw [] E (tCons (tVar i) (tCons tb tNil))) σ H (kb + 1) (Below many) :=
  fun n H1 hn g e Q q => ⟨.ref d, hd, hb n H1 (by have : (RdF d l).N = 900000 := rfl; omega) g e _ fun y H2 e2 g2 ey => ⟨d, l, many, n + kb, by rw [ey]; rfl, g2, by have : (RdF d l).N = 900000 := rfl; omega, h0, h1, fun H3 r k3 g3 a1 a2 => q _ _ (e2.trans (kpR k3)) (by rw [← Nat.add_assoc]; exact g3) ⟨r, rfl, a1, a2⟩⟩⟩
end
end Q4
set_option maxHeartbeats 2000000
/-! ### k04: the law's own fractions -/
namespace Q4
open PySem PySem.Spec PyProof.Rows L2 Evl Fx Fr Dt Tr K18 So K17 Hc
section
variable {P : Program} {w : World} {K : PySem.W.Frag} {mg : Str → Option Value} {base : Heap} {f f1 f2 f3 : Addr} {fd fd1 fd2 fd3 : FuncData} {te tl ta tb : TE} {σ σ2 : L2.St} {H H1 : Hp} {k ka kb n : Nat} {d0 : PyData} {ds es : List PyData} {g : TG} {vs : List Nat} {C d l : Addr}
def nGr : List Str := ["_law_a", "_law_b"]
theorem scGr : FnScope nGr nGr (defScope (K18.topS 34)) := ⟨rfl, rfl, rfl, by decide +kernel, rfl, by decide +kernel, by decide +kernel⟩
def spGr : Sp := fun vs H Q _ => ∃ a b : Int, vs = [.int a, .int b] ∧ 0 ≤ a ∧ 0 ≤ b ∧ Q (.int ((Nat.gcd a.natAbs b.natAbs : Nat) : Int)) H
theorem ok_gr (F : Fun K "_law_greatest" "_law_greatest" (K18.topS 34) f fd) (m_int : mg "int" = none) : FnOk P w K mg base CX0 1 f fd nGr spGr := by
  refine F.ok scGr (fun vs H Q E h => ?_) (fun cdv A outer s H vs Q E hr h => ?_)
  · obtain ⟨a, b, rfl, _⟩ := h
    rfl
  · obtain ⟨a, b, rfl, ha, hb, q⟩ := h
    refine ⟨_, pss_cons (ps_while PassesOwn.never (pt_cmpR op_gt (pv 1) pe_int (nomark _))
        (pss_one (ps_par (i := 0) (j := 1) rfl scGr.nd rfl rfl (by decide) rfl rfl (pa_cons (pv 1) (pa_cons (pe_op op_mod (pe_callTy call_int1 (by rfl) m_int (by decide +kernel) (pa_cons (pv 0) pa_nil)) (pv 1)) pa_nil)) (by rfl))))
      (pss_one (ps_ret (pv 0))), ?_⟩
    refine ⟨fun m σ' H' => ∃ x y : Int, σ' = [some (.int x), some (.int y)] ∧ 0 ≤ x ∧ 0 ≤ y ∧ Nat.gcd x.natAbs y.natAbs = Nat.gcd a.natAbs b.natAbs ∧ H' = H ∧ m = y.toNat, ⟨_, a, b, rfl, ha, hb, rfl, rfl, rfl⟩, fun m σ' H' ⟨x, y, es, hx, hy, hg, eH, em⟩ => ?_⟩
    subst es eH em
    refine ⟨_, rfl, _, _, rfl, rfl, _, rfl, ?_⟩
    refine ite2 (fun e0 => ?_) fun e0 => ?_
    · have h0 : 0 < y := of_decide_eq_true e0
      have h1 := Int.emod_nonneg x (by omega : y ≠ 0)
      have h2 := Int.emod_lt_of_pos x h0
      refine ⟨fun σ' H'' => σ' = [some (.int y), some (.int (x % y))] ∧ H'' = H', fun σ' H'' ⟨e1, e2⟩ => ⟨(x % y).toNat, by omega, y, x % y, e1, hy, h1, ?_, e2, rfl⟩, ?_⟩
      · rw [← hg]
        obtain ⟨X, rfl⟩ := Int.eq_ofNat_of_zero_le hx
        obtain ⟨Y, rfl⟩ := Int.eq_ofNat_of_zero_le hy
        show Nat.gcd Y (X % Y) = Nat.gcd X Y
        rw [Nat.gcd_comm Y, ← Nat.gcd_rec, Nat.gcd_comm]
      · exact ⟨_, rfl, _, rfl, .inl ⟨_, rfl, _, rfl, _, _, rfl, rfl, h0, _, _, rfl, rfl, rfl⟩⟩
    · have h0 : ¬ 0 < y := fun z => e0 (decide_eq_true z)
      have y0 : y = 0 := by omega
      subst y0
      refine ⟨_, rfl, ?_⟩
      rw [← hg] at q
      have e : ((Nat.gcd x.natAbs (0 : Int).natAbs : Nat) : Int) = x := by
        simp only [Int.natAbs_zero, Nat.gcd_zero_right]
        omega
      rw [e] at q
      exact q
/-! ### _law_part -/
theorem part_pos {p q : Int} (h : 0 < q) : p.fdiv ((Nat.gcd p.natAbs q.natAbs : Nat) : Int) = (Rat.divInt p q).num ∧ q.fdiv ((Nat.gcd p.natAbs q.natAbs : Nat) : Int) = ((Rat.divInt p q).den : Int) := by
  have hn : q ≠ 0 := by omega
  have e := comm_pos (p := p) (q := q) (by omega)
  rw [← e]
  exact ⟨red_num hn, red_den hn⟩
theorem neg_fdiv {a b : Int} (hb : b ≠ 0) (h : b ∣ a) : (0 - a).fdiv b = a.fdiv (-b) := by
  obtain ⟨c, rfl⟩ := h
  rw [show 0 - b * c = b * (-c) from by rw [Int.mul_neg]; omega, Int.mul_fdiv_cancel_left _ hb, show b * c = (-b) * (-c) from by rw [Int.neg_mul_neg], Int.mul_fdiv_cancel_left _ (by omega)]
theorem part_neg {p q : Int} (h : q < 0) : (0 - p).fdiv ((Nat.gcd p.natAbs q.natAbs : Nat) : Int) = (Rat.divInt p q).num ∧ (0 - q).fdiv ((Nat.gcd p.natAbs q.natAbs : Nat) : Int) = ((Rat.divInt p q).den : Int) := by
  have hn : q ≠ 0 := by omega
  have e := comm_neg (p := p) (q := q) h
  have hg : ((Nat.gcd p.natAbs q.natAbs : Nat) : Int) ≠ 0 := by have := gcd_pos (p := p) hn; omega
  rw [neg_fdiv hg (gdl p q), neg_fdiv hg (gdr p q), ← e]
  exact ⟨red_num hn, red_den hn⟩
theorem gcd_bits {p q : Int} {n : Nat} (h : q ≠ 0) (hq : q.natAbs < 2 ^ n) : ((Nat.gcd p.natAbs q.natAbs : Nat) : Int).natAbs < 2 ^ n := by
  rw [Int.natAbs_natCast]
  exact Nat.lt_of_le_of_lt (Nat.le_of_dvd (by omega) (Nat.gcd_dvd_right _ _)) hq
def spPart (K : PySem.W.Frag) : Sp := fun vs H Q _ => ∃ p q : Int, vs = [.int p, .int q] ∧ q ≠ 0 ∧ q.natAbs < 2 ^ 4000 ∧ ∀ v H', Ex H H' → Dp K H' v (frD (Rat.divInt p q)) → Q v H'
theorem scPart : FnScope ["_law_p", "_law_q", "_law_size"] ["_law_p", "_law_q"] (defScope (K18.topS 35)) := ⟨rfl, rfl, rfl, by decide +kernel, rfl, by decide +kernel, by decide +kernel⟩
theorem rv_fdiv {i j : Int} {b : Nat} (ha : EvR F0 ta σ H 0 (fun x _ => x = .int i)) (hb : EvR F0 tb σ H 0 (fun x _ => x = .int j)) (h : j ≠ 0) (hb' : j.natAbs < 2 ^ b) (h0 : 0 < b) (h9 : b ≤ 9000) : EvR F0 (tOp (rI CDivS fun i j => .int (i.fdiv j)) ta tb) σ H 0 (fun x _ => x = .int (i.fdiv j)) :=
  rv_op (ka := 0) (kb := 0) F0.ok ha hb fun _ => rv_I (g := fun i j => .int (i.fdiv j)) (cdivS h hb' h0 h9)
theorem ok_part (F : Fun K "_law_part" "_law_part" (K18.topS 35) f fd) (cG : C8.Cal P w K mg base 1 "_law_greatest" spGr []) (m_abs : mg "abs" = none) : FnOk P w K mg base CX0 2 f fd ["_law_p", "_law_q"] (spPart K) := by
  refine F.ok scPart (fun vs H Q E h => ?_) (fun cdv A outer s H vs Q E hr h => ?_)
  · obtain ⟨a, b, rfl, _⟩ := h
    rfl
  · obtain ⟨p, q, rfl, hq, hbits, hQ⟩ := h
    refine ⟨_, pss_cons (ps_set (i := 2) scPart.nd rfl (.inl rfl) (C8.pe_c cG hr (by decide) (by rfl) (pa_cons (pe_callB call_abs (by rfl) m_abs (by decide +kernel) (pa_cons (pv 0) pa_nil)) (pa_cons (pe_callB call_abs (by rfl) m_abs (by decide +kernel) (pa_cons (pv 1) pa_nil)) pa_nil))))
      (pss_one (ps_ret (pe_ifExp (pt_cmpR op_gt (pv 1) pe_int (nomark _)) (pe_tup (pa_cons (pe_op op_fdivWN (pv 0) (pv 2)) (pa_cons (pe_op op_fdivWN (pv 1) (pv 2)) pa_nil))) (pe_tup (pa_cons (pe_op op_fdivWN (pe_op op_sub pe_int (pv 0)) (pv 2)) (pa_cons (pe_op op_fdivWN (pe_op op_sub pe_int (pv 1)) (pv 2)) pa_nil)))))), ?_⟩
    have ab : ∀ i : Int, 0 ≤ (if i < 0 then -i else i) ∧ (if i < 0 then -i else i).natAbs = i.natAbs := fun i => by split <;> omega
    refine q_asgR (F := F0) (n := 0) (k := 0) (P := fun x _ => x = .int ((Nat.gcd p.natAbs q.natAbs : Nat) : Int)) (fun n H1 hn g e Q' q' => ⟨_, rfl, _, rfl, _, rfl, _, rfl, _, _, rfl, (ab p).1, (ab q).1, by rw [(ab p).2, (ab q).2]; exact q' _ H1 Kx.refl g rfl⟩) F0.g (Nat.le_refl _) fun v H1 e1 _ ev => ?_
    subst ev
    replace e1 := F0.ex e1
    have hg := gcd_bits (p := p) hq hbits
    have hgn : ((Nat.gcd p.natAbs q.natAbs : Nat) : Int) ≠ 0 := by have := gcd_pos (p := p) hq; omega
    refine s_retR (F := F0) (n := 0) (k := 0) (P := IsD K (frD (Rat.divInt p q))) ?_ F0.g (Nat.le_refl _) fun v H2 e _ hv => hQ v H2 (e1.trans (F0.ex e)) hv
    refine r_if (ka := 0) (kb := 0) (b := decide (0 < q)) F0.ok (rt_val (rv_op (ka := 0) (kb := 0) F0.ok (rv_var rfl) rv_c fun _ => rv_I0 (g := fun i j => .bl (decide (j < i))))) (fun h => ?_) fun h => ?_
    · have e := part_pos (p := p) (of_decide_eq_true h)
      refine EvR.cast (rd_tup (ds := [.int _, .int _]) F0.ok (ra_cons0 (rd_ofI (rv_fdiv (rv_var rfl) (rv_var rfl) hgn hg (by decide) (by decide))) (ra_one (rd_ofI (rv_fdiv (rv_var rfl) (rv_var rfl) hgn hg (by decide) (by decide)))))) ?_
      rw [e.1, e.2]
      rfl
    · have e := part_neg (p := p) (q := q) (by have := of_decide_eq_false h; omega)
      refine EvR.cast (rd_tup (ds := [.int _, .int _]) F0.ok (ra_cons0 (rd_ofI (rv_fdiv (rv_sub rv_c (rv_var rfl)) (rv_var rfl) hgn hg (by decide) (by decide))) (ra_one (rd_ofI (rv_fdiv (rv_sub rv_c (rv_var rfl)) (rv_var rfl) hgn hg (by decide) (by decide)))))) ?_
      rw [e.1, e.2]
      rfl
end
end Q4
set_option maxHeartbeats 2000000
/-! ### k04: drawn fractions -/
namespace Q4
open PySem PySem.Spec PyProof.Rows L2 Evl Fx Fr Dt Tr K18 So K17 Hc
section
variable {P : Program} {w : World} {K : PySem.W.Frag} {mg : Str → Option Value} {base : Heap} {f f1 f2 f3 : Addr} {fd fd1 fd2 fd3 : FuncData} {te tl ta tb : TE} {σ σ2 : L2.St} {H H1 : Hp} {k ka kb n : Nat} {d0 : PyData} {ds es : List PyData} {g : TG} {vs : List Nat} {C d l : Addr} {F : Fd}
def IntP (p : Int → Prop) : VP := fun v _ => ∃ i, v = .int i ∧ p i
theorem mono_intP {p : Int → Prop} : MonoF F (IntP p) := fun _ _ _ _ _ _ h => h
theorem r_int {i : Int} (h : EvR F te σ H k (fun x _ => x = .int i)) : EvR F te σ H k (IntP (· = i)) := h.imp fun _ _ _ _ _ e => ⟨i, e, rfl⟩
theorem r_intI {p q : Int → Prop} {c : Int → Int → Prop} {o : Int → Int → Int} (ok : F.Ok) (ha : EvR F ta σ H ka (IntP p)) (hb : EvR F tb σ H kb (IntP q)) (hc : ∀ i j, p i → q j → c i j) : EvR F (tOp (rI c fun i j => .int (o i j)) ta tb) σ H (ka + kb) (IntP fun z => ∃ i j, p i ∧ q j ∧ z = o i j) :=
  r_op ok mono_intP ha hb fun u v n H1 g e ⟨i, e1, p1⟩ ⟨j, e2, p2⟩ Q q => by
    subst e1 e2
    exact ⟨i, j, rfl, rfl, hc i j p1 p2, q _ H1 (Ex.refl _) ⟨_, rfl, i, j, p1, p2, rfl⟩⟩
theorem r_intI0 {p q : Int → Prop} {o : Int → Int → Int} (ok : F.Ok) (ha : EvR F ta σ H ka (IntP p)) (hb : EvR F tb σ H kb (IntP q)) : EvR F (tOp (rI0 fun i j => .int (o i j)) ta tb) σ H (ka + kb) (IntP fun z => ∃ i j, p i ∧ q j ∧ z = o i j) :=
  r_op ok mono_intP ha hb fun u v n H1 g e ⟨i, e1, p1⟩ ⟨j, e2, p2⟩ Q q => by
    subst e1 e2
    exact ⟨i, j, rfl, rfl, q _ H1 (Ex.refl _) ⟨_, rfl, i, j, p1, p2, rfl⟩⟩
theorem IntP.imp {p q : Int → Prop} (h : EvR F te σ H k (IntP p)) (hp : ∀ i, p i → q i) : EvR F te σ H k (IntP q) := Dt.EvR.imp h fun _ _ _ _ _ ⟨i, e, z⟩ => ⟨i, e, hp i z⟩
/-- one of the ints of a list, by a draw -/
theorem r_pick {ns : List Int} {m : Int} (ok : F.Ok) (hl : EvR F tl σ H ka (IsL F K (ns.map PyData.int))) (hb : EvR F tb σ H kb (Below m)) (hm : m = ns.length) : EvR F (tOp (rIxL K) tl tb) σ H (ka + kb) (IntP (· ∈ ns)) :=
  r_op ok (mono_l ok (ints_flat ns)) hl hb fun u v n H1 g e ⟨a, xs, ev, hT, ha, hd⟩ ⟨r, er, r0, r1⟩ Q q => by
    subst ev er hm
    rw [dps_vals ns xs hd] at ha
    have hlt : r.toNat < ns.length := by omega
    have hu : (ns.map V.int)[r.toNat]? = some (.int ns[r.toNat]) := by rw [List.getElem?_map, List.getElem?_eq_getElem hlt]; rfl
    exact ⟨a, _, r, _, rfl, rfl, sq_of ha, at_of (j := r.toNat) (by omega) hu, q _ H1 (Ex.refl _) ⟨_, rfl, List.getElem_mem hlt⟩⟩
def nRP : List Str := ["_law_reader_here", "_law_far", "_law_p", "_law_q"]
theorem scRP : FnScope nRP ["_law_reader_here"] (defScope (K18.topS 36)) := ⟨rfl, rfl, rfl, by decide +kernel, rfl, by decide +kernel, by decide +kernel⟩
def spRP (K : PySem.W.Frag) : Sp := fun vs H Q _ => ∃ (d l : Addr) (n : Nat), vs = [.ref d] ∧ RdAt H d l n ∧ n + 4 ≤ 900000 ∧ ∀ H' v x, Kp d H H' → RdAt H' d l (n + 4) → Dp K H' v (frD x) → Bd 300 x → Q v H'
theorem r_below {m c : Int} {p : Int → Prop} (h : EvR F te σ H k (Below m)) (hp : ∀ i, 0 ≤ i → i < m → p i) : EvR F te σ H k (IntP p) := Dt.EvR.imp h fun _ _ _ _ _ ⟨i, e, a, b⟩ => ⟨i, e, hp i a b⟩
theorem ok_rp (F : Fun K "_law_random_part" "_law_random_part" (K18.topS 36) f fd) (cD : C8.Cal P w K mg base 1 "_law_draw" Fx.spDraw []) (cP : C8.Cal P w K mg base 2 "_law_part" (spPart K) []) : FnOk P w K mg base CX0 3 f fd ["_law_reader_here"] (spRP K) := by
  refine F.ok scRP (fun vs H Q E h => ?_) (fun cdv A outer s H vs Q E hr h => ?_)
  · obtain ⟨d, l, n, rfl, _⟩ := h
    rfl
  · obtain ⟨d, l, n, rfl, hR, hn, q⟩ := h
    refine ⟨_, pss_cons (ps_set (i := 1) scRP.nd rfl (.inl rfl) (pe_ix ix_list (pe_lst (pa_cons pe_int (pa_cons pe_int (pa_cons pe_int (pa_cons (pe_op op_pow pe_int pe_int) pa_nil))))) (C8.pe_c cD hr (by decide) (by rfl) (pa_cons (pv 0) (pa_cons pe_int pa_nil))) (fun _ _ => rfl)))
      (pss_cons (ps_par (i := 2) (j := 3) rfl scRP.nd rfl rfl (by decide) rfl rfl (pa_cons (pe_op op_mulW (pe_op op_sub (C8.pe_c cD hr (by decide) (by rfl) (pa_cons (pv 0) (pa_cons pe_int pa_nil))) pe_int) (pv 1)) (pa_cons (pe_op op_add pe_int (C8.pe_c cD hr (by decide) (by rfl) (pa_cons (pv 0) (pa_cons pe_int pa_nil)))) pa_nil)) (by rfl))
      (pss_one (ps_ret (C8.pe_c cP hr (by decide) (by rfl) (pa_cons (pv 2) (pa_cons (pe_op op_mulW (pv 3) (pe_ix ix_list (pe_lst (pa_cons pe_int (pa_cons pe_int (pa_cons (pv 1) (pa_cons pe_int pa_nil))))) (C8.pe_c cD hr (by decide) (by rfl) (pa_cons (pv 0) (pa_cons pe_int pa_nil))) (fun _ _ => rfl))) pa_nil)))))), ?_⟩
    have N0 : (RdF d l).N = 900000 := rfl
    have pw : EvR (RdF d l) (tOp (rI CPow fun i j => .int (i ^ j.toNat)) (tC (.int 10)) (tC (.int 20))) [some (.ref d), none, none, none] H 0 (fun x _ => x = .int (10 ^ 20)) := fun n H1 hn g e Q q => ⟨_, _, rfl, rfl, ⟨by decide, by decide, by decide⟩, q _ H1 Kx.refl g rfl⟩
    refine q_asgR (F := RdF d l) (n := n) (k := 0 + 1) (P := IntP (· ∈ [1, 1, 7, 10 ^ 20])) (r_pick (ka := 0) (kb := 0 + 1) (ns := [1, 1, 7, 10 ^ 20]) (m := 4) RdF.ok (rl_lst RdF.ok (ra_cons (ka := 0) (kb := 0) RdF.ok (rd_ofI rv_c) (ra_cons (ka := 0) (kb := 0) RdF.ok (rd_ofI rv_c) (ra_cons (ka := 0) (kb := 0) RdF.ok (rd_ofI rv_c) (ra_cons (ka := 0) (kb := 0) RdF.ok (rd_ofI pw) ra_nil))))) (r_drawR (i := 0) rfl rv_c (by decide) (by decide)) rfl) hR (by omega) fun v H1 k1 g1 ⟨fa, ev, hfa⟩ => ?_
    subst ev
    have fb : fa.natAbs < 2 ^ 70 ∧ 0 < fa := by
      simp only [List.mem_cons, List.not_mem_nil, or_false] at hfa
      rcases hfa with rfl | rfl | rfl | rfl <;> decide
    have nfa : fa.natAbs < 2 ^ 70 := fb.1
    have A : EvR (RdF d l) (tOp (rI CMulW fun i j => .int (i * j)) (tOp (rI0 fun i j => .int (i - j)) (tCall Fx.spDraw [] C8.E0 (tCons (tVar 0) (tCons (tC (.int 41)) tNil))) (tC (.int 20))) (tVar 1)) [some (.ref d), some (.int fa), none, none] H1 (0 + 1 + 0 + 0) (IntP fun p => p.natAbs < 2 ^ 80) :=
      IntP.imp (r_intI (ka := 0 + 1 + 0) (kb := 0) (o := (· * ·)) (p := fun i => i.natAbs < 2 ^ 10) (q := (· = fa)) RdF.ok (IntP.imp (r_intI0 (ka := 0 + 1) (kb := 0) (o := (· - ·)) (p := fun i => 0 ≤ i ∧ i < 41) (q := (· = 20)) RdF.ok (r_below (c := 0) (r_drawR (i := 0) rfl rv_c (by decide) (by decide)) fun i a b => ⟨a, b⟩) (r_int rv_c)) fun z ⟨i, j, ⟨i0, i1⟩, ej, ez⟩ => by subst ej ez; omega) (r_int (rv_var rfl)) fun i j hi hj => by subst hj; exact mulW hi nfa (by decide)) fun z ⟨i, j, hi, hj, ez⟩ => by subst hj ez; exact im_lt hi nfa
    have B : EvR (RdF d l) (tOp (rI0 fun i j => .int (i + j)) (tC (.int 1)) (tCall Fx.spDraw [] C8.E0 (tCons (tVar 0) (tCons (tC (.int 24)) tNil)))) [some (.ref d), some (.int fa), none, none] H1 (0 + (0 + 1)) (IntP fun p => 0 < p ∧ p.natAbs < 2 ^ 10) :=
      IntP.imp (r_intI0 (ka := 0) (kb := 0 + 1) (o := (· + ·)) (p := (· = 1)) (q := fun i => 0 ≤ i ∧ i < 24) RdF.ok (r_int rv_c) (r_below (c := 0) (r_drawR (i := 0) rfl rv_c (by decide) (by decide)) fun i a b => ⟨a, b⟩)) fun z ⟨i, j, ei, ⟨j0, j1⟩, ez⟩ => by subst ei ez; omega
    refine q_par2 (A (n + (0 + 1)) H1 (by omega) g1 Kx.refl _ fun u H2 k2 g2 ⟨p, eu, hp⟩ => B _ H2 (by omega) g2 k2 _ fun v H3 k3 g3 ⟨q', ev, hq0, hq⟩ => ⟨_, _, rfl, ?_⟩)
    subst eu ev
    have lst : EvR (RdF d l) (tLst (tCons (tC (.int 1)) (tCons (tC (.int 1)) (tCons (tVar 1) (tCons (tC (.int 3)) tNil))))) [some (.ref d), some (.int fa), some (.int p), some (.int q')] H3 0 (IsL (RdF d l) K ([1, 1, fa, 3].map PyData.int)) :=
      rl_lst RdF.ok (ra_cons (ka := 0) (kb := 0) RdF.ok (rd_ofI rv_c) (ra_cons (ka := 0) (kb := 0) RdF.ok (rd_ofI rv_c) (ra_cons (ka := 0) (kb := 0) RdF.ok (rd_ofI (rv_var rfl)) (ra_cons (ka := 0) (kb := 0) RdF.ok (rd_ofI rv_c) ra_nil))))
    have M : EvR (RdF d l) (tOp (rI CMulW fun i j => .int (i * j)) (tVar 3) (tOp (rIxL K) (tLst (tCons (tC (.int 1)) (tCons (tC (.int 1)) (tCons (tVar 1) (tCons (tC (.int 3)) tNil))))) (tCall Fx.spDraw [] C8.E0 (tCons (tVar 0) (tCons (tC (.int 4)) tNil))))) [some (.ref d), some (.int fa), some (.int p), some (.int q')] H3 (0 + (0 + (0 + 1))) (IntP fun z => 0 < z ∧ z.natAbs < 2 ^ 80) :=
      IntP.imp (r_intI (ka := 0) (kb := 0 + (0 + 1)) (o := (· * ·)) (p := (· = q')) (q := fun j => 0 < j ∧ j.natAbs < 2 ^ 70) RdF.ok (r_int (rv_var rfl)) (IntP.imp (r_pick (ka := 0) (kb := 0 + 1) (ns := [1, 1, fa, 3]) (m := 4) RdF.ok lst (r_drawR (i := 0) rfl rv_c (by decide) (by decide)) rfl) fun z hz => by
        simp only [List.mem_cons, List.not_mem_nil, or_false] at hz
        rcases hz with rfl | rfl | rfl | rfl
        · decide
        · decide
        · exact ⟨fb.2, fb.1⟩
        · decide) fun i j hi hj => by subst hi; exact mulW hq hj.2 (by decide)) fun z ⟨i, j, hi, ⟨j0, j1⟩, ez⟩ => by subst hi ez; exact ⟨Int.mul_pos hq0 j0, im_lt hq j1⟩
    refine ⟨.int p, rfl, M _ H3 (by omega) g3 Kx.refl _ fun v H4 k4 g4 ⟨z, ez, z0, zb⟩ => ?_⟩
    subst ez
    refine ⟨p, z, rfl, by omega, lt_up zb (by decide), fun v H5 e5 dv => ?_⟩
    refine q H5 v _ (((kxR k1).trans (kxR k2)).trans (((kxR k3).trans (kxR k4)).trans (Kp.ex e5))) ?_ dv (Bd.mono (bd_div (n := 80) (by omega) hp zb) (by decide))
    have := RdF.ok.ex g4 e5
    exact RdF.ok.up (n := n + (0 + 1) + (0 + 1 + 0 + 0) + (0 + (0 + 1)) + (0 + (0 + (0 + 1)))) this (by omega)
end
end Q4
set_option maxHeartbeats 2000000
/-! ### k04: what is told of the error that was caught -/
namespace Q4
open PySem PySem.Spec PyProof.Rows L2 L2H Evl Fx Fr Dt Tr K18 So K17 Hc
section
variable {P : Program} {w : World} {K : PySem.W.Frag} {mg : Str → Option Value} {base : Heap} {f f1 f2 f3 : Addr} {fd fd1 fd2 fd3 : FuncData} {te tl ta tb : TE} {σ σ2 : L2.St} {H H1 : Hp} {k ka kb n : Nat} {d0 : PyData} {ds es : List PyData} {g : TG} {vs : List Nat} {C d l a dd : Addr} {F : Fd}
/-- a class that the law asks for: at c, the error's class is (b) or is not one of it -/
structure Kd (K : PySem.W.Frag) (mg : Str → Option Value) (C : Addr) (x : Str) (c : Addr) (b : Bool) : Prop where
  g : mg x = some (.ref c)
  e : PySem.W.kitOne K (.ref C) (.ref c) = some b
structure Fl (K : PySem.W.Frag) (mg : Str → Option Value) (C : Addr) (c : Nat → Addr) : Prop where
  ex : ExcD K C
  xf : XfC K C
  w0 : PySem.W.findIn K (.ref C) "word" = some none
  a0 : PySem.W.findIn K (.ref C) "at" = some none
  k0 : Kd K mg C "InvalidPaper" (c 0) false
  k1 : Kd K mg C "NotUsable" (c 1) true
  k2 : Kd K mg C "NotTold" (c 2) false
  k3 : Kd K mg C "InvalidEvent" (c 3) false
  k4 : Kd K mg C "NothingToUndo" (c 4) false
  k5 : Kd K mg C "InvalidText" (c 5) false
  k6 : Kd K mg C "InvalidRow" (c 6) false
  k7 : Kd K mg C "PaperError" (c 7) false
  k8 : Kd K mg C "TraceError" (c 8) true
  k9 : Kd K mg C "BookError" (c 9) false
  k10 : Kd K mg C "TextError" (c 10) false
  k11 : Kd K mg C "ThinError" (c 11) true
  eV : PySem.W.kitOne K (.ref C) (.type "ValueError") = some true
  eT : PySem.W.exmOne K (.ref C) (.ref (c 11)) = some true
  mV : mg "ValueError" = none
  mI : mg "isinstance" = none
def flags : List Bool := [false, true, false, false, false, false, false, false, true, false, false, true, true]
/-- a new list of these bools -/
def IsB (K : PySem.W.Frag) (bs : List Bool) : VP := IsL F0 K (bs.map PyData.bool)
theorem rb_lst1 {x : Bool} (h : EvR F0 te σ H 0 (fun v _ => v = .bl x)) : EvR F0 (tLst (tCons te tNil)) σ H 0 (IsB K [x]) := rl_lst F0.ok (ra_cons (ka := 0) (kb := 0) F0.ok (rd_ofB h) ra_nil)
theorem rb_cat {xs ys : List Bool} (ha : EvR F0 ta σ H 0 (IsB K xs)) (hb : EvR F0 tb σ H 0 (IsB K ys)) (hl : xs.length + ys.length ≤ 100 := by decide) : EvR F0 (tOp rCat ta tb) σ H 0 (IsB K (xs ++ ys)) := by
  have := rl_catX ha hb (by rw [List.length_map, List.length_map]; omega)
  rwa [← List.map_append] at this
theorem b_flat : ∀ bs : List Bool, flats (bs.map PyData.bool) = true
  | [] => rfl
  | b :: bs => by rw [List.map_cons, flats_cons]; exact ⟨rfl, b_flat bs⟩
theorem r_varB {i : Nat} {v : V} {bs : List Bool} (h : σ[i]? = some (some v)) (p : IsB K bs v H) : EvR F0 (tVar i) σ H 0 (IsB K bs) := rl_varX h p
def nCF : List Str := ["_law_e", "_law_found"]
theorem scCF : FnScope nCF ["_law_e"] (defScope (K18.topS 30)) := ⟨rfl, rfl, rfl, by decide +kernel, rfl, by decide +kernel, by decide +kernel⟩
def spCF (K : PySem.W.Frag) (C : Addr) : Addr → Value → Option Addr → Sp := fun a cls d vs H Q _ => ∃ (dd : Addr) (fs : List (Str × V)), vs = [.ref a] ∧ cls = .ref C ∧ d = some dd ∧ H dd = some (.xd fs) ∧ ∀ v H', Ex H H' → IsB K flags v H' → Q v H'
theorem ok_cf {c : Nat → Addr} (F : Fun K "_law_class_flags" "_law_class_flags" (K18.topS 30) f fd) (T : Fl K mg C c) : FnP P w K mg base 1 f fd ["_law_e"] (spCF K C) := by
  refine okP F scCF (fun a cls d vs H Q E h => ?_) (fun cdv A outer s H vs Q E a oe cls d hot hz hr h => ?_)
  · obtain ⟨dd, fs, rfl, _⟩ := h
    rfl
  · obtain ⟨dd, fs, rfl, rfl, rfl, hdd, q⟩ := h
    have hf : ∃ vs, oe.data = .fields vs := by
      obtain ⟨_, vs, e, _⟩ := hot
      exact ⟨vs, e⟩
    have isi := fun (i : Nat) => call_isP (X := cxH CX0 P w K mg base nCF "_law_class_flags" (defScope (K18.topS 30)) f cdv A outer s H E (a, oe)) (a := a) (oe := oe) (cls := .ref C) (d := some dd) List.mem_cons_self hz hf
    refine ⟨_, pss_cons (ps_set (i := 1) scCF.nd rfl (.inl rfl) (pe_lst (pa_cons (pe_callB (isi 0) (by rfl) T.mI (by decide +kernel) (pa_cons (pv 0) (pa_cons (pe_glob (v := .ref (c 0)) (by rfl) T.k0.g rfl) pa_nil))) (pa_cons (pe_callB (isi 0) (by rfl) T.mI (by decide +kernel) (pa_cons (pv 0) (pa_cons (pe_glob (v := .ref (c 1)) (by rfl) T.k1.g rfl) pa_nil))) (pa_cons (pe_callB (isi 0) (by rfl) T.mI (by decide +kernel) (pa_cons (pv 0) (pa_cons (pe_glob (v := .ref (c 2)) (by rfl) T.k2.g rfl) pa_nil))) pa_nil)))))
      (pss_cons (ps_set (i := 1) scCF.nd rfl (.inl rfl) (pe_op op_cat (pv 1) (pe_lst (pa_cons (pe_callB (isi 0) (by rfl) T.mI (by decide +kernel) (pa_cons (pv 0) (pa_cons (pe_glob (v := .ref (c 3)) (by rfl) T.k3.g rfl) pa_nil))) (pa_cons (pe_callB (isi 0) (by rfl) T.mI (by decide +kernel) (pa_cons (pv 0) (pa_cons (pe_glob (v := .ref (c 4)) (by rfl) T.k4.g rfl) pa_nil))) pa_nil)))))
      (pss_cons (ps_set (i := 1) scCF.nd rfl (.inl rfl) (pe_op op_cat (pv 1) (pe_lst (pa_cons (pe_callB (isi 0) (by rfl) T.mI (by decide +kernel) (pa_cons (pv 0) (pa_cons (pe_glob (v := .ref (c 5)) (by rfl) T.k5.g rfl) pa_nil))) (pa_cons (pe_callB (isi 0) (by rfl) T.mI (by decide +kernel) (pa_cons (pv 0) (pa_cons (pe_glob (v := .ref (c 6)) (by rfl) T.k6.g rfl) pa_nil))) pa_nil)))))
      (pss_cons (ps_set (i := 1) scCF.nd rfl (.inl rfl) (pe_op op_cat (pv 1) (pe_lst (pa_cons (pe_callB (isi 0) (by rfl) T.mI (by decide +kernel) (pa_cons (pv 0) (pa_cons (pe_glob (v := .ref (c 7)) (by rfl) T.k7.g rfl) pa_nil))) (pa_cons (pe_callB (isi 0) (by rfl) T.mI (by decide +kernel) (pa_cons (pv 0) (pa_cons (pe_glob (v := .ref (c 8)) (by rfl) T.k8.g rfl) pa_nil))) (pa_cons (pe_callB (isi 0) (by rfl) T.mI (by decide +kernel) (pa_cons (pv 0) (pa_cons (pe_glob (v := .ref (c 9)) (by rfl) T.k9.g rfl) pa_nil))) pa_nil))))))
      (pss_one (ps_ret (pe_op op_cat (pv 1) (pe_lst (pa_cons (pe_callB (isi 0) (by rfl) T.mI (by decide +kernel) (pa_cons (pv 0) (pa_cons (pe_glob (v := .ref (c 10)) (by rfl) T.k10.g rfl) pa_nil))) (pa_cons (pe_callB (isi 0) (by rfl) T.mI (by decide +kernel) (pa_cons (pv 0) (pa_cons (pe_glob (v := .ref (c 11)) (by rfl) T.k11.g rfl) pa_nil))) (pa_cons (pe_callB (isi 0) (by rfl) T.mI (by decide +kernel) (pa_cons (pv 0) (pa_cons (pe_bltn (v := .ty "ValueError") (by rfl) T.mV (by decide +kernel) rfl) pa_nil))) pa_nil)))))))))), ?_⟩
    have ri : ∀ {x1 : Option V} {H2 : Hp} {x : Str} {b : Bool} {i : Nat}, Ex H H2 → Kd K mg C x (c i) b → EvR F0 (tCB (rIsX K a (.ref C) (some dd)) (tCons (tVar 0) (tCons (tC (.ref (c i))) tNil))) [some (.ref a), x1] H2 0 (fun x _ => x = .bl b) := fun {x1 H2 x b i} e kd => r_isX1 T.ex rfl (e _ _ hdd) (.own _) kd.e
    have e0 := Ex.refl H
    refine q_asgR (F := F0) (n := 0) (k := 0) (P := IsB K [false, true, false]) (rl_lst F0.ok (ra_cons (ka := 0) (kb := 0) F0.ok (rd_ofB (ri e0 T.k0)) (ra_cons (ka := 0) (kb := 0) F0.ok (rd_ofB (ri e0 T.k1)) (ra_cons (ka := 0) (kb := 0) F0.ok (rd_ofB (ri e0 T.k2)) ra_nil)))) F0.g (Nat.le_refl _) fun v1 H1 k1 _ p1 => ?_
    have e1 := F0.ex k1
    refine q_asgR (F := F0) (n := 0) (k := 0) (P := IsB K ([false, true, false] ++ [false, false])) (rb_cat (r_varB (i := 1) rfl p1) (rl_lst F0.ok (ra_cons (ka := 0) (kb := 0) F0.ok (rd_ofB (ri e1 T.k3)) (ra_cons (ka := 0) (kb := 0) F0.ok (rd_ofB (ri e1 T.k4)) ra_nil)))) F0.g (Nat.le_refl _) fun v2 H2 k2 _ p2 => ?_
    have e2 := e1.trans (F0.ex k2)
    refine q_asgR (F := F0) (n := 0) (k := 0) (P := IsB K (([false, true, false] ++ [false, false]) ++ [false, false])) (rb_cat (r_varB (i := 1) rfl p2) (rl_lst F0.ok (ra_cons (ka := 0) (kb := 0) F0.ok (rd_ofB (ri e2 T.k5)) (ra_cons (ka := 0) (kb := 0) F0.ok (rd_ofB (ri e2 T.k6)) ra_nil)))) F0.g (Nat.le_refl _) fun v3 H3 k3 _ p3 => ?_
    have e3 := e2.trans (F0.ex k3)
    refine q_asgR (F := F0) (n := 0) (k := 0) (P := IsB K ((([false, true, false] ++ [false, false]) ++ [false, false]) ++ [false, true, false])) (rb_cat (r_varB (i := 1) rfl p3) (rl_lst F0.ok (ra_cons (ka := 0) (kb := 0) F0.ok (rd_ofB (ri e3 T.k7)) (ra_cons (ka := 0) (kb := 0) F0.ok (rd_ofB (ri e3 T.k8)) (ra_cons (ka := 0) (kb := 0) F0.ok (rd_ofB (ri e3 T.k9)) ra_nil))))) F0.g (Nat.le_refl _) fun v4 H4 k4 _ p4 => ?_
    have e4 := e3.trans (F0.ex k4)
    exact s_retR (F := F0) (n := 0) (k := 0) (P := IsB K (((([false, true, false] ++ [false, false]) ++ [false, false]) ++ [false, true, false]) ++ [false, true, true])) (rb_cat (r_varB (i := 1) rfl p4) (rl_lst F0.ok (ra_cons (ka := 0) (kb := 0) F0.ok (rd_ofB (ri e4 T.k10)) (ra_cons (ka := 0) (kb := 0) F0.ok (rd_ofB (ri e4 T.k11)) (ra_cons (ka := 0) (kb := 0) F0.ok (rd_ofB (r_isX1 T.ex rfl (e4 _ _ hdd) (.ty "ValueError") T.eV)) ra_nil))))) F0.g (Nat.le_refl _) fun v5 H5 k5 _ p5 => q v5 H5 (e4.trans (F0.ex k5)) p5
end
end Q4
set_option maxHeartbeats 2000000
/-! ### k04: the flags of a class, the fields of an error -/
namespace Q4
open PySem PySem.Spec PyProof.Rows L2 L2H Evl Fx Fr Dt Tr K18 So K17 Hc
section
variable {P : Program} {w : World} {K : PySem.W.Frag} {mg : Str → Option Value} {base : Heap} {f f1 f2 f3 : Addr} {fd fd1 fd2 fd3 : FuncData} {te tl ta tb tc : TE} {σ σ2 : L2.St} {H H1 : Hp} {k ka kb n : Nat} {d0 : PyData} {ds es : List PyData} {g : TG} {vs : List Nat} {C d l a dd : Addr} {F : Fd}
def nOF : List Str := ["_law_number", "_law_own", "_law_spot"]
theorem scOF : FnScope nOF ["_law_number"] (defScope (K18.topS 31)) := ⟨rfl, rfl, rfl, by decide +kernel, rfl, by decide +kernel, by decide +kernel⟩
def spOF (K : PySem.W.Frag) : Sp := fun vs H Q _ => vs = [.int 1] ∧ ∀ v H', Ex H H' → IsB K flags v H' → Q v H'
theorem rv_gt {i j : Int} (ha : EvR F0 ta σ H 0 (fun x _ => x = .int i)) (hb : EvR F0 tb σ H 0 (fun x _ => x = .int j)) : EvR F0 (tOp (rI0 fun i j => .bl (decide (j < i))) ta tb) σ H 0 (fun x _ => x = .bl (decide (j < i))) :=
  rv_op (ka := 0) (kb := 0) F0.ok ha hb fun _ => rv_I0 (g := fun i j => .bl (decide (j < i)))
theorem rv_chain {i j m : Int} (ha : EvR F0 ta σ H 0 (fun x _ => x = .int i)) (hb : EvR F0 tb σ H 0 (fun x _ => x = .int j)) (hc : EvR F0 tc σ H 0 (fun x _ => x = .int m)) :
    EvR F0 (tChain (rI0 fun i j => .bl (decide (i < j))) (rI0 fun i j => .bl (decide (i < j))) ta tb tc) σ H 0 (fun x _ => x = .bl (decide (i < j) && decide (j < m))) := fun n H1 hn g e Q q =>
  ha n H1 hn g e _ fun x H2 e2 g2 ex => hb n H2 hn F0.g (e.trans e2) _ fun y H3 e3 g3 ey => by
    subst ex ey
    refine ⟨i, j, rfl, rfl, _, rfl, ?_⟩
    split
    · rename_i h
      exact hc n H3 hn F0.g (e.trans (e2.trans e3)) _ fun z H4 e4 g4 ez => by
        subst ez
        refine ⟨j, m, rfl, rfl, q _ H4 (e2.trans (e3.trans e4)) F0.g ?_⟩
        rw [of_decide_eq_true h |> decide_eq_true]
        rfl
    · rename_i h
      refine q _ H3 (e2.trans e3) F0.g ?_
      have : decide (i < j) = false := by simpa using h
      rw [this]
      rfl
theorem ok_of (F : Fun K "_law_own_flags" "_law_own_flags" (K18.topS 31) f fd) (m_range : mg "range" = none) : FnH P w K mg base CX0 1 f fd ["_law_number"] (spOF K) := by
  refine okHot F scOF (fun vs H Q E h => ?_) (fun cdv A outer s H vs Q E p hot hr h => ?_)
  · obtain ⟨rfl, _⟩ := h
    rfl
  · obtain ⟨rfl, q⟩ := h
    refine ⟨_, pss_cons (ps_rangeZ (i := 1) (own := [("_law_spot", 2)]) (g := gName 2) ⟨p, hot, List.mem_cons_self⟩ scOF.nd rfl rfl (sw_true rfl rfl rfl (by kernel_rfl)) (by rfl) m_range (pa_cons pe_int pa_nil) (blkOk_by (own := [("_law_spot", 2)]) (N := nOF) (sc := defScope (K18.topS 31)) (by decide +kernel)) (fun _ _ _ _ _ => pg_name (i := 2) scOF.nd rfl (.inl rfl)) (fun _ _ _ _ _ => pts_nil) (te := tOp rEq (tVar 2) (tVar 0)) (fun _ _ _ _ _ => pe_cmpR op_eq (pv 2) (pv 0) (nomark _)))
      (pss_one (ps_ret (pe_op op_cat (pv 1) (pe_lst (pa_cons (pe_cmpR op_eq (pv 0) pe_int (nomark _)) (pa_cons (pe_chain op_lt op_lt pe_int (pv 0) pe_int) (pa_cons (pe_chain op_lt op_lt pe_int (pv 0) pe_int) (pa_cons (pe_cmpR op_gt (pv 0) pe_int (nomark _)) (pa_cons pe_bl (pa_cons pe_bl pa_nil)))))))))), ?_⟩
    have lc := r_lcR (F := F0) (K := K) (k := 0) (kt := 0) (ke := 0) (H := H) (σ := [some (.int 1), none, none]) (g := gName 2) (tt := tYes) (te := tOp rEq (tVar 2) (tVar 0)) (tr := tCons (tC (.int 7)) tNil) (vs := [2]) (m := 7) F0.ok (fun _ => true) (fun i => .bool (decide ((i : Int) = 1))) (fun n H1 hn g e Q q => q _ H1 Kx.refl g rfl) (by decide) (fun _ _ _ => rfl)
      (fun i n H' hi hg e => ⟨_, gv_name, rfl, fun n H1 hn g e Q q => q H1 Kx.refl g, fun _ => rd_ofB (rv_eqI (rv_var rfl) (rv_var rfl))⟩)
    have e7 : outs (fun _ => true) (fun i => PyData.bool (decide ((i : Int) = 1))) 7 = [false, true, false, false, false, false, false].map PyData.bool := by rfl
    rw [e7] at lc
    refine q_asgR (F := F0) (n := 0) (k := 0) (P := IsB K [false, true, false, false, false, false, false]) lc F0.g (Nat.le_refl _) fun v1 H1 k1 _ p1 => ?_
    exact s_retR (F := F0) (n := 0) (k := 0) (P := IsB K ([false, true, false, false, false, false, false] ++ [false, true, false, false, true, true])) (rb_cat (r_varB (i := 1) rfl p1) (rl_lst F0.ok (ra_cons (ka := 0) (kb := 0) F0.ok (rd_ofB (rv_eqI (a := 1) (b := 0) (rv_var rfl) rv_c)) (ra_cons (ka := 0) (kb := 0) F0.ok (rd_ofB (rv_chain (i := 0) (j := 1) (m := 3) rv_c (rv_var rfl) rv_c)) (ra_cons (ka := 0) (kb := 0) F0.ok (rd_ofB (rv_chain (i := 2) (j := 1) (m := 5) rv_c (rv_var rfl) rv_c)) (ra_cons (ka := 0) (kb := 0) F0.ok (rd_ofB (rv_gt (i := 1) (j := 4) (rv_var rfl) rv_c)) (ra_cons (ka := 0) (kb := 0) F0.ok (rd_ofB rv_c) (ra_cons (ka := 0) (kb := 0) F0.ok (rd_ofB rv_c) ra_nil)))))))) F0.g (Nat.le_refl _) fun v2 H2 k2 _ p2 => q v2 H2 ((F0.ex k1).trans (F0.ex k2)) p2
/-! ### the fields -/
def nFi : List Str := ["_law_e", "_law_number"]
theorem scFi : FnScope nFi nFi (defScope (K18.topS 32)) := ⟨rfl, rfl, rfl, by decide +kernel, rfl, by decide +kernel, by decide +kernel⟩
def spFi (C : Addr) : Addr → Value → Option Addr → Sp := fun a cls d vs H Q _ => ∃ (dd : Addr) (fs : List (Str × V)) (w1 w2 : V), vs = [.ref a, .int 1] ∧ cls = .ref C ∧ d = some dd ∧ H dd = some (.xd fs) ∧ fs.lookup ("word" : Str) = some w1 ∧ fs.lookup ("at" : Str) = some w2 ∧ ∀ H' p, Ex H H' → H' p = none → Q (.ref p) (upd H' p (.tup [.str "use", w1, w2]))
theorem ok_fi {c : Nat → Addr} (F : Fun K "_law_fields" "_law_fields" (K18.topS 32) f fd) (T : Fl K mg C c) : FnP P w K mg base 1 f fd nFi (spFi C) := by
  refine okP F scFi (fun a cls d vs H Q E h => ?_) (fun cdv A outer s H vs Q E a oe cls d hot hz hr h => ?_)
  · obtain ⟨dd, fs, w1, w2, rfl, _⟩ := h
    rfl
  · obtain ⟨dd, fs, w1, w2, rfl, rfl, rfl, hdd, l1, l2, q⟩ := h
    have hf : ∃ vs, oe.data = .fields vs := by
      obtain ⟨_, vs, e, _⟩ := hot
      exact ⟨vs, e⟩
    refine ⟨_, pss_cons (ps_if (pt_cmpR op_eq (pv 1) pe_int (nomark _)) pss_never pss_nil)
      (pss_cons (ps_if (pt_cmpR op_eq (pv 1) pe_int (nomark _)) (pss_one (ps_ret (pe_tup (pa_cons pe_str (pa_cons (pe_xfP (cls := .ref C) (d := some dd) List.mem_cons_self hz hf T.xf T.w0 (pv 0)) (pa_cons (pe_xfP (cls := .ref C) (d := some dd) List.mem_cons_self hz hf T.xf T.a0 (pv 0)) pa_nil)))))) pss_nil)
      pss_never), ?_⟩
    refine q_whenR (F := F0) (n := 0) (k := 0) (b := false) (rt_B (rv_eqI (a := 1) (b := 0) (rv_var rfl) rv_c)) F0.g (Nat.le_refl _) (fun z => by cases z) fun _ H1 k1 _ => ?_
    refine q_whenR (F := F0) (n := 0) (k := 0) (b := true) (rt_B (rv_eqI (a := 1) (b := 1) (rv_var rfl) rv_c)) F0.g (Nat.le_refl _) (fun _ H2 k2 _ => ?_) fun z => by cases z
    have e2 := (F0.ex k1).trans (F0.ex k2)
    have h2 := e2 _ _ hdd
    exact ⟨.ref a, rfl, rfl, rfl, dd, fs, w1, rfl, h2, l1, .ref a, rfl, rfl, rfl, dd, fs, w2, rfl, h2, l2, (by show 3 ≤ sizeLine; decide), fun p hp => q H2 p e2 hp⟩
end
end Q4
set_option maxHeartbeats 4000000
/-! ### k04: _law_outcome -/
namespace Q4
open PySem PySem.Spec PyProof.Rows L2 L2H Evl Fx Fr Dt Tr K18 So K17 Hc
def nOut4 : List Str := ["_law_ask", "_law_found", "_law_e", "_law_flags", "_law_numbers", "_law_spot"]
theorem scOut4 : FnScope nOut4 ["_law_ask"] (defScope (K18.topS 33)) := ⟨rfl, rfl, rfl, by decide +kernel, rfl, by decide +kernel, by decide +kernel⟩
/-- the error that is told of -/
def exOut4 (C : Addr) (Q : VK) : XK := fun cls d H => cls = .ref C ∧ ∃ (dd : Addr) (fs : List (Str × V)) (w a : V), d = some dd ∧ H dd = some (.xd fs) ∧ fs.lookup ("word" : Str) = some w ∧ fs.lookup ("at" : Str) = some a ∧
  ∀ H' p, Ex H H' → H' p = some (.tup [.str "use", w, a]) → Q (.ref p) H'
def TOut4 (C : Addr) : (XK → Hp → VK → Prop) → Hp → VK → Prop := fun tl H Q => ∀ H1, Ex H H1 → tl (exOut4 C Q) H1 fun v H2 => ∀ p, H2 p = none → Q (.ref p) (upd H2 p (.tup [.str "result", v]))
theorem takes_lenN {X : Cx} {W : L2.WX} {n : Nat} (tk : L2N.Takes X W) (hn : X.N.length = n) : L2N.Takes X (fun cls d σ H => σ.length = n → W cls d σ H) := fun u s' ⟨a, B, sI, pins, σ, H, cls, d, e, I, nb, up, sky, na, os, ag, w⟩ =>
  tk u s' ⟨a, B, sI, pins, σ, H, cls, d, e, I, nb, up, sky, na, os, ag, w (I.len.trans hn)⟩
theorem takes0N {X : Cx} : L2N.Takes X (fun _ _ _ _ => False) := fun _ _ x => by
  obtain ⟨_, _, _, _, _, _, _, _, _, _, _, _, _, _, _, _, z⟩ := x
  exact z.elim
section
variable {K : PySem.W.Frag} {te tl ta tb tc : TE} {σ : L2.St} {H : Hp}
theorem r_ixB {bs : List Bool} {i : Nat} (ha : EvR F0 ta σ H 0 (IsB K bs)) (hb : EvR F0 tb σ H 0 (fun x _ => x = .int (i : Int))) (hi : i < bs.length) : EvR F0 (tOp (rIxL K) ta tb) σ H 0 (fun x _ => x = .bl (bs.getD i false)) := by
  have e : ((bs.map PyData.bool))[i]? = some (.bool (bs.getD i false)) := by
    rw [List.getElem?_map, List.getElem?_eq_getElem hi, List.getD_eq_getElem?_getD, List.getElem?_eq_getElem hi]
    rfl
  exact rv_bl (K := K) (rd_ixL (ka := 0) (kb := 0) F0.ok ha (b_flat bs) hb i (ixN_nat (by rw [List.length_map]; exact hi)) e)
end
/-- the defs that the suite calls -/
structure Sub4 (P : Program) (w : World) (K : PySem.W.Frag) (mg : Str → Option Value) (base : Heap) (C : Addr) (fc fo ff : Addr) (fdc fdo fdf : FuncData) : Prop where
  Gc : FnP P w K mg base 1 fc fdc ["_law_e"] (spCF K C)
  gc : mg "_law_class_flags" = some (.ref fc)
  kc : PySem.W.keepIn K (.ref fc) = true
  bc : L2.Binds K fdc ["_law_e"] []
  Go : FnH P w K mg base CX0 1 fo fdo ["_law_number"] (spOF K)
  go : mg "_law_own_flags" = some (.ref fo)
  ko : PySem.W.keepIn K (.ref fo) = true
  bo : L2.Binds K fdo ["_law_number"] []
  Gf : FnP P w K mg base 1 ff fdf nFi (spFi C)
  gf : mg "_law_fields" = some (.ref ff)
  kf : PySem.W.keepIn K (.ref ff) = true
  bf : L2.Binds K fdf nFi []
theorem out_tells {X : Cx} {C g : Addr} {c : Nat → Addr} {cdg : Value} {q : Str} {fc fo ff : Addr} {fdc fdo fdf : FuncData} (T : Fl X.K X.mg C c) (S : Sub4 X.prog X.w X.K X.mg X.base C fc fo ff fdc fdo fdf) (m_range : X.mg "range" = none) (m_len : X.mg "len" = none) (hr : Room 4 X.A) :
    TellsN X nOut4 "_law_outcome" (defScope (K18.topS 33)) g cdg (defBody (K18.topS 33)) "_law_ask" q (TOut4 C) := by
  intro f c' s H Q tl act hc h
  have gl : ∀ x : Str, (defScope (K18.topS 33)).names.lookup x = some .globalImplicit → Gl (cxOf C8.CX0 X.prog X.w X.K X.mg X.base nOut4 "_law_outcome" (defScope (K18.topS 33)) g cdg X.A X.stack s H C8.E0).nox x := fun x e => e
  have rh : ∀ {a : Addr} {pn : List (Addr × Obj)}, RoomH 2 ((cxOf C8.CX0 X.prog X.w X.K X.mg X.base nOut4 "_law_outcome" (defScope (K18.topS 33)) g cdg X.A X.stack s H C8.E0).nox.suite a pn).A := fun {a pn} => ⟨by have := hr.dp; show X.A.depth + 1 + 3 * 2 + 5 < _; omega, by have := hr.un; show X.A.units + 3 + 16 * 2 + 200 < _; omega⟩
  have units : ∀ {a : Addr} {pn : List (Addr × Obj)}, ((cxOf C8.CX0 X.prog X.w X.K X.mg X.base nOut4 "_law_outcome" (defScope (K18.topS 33)) g cdg X.A X.stack s H C8.E0).nox.suite a pn).A.units + 64 < cLine := fun {a pn} => by
    have := (rh (a := a) (pn := pn)).un
    omega
  refine ⟨_, pss_cons (ps_set (i := 1) scOut4.nd rfl (.inl rfl) (pe_tup (pa_cons pe_str pa_nil)))
    (pss_cons (L2N.ps_try_as (i := 2) (c := .ref (c 11)) (tb := fun W D σ H => ∃ Ech : XK, (∀ cls d σ' H', Ech cls d H' → σ'.length = 6 → W cls d σ' H') ∧ σ[0]? = some (some (.ref f)) ∧ H c' = some (LamX.CodeO c' q) ∧
          tl Ech H fun v H' => [V.str "result", v].length ≤ sizeLine ∧ ∀ p, H' p = none → D.nx (σ.set 1 (some (.ref p))) (upd H' p (.tup [.str "result", v])))
      rfl rfl scOut4.nd rfl rfl ⟨gl _ rfl, by decide, .inl T.k11.g⟩ takes0N (fun W pn xe tk _ => ?_) (fun a oe cls d pn hz hf =>
        pss_cons (ps_set (i := 3) scOut4.nd rfl (.inr rfl) (pe_callP (cls := cls) (d := d) (E := C8.E0) S.Gc List.mem_cons_self (hot_suite hz hf) hz.zc (rh.mono (by decide)) (gl _ rfl) S.gc S.kc S.bc (pa_cons (pv 2) pa_nil)))
        (pss_cons (ps_rangeZ (i := 4) (own := [("_law_spot", 5)]) (g := gName 5) ⟨(a, oe), hot_suite hz hf, List.mem_cons_self⟩ scOut4.nd rfl rfl (sw_true rfl rfl rfl (by kernel_rfl)) (gl _ rfl) m_range (pa_cons pe_int pa_nil) (blkOk_by (own := [("_law_spot", 5)]) (N := nOut4) (sc := defScope (K18.topS 33)) (by decide +kernel)) (fun _ _ _ _ _ => pg_name (i := 5) scOut4.nd rfl (.inl rfl)) (fun _ _ _ _ _ => pts_one (pt_val (pe_ix (r := rIxL X.K) ix_list (pv 3) (pv 5) (fun _ _ => rfl)))) (te := tVar 5) (fun _ _ _ _ _ => pv 5))
        (pss_one (ps_if (PW.pt (pw_and (pt_cmpR op_eq (pe_callB (r := rLenS X.K) call_lenS (gl _ rfl) m_len PySem.boot_len (pa_cons (pv 4) pa_nil)) pe_int (nomark _)) (pw_and1 (pt_cmpR (r := rEqD X.K) (op_eqD units) (pv 3) (pe_callH (E := fun _ => C8.E0) S.Go (rh.mono (by decide)) ⟨(a, oe), hot_suite hz hf, List.mem_cons_self⟩ (gl _ rfl) S.go S.ko S.bo (fun _ _ _ _ _ _ _ h => h.elim) (pa_cons (pe_ix (r := rIxL X.K) ix_list (pv 4) pe_int (fun _ _ => rfl)) pa_nil)) (nomark _)))))
          (pss_one (ps_set (i := 1) scOut4.nd rfl (.inl rfl) (pe_callP (cls := cls) (d := d) (E := C8.E0) S.Gf List.mem_cons_self (hot_suite hz hf) hz.zc (rh.mono (by decide)) (gl _ rfl) S.gf S.kf S.bf (pa_cons (pv 2) (pa_cons (pe_ix (r := rIxL X.K) ix_list (pv 4) pe_int (fun _ _ => rfl)) pa_nil)))))
          pss_nil)))))
    (pss_one (ps_ret (pv 1)))), ?_⟩
  · refine ⟨fun pins s' σ H' D I h' => ?_⟩
    obtain ⟨Ech, hW, h1, h2, h3⟩ := h'
    exact (pss_one (ps_set (i := 1) scOut4.nd rfl (.inl rfl) (pe_tup (pa_cons pe_str (pa_cons (act _ pn xe Ech _ _ (takes_lenN tk rfl) hW) pa_nil))))).run pins s' σ H' D I ⟨h1, h2, h3⟩
  · show tSeq (tAsg (tTup (tCons (tC (.str "other")) tNil)) (gName 1)) _ _ [some (.ref f), none, none, none, none, none] H
    refine ⟨(by decide : [V.str "other"].length ≤ sizeLine), fun p0 hp0 => ?_⟩
    have e0 := Ex.new (o := .tup [V.str "other"]) hp0
    refine ⟨exOut4 C Q, fun cls d σ' H' hx hl => ?_, rfl, e0 _ _ hc, ?_⟩
    · obtain ⟨rfl, dd, fs, w, b, rfl, hdd, lw, la, q⟩ := hx
      match σ', hl with
      | [x0, x1, x2, x3, x4, x5], _ =>
      refine ⟨true, T.eT, fun _ a ha => ?_, fun z => by cases z⟩
      show tSeq (tAsg (tCall (spCF X.K C a (.ref C) (some dd)) [] C8.E0 (tCons (tVar 2) tNil)) (gName 3)) _ _ [x0, x1, some (.ref a), x3, x4, x5] H'
      have rcf : EvR F0 (tCall (spCF X.K C a (.ref C) (some dd)) [] C8.E0 (tCons (tVar 2) tNil)) [x0, x1, some (.ref a), x3, x4, x5] H' 0 (IsB X.K flags) := fun n H1 hn g e Q' q' => ⟨.ref a, rfl, dd, fs, rfl, rfl, rfl, F0.ex e _ _ hdd, fun v H2 e2 p => q' v H2 (Kx.ex e2) F0.g p⟩
      refine q_asgR (F := F0) (n := 0) (k := 0) (P := IsB X.K flags) rcf F0.g (Nat.le_refl _) fun v3 H3 k3 _ p3 => ?_
      have d3 := F0.ex k3 _ _ hdd
      have lc := r_lcR (F := F0) (K := X.K) (k := 0) (kt := 0) (ke := 0) (H := H3) (σ := [x0, x1, some (.ref a), some v3, x4, x5]) (g := gName 5) (tt := tB (tOp (rIxL X.K) (tVar 3) (tVar 5))) (te := tVar 5) (tr := tCons (tC (.int 7)) tNil) (vs := [5]) (m := 7) F0.ok (fun i => flags.getD i false) (fun i => .int (i : Int)) (fun n H1 hn g e Q q => q _ H1 Kx.refl g rfl) (by decide) (fun _ _ _ => rfl)
        (fun i n H2 hi hg e => ⟨_, gv_name, rfl, rt_B (r_ixB (r_varB (i := 3) rfl (mono_l F0.ok (b_flat _) 0 _ _ _ F0.g e p3)) (rv_var rfl) (Nat.lt_of_lt_of_le hi (by decide))), fun _ => rd_ofI (rv_var rfl)⟩)
      have e7 : outs (fun i => flags.getD i false) (fun i => PyData.int (i : Int)) 7 = [.int 1] := by rfl
      rw [e7] at lc
      change tSeq (tAsg (tLc _ _ _ _ _) (gName 4)) _ _ [x0, x1, some (.ref a), some v3, x4, x5] H3
      refine q_asgR (F := F0) (n := 0) (k := 0) (P := IsL F0 X.K [.int 1]) lc F0.g (Nat.le_refl _) fun v4 H4 k4 _ p4 => ?_
      have d4 := F0.ex k4 _ _ d3
      have q3 : IsB X.K flags v3 H4 := mono_l F0.ok (b_flat _) 0 _ _ _ F0.g k4 p3
      change tIfS _ _ _ _ [x0, x1, some (.ref a), some v3, some v4, x5] H4
      have ix0 : ∀ {H5 : Hp}, Kx F0.S H4 H5 → EvR F0 (tOp (rIxL X.K) (tVar 4) (tC (.int 0))) [x0, x1, some (.ref a), some v3, some v4, x5] H5 0 (fun x _ => x = .int 1) := fun k => rv_int (K := X.K) (rd_ixL (ka := 0) (kb := 0) (ds := [.int 1]) F0.ok (rl_varX (i := 4) rfl (mono_l F0.ok rfl 0 _ _ _ F0.g k p4)) rfl rv_c 0 rfl rfl)
      have own : EvR F0 (tCallS (spOF X.K) (fun _ => C8.E0) (tCons (tOp (rIxL X.K) (tVar 4) (tC (.int 0))) tNil)) [x0, x1, some (.ref a), some v3, some v4, x5] H4 0 (IsL F0 X.K (flags.map PyData.bool)) := fun n H1 hn g e Q' q' => ix0 (Kx.refl) n H1 hn g e _ fun v H2 e2 g2 ev => by
        subst ev
        exact ⟨rfl, fun u H3 e3 p => q' u H3 (e2.trans (Kx.ex e3)) F0.g p⟩
      refine s_ifR (F := F0) (n := 0) (k := 0) (b := decide (((1 : Nat) : Int) = 1) && PyData.eqv (.list (flags.map PyData.bool)) (.list (flags.map PyData.bool))) (rt_and (ka := 0) (kb := 0) F0.ok (rt_B (rv_eqI (rv_lenL (rl_varX (i := 4) rfl p4)) rv_c)) fun _ => rt_B (rb_eqL (ka := 0) (kb := 0) F0.ok (r_varB (i := 3) rfl q3) own (b_flat _) (by decide +kernel) (by decide +kernel))) F0.g (Nat.le_refl _) (fun _ H5 k5 _ => ?_) fun z => absurd z (by decide +kernel)
      have d5 := F0.ex k5 _ _ d4
      show tAsg (tCall (spFi C a (.ref C) (some dd)) [] C8.E0 (tCons (tVar 2) (tCons (tOp (rIxL X.K) (tVar 4) (tC (.int 0))) tNil))) (gName 1) _ [x0, x1, some (.ref a), some v3, some v4, x5] H5
      refine ⟨.ref a, rfl, ix0 k5 0 H5 (Nat.le_refl _) F0.g Kx.refl _ fun u H6 k6 _ eu => ?_⟩
      subst eu
      refine ⟨dd, fs, w, b, rfl, rfl, rfl, F0.ex k6 _ _ d5, lw, la, fun H7 p e7 hp => ⟨.ref p, rfl, q _ p ((((F0.ex k3).trans (F0.ex k4)).trans (F0.ex k5)).trans ((F0.ex k6).trans (e7.trans (Ex.new hp)))) upd_same⟩⟩
    · have e1 := h _ e0
      refine (congrArg (fun z => tl (exOut4 C Q) _ z) ?_).mp e1
      funext v H2
      exact propext ⟨fun q => ⟨(by show 2 ≤ sizeLine; decide), fun p hp => ⟨.ref p, rfl, q p hp⟩⟩, fun q p hp => by
        obtain ⟨u, e, q⟩ := q.2 p hp
        cases e
        exact q⟩
end Q4
set_option maxHeartbeats 2000000
/-! ### k04: repr of large ints; what stays; over in a lambda -/
namespace Q4
open PySem PySem.Spec PyProof.Rows L2 L2H Evl Fx Fr Dt Tr K18 So K17 Hc
/-- data whose repr is not too long, ints of up to 690 bits among them -/
structure Sg (n w : Nat) (d : PyData) : Prop where
  lay : PyData.canLay0 d = true
  nums : PyData.intsShort 700 d = true
  shows : PyData.showable d = true
  nod : PyData.hasDict d = false
  dep : PyData.depth d ≤ n
  wt : PyData.weight d ≤ w
theorem Sg.mono {n m w v : Nat} {d : PyData} (h : Sg n w d) (h1 : n ≤ m) (h2 : w ≤ v) : Sg m v d := ⟨h.lay, h.nums, h.shows, h.nod, Nat.le_trans h.dep h1, Nat.le_trans h.wt h2⟩
theorem Sg.len {n w : Nat} {d : PyData} (h : Sg n w d) (hw : w ≤ 20000) : d.shown.length ≤ sizeLine := by
  have h1 := PyData.shown_le 700 (by decide) d (PyData.leavesShort_of_canLay0 700 d h.lay h.nums)
  have h2 : (700 + 2) * d.weight ≤ (700 + 2) * 20000 := Nat.mul_le_mul_left _ (Nat.le_trans h.wt hw)
  rw [sizeLine_eq]
  omega
theorem sg_int {i : Int} (h : i.natAbs < 2 ^ 690) : Sg 0 690 (.int i) := by
  have hl : i.natAbs.log2 < 690 := by
    by_cases h0 : i.natAbs = 0
    · rw [h0]; decide
    · exact (Nat.log2_lt h0).mpr h
  refine ⟨by simp [PyData.canLay0], ?_, ?_, by simp [PyData.hasDict], by simp [PyData.depth], ?_⟩
  · have := int_text_length_le (a := i) (k := 690) (by decide) hl
    simp only [PyData.intsShort, PyData.shown]
    exact decide_eq_true (by rw [PySem.ofString_length]; omega)
  · simp only [PyData.showable]
    exact decide_eq_true (by omega)
  · simp only [PyData.weight]
    split <;> omega
theorem sg_bool {b : Bool} : Sg 0 690 (.bool b) := ⟨by simp [PyData.canLay0], by simp [PyData.intsShort], by simp [PyData.showable], by simp [PyData.hasDict], by simp [PyData.depth], by simp [PyData.weight]⟩
theorem sg_str {x : Str} (h : PyData.strOk x = true) (hw : x.cps.size ≤ 690) : Sg 0 690 (.str x) :=
  ⟨by simp [PyData.canLay0, h], by simp [PyData.intsShort], by simp [PyData.showable], by simp [PyData.hasDict], by simp [PyData.depth], by simp only [PyData.weight]; exact hw⟩
theorem sg_all {n w : Nat} : ∀ {ds : List PyData}, (∀ x ∈ ds, Sg n w x) → PyData.canLayAll0 ds = true ∧ PyData.intsShortAll 700 ds = true ∧ PyData.showableAll ds = true ∧ PyData.hasDictAll ds = false ∧ PyData.depthAll ds ≤ n ∧ PyData.weightAll ds ≤ ds.length * (w + 1)
  | [], _ => by simp [PyData.canLayAll0, PyData.intsShortAll, PyData.showableAll, PyData.hasDictAll, PyData.depthAll, PyData.weightAll]
  | d :: ds, h => by
    obtain ⟨a1, a2, a3, a4, a5, a6⟩ := sg_all fun x hx => h x (List.mem_cons_of_mem _ hx)
    have b := h d (List.mem_cons_self ..)
    have b5 := b.dep
    have b6 := b.wt
    refine ⟨by rw [PyData.canLayAll0, b.lay, a1]; rfl, by rw [PyData.intsShortAll, b.nums, a2]; rfl, by rw [PyData.showableAll, b.shows, a3]; rfl, by rw [PyData.hasDictAll, b.nod, a4]; rfl, by rw [PyData.depthAll]; omega, ?_⟩
    rw [PyData.weightAll, List.length_cons, Nat.succ_mul]
    omega
theorem sg_tup {n w m : Nat} {ds : List PyData} (h : ∀ x ∈ ds, Sg n w x) (hm : ds.length ≤ m) : Sg (n + 1) (m * (w + 1)) (.tuple ds) := by
  obtain ⟨a1, a2, a3, a4, a5, a6⟩ := sg_all h
  refine ⟨by rw [PyData.canLay0]; exact a1, by rw [PyData.intsShort]; exact a2, by rw [PyData.showable]; exact a3, by rw [PyData.hasDict]; exact a4, by rw [PyData.depth]; omega, ?_⟩
  rw [PyData.weight]
  exact Nat.le_trans a6 (Nat.mul_le_mul_right _ hm)
theorem sg_lst {n w m : Nat} {ds : List PyData} (h : ∀ x ∈ ds, Sg n w x) (hm : ds.length ≤ m) : Sg (n + 1) (m * (w + 1)) (.list ds) := by
  obtain ⟨a1, a2, a3, a4, a5, a6⟩ := sg_all h
  refine ⟨by rw [PyData.canLay0]; exact a1, by rw [PyData.intsShort]; exact a2, by rw [PyData.showable]; exact a3, by rw [PyData.hasDict]; exact a4, by rw [PyData.depth]; omega, ?_⟩
  rw [PyData.weight]
  exact Nat.le_trans a6 (Nat.mul_le_mul_right _ hm)
theorem sg_fr {x : Rat} (h : Bd 690 x) : Sg 1 1382 (frD x) := sg_tup (m := 2) (w := 690) (fun z hz => by
  simp only [List.mem_cons, List.not_mem_nil, or_false] at hz
  rcases hz with rfl | rfl
  · exact sg_int h.1
  · exact sg_int h.2) (Nat.le_refl 2)
section
variable {K : PySem.W.Frag} {te tl ta tb tc : TE} {σ : L2.St} {H H' : Hp} {d : PyData} {ds : List PyData} {C : Addr}
theorem rv_reprG {n w : Nat} (h : EvR F0 te σ H 0 (IsD K d)) (s : Sg n w d) (hn : n ≤ 60) (hw : w ≤ 20000) : EvR F0 (tCB (rReprX K) (tCons te tNil)) σ H 0 (fun x _ => x = .str (PyData.shown d)) := fun n1 H1 h1 g e Q q => h n1 H1 h1 g e _ fun v H2 e2 g2 hd =>
  ⟨v, d, rfl, hd, s.shows, s.nod, Nat.le_trans s.dep hn, s.len hw, q _ H2 e2 g2 rfl⟩
theorem rd_list (h : EvR F0 te σ H 0 (IsL F0 K ds)) : EvR F0 te σ H 0 (IsD K (.list ds)) := h.imp fun _ _ _ _ _ ⟨a, xs, ev, hT, ha, hd⟩ => by
  subst ev
  exact .lst (sq_of ha) hd
theorem rv_neS {a b : Str} (ha : EvR F0 ta σ H 0 (fun x _ => x = .str a)) (hb : EvR F0 tb σ H 0 (fun x _ => x = .str b)) : EvR F0 (tOp rNe ta tb) σ H 0 (fun x _ => x = .bl (!decide (a = b))) := by
  have h := rv_op (ka := 0) (kb := 0) (r := rNe) (z := .bl (!decide (V.str a = V.str b))) F0.ok ha hb (fun _ => rv_ne rfl)
  have e : decide (V.str a = V.str b) = decide (a = b) := decide_eq_decide.mpr ⟨fun h => V.str.inj h, fun h => by rw [h]⟩
  rw [e] at h
  exact h
theorem rd_part {p q : Int} {E : XK} (ha : EvR F0 ta σ H 0 (fun x _ => x = .int p)) (hb : EvR F0 tb σ H 0 (fun x _ => x = .int q)) (h0 : q ≠ 0) (hq : q.natAbs < 2 ^ 4000) : EvR F0 (tCall (spPart K) [] E (tCons ta (tCons tb tNil))) σ H 0 (IsD K (frD (Rat.divInt p q))) := fun n H1 hn g e Q k =>
  ha n H1 hn g e _ fun u H2 e2 g2 eu => hb n H2 hn F0.g (e.trans e2) _ fun v H3 e3 g3 ev => by
    subst eu ev
    exact ⟨p, q, rfl, h0, hq, fun z H4 e4 dz => k z H4 (e2.trans (e3.trans (Kx.ex e4))) F0.g dz⟩
/-- what over is to tell -/
def lateD (x y : Rat) : PyData := if y = 0 then .tuple [.str "use", .str "zero", .int (-1)] else .tuple [.str "result", frD (x / y)]
theorem late_sg {x y : Rat} (hx : Bd 300 x) (hy : Bd 300 y) : Sg 2 6000 (lateD x y) := by
  unfold lateD
  split
  · exact (sg_tup (n := 0) (w := 690) (m := 3) (fun z hz => by
      simp only [List.mem_cons, List.not_mem_nil, or_false] at hz
      rcases hz with rfl | rfl | rfl
      · exact sg_str (by decide +kernel) (by decide +kernel)
      · exact sg_str (by decide +kernel) (by decide +kernel)
      · exact sg_int (lt_up (n := 1) (by decide) (by decide))) (by decide)).mono (by decide) (by decide)
  · rename_i h
    exact (sg_tup (n := 1) (w := 1382) (m := 2) (ds := [.str "result", frD (x / y)]) (fun z hz => by
      simp only [List.mem_cons, List.not_mem_nil, or_false] at hz
      rcases hz with rfl | rfl
      · exact (sg_str (by decide +kernel) (by decide +kernel)).mono (by decide) (by decide)
      · exact sg_fr (Bd.mono (bd_quo hx hy h) (by decide))) (Nat.le_refl 2)).mono (by decide) (by decide)
theorem over_told {x y : Rat} {v1 v2 : V} {Q : VK} (ok : okB 1 x y) (p1 : Dp K H v1 (frD x)) (p2 : Dp K H v2 (frD y)) (q : ∀ p H', Ex H H' → Dp K H' (.ref p) (lateD x y) → Q (.ref p) H') :
    spOverX K C [v1, v2] H (fun v H3 => ∀ p, H3 p = none → Q (.ref p) (upd H3 p (.tup [.str "result", v]))) (exOut4 C Q) :=
  ⟨v1, v2, x, y, rfl, p1, p2, ok, fun y0 H' dd fs e hdd lw la => ⟨rfl, dd, fs, _, _, rfl, hdd, lw, la, fun H'' p e' hp => q p H'' (e.trans e') (by
      rw [lateD, if_pos y0]
      exact .tup (st_of hp) (.cons (.str _) (.cons (.str _) (.cons (.int _) .nil))))⟩, fun yn v H' e dv p hp => q p _ (e.trans (Ex.new hp)) (by
      rw [lateD, if_neg yn]
      exact .tup (st_of upd_same) (.cons (.str _) (.cons (dp_ex (Ex.new hp) _ _ dv) .nil)))⟩
end
end Q4
set_option maxHeartbeats 4000000
/-! ### k04: _law_check_two -/
namespace Q4
open PySem PySem.Spec PyProof.Rows L2 L2H Evl Fx Fr Dt Tr K18 So K17 Hc DtG
def lq (x : Str) : Str := x ++ ".<locals>.<lambda>"
/-- the tables of code objects of the three defs -/
def T3 (P1 P2 P3 : Addr) : List (Addr × Str) := [(P1, "_law_check_made.<locals>.<lambda>"), (P2, "_law_check_two.<locals>.<lambda>"), (P3, "_law_check_totals.<locals>.<lambda>")]
/-- the defs and facts that lambdas are given to -/
structure Lm (P : Program) (w : World) (K : PySem.W.Frag) (mg : Str → Option Value) (base : Heap) (C : Addr) (c : Nat → Addr) (g : Addr) (gd : FuncData) (fc fo ff : Addr) (fdc fdo fdf : FuncData) : Prop where
  T : Fl K mg C c
  S : Sub4 P w K mg base C fc fo ff fdc fdo fdf
  F : Fun K "_law_outcome" "_law_outcome" (K18.topS 33) g gd
  go : mg "_law_outcome" = some (.ref g)
  bo : L2.Binds K gd ["_law_ask"] []
  m_range : mg "range" = none
  m_len : mg "len" = none
def nTwo : List Str := ["_law_a", "_law_b", "_law_got", "_law_due", "_law_late"]
theorem scTwo : FnScope nTwo ["_law_a", "_law_b"] (defScope (K18.topS 38)) := ⟨rfl, rfl, rfl, by decide +kernel, rfl, by decide +kernel, by decide +kernel⟩
section
variable {P : Program} {w : World} {K : PySem.W.Frag} {mg : Str → Option Value} {base : Heap} {f f1 f2 f3 : Addr} {fd fd1 fd2 fd3 : FuncData} {te tl ta tb : TE} {σ σ2 : L2.St} {H H1 : Hp} {k ka kb n : Nat} {ds es : List PyData} {C d l : Addr}
def spTwo (K : PySem.W.Frag) (T : List (Addr × Str)) : Sp := fun vs H Q _ => ∃ (v1 v2 : V) (x y : Rat), vs = [v1, v2] ∧ Dp K H v1 (frD x) ∧ Dp K H v2 (frD y) ∧ Bd 300 x ∧ Bd 300 y ∧ LamX.Tabs T H ∧ ∀ H', LamX.ExtN H H' → LamX.Tabs T H' → Q (.bl true) H'
theorem ok_two {c0 P1 P2 P3 fv g fc fo ff : Addr} {fdv gd fdc fdo fdf : FuncData} {c : Nat → Addr} (F : FunC K "_law_check_two" "_law_check_two" (K18.topS 38) f fd c0) (TB : LamX.TabB base mg c0 P2) (n12 : P1 ≠ P2) (n32 : P3 ≠ P2)
    (cP : C8.Cal P w K mg base 2 "plus" (spOpF K (· + ·)) []) (cM : C8.Cal P w K mg base 2 "minus" (spOpF K (· - ·)) []) (cT : C8.Cal P w K mg base 2 "times" (spOpF K (· * ·)) []) (cL : C8.Cal P w K mg base 1 "is_less" (spLess K) []) (cA : C8.Cal P w K mg base 2 "_law_part" (spPart K) [])
    (Fv : FnOk P w K mg base (L2N.CX P w) 3 fv fdv ["one", "other"] (spOverX K C)) (gv : mg "over" = some (.ref fv)) (kv : PySem.W.keepIn K (.ref fv) = true) (bv : L2.Binds K fdv ["one", "other"] [])
    (M : Lm P w K mg base C c g gd fc fo ff fdc fdo fdf) (m_repr : mg "repr" = none) : FnG P w K mg base CX0 6 f fd ["_law_a", "_law_b"] (spTwo K (T3 P1 P2 P3)) := by
  refine okGC F scTwo (fun vs H Q E h => ?_) (fun A outer s H vs Q E hgd hr h => ?_)
  · obtain ⟨v1, v2, x, y, rfl, _⟩ := h
    rfl
  · obtain ⟨v1, v2, x, y, rfl, p1, p2, b1, b2, hT, q⟩ := h
    refine ⟨_, pss_cons (ps_set (i := 2) scTwo.nd rfl (.inl rfl) (pe_lst (pa_cons (C8.pe_c cP hr (by decide) (by rfl) (pa_cons (pv 0) (pa_cons (pv 1) pa_nil))) (pa_cons (C8.pe_c cM hr (by decide) (by rfl) (pa_cons (pv 0) (pa_cons (pv 1) pa_nil))) (pa_cons (C8.pe_c cT hr (by decide) (by rfl) (pa_cons (pv 0) (pa_cons (pv 1) pa_nil))) (pa_cons (C8.pe_c cL hr (by decide) (by rfl) (pa_cons (pv 0) (pa_cons (pv 1) pa_nil))) pa_nil))))))
      (pss_cons (ps_set (i := 3) scTwo.nd rfl (.inl rfl) (pe_lst (pa_cons (C8.pe_c cA hr (by decide) (by rfl) (pa_cons (pe_op op_add (pe_op op_mulW (pe_ix ix_tup (pv 0) pe_int (fun _ _ => rfl)) (pe_ix ix_tup (pv 1) pe_int (fun _ _ => rfl))) (pe_op op_mulW (pe_ix ix_tup (pv 1) pe_int (fun _ _ => rfl)) (pe_ix ix_tup (pv 0) pe_int (fun _ _ => rfl)))) (pa_cons (pe_op op_mulW (pe_ix ix_tup (pv 0) pe_int (fun _ _ => rfl)) (pe_ix ix_tup (pv 1) pe_int (fun _ _ => rfl))) pa_nil))) pa_nil)))
      (pss_cons (ps_set (i := 3) scTwo.nd rfl (.inl rfl) (pe_op op_cat (pv 3) (pe_lst (pa_cons (C8.pe_c cA hr (by decide) (by rfl) (pa_cons (pe_op op_sub (pe_op op_mulW (pe_ix ix_tup (pv 0) pe_int (fun _ _ => rfl)) (pe_ix ix_tup (pv 1) pe_int (fun _ _ => rfl))) (pe_op op_mulW (pe_ix ix_tup (pv 1) pe_int (fun _ _ => rfl)) (pe_ix ix_tup (pv 0) pe_int (fun _ _ => rfl)))) (pa_cons (pe_op op_mulW (pe_ix ix_tup (pv 0) pe_int (fun _ _ => rfl)) (pe_ix ix_tup (pv 1) pe_int (fun _ _ => rfl))) pa_nil))) pa_nil))))
      (pss_cons (ps_set (i := 3) scTwo.nd rfl (.inl rfl) (pe_op op_cat (pv 3) (pe_lst (pa_cons (C8.pe_c cA hr (by decide) (by rfl) (pa_cons (pe_op op_mulW (pe_ix ix_tup (pv 0) pe_int (fun _ _ => rfl)) (pe_ix ix_tup (pv 1) pe_int (fun _ _ => rfl))) (pa_cons (pe_op op_mulW (pe_ix ix_tup (pv 0) pe_int (fun _ _ => rfl)) (pe_ix ix_tup (pv 1) pe_int (fun _ _ => rfl))) pa_nil))) (pa_cons (pe_cmpR op_lt (pe_op op_mulW (pe_ix ix_tup (pv 0) pe_int (fun _ _ => rfl)) (pe_ix ix_tup (pv 1) pe_int (fun _ _ => rfl))) (pe_op op_mulW (pe_ix ix_tup (pv 1) pe_int (fun _ _ => rfl)) (pe_ix ix_tup (pv 0) pe_int (fun _ _ => rfl))) (nomark _)) pa_nil)))))
      (pss_cons (ps_if (pt_cmpR op_ne (pe_callB (r := rReprX K) (cr_reprX hgd hr.units) (by rfl) m_repr (by decide +kernel) (pa_cons (pv 2) pa_nil)) (pe_callB (r := rReprX K) (cr_reprX hgd hr.units) (by rfl) m_repr (by decide +kernel) (pa_cons (pv 3) pa_nil)) (nomark _)) (pss_one (ps_ret pe_bl)) pss_nil)
      (pss_cons (ps_set (i := 4) scTwo.nd rfl (.inl rfl) (pe_ifExp (pt_cmpR op_ne (pe_ix ix_tup (pv 1) pe_int (fun _ _ => rfl)) pe_int (nomark _)) (pe_tup (pa_cons pe_str (pa_cons (C8.pe_c cA hr (by decide) (by rfl) (pa_cons (pe_op op_mulW (pe_ix ix_tup (pv 0) pe_int (fun _ _ => rfl)) (pe_ix ix_tup (pv 1) pe_int (fun _ _ => rfl))) (pa_cons (pe_op op_mulW (pe_ix ix_tup (pv 0) pe_int (fun _ _ => rfl)) (pe_ix ix_tup (pv 1) pe_int (fun _ _ => rfl))) pa_nil))) pa_nil))) (pe_tup (pa_cons pe_str (pa_cons pe_str (pa_cons (pe_un un_neg pe_int) pa_nil))))))
      (pss_one (ps_ret (pe_cmpR op_eq (pe_callB (r := rReprX K) (cr_reprX hgd hr.units) (by rfl) m_repr (by decide +kernel) (pa_cons
          (pe_lamN (T := T3 P1 P2 P3) (TT := TOut4 C) (Ng := nOut4) (t := fun E => tCall (spOverX K C) [] E (tCons (tVar 0) (tCons (tVar 1) tNil))) (k := 3) M.F (by rfl) M.go M.bo scOut4 rfl (.inl rfl) (fun cdv => out_tells M.T M.S M.m_range M.m_len (hr.mono (by decide))) TB rfl (.tail _ (.head _)) (fun p hp e => ?u) hr (LamX.lamS_by (by kernel_rfl)) rfl (fun _ _ _ _ _ => rfl)
            (fun A' outer' s' H' E' f' c' hr' => pe_call Fv hr' (by rfl) gv kv bv .nil (L2N.passes_call (L2N.takes_of rfl rfl rfl rfl) fun _ _ _ _ h => h) (pa_cons (pv 0) (pa_cons (pv 1) pa_nil)))) pa_nil)) (pe_callB (r := rReprX K) (cr_reprX hgd hr.units) (by rfl) m_repr (by decide +kernel) (pa_cons (pv 4) pa_nil)) (nomark _))))))))), ?_⟩
    case u =>
      simp only [T3, List.mem_cons, List.not_mem_nil, or_false] at hp
      rcases hp with rfl | rfl | rfl
      · exact absurd e n12
      · rfl
      · exact absurd e n32
    have okb : okB 1 x y := ⟨300, 300, b1, b2, by decide⟩
    have xd : (x.den : Int).natAbs < 2 ^ 300 := b1.2
    have yd : (y.den : Int).natAbs < 2 ^ 300 := b2.2
    have n0 : ∀ {s2 s3 s4 : Option V} {H2 : Hp}, Ex H H2 → EvR F0 (tOp (rIxT K) (tVar 0) (tC (.int 0))) [some v1, some v2, s2, s3, s4] H2 0 (fun z _ => z = .int x.num) := fun e => rv_num (i := 0) rfl (dp_ex e _ _ p1)
    have d0 : ∀ {s2 s3 s4 : Option V} {H2 : Hp}, Ex H H2 → EvR F0 (tOp (rIxT K) (tVar 0) (tC (.int 1))) [some v1, some v2, s2, s3, s4] H2 0 (fun z _ => z = .int (x.den : Int)) := fun e => rv_den (i := 0) rfl (dp_ex e _ _ p1)
    have n1 : ∀ {s2 s3 s4 : Option V} {H2 : Hp}, Ex H H2 → EvR F0 (tOp (rIxT K) (tVar 1) (tC (.int 0))) [some v1, some v2, s2, s3, s4] H2 0 (fun z _ => z = .int y.num) := fun e => rv_num (i := 1) rfl (dp_ex e _ _ p2)
    have d1 : ∀ {s2 s3 s4 : Option V} {H2 : Hp}, Ex H H2 → EvR F0 (tOp (rIxT K) (tVar 1) (tC (.int 1))) [some v1, some v2, s2, s3, s4] H2 0 (fun z _ => z = .int (y.den : Int)) := fun e => rv_den (i := 1) rfl (dp_ex e _ _ p2)
    have e0 := Ex.refl H
    have args : EvRA F0 (tCons (tVar 0) (tCons (tVar 1) tNil)) [some v1, some v2, none, none, none] H 0 (fun vs H => DpAll K H vs [frD x, frD y]) := ra_cons0 (rd_var0 rfl p1) (ra_one (rd_var0 rfl p2))
    have ddn : (x.den : Int) * (y.den : Int) ≠ 0 := Int.mul_ne_zero (den_ne x) (den_ne y)
    have ddb : ((x.den : Int) * (y.den : Int)).natAbs < 2 ^ 4000 := lt_up (im_lt xd yd) (by decide)
    refine q_asgR (F := F0) (n := 0) (k := 0) (P := IsL F0 K [frD (x + y), frD (x - y), frD (x * y), .bool (decide (x < y))]) (rl_lst F0.ok (ra_cons (ka := 0) (kb := 0) F0.ok (rd_call F0.ok args ⟨x, y, okb, rfl, rfl⟩) (ra_cons (ka := 0) (kb := 0) F0.ok (rd_call F0.ok args ⟨x, y, okb, rfl, rfl⟩) (ra_cons (ka := 0) (kb := 0) F0.ok (rd_call F0.ok args ⟨x, y, okb, rfl, rfl⟩) (ra_cons (ka := 0) (kb := 0) F0.ok (rd_call F0.ok args ⟨x, y, okb, rfl, rfl⟩) ra_nil))))) F0.g (Nat.le_refl _) fun vg H1 k1 _ pg => ?_
    have e1 := F0.ex k1
    have fL : flats [frD (x + y), frD (x - y), frD (x * y), .bool (decide (x < y))] = true := rfl
    refine q_asgR (F := F0) (n := 0) (k := 0) (P := IsL F0 K [frD (x + y)]) (rl_lst F0.ok (ra_cons (ka := 0) (kb := 0) F0.ok (EvR.cast (rd_part (rv_add (rv_mul (n0 e1) (d1 e1) b1.1 yd (by decide)) (rv_mul (n1 e1) (d0 e1) b2.1 xd (by decide))) (rv_mul (d0 e1) (d1 e1) xd yd (by decide)) ddn ddb) (congrArg frD (add_eq x y))) ra_nil)) F0.g (Nat.le_refl _) fun va H2 k2 _ pa => ?_
    have e2 := e1.trans (F0.ex k2)
    refine q_asgR (F := F0) (n := 0) (k := 0) (P := IsL F0 K ([frD (x + y)] ++ [frD (x - y)])) (rl_catX (rl_varX (i := 3) rfl pa) (rl_lst F0.ok (ra_cons (ka := 0) (kb := 0) F0.ok (EvR.cast (rd_part (rv_sub (rv_mul (n0 e2) (d1 e2) b1.1 yd (by decide)) (rv_mul (n1 e2) (d0 e2) b2.1 xd (by decide))) (rv_mul (d0 e2) (d1 e2) xd yd (by decide)) ddn ddb) (congrArg frD (sub_eq x y))) ra_nil)) (by show 1 + 1 ≤ 100000; decide)) F0.g (Nat.le_refl _) fun vb H3 k3 _ pb => ?_
    have e3 := e2.trans (F0.ex k3)
    have ltE : EvR F0 (tOp (rI0 fun i j => .bl (decide (i < j))) (tOp (rI CMulW fun i j => .int (i * j)) (tOp (rIxT K) (tVar 0) (tC (.int 0))) (tOp (rIxT K) (tVar 1) (tC (.int 1)))) (tOp (rI CMulW fun i j => .int (i * j)) (tOp (rIxT K) (tVar 1) (tC (.int 0))) (tOp (rIxT K) (tVar 0) (tC (.int 1))))) [some v1, some v2, some vg, some vb, none] H3 0 (fun z _ => z = .bl (decide (x < y))) := by
      rw [← lt_eq]
      exact rv_lt (rv_mul (n0 e3) (d1 e3) b1.1 yd (by decide)) (rv_mul (n1 e3) (d0 e3) b2.1 xd (by decide))
    refine q_asgR (F := F0) (n := 0) (k := 0) (P := IsL F0 K (([frD (x + y)] ++ [frD (x - y)]) ++ [frD (x * y), .bool (decide (x < y))])) (rl_catX (rl_varX (i := 3) rfl pb) (rl_lst F0.ok (ra_cons (ka := 0) (kb := 0) F0.ok (EvR.cast (rd_part (rv_mul (n0 e3) (n1 e3) b1.1 b2.1 (by decide)) (rv_mul (d0 e3) (d1 e3) xd yd (by decide)) ddn ddb) (congrArg frD (mul_eq x y))) (ra_cons (ka := 0) (kb := 0) F0.ok (rd_ofB ltE) ra_nil))) (by show 2 + 2 ≤ 100000; decide)) F0.g (Nat.le_refl _) fun vc H4 k4 _ pc => ?_
    have e4 := e3.trans (F0.ex k4)
    have pg4 : IsL F0 K [frD (x + y), frD (x - y), frD (x * y), .bool (decide (x < y))] vg H4 := mono_l F0.ok fL 0 _ _ _ F0.g ((k2.trans k3).trans k4) pg
    have sgL : Sg 2 6000 (.list [frD (x + y), frD (x - y), frD (x * y), .bool (decide (x < y))]) := (sg_lst (n := 1) (w := 1382) (m := 4) (ds := [frD (x + y), frD (x - y), frD (x * y), .bool (decide (x < y))]) (fun z hz => by
      simp only [List.mem_cons, List.not_mem_nil, or_false] at hz
      rcases hz with rfl | rfl | rfl | rfl
      · exact sg_fr (Bd.mono (bd_add b1 b2) (by decide))
      · exact sg_fr (Bd.mono (bd_sub b1 b2) (by decide))
      · exact sg_fr (Bd.mono (bd_mul b1 b2) (by decide))
      · exact sg_bool.mono (by decide) (by decide)) (Nat.le_refl 4)).mono (by decide) (by decide)
    refine q_whenR (F := F0) (n := 0) (k := 0) (b := !decide (PyData.shown (.list [frD (x + y), frD (x - y), frD (x * y), .bool (decide (x < y))]) = PyData.shown (.list [frD (x + y), frD (x - y), frD (x * y), .bool (decide (x < y))]))) (rt_B (rv_neS (rv_reprG (rd_list (rl_varX (i := 2) rfl pg4)) sgL (by decide) (by decide)) (rv_reprG (rd_list (rl_varX (i := 3) rfl pc)) sgL (by decide) (by decide)))) F0.g (Nat.le_refl _) (fun z => absurd z (by simp)) fun _ H5 k5 _ => ?_
    have e5 := e4.trans (F0.ex k5)
    have late : EvR F0 (tIf (tTest (tOp rNe (tOp (rIxT K) (tVar 1) (tC (.int 0))) (tC (.int 0)))) (tTup (tCons (tC (.str "result")) (tCons (tCall (spPart K) [] C8.E0 (tCons (tOp (rI CMulW fun i j => .int (i * j)) (tOp (rIxT K) (tVar 0) (tC (.int 0))) (tOp (rIxT K) (tVar 1) (tC (.int 1)))) (tCons (tOp (rI CMulW fun i j => .int (i * j)) (tOp (rIxT K) (tVar 0) (tC (.int 1))) (tOp (rIxT K) (tVar 1) (tC (.int 0)))) tNil))) tNil))) (tTup (tCons (tC (.str "use")) (tCons (tC (.str "zero")) (tCons (tUn (rU fun i => .int (-i)) (tC (.int 1))) tNil))))) [some v1, some v2, some vg, some vc, none] H5 0 (IsD K (lateD x y)) := by
      refine r_if (ka := 0) (kb := 0) (b := !decide (y.num = 0)) F0.ok (rt_val (rv_neI (n1 e5) rv_c)) (fun hb => ?_) fun hb => ?_
      · have yn : y ≠ 0 := fun z => by rw [z] at hb; exact absurd hb (by decide)
        rw [lateD, if_neg yn]
        exact rd_tup (ds := [.str "result", frD (x / y)]) F0.ok (ra_cons0 rd_str (ra_one (EvR.cast (rd_part (rv_mul (n0 e5) (d1 e5) b1.1 yd (by decide)) (rv_mul (d0 e5) (n1 e5) xd b2.1 (by decide)) (Int.mul_ne_zero (den_ne x) (num_ne yn)) (lt_up (im_lt xd b2.1) (by decide))) (congrArg frD (div_eq x y)))))
      · have y0 : y = 0 := Rat.num_eq_zero.mp (by simpa using hb)
        rw [lateD, if_pos y0]
        exact rd_tup (ds := [.str "use", .str "zero", .int (-1)]) F0.ok (ra_cons0 rd_str (ra_cons0 rd_str (ra_one (rd_ofI (i := -1) (fun n H1 hn g e Q q => ⟨1, rfl, q _ H1 Kx.refl g rfl⟩)))))
    refine q_asgR (F := F0) (n := 0) (k := 0) (P := IsD K (lateD x y)) late F0.g (Nat.le_refl _) fun v4 H6 k6 _ p6 => ?_
    have e6 := e5.trans (F0.ex k6)
    have sgD := late_sg b1 b2
    have T6 := hT.ext (fun b o h => e6 b o h)
    show tOp rEq (tCB (rReprX K) (tCons (LamX.tLam (T3 P1 P2 P3) (TOut4 C) _) tNil)) (tCB (rReprX K) (tCons (tVar 4) tNil)) [some v1, some v2, some vg, some vc, some v4] H6 _
    refine ⟨T6, fun H7 e7 T7 H8 e8 => ⟨v1, rfl, v2, rfl, ?_⟩⟩
    have q1 : Dp K H8 v1 (frD x) := dp_ex e8 _ _ (dp_n e7 _ _ (dp_ex e6 _ _ p1))
    have q2 : Dp K H8 v2 (frD y) := dp_ex e8 _ _ (dp_n e7 _ _ (dp_ex e6 _ _ p2))
    refine over_told okb q1 q2 fun p H9 e9 dp => ?_
    have q4 : Dp K H9 v4 (lateD x y) := dp_ex (e8.trans e9) _ _ (dp_n e7 _ _ p6)
    refine ⟨.ref p, _, rfl, dp, sgD.shows, sgD.nod, Nat.le_trans sgD.dep (by decide), sgD.len (by decide), v4, rfl, v4, _, rfl, q4, sgD.shows, sgD.nod, Nat.le_trans sgD.dep (by decide), sgD.len (by decide), rfl, ?_⟩
    rw [decide_eq_true rfl]
    have ex69 : LamX.ExtN H6 H9 := e7.trans (ex_n (e8.trans e9))
    exact q H9 ((ex_n e6).trans ex69) (T7.ext fun b o h => (e8.trans e9) b o h)
end
end Q4
set_option maxHeartbeats 4000000
/-! ### xs[d::2] of a list: some of its items -/
namespace Q4
open PySem PySem.Spec PyProof.Rows L2
theorem vals_pick {xs : List V} {us : List Value} (r : Vals xs us) : ∀ is : List Nat, Vals (is.filterMap (xs[·]?)) (is.filterMap (us[·]?))
  | [] => .nil
  | i :: is => by
    rw [List.filterMap_cons, List.filterMap_cons]
    cases e : xs[i]? with
    | none =>
      have e2 : us[i]? = none := by
        rw [List.getElem?_eq_none_iff] at e ⊢
        rw [← r.length]
        exact e
      rw [e2]
      exact vals_pick r is
    | some v =>
      obtain ⟨u, hu, rv⟩ := r.get e
      rw [hu]
      exact .cons rv (vals_pick r is)
section
variable {X : Cx} {te : TE}
def tStep (K : PySem.W.Frag) (te : TE) (tl : L2.St → Hp → (Option Int → Hp → Prop) → Prop) : TE := fun σ H Q => te σ H fun x H1 => tl σ H1 fun _ H2 => ∃ a xs, x = .ref a ∧ SqL K H2 a xs ∧ ∀ ys p, (∀ y ∈ ys, y ∈ xs) → ys.length ≤ xs.length → H2 p = none → Q (.ref p) (upd H2 p (.lst ys))
theorem pe_step {e lo : Expr} {tl : L2.St → Hp → (Option Int → Hp → Prop) → Prop} {k : Nat} {p1 p3 pos : Pos} (he : PE X e te) (hl : PO X (some lo) tl) : PE X (.Subscript e (.Slice (some lo) none (some (.Constant (.int 2) k p1)) p3) pos) (tStep X.K te tl) := by
  refine ⟨fun pins s σ H Q I h => Subscript_ (thn (he.run pins s σ H _ I h) ?_)⟩
  rintro v s1 ⟨x, H1, I1, r1, h1⟩
  have two : PO X (some (.Constant (.int 2) k p1)) (tPart (tC (.int 2))) := po_some pe_int
  refine wpAny_Slice (thn (hl.run pins s1 σ H1 _ I1 h1) ?_)
  rintro vl s2 ⟨l, H2, I2, pl, a, xs, ex, hx, q⟩
  subst ex
  cases (show v = Value.ref a from r1)
  refine thn (po_none.run pins s2 σ H2 (fun o H3 => o = none ∧ H3 = H2) I2 ⟨rfl, rfl⟩) ?_
  rintro vu s3 ⟨u, H3, I3, pu, eu, e3⟩
  subst eu e3
  refine thn (two.run pins s3 σ H3 (fun o H4 => o = some 2 ∧ H4 = H3) I3 ⟨2, rfl, rfl, rfl⟩) ?_
  rintro vs s4 ⟨o, H4, I4, ps, eo, e4⟩
  subst eo e4
  have J : Inv X pins σ H4 { s4 with heap := s4.heap.push { cls := .type "slice", data := .fields #[vl, vu, vs] } } := I4.kept (t' := s4.toks) fun b ob z => Heap.get?_push_of_some _ z
  obtain ⟨its, r, ht, hz⟩ := J.list hx
  show wpAny (model X.prog X.w) X.A (subscriptTail e (.Slice (some lo) none (some (.Constant (.int 2) k p1)) p3) (.ref a) (.ref s4.heap.objs.size)) (EP X pins σ Q) X.xe { s4 with heap := s4.heap.push { cls := .type "slice", data := .fields #[vl, vu, vs] } }
  refine tail_any (ops := [.ref a, .ref s4.heap.objs.size]) ht.isList.typeIs (PySem.slot_list_getitem.lookup) ?_ (by with_unfolding_all rfl)
  have few := slicePick_size_le its.toArray l none (some 2)
  refine wpAny_getItem_list_slice ht.isList (Heap.IsSliceOf.new _ vl vu vs) pl pu ps (by decide) ?_ (by rw [List.size_toArray, ← r.length]; exact hz)
  obtain ⟨is, eis⟩ : ∃ is : List Nat, slicePick its.toArray l none (some 2) = (is.filterMap (its[·]?)).toArray := ⟨sliceRange (sliceBounds l none (some 2) its.toArray.size).1 (sliceBounds l none (some 2) its.toArray.size).2.1 (sliceBounds l none (some 2) its.toArray.size).2.2, by unfold slicePick; simp only [List.getElem?_toArray]⟩
  rw [eis] at few ⊢
  have rp := vals_pick r is
  have len : (is.filterMap (xs[·]?)).length ≤ xs.length := by
    rw [rp.length, r.length]
    simpa using few
  refine ⟨.ref _, _, J.laid (t' := s4.toks) (o := .lst (is.filterMap (xs[·]?))) (fun b ob z => Heap.get?_push_of_some _ z) (Nat.le_refl _) ⟨Nat.le_trans len hz, _, 0, rp, Heap.get?_push_size _ rfl⟩, rfl, q _ _ (fun y hy => ?_) len (J.hok.fresh (Nat.le_refl _))⟩
  obtain ⟨i, _, ei⟩ := List.mem_filterMap.mp hy
  exact List.mem_of_getElem? ei
end
end Q4
set_option maxHeartbeats 4000000
/-! ### k04: _law_check_made -/
namespace Q4
open PySem PySem.Spec PyProof.Rows L2 L2H Evl Fx Fr Dt Tr K18 So K17 Hc DtG
/-- all but the tables of code objects and the reader stay -/
def ExR (d : Addr) (H H' : Hp) : Prop := ∀ b o, H b = some o → (∀ ps, o ≠ .tbl ps) → b ≠ d → H' b = some o
theorem ExR.refl {d : Addr} (H : Hp) : ExR d H H := fun _ _ h _ _ => h
theorem ExR.trans {d : Addr} {H H1 H2 : Hp} (a : ExR d H H1) (b : ExR d H1 H2) : ExR d H H2 := fun x o h n m => b x o (a x o h n m) n m
theorem ExR.ofN {d : Addr} {H H1 : Hp} (e : LamX.ExtN H H1) : ExR d H H1 := fun x o h n _ => e x o h n
theorem ExR.ofK {d l : Addr} {H H1 : Hp} (e : Kx (RdF d l).S H H1) : ExR d H H1 := fun x o h _ m => e x o h m
theorem ExR.ofE {d : Addr} {H H1 : Hp} (e : Ex H H1) : ExR d H H1 := fun x o h _ _ => e x o h
theorem rd_at_n {d l : Addr} {n : Nat} {H H1 : Hp} (e : LamX.ExtN H H1) (g : RdAt H d l n) : RdAt H1 d l n := by
  obtain ⟨ns, s, r, c, h1, h2, h3⟩ := g
  exact ⟨ns, s, r, c, e _ _ h1 (fun ps z => by cases z), e _ _ h2 (fun ps z => by cases z), h3⟩
theorem tabs_k {d l : Addr} {n : Nat} {T : List (Addr × Str)} {H H1 : Hp} (g : RdAt H d l n) (e : Kx (RdF d l).S H H1) (t : LamX.Tabs T H) : LamX.Tabs T H1 := fun p hp => by
  obtain ⟨ps, h1, h2, h3⟩ := t p hp
  obtain ⟨ns, s, r, c, g1, _⟩ := g
  have nd : ∀ {b : Addr} {o : HO}, H b = some o → (∀ kv, o ≠ .dK kv) → b ≠ d := fun hb ho z => by
    rw [z, g1] at hb
    cases hb
    exact ho _ rfl
  refine ⟨ps, e _ _ h1 (nd h1 fun kv z => by cases z), h2, fun pos cv hc => ?_⟩
  obtain ⟨c', e1, e2⟩ := h3 pos cv hc
  exact ⟨c', e1, e _ _ e2 (nd e2 fun kv z => by cases z)⟩
/-- what made is to tell, of ints -/
def mD (p q : Int) : PyData := if q = 0 then .tuple [.str "use", .str "zero", .int (-1)] else .tuple [.str "result", frD (Rat.divInt p q)]
theorem mD_sg {p q : Int} (hp : p.natAbs < 2 ^ 300) (hq : q.natAbs < 2 ^ 300) : Sg 2 6000 (mD p q) := by
  unfold mD
  split
  · exact (sg_tup (n := 0) (w := 690) (m := 3) (ds := [.str "use", .str "zero", .int (-1)]) (fun z hz => by
      simp only [List.mem_cons, List.not_mem_nil, or_false] at hz
      rcases hz with rfl | rfl | rfl
      · exact sg_str (by decide +kernel) (by decide +kernel)
      · exact sg_str (by decide +kernel) (by decide +kernel)
      · exact sg_int (lt_up (n := 1) (by decide) (by decide))) (by decide)).mono (by decide) (by decide)
  · rename_i h
    exact (sg_tup (n := 1) (w := 1382) (m := 2) (ds := [.str "result", frD (Rat.divInt p q)]) (fun z hz => by
      simp only [List.mem_cons, List.not_mem_nil, or_false] at hz
      rcases hz with rfl | rfl
      · exact (sg_str (by decide +kernel) (by decide +kernel)).mono (by decide) (by decide)
      · exact sg_fr (Bd.mono (bd_div h hp hq) (by decide))) (Nat.le_refl 2)).mono (by decide) (by decide)
section
variable {K : PySem.W.Frag} {te tl ta tb tc : TE} {σ : L2.St} {H H' : Hp} {C : Addr}
theorem rd_tup0 {tr : TA} {ds : List PyData} (h : EvRA F0 tr σ H 0 (fun vs H => DpAll K H vs ds)) (hl : ds.length ≤ 100000 := by simp) : EvR F0 (tTup tr) σ H 0 (IsD K (.tuple ds)) := fun n H1 hn g e Q q => h n H1 hn g e _ fun vs H2 e2 g2 p =>
  ⟨sz_of (by rw [dps_len p]; exact hl), fun a ha => q (.ref a) _ (e2.trans (Kx.ex (Ex.new ha))) F0.g (.tup (st_of upd_same) (dps_ex (Ex.new ha) _ _ p))⟩
theorem s_forD {ds : List PyData} {g : TG} {tb : TS} {D : Ends} (h : EvR F0 te σ H 0 (IsD K (.tuple ds))) (kk : ∀ H1 a xs, Ex H H1 → SqT K H1 a xs → DpAll K H1 xs ds → ∃ W : Nat → Nat → L2.St → Hp → Prop, (∃ m, W 0 m σ H1) ∧ ∀ i m σ H, W i m σ H →
    ((Itt K a).stop i H ∧ D.nx σ H) ∨ ((Itt K a).go i H ∧ ∃ N : L2.St → Hp → Prop, (∀ σ' H', N σ' H' → ∃ m', m' < m ∧ W (i + 1) m' σ' H') ∧ ∀ x H', (Itt K a).yld i H x H' → g x σ H' fun σ2 H2 => tb { D with nx := N, ct := N, bk := D.nx } σ2 H2)) : tFor (iTup K te) g tb D σ H :=
  h 0 H (Nat.le_refl _) F0.g Kx.refl _ fun v H1 k1 _ hv => by
    cases hv with
    | @tup a xs _ ha hx => exact ⟨a, rfl, ⟨_, ha⟩, kk H1 a xs (F0.ex k1) ha hx⟩
theorem q_forD {ds : List PyData} {g : TG} {tb tz : TS} {D : Ends} (h : EvR F0 te σ H 0 (IsD K (.tuple ds))) (kk : ∀ H1 a xs, Ex H H1 → SqT K H1 a xs → DpAll K H1 xs ds → ∃ W : Nat → Nat → L2.St → Hp → Prop, (∃ m, W 0 m σ H1) ∧ ∀ i m σ H, W i m σ H →
    ((Itt K a).stop i H ∧ tz D σ H) ∨ ((Itt K a).go i H ∧ ∃ N : L2.St → Hp → Prop, (∀ σ' H', N σ' H' → ∃ m', m' < m ∧ W (i + 1) m' σ' H') ∧ ∀ x H', (Itt K a).yld i H x H' → g x σ H' fun σ2 H2 => tb { D with nx := N, ct := N, bk := tz D } σ2 H2)) : tSeq (tFor (iTup K te) g tb) tz D σ H :=
  s_forD (D := { D with nx := tz D }) h kk
theorem made_told {p q : Int} {v1 v2 : V} {Q : VK} (hp : p.natAbs < 2 ^ 300) (hq : q.natAbs < 2 ^ 300) (k : ∀ r H', Ex H H' → Dp K H' (.ref r) (mD p q) → Q (.ref r) H') :
    spMadeX K C [.int p, .int q] H (fun v H3 => ∀ p, H3 p = none → Q (.ref p) (upd H3 p (.tup [.str "result", v]))) (exOut4 C Q) :=
  ⟨.int p, .int q, .int p, .int q, rfl, .int p, .int q, (fun z => by cases z), fun _ _ => ⟨fun z H' dd fs e hdd lw la => ⟨rfl, dd, fs, _, _, rfl, hdd, lw, la, fun H'' r e' hr => k r H'' (e.trans e') (by
      rw [mD, if_pos (show q = 0 from z)]
      exact .tup (st_of hr) (.cons (.str _) (.cons (.str _) (.cons (.int _) .nil))))⟩, fun z => ⟨⟨z, lt_up hp (by decide), lt_up hq (by decide)⟩, fun v H' e dv r hr => k r _ (e.trans (Ex.new hr)) (by
      rw [mD, if_neg (show ¬ q = 0 from z)]
      exact .tup (st_of upd_same) (.cons (.str _) (.cons (dp_ex (Ex.new hr) _ _ dv) .nil)))⟩⟩⟩
theorem made_odd {d1 d2 : PyData} {v1 v2 : V} {Q : VK} (p1 : Dp K H v1 d1) (p2 : Dp K H v2 d2) (h : (isIntB d1 && isIntB d2) = false) (k : ∀ r H', Ex H H' → Dp K H' (.ref r) (.tuple [.str "use", .str "integer", .int (-1)]) → Q (.ref r) H') :
    spMadeX K C [v1, v2] H (fun v H3 => ∀ p, H3 p = none → Q (.ref p) (upd H3 p (.tup [.str "result", v]))) (exOut4 C Q) :=
  ⟨v1, v2, d1, d2, rfl, p1, p2, fun _ H' dd fs e hdd lw la => ⟨rfl, dd, fs, _, _, rfl, hdd, lw, la, fun H'' r e' hr => k r H'' (e.trans e') (.tup (st_of hr) (.cons (.str _) (.cons (.str _) (.cons (.int _) .nil))))⟩, fun h1 h2 => by rw [h1, h2] at h; cases h⟩
end
def nMd : List Str := ["_law_reader_here", "_law_far", "_law_some", "_law_k", "_law_p", "_law_q", "_law_due", "_law_bad"]
theorem scMd : FnScope nMd ["_law_reader_here"] (defScope (K18.topS 37)) := ⟨rfl, rfl, rfl, by decide +kernel, rfl, by decide +kernel, by decide +kernel⟩
section
variable {P : Program} {w : World} {K : PySem.W.Frag} {mg : Str → Option Value} {base : Heap} {f f1 f2 f3 : Addr} {fd fd1 fd2 fd3 : FuncData} {te tl ta tb : TE} {σ σ2 : L2.St} {H H1 : Hp} {k ka kb n : Nat} {ds es : List PyData} {C d l : Addr}
/-- a check that draws and gives lambdas away -/
def spChk (K : PySem.W.Frag) (T : List (Addr × Str)) (m : Nat) : Sp := fun vs H Q _ => ∃ (d l : Addr) (n : Nat), vs = [.ref d] ∧ RdAt H d l n ∧ n ≤ 10000 ∧ LamX.Tabs T H ∧ ∀ H', ExR d H H' → RdAt H' d l (n + m) → LamX.Tabs T H' → Q (.bl true) H'
def SmI (x : PyData) : Prop := ∃ i : Int, x = .int i ∧ i.natAbs < 2 ^ 250
theorem ok_md {c0 P1 P2 P3 fv g fc fo ff : Addr} {fdv gd fdc fdo fdf : FuncData} {c : Nat → Addr} (F : FunC K "_law_check_made" "_law_check_made" (K18.topS 37) f fd c0) (TB : LamX.TabB base mg c0 P1) (n21 : P2 ≠ P1) (n31 : P3 ≠ P1)
    (cD : C8.Cal P w K mg base 1 "_law_draw" Fx.spDraw []) (cA : C8.Cal P w K mg base 2 "_law_part" (spPart K) [])
    (Fv : FnOk P w K mg base (L2N.CX P w) 3 fv fdv ["p", "q"] (spMadeX K C)) (gv : mg "made" = some (.ref fv)) (kv : PySem.W.keepIn K (.ref fv) = true) (bv : L2.Binds K fdv ["p", "q"] [])
    (M : Lm P w K mg base C c g gd fc fo ff fdc fdo fdf) (m_repr : mg "repr" = none) : FnG P w K mg base CX0 6 f fd ["_law_reader_here"] (spChk K (T3 P1 P2 P3) 30) := by
  refine okGC F scMd (fun vs H Q E h => ?_) (fun A outer s H vs Q E hgd hr h => ?_)
  · obtain ⟨d, l, n, rfl, _⟩ := h
    rfl
  · obtain ⟨d, l, n, rfl, hR, hn, hT, q⟩ := h
    refine ⟨_, pss_cons (ps_set (i := 1) scMd.nd rfl (.inl rfl) (pe_op op_pow pe_int pe_int))
      (pss_cons (ps_set (i := 2) scMd.nd rfl (.inl rfl) (pe_op op_cat (pe_lst (pa_cons pe_int (pa_cons pe_int (pa_cons (pe_un un_neg pe_int) (pa_cons pe_int (pa_cons (pe_un un_neg pe_int) (pa_cons pe_int (pa_cons pe_int (pa_cons (pv 1) (pa_cons (pe_un un_neg (pv 1)) (pa_cons (pe_op op_mulW (pe_op op_fdivWN (pe_op op_mulW pe_int (pv 1)) pe_int) pe_int) pa_nil)))))))))))
          (pe_lc (own := [("_law_k", 3)]) (g := gName 3) (by rfl) scMd.nd (pi_range1 (by rfl) M.m_range (pa_cons pe_int pa_nil)) (blkOk_by (own := [("_law_k", 3)]) (N := nMd) (sc := defScope (K18.topS 37)) (by decide +kernel)) (fun _ _ _ _ _ => pg_name (i := 3) scMd.nd rfl (.inl rfl)) (fun _ _ _ _ _ => pts_nil)
            (te := tOp (rI0 fun i j => .int (i - j)) (tCall Fx.spDraw [] C8.E0 (tCons (tVar 0) (tCons (tC (.int 61)) tNil))) (tC (.int 30))) (fun _ _ _ _ _ => pe_op op_sub (C8.pe_c cD hr (by decide) (by rfl) (pa_cons (pv 0) (pa_cons pe_int pa_nil))) pe_int))))
      (pss_cons (ps_for PassesOwn.never rfl (pi_list (pv 2)) (pg_name (i := 4) scMd.nd rfl (.inr rfl))
        (pss_one (ps_for PassesOwn.never rfl (pi_list (pe_step (pv 2) (po_some (C8.pe_c cD hr (by decide) (by rfl) (pa_cons (pv 0) (pa_cons pe_int pa_nil)))))) (pg_name (i := 5) scMd.nd rfl (.inr rfl))
          (pss_cons (ps_set (i := 6) scMd.nd rfl (.inl rfl) (pe_ifExp (pt_cmpR op_ne (pv 5) pe_int (nomark _)) (pe_tup (pa_cons pe_str (pa_cons (C8.pe_c cA hr (by decide) (by rfl) (pa_cons (pv 4) (pa_cons (pv 5) pa_nil))) pa_nil))) (pe_tup (pa_cons pe_str (pa_cons pe_str (pa_cons (pe_un un_neg pe_int) pa_nil))))))
          (pss_one (ps_if (pt_cmpR op_ne (pe_callB (r := rReprX K) (cr_reprX hgd hr.units) (by rfl) m_repr (by decide +kernel) (pa_cons
              (pe_lamN (T := T3 P1 P2 P3) (TT := TOut4 C) (Ng := nOut4) (t := fun E => tCall (spMadeX K C) [] E (tCons (tVar 4) (tCons (tVar 5) tNil))) (k := 3) M.F (by rfl) M.go M.bo scOut4 rfl (.inl rfl) (fun cdv => out_tells M.T M.S M.m_range M.m_len (hr.mono (by decide))) TB rfl (.head _) (fun p hp e => ?u1) hr (LamX.lamS_by (by kernel_rfl)) rfl (fun _ _ _ _ _ => rfl)
                (fun A' outer' s' H' E' f' c' hr' => pe_call Fv hr' (by rfl) gv kv bv .nil (L2N.passes_call (L2N.takes_of rfl rfl rfl rfl) fun _ _ _ _ h => h) (pa_cons (pv 4) (pa_cons (pv 5) pa_nil)))) pa_nil)) (pe_callB (r := rReprX K) (cr_reprX hgd hr.units) (by rfl) m_repr (by decide +kernel) (pa_cons (pv 6) pa_nil)) (nomark _)) (pss_one (ps_ret pe_bl)) pss_nil))))))
      (pss_cons (ps_for PassesOwn.never rfl (pi_tup (pe_tup (pa_cons pe_non (pa_cons pe_bl (pa_cons pe_bl (pa_cons pe_str (pa_cons (pe_tup (pa_cons pe_int (pa_cons pe_int pa_nil))) (pa_cons (pe_lst (pa_cons pe_int pa_nil)) (pa_cons (pe_tup pa_nil) pa_nil))))))))) (pg_name (i := 7) scMd.nd rfl (.inl rfl))
        (pss_one (ps_for PassesOwn.never rfl (pi_tup (pe_tup (pa_cons (pe_tup (pa_cons (pv 7) (pa_cons pe_int pa_nil))) (pa_cons (pe_tup (pa_cons pe_int (pa_cons (pv 7) pa_nil))) (pa_cons (pe_tup (pa_cons (pv 7) (pa_cons pe_int pa_nil))) (pa_cons (pe_tup (pa_cons (pv 7) (pa_cons (pv 7) pa_nil))) pa_nil)))))) (pg_tup (by rfl) (pgs_cons (pg_name (i := 4) scMd.nd rfl (.inr rfl)) (pgs_cons (pg_name (i := 5) scMd.nd rfl (.inr rfl)) pgs_nil)))
          (pss_one (ps_if (pt_cmpR (r := rNeD K) (op_neD hr.units)
              (pe_lamN (T := T3 P1 P2 P3) (TT := TOut4 C) (Ng := nOut4) (t := fun E => tCall (spMadeX K C) [] E (tCons (tVar 4) (tCons (tVar 5) tNil))) (k := 3) M.F (by rfl) M.go M.bo scOut4 rfl (.inl rfl) (fun cdv => out_tells M.T M.S M.m_range M.m_len (hr.mono (by decide))) TB rfl (.head _) (fun p hp e => ?u2) hr (LamX.lamS_by (by kernel_rfl)) rfl (fun _ _ _ _ _ => rfl)
                (fun A' outer' s' H' E' f' c' hr' => pe_call Fv hr' (by rfl) gv kv bv .nil (L2N.passes_call (L2N.takes_of rfl rfl rfl rfl) fun _ _ _ _ h => h) (pa_cons (pv 4) (pa_cons (pv 5) pa_nil)))) (pe_tup (pa_cons pe_str (pa_cons pe_str (pa_cons (pe_un un_neg pe_int) pa_nil)))) (nomark _)) (pss_one (ps_ret pe_bl)) pss_nil)))))
      (pss_one (ps_ret pe_bl))))), ?_⟩
    case u1 | u2 =>
      simp only [T3, List.mem_cons, List.not_mem_nil, or_false] at hp
      rcases hp with rfl | rfl | rfl
      · rfl
      · exact absurd e n21
      · exact absurd e n31
    have N0 : (RdF d l).N = 900000 := rfl
    refine q_asgR (F := F0) (n := 0) (k := 0) (P := fun x _ => x = .int (10 ^ 59)) (fun n H1 hn g e Q q => ⟨_, _, rfl, rfl, ⟨by decide, by decide, by decide⟩, q _ H1 Kx.refl g rfl⟩) F0.g (Nat.le_refl _) fun v H1 k1 _ ev => ?_
    subst ev
    have e1 := F0.ex k1
    have R1 : RdAt H1 d l n := RdF.ok.ex (n := n) hR e1
    have T1 := hT.ext (fun b o h => e1 b o h)
    have A : EvR (RdF d l) (tLst (tCons (tC (.int 0)) (tCons (tC (.int 1)) (tCons (tUn (rU fun i => .int (-i)) (tC (.int 1))) (tCons (tC (.int 2)) (tCons (tUn (rU fun i => .int (-i)) (tC (.int 6))) (tCons (tC (.int 9)) (tCons (tC (.int 12)) (tCons (tVar 1) (tCons (tUn (rU fun i => .int (-i)) (tVar 1)) (tCons (tOp (rI CMulW fun i j => .int (i * j)) (tOp (rI CDivS fun i j => .int (i.fdiv j)) (tOp (rI CMulW fun i j => .int (i * j)) (tC (.int 3)) (tVar 1)) (tC (.int 10))) (tC (.int 4))) tNil))))))))))) [some (.ref d), some (.int (10 ^ 59)), none, none, none, none, none, none] H1 0 (IsL (RdF d l) K (([0, 1, -1, 2, -6, 9, 12, 10 ^ 59, -(10 ^ 59), (3 * 10 ^ 59 : Int).fdiv 10 * 4] : List Int).map PyData.int)) := by
      have ngc : ∀ {σ : L2.St} {H : Hp} {i : Int}, EvR (RdF d l) (tUn (rU fun i => .int (-i)) (tC (.int i))) σ H 0 (fun x _ => x = .int (-i)) := fun n H1 hn g e Q q => ⟨_, rfl, q _ H1 Kx.refl g rfl⟩
      have ngv : EvR (RdF d l) (tUn (rU fun i => .int (-i)) (tVar 1)) [some (.ref d), some (.int (10 ^ 59)), none, none, none, none, none, none] H1 0 (fun x _ => x = .int (-(10 ^ 59))) := fun n H1 hn g e Q q => ⟨_, rfl, _, rfl, q _ H1 Kx.refl g rfl⟩
      have big : EvR (RdF d l) (tOp (rI CMulW fun i j => .int (i * j)) (tOp (rI CDivS fun i j => .int (i.fdiv j)) (tOp (rI CMulW fun i j => .int (i * j)) (tC (.int 3)) (tVar 1)) (tC (.int 10))) (tC (.int 4))) [some (.ref d), some (.int (10 ^ 59)), none, none, none, none, none, none] H1 0 (fun x _ => x = .int ((3 * 10 ^ 59 : Int).fdiv 10 * 4)) := fun n H1 hn g e Q q =>
        ⟨_, rfl, _, _, rfl, rfl, mulW (n := 2) (m := 250) (by decide) (by decide) (by decide), _, _, rfl, rfl, cdivS (b := 4) (by decide) (by decide) (by decide) (by decide), _, _, rfl, rfl, mulW (n := 250) (m := 4) (by decide) (by decide) (by decide), q _ H1 Kx.refl g rfl⟩
      exact rl_lst RdF.ok (ra_cons (ka := 0) (kb := 0) RdF.ok (rd_ofI rv_c) (ra_cons (ka := 0) (kb := 0) RdF.ok (rd_ofI rv_c) (ra_cons (ka := 0) (kb := 0) RdF.ok (rd_ofI ngc) (ra_cons (ka := 0) (kb := 0) RdF.ok (rd_ofI rv_c) (ra_cons (ka := 0) (kb := 0) RdF.ok (rd_ofI ngc) (ra_cons (ka := 0) (kb := 0) RdF.ok (rd_ofI rv_c) (ra_cons (ka := 0) (kb := 0) RdF.ok (rd_ofI rv_c) (ra_cons (ka := 0) (kb := 0) RdF.ok (rd_ofI (rv_var rfl)) (ra_cons (ka := 0) (kb := 0) RdF.ok (rd_ofI ngv) (ra_cons (ka := 0) (kb := 0) RdF.ok (rd_ofI big) ra_nil))))))))))
    have B := r_lcRP (F := RdF d l) (K := K) (Pe := SmI) (k := 0) (ke := 0 + 1 + 0) (H := H1) (σ := [some (.ref d), some (.int (10 ^ 59)), none, none, none, none, none, none]) (g := gName 3) (te := tOp (rI0 fun i j => .int (i - j)) (tCall Fx.spDraw [] C8.E0 (tCons (tVar 0) (tCons (tC (.int 61)) tNil))) (tC (.int 30))) (tr := tCons (tC (.int 6)) tNil) (vs := [3]) (m := 6) RdF.ok (fun x ⟨i, e, _⟩ => by rw [e]; rfl) (fun n H1 hn g e Q q => q _ H1 Kx.refl g rfl) (by decide)
      (fun i n H' hi g e => ⟨_, gv_name, rfl, Dt.EvR.imp (r_intI0 (ka := 0 + 1) (kb := 0) (o := (· - ·)) (p := fun i => 0 ≤ i ∧ i < 61) (q := (· = 30)) RdF.ok (r_below (c := 0) (r_drawR (i := 0) rfl rv_c (by decide) (by decide)) fun i a b => ⟨a, b⟩) (r_int rv_c)) fun _ v H2 _ _ ⟨z, ez, i, j, ⟨i0, i1⟩, ej, eq⟩ => by
        subst ez ej eq
        exact ⟨.int (i - 30), ⟨_, rfl, Nat.lt_of_lt_of_le (show (i - 30).natAbs < 2 ^ 10 by omega) (by decide)⟩, .int _⟩⟩)
    refine q_asgR (F := RdF d l) (n := n) (k := 0 + (0 + 6 * (0 + 1 + 0))) (P := fun v H' => ∃ es, es.length = 6 ∧ (∀ x ∈ es, SmI x) ∧ IsL (RdF d l) K (([0, 1, -1, 2, -6, 9, 12, 10 ^ 59, -(10 ^ 59), (3 * 10 ^ 59 : Int).fdiv 10 * 4] : List Int).map PyData.int ++ es) v H') (r_cat RdF.ok A B rfl (by decide)) R1 (by omega) fun v H2 k2 g2 ⟨es, el, ep, L, xs, ev, hLT, hL, dxs⟩ => ?_
    subst ev
    have T2 := tabs_k R1 k2 T1
    have hLd : L ≠ d := fun z => hLT (.inl z)
    obtain ⟨ns, hns, nb⟩ : ∃ ns : List Int, xs = ns.map V.int ∧ ∀ i ∈ ns, i.natAbs < 2 ^ 250 := by
      have es2 : es = (es.map intN).map PyData.int := by
        rw [List.map_map]
        conv => lhs; rw [← List.map_id es]
        refine List.map_congr_left fun x hx => ?_
        obtain ⟨i, rfl, _⟩ := ep x hx
        rfl
      rw [es2, ← List.map_append] at dxs
      refine ⟨_, dps_vals _ _ dxs, fun i hi => ?_⟩
      rcases List.mem_append.mp hi with h | h
      · simp only [List.mem_cons, List.not_mem_nil, or_false] at h
        rcases h with rfl | rfl | rfl | rfl | rfl | rfl | rfl | rfl | rfl | rfl <;> decide
      · obtain ⟨x, hx, rfl⟩ := List.mem_map.mp h
        obtain ⟨i, rfl, hb⟩ := ep x hx
        exact hb
    subst hns
    have nlen : ns.length = 16 := by
      have := dps_len dxs
      rw [List.length_map, List.length_append, el, List.length_map] at this
      simpa using this
    have lamq : ∀ {σ' : L2.St} {H' : Hp} {p q0 : Int} {v6 : V} {D : Ends} {u tu : TS}, σ'[4]? = some (some (.int p)) → σ'[5]? = some (some (.int q0)) → σ'[6]? = some (some v6) → p.natAbs < 2 ^ 250 → q0.natAbs < 2 ^ 250 → LamX.Tabs (T3 P1 P2 P3) H' → Dp K H' v6 (mD p q0) → (∀ H'', LamX.ExtN H' H'' → LamX.Tabs (T3 P1 P2 P3) H'' → u D σ' H'') →
        tIfS (tB (tOp rNe (tCB (rReprX K) (tCons (LamX.tLam (T3 P1 P2 P3) (TOut4 C) (fun E => tCall (spMadeX K C) [] E (tCons (tVar 4) (tCons (tVar 5) tNil)))) tNil)) (tCB (rReprX K) (tCons (tVar 6) tNil)))) tu u D σ' H' := fun {σ' H' p q0 v6 D u tu} h4 h5 h6 bp bq hT p6 k => by
      have bp3 : p.natAbs < 2 ^ 300 := lt_up bp (by decide)
      have bq3 : q0.natAbs < 2 ^ 300 := lt_up bq (by decide)
      have sg := mD_sg bp3 bq3
      refine ⟨hT, fun H7 e7 T7 H8 e8 => ⟨.int p, h4, .int q0, h5, made_told (v1 := .non) (v2 := .non) bp3 bq3 fun r H9 e9 dp => ?_⟩⟩
      have q6 : Dp K H9 v6 (mD p q0) := dp_ex (e8.trans e9) _ _ (dp_n e7 _ _ p6)
      refine ⟨.ref r, _, rfl, dp, sg.shows, sg.nod, Nat.le_trans sg.dep (by decide), sg.len (by decide), v6, h6, v6, _, rfl, q6, sg.shows, sg.nod, Nat.le_trans sg.dep (by decide), sg.len (by decide), rfl, _, rfl, ?_⟩
      refine ite2 (fun z => absurd z (by simp)) fun _ => ?_
      exact k H9 (e7.trans (ex_n (e8.trans e9))) (T7.ext fun b o h => (e8.trans e9) b o h)
    have due : ∀ {σ' : L2.St} {H' : Hp} {p q0 : Int}, σ'[4]? = some (some (.int p)) → σ'[5]? = some (some (.int q0)) → q0.natAbs < 2 ^ 250 → EvR F0 (tIf (tTest (tOp rNe (tVar 5) (tC (.int 0)))) (tTup (tCons (tC (.str "result")) (tCons (tCall (spPart K) [] C8.E0 (tCons (tVar 4) (tCons (tVar 5) tNil))) tNil))) (tTup (tCons (tC (.str "use")) (tCons (tC (.str "zero")) (tCons (tUn (rU fun i => .int (-i)) (tC (.int 1))) tNil))))) σ' H' 0 (IsD K (mD p q0)) := fun {σ' H' p q0} h4 h5 bq => by
      refine r_if (ka := 0) (kb := 0) (b := !decide (q0 = 0)) F0.ok (rt_val (rv_neI (rv_var h5) rv_c)) (fun hb => ?_) fun hb => ?_
      · have yn : q0 ≠ 0 := by simpa using hb
        rw [mD, if_neg yn]
        exact rd_tup (ds := [.str "result", frD (Rat.divInt p q0)]) F0.ok (ra_cons0 rd_str (ra_one (rd_part (rv_var h4) (rv_var h5) yn (lt_up bq (by decide)))))
      · have y0 : q0 = 0 := by simpa using hb
        rw [mD, if_pos y0]
        exact rd_tup (ds := [.str "use", .str "zero", .int (-1)]) F0.ok (ra_cons0 rd_str (ra_cons0 rd_str (ra_one (rd_ofI (i := -1) (fun n H1 hn g e Q q => ⟨1, rfl, q _ H1 Kx.refl g rfl⟩)))))
    have g2' : RdAt H2 d l (n + 6) := g2
    have atL : ∀ {H' : Hp}, ExR d H2 H' → H' L = some (.lst (ns.map V.int)) := fun e => e _ _ hL (fun ps z => by cases z) hLd
    have e02 : ExR d H H2 := (ExR.ofE e1).trans (ExR.ofK k2)
    refine ⟨.ref L, rfl, L, rfl, ⟨_, sq_of hL⟩, for_list (xs := ns.map V.int) (fun m σ' H' => ∃ x4 x5 x6, σ' = [some (.ref d), some (.int (10 ^ 59)), some (.ref L), none, x4, x5, x6, none] ∧ ExR d H2 H' ∧ RdAt H' d l (n + 6 + m) ∧ LamX.Tabs (T3 P1 P2 P3) H') ⟨none, none, none, rfl, .refl _, g2', T2⟩ (fun m σ' H' _ ⟨_, _, _, _, e, _⟩ => sq_of (atL e)) (fun m x σ' H' hxm ⟨x4, x5, x6, es', e, R', T'⟩ => ?_) fun σ' H' ⟨x4, x5, x6, es', e, R', T'⟩ => ?_⟩
    · subst es'
      have hlt : m < ns.length := by
        have := (List.getElem?_eq_some_iff.mp hxm).1
        rwa [List.length_map] at this
      obtain ⟨p, hp, rfl⟩ : ∃ p, p ∈ ns ∧ x = V.int p := by
        rw [List.getElem?_map, List.getElem?_eq_getElem hlt] at hxm
        cases hxm
        exact ⟨_, List.getElem_mem hlt, rfl⟩
      show tFor (iList K (tStep K (tVar 2) (tPart (tCall Fx.spDraw [] C8.E0 (tCons (tVar 0) (tCons (tC (.int 3)) tNil)))))) (gName 5) _ _ [some (.ref d), some (.int (10 ^ 59)), some (.ref L), none, some (.int p), x5, x6, none] H'
      have hd := r_drawR (d := d) (l := l) (many := 3) (E := C8.E0) (i := 0) (σ := [some (.ref d), some (.int (10 ^ 59)), some (.ref L), none, some (.int p), x5, x6, none]) (H := H') (kb := 0) (tb := tC (.int 3)) rfl rv_c (by decide) (by decide)
      refine ⟨.ref L, rfl, hd (n + 6 + m) H' (by omega) R' Kx.refl _ fun v H3 k3 g3 ⟨r, ev, _, _⟩ => ⟨r, ev, L, ns.map V.int, rfl, sq_of (atL (e.trans (ExR.ofK k3))), fun ys L2 sub len nL2 => ⟨L2, rfl, ⟨_, sq_of upd_same⟩, ?_⟩⟩⟩
      have eN := Ex.new (o := HO.lst ys) nL2
      have e4 : ExR d H2 (upd H3 L2 (.lst ys)) := e.trans ((ExR.ofK k3).trans (ExR.ofE eN))
      have R4 : RdAt (upd H3 L2 (.lst ys)) d l (n + 6 + (m + 1)) := RdF.ok.ex g3 eN
      have T4 := (tabs_k R' k3 T').ext (fun b o h => eN b o h)
      refine for_list (xs := ys) (fun j σ'' H'' => ∃ x5 x6, σ'' = [some (.ref d), some (.int (10 ^ 59)), some (.ref L), none, some (.int p), x5, x6, none] ∧ ExR d H2 H'' ∧ RdAt H'' d l (n + 6 + (m + 1)) ∧ LamX.Tabs (T3 P1 P2 P3) H'' ∧ H'' L2 = some (.lst ys)) ⟨x5, x6, rfl, e4, R4, T4, upd_same⟩ (fun j σ'' H'' _ ⟨_, _, _, _, _, _, h⟩ => sq_of h) (fun j y σ'' H'' hy ⟨y5, y6, es'', e'', R'', T'', hL2⟩ => ?_) fun σ'' H'' ⟨y5, y6, es'', e'', R'', T'', _⟩ => ⟨_, _, _, es'', e'', R'', T''⟩
      subst es''
      obtain ⟨q0, hq0, rfl⟩ : ∃ q0, q0 ∈ ns ∧ y = V.int q0 := by
        obtain ⟨z, hz, e⟩ := List.mem_map.mp (sub y (List.mem_of_getElem? hy))
        exact ⟨z, hz, e.symm⟩
      show tSeq (tAsg _ (gName 6)) _ _ [some (.ref d), some (.int (10 ^ 59)), some (.ref L), none, some (.int p), some (.int q0), y6, none] H''
      refine q_asgR (F := F0) (n := 0) (k := 0) (P := IsD K (mD p q0)) (due rfl rfl (nb q0 hq0)) F0.g (Nat.le_refl _) fun v6 H6 k6 _ p6 => ?_
      have e6 := F0.ex k6
      have T6 := T''.ext (fun b o h => e6 b o h)
      refine lamq (σ' := [some (.ref d), some (.int (10 ^ 59)), some (.ref L), none, some (.int p), some (.int q0), some v6, none]) rfl rfl rfl (nb p hp) (nb q0 hq0) T6 p6 fun H9 e9 T9 => ?_
      exact ⟨_, _, rfl, e''.trans ((ExR.ofE e6).trans (ExR.ofN e9)), rd_at_n e9 (RdF.ok.ex R'' e6), T9, e9 _ _ (e6 _ _ hL2) (fun ps z => by cases z)⟩
    · subst es'
      have bad := rd_tup0 (K := K) (H := H') (σ := [some (.ref d), some (.int (10 ^ 59)), some (.ref L), none, x4, x5, x6, none]) (tr := tCons (tC .non) (tCons (tC (.bl true)) (tCons (tC (.bl false)) (tCons (tC (.str "1")) (tCons (tTup (tCons (tC (.int 1)) (tCons (tC (.int 2)) tNil))) (tCons (tLst (tCons (tC (.int 1)) tNil)) (tCons (tTup tNil) tNil)))))))
        (ds := [.none, .bool true, .bool false, .str "1", .tuple [.int 1, .int 2], .list [.int 1], .tuple []]) (ra_cons0 (fun n H1 hn g e Q q => q _ H1 Kx.refl g .non) (ra_cons0 rd_bl (ra_cons0 rd_bl (ra_cons0 rd_str (ra_cons0 (rd_tup (ds := [.int 1, .int 2]) F0.ok (ra_cons0 (rd_ofI rv_c) (ra_one (rd_ofI rv_c)))) (ra_cons0 (rd_list (rl_lst F0.ok (ra_cons (ka := 0) (kb := 0) F0.ok (rd_ofI rv_c) ra_nil))) (ra_one (rd_tup (ds := []) F0.ok ra_nil))))))))
      show tSeq (tFor (iTup K (tTup (tCons (tC .non) (tCons (tC (.bl true)) (tCons (tC (.bl false)) (tCons (tC (.str "1")) (tCons (tTup (tCons (tC (.int 1)) (tCons (tC (.int 2)) tNil))) (tCons (tLst (tCons (tC (.int 1)) tNil)) (tCons (tTup tNil) tNil))))))))) (gName 7) _) _ _ [some (.ref d), some (.int (10 ^ 59)), some (.ref L), none, x4, x5, x6, none] H'
      refine q_forD bad fun H5 B xb e5 sB aB => ?_
      have R5 : RdAt H5 d l (n + 6 + (ns.map V.int).length) := RdF.ok.ex R' e5
      have T5 := T'.ext (fun b o h => e5 b o h)
      have allB : ∀ z ∈ ([.none, .bool true, .bool false, .str "1", .tuple [.int 1, .int 2], .list [.int 1], .tuple []] : List PyData), isIntB z = false := by
        intro z hz
        simp only [List.mem_cons, List.not_mem_nil, or_false] at hz
        rcases hz with rfl | rfl | rfl | rfl | rfl | rfl | rfl <;> rfl
      refine for_tup (xs := xb) (D := { nx := tRet (tC (.bl true)) { nx := fun _ H' => Q .non H', rt := Q }, rt := Q }) (fun m σ'' H'' => ∃ y4 y5 y7, σ'' = [some (.ref d), some (.int (10 ^ 59)), some (.ref L), none, y4, y5, x6, y7] ∧ LamX.ExtN H5 H'' ∧ LamX.Tabs (T3 P1 P2 P3) H'') ⟨x4, x5, none, rfl, .refl _, T5⟩ (fun m σ'' H'' _ ⟨_, _, _, _, eN, _⟩ => sqT_n eN sB) (fun m x σ'' H'' hxm ⟨y4, y5, y7, es'', eN, TN⟩ => ?_) fun σ'' H'' ⟨y4, y5, y7, es'', eN, TN⟩ => ?_
      · subst es''
        obtain ⟨bd, hbd, dx⟩ : ∃ bd, isIntB bd = false ∧ Dp K H5 x bd := by
          have hlt : m < ([.none, .bool true, .bool false, .str "1", .tuple [.int 1, .int 2], .list [.int 1], .tuple []] : List PyData).length := by
            have h1 := (List.getElem?_eq_some_iff.mp hxm).1
            have h2 := dps_len aB
            omega
          obtain ⟨u, hu, du⟩ := dps_get aB (List.getElem?_eq_getElem hlt)
          rw [hxm] at hu
          cases hu
          exact ⟨_, allB _ (List.getElem_mem hlt), du⟩
        have dx2 := dp_n eN _ _ dx
        show tFor (iTup K (tTup (tCons (tTup (tCons (tVar 7) (tCons (tC (.int 1)) tNil))) (tCons (tTup (tCons (tC (.int 1)) (tCons (tVar 7) tNil))) (tCons (tTup (tCons (tVar 7) (tCons (tC (.int 0)) tNil))) (tCons (tTup (tCons (tVar 7) (tCons (tVar 7) tNil))) tNil)))))) _ _ _ [some (.ref d), some (.int (10 ^ 59)), some (.ref L), none, y4, y5, x6, some x] H''
        have two := rd_tup0 (K := K) (H := H'') (σ := [some (.ref d), some (.int (10 ^ 59)), some (.ref L), none, y4, y5, x6, some x]) (tr := tCons (tTup (tCons (tVar 7) (tCons (tC (.int 1)) tNil))) (tCons (tTup (tCons (tC (.int 1)) (tCons (tVar 7) tNil))) (tCons (tTup (tCons (tVar 7) (tCons (tC (.int 0)) tNil))) (tCons (tTup (tCons (tVar 7) (tCons (tVar 7) tNil))) tNil))))
          (ds := [.tuple [bd, .int 1], .tuple [.int 1, bd], .tuple [bd, .int 0], .tuple [bd, bd]]) (ra_cons0 (rd_tup0 (ds := [bd, .int 1]) (ra_cons0 (rd_var0 rfl dx2) (ra_one (rd_ofI rv_c)))) (ra_cons0 (rd_tup0 (ds := [.int 1, bd]) (ra_cons0 (rd_ofI rv_c) (ra_one (rd_var0 rfl dx2)))) (ra_cons0 (rd_tup0 (ds := [bd, .int 0]) (ra_cons0 (rd_var0 rfl dx2) (ra_one (rd_ofI rv_c)))) (ra_one (rd_tup0 (ds := [bd, bd]) (ra_cons0 (rd_var0 rfl dx2) (ra_one (rd_var0 rfl dx2)))))))) 
        refine s_forD two fun H6 Bp xp e6 sP aP => ?_
        have T6 := TN.ext (fun b o h => e6 b o h)
        have allP : ∀ z ∈ ([.tuple [bd, .int 1], .tuple [.int 1, bd], .tuple [bd, .int 0], .tuple [bd, bd]] : List PyData), ∃ d1 d2, z = .tuple [d1, d2] ∧ (isIntB d1 && isIntB d2) = false := by
          intro z hz
          simp only [List.mem_cons, List.not_mem_nil, or_false] at hz
          rcases hz with rfl | rfl | rfl | rfl <;> exact ⟨_, _, rfl, by simp [hbd]⟩
        refine for_tup (xs := xp) (fun m σ3 H3 => ∃ z4 z5, σ3 = [some (.ref d), some (.int (10 ^ 59)), some (.ref L), none, z4, z5, x6, some x] ∧ LamX.ExtN H6 H3 ∧ LamX.Tabs (T3 P1 P2 P3) H3) ⟨y4, y5, rfl, .refl _, T6⟩ (fun m σ3 H3 _ ⟨_, _, _, e3, _⟩ => sqT_n e3 sP) (fun j y σ3 H3 hyj ⟨z4, z5, es3, e3, TT3⟩ => ?_) fun σ3 H3 ⟨z4, z5, es3, e3, TT3⟩ => ⟨_, _, _, es3, (eN.trans (ex_n e6)).trans e3, TT3⟩
        subst es3
        obtain ⟨d1, d2, hodd, dy⟩ : ∃ d1 d2, (isIntB d1 && isIntB d2) = false ∧ Dp K H6 y (.tuple [d1, d2]) := by
          have hlt : j < ([.tuple [bd, .int 1], .tuple [.int 1, bd], .tuple [bd, .int 0], .tuple [bd, bd]] : List PyData).length := by
            have h1 := (List.getElem?_eq_some_iff.mp hyj).1
            have h2 := dps_len aP
            omega
          obtain ⟨u, hu, du⟩ := dps_get aP (List.getElem?_eq_getElem hlt)
          rw [hyj] at hu
          cases hu
          obtain ⟨d1, d2, ez, ho⟩ := allP _ (List.getElem_mem hlt)
          rw [ez] at du
          exact ⟨d1, d2, ho, du⟩
        obtain ⟨u1, u2, gv2, p1, p2⟩ := gv_two (K := K) (i := 4) (j := 5) (σ0 := [some (.ref d), some (.int (10 ^ 59)), some (.ref L), none, z4, z5, x6, some x]) (dp_n e3 _ _ dy)
        refine gv2 _ ?_
        show tIfS (tB (tOp (rNeD K) (LamX.tLam (T3 P1 P2 P3) (TOut4 C) (fun E => tCall (spMadeX K C) [] E (tCons (tVar 4) (tCons (tVar 5) tNil)))) (tTup (tCons (tC (.str "use")) (tCons (tC (.str "integer")) (tCons (tUn (rU fun i => .int (-i)) (tC (.int 1))) tNil)))))) _ _ _ [some (.ref d), some (.int (10 ^ 59)), some (.ref L), none, some u1, some u2, x6, some x] H3
        refine ⟨TT3, fun H7 e7 T7 H8 e8 => ⟨u1, rfl, u2, rfl, made_odd (dp_ex e8 _ _ (dp_n e7 _ _ p1)) (dp_ex e8 _ _ (dp_n e7 _ _ p2)) hodd fun r H9 e9 dp => ?_⟩⟩
        refine ⟨1, rfl, (by show 3 ≤ sizeLine; decide), fun pz hz => ?_⟩
        have eZ := Ex.new (o := .tup [.str "use", .str "integer", .int (-1)]) hz
        refine ⟨_, .tuple [.str "use", .str "integer", .int (-1)], dp_ex eZ _ _ dp, .tup (st_of upd_same) (.cons (.str _) (.cons (.str _) (.cons (.int _) .nil))), by decide +kernel, by decide +kernel, _, rfl, ?_⟩
        refine ite2 (fun z => absurd z (by decide +kernel)) fun _ => ?_
        exact ⟨_, _, rfl, e3.trans (e7.trans (ex_n (e8.trans (e9.trans eZ)))), T7.ext fun b o h => (e8.trans (e9.trans eZ)) b o h⟩
      · subst es''
        refine q H'' (e02.trans (e.trans ((ExR.ofE e5).trans (ExR.ofN eN)))) ?_ TN
        have R6 := rd_at_n eN R5
        rw [List.length_map, nlen] at R6
        exact RdF.ok.up (n := n + 6 + 16) R6 (by omega)
end
end Q4
set_option maxHeartbeats 4000000
/-! ### k04: _law_check_totals -/
namespace Q4
open PySem PySem.Spec PyProof.Rows L2 L2H Evl Fx Fr Dt Tr K18 So K17 Hc DtG
theorem no_outN {X : Cx} : Passes (L2N.CX X.prog X.w) X (fun _ _ _ => False) := fun _ _ _ _ _ _ _ h => by
  obtain ⟨_, _, _, _, _, _, _, _, _, _, _, _, z⟩ := h
  exact z.elim
def manyD : PyData := .tuple [.str "use", .str "many", .int (-1)]
section
variable {P : Program} {w : World} {K : PySem.W.Frag} {mg : Str → Option Value} {base : Heap} {f f1 f2 f3 : Addr} {fd fd1 fd2 fd3 : FuncData} {te tl ta tb : TE} {σ σ2 : L2.St} {H H1 : Hp} {k ka kb n : Nat} {ds es : List PyData} {C d l : Addr}
theorem tot_odd {xs ys : List Int} {v1 v2 : V} {Q : VK} (p1 : Dp K H v1 (intsD xs)) (p2 : Dp K H v2 (intsD ys)) (l1 : xs.length ≤ 1000) (l2 : ys.length ≤ 1000) (s1 : Sm4 xs) (s2 : Sm4 ys) (h : xs.length ≠ ys.length) (k : ∀ r H', Ex H H' → Dp K H' (.ref r) manyD → Q (.ref r) H') :
    spTotX K C [v1, v2] H (fun v H3 => ∀ p, H3 p = none → Q (.ref p) (upd H3 p (.tup [.str "result", v]))) (exOut4 C Q) :=
  ⟨v1, v2, xs, ys, rfl, p1, p2, l1, l2, s1, s2, fun _ H' dd fs e hdd lw la => ⟨rfl, dd, fs, _, _, rfl, hdd, lw, la, fun H'' r e' hr => k r H'' (e.trans e') (.tup (st_of hr) (.cons (.str _) (.cons (.str _) (.cons (.int _) .nil))))⟩, fun z => absurd z h⟩
theorem rv_totE {xs ys : List Int} (ha : EvR F0 ta σ H 0 (IsD K (intsD xs))) (hb : EvR F0 tb σ H 0 (IsD K (intsD ys))) (l1 : xs.length ≤ 1000) (l2 : xs.length = ys.length) (s1 : Sm4 xs) (s2 : Sm4 ys) : EvR F0 (tCall (spTotX K C) [] (fun _ _ _ => False) (tCons ta (tCons tb tNil))) σ H 0 (fun x _ => x = .int (dot xs ys)) := fun n H1 hn g e Q q =>
  ha n H1 hn g e _ fun u H2 e2 g2 p1 => hb n H2 hn F0.g (e.trans e2) _ fun v H3 e3 g3 p2 => ⟨u, v, xs, ys, rfl, dp_ex (F0.ex e3) _ _ p1, p2, l1, by omega, s1, s2, fun z => absurd l2 z, fun _ H4 e4 => q _ H4 (e2.trans (e3.trans (Kx.ex e4))) F0.g rfl⟩
theorem q_forLs {g : TG} {tb tz : TS} {D : Ends} (h : EvR F0 te σ H 0 (IsL F0 K ds)) (kk : ∀ H1 a xs, Ex H H1 → H1 a = some (.lst xs) → DpAll K H1 xs ds → ∃ W : Nat → Nat → L2.St → Hp → Prop, (∃ m, W 0 m σ H1) ∧ ∀ i m σ H, W i m σ H →
    ((Itl K a).stop i H ∧ tz D σ H) ∨ ((Itl K a).go i H ∧ ∃ N : L2.St → Hp → Prop, (∀ σ' H', N σ' H' → ∃ m', m' < m ∧ W (i + 1) m' σ' H') ∧ ∀ x H', (Itl K a).yld i H x H' → g x σ H' fun σ2 H2 => tb { D with nx := N, ct := N, bk := tz D } σ2 H2)) : tSeq (tFor (iList K te) g tb) tz D σ H :=
  h 0 H (Nat.le_refl _) F0.g Kx.refl _ fun v H1 k1 _ ⟨a, xs, ev, _, ha, hx⟩ => ⟨a, ev, ⟨_, sq_of ha⟩, kk H1 a xs (F0.ex k1) ha hx⟩
/-- total_of in a lambda, of unequal lengths -/
theorem lam_tot {T : List (Addr × Str)} {i j : Nat} {v1 v2 : V} {xs ys : List Int} {tu u : TS} {D : Ends} (hi : σ[i]? = some (some v1)) (hj : σ[j]? = some (some v2)) (hT : LamX.Tabs T H) (p1 : Dp K H v1 (intsD xs)) (p2 : Dp K H v2 (intsD ys)) (l1 : xs.length ≤ 1000) (l2 : ys.length ≤ 1000) (s1 : Sm4 xs) (s2 : Sm4 ys) (h : xs.length ≠ ys.length)
    (k : ∀ H', LamX.ExtN H H' → LamX.Tabs T H' → u D σ H') :
    tIfS (tTest (tOp (rNeD K) (LamX.tLam T (TOut4 C) (fun E => tCall (spTotX K C) [] E (tCons (tVar i) (tCons (tVar j) tNil)))) (tTup (tCons (tC (.str "use")) (tCons (tC (.str "many")) (tCons (tUn (rU fun i => .int (-i)) (tC (.int 1))) tNil)))))) tu u D σ H := by
  refine ⟨hT, fun H7 e7 T7 H8 e8 => ⟨v1, hi, v2, hj, tot_odd (dp_ex e8 _ _ (dp_n e7 _ _ p1)) (dp_ex e8 _ _ (dp_n e7 _ _ p2)) l1 l2 s1 s2 h fun r H9 e9 dp => ?_⟩⟩
  refine ⟨1, rfl, (by show 3 ≤ sizeLine; decide), fun pz hz => ?_⟩
  have eZ := Ex.new (o := .tup [.str "use", .str "many", .int (-1)]) hz
  refine ⟨_, manyD, dp_ex eZ _ _ dp, .tup (st_of upd_same) (.cons (.str _) (.cons (.str _) (.cons (.int _) .nil))), by decide +kernel, by decide +kernel, _, rfl, ?_⟩
  refine ite2 (fun z => absurd z (by decide +kernel)) fun _ => ?_
  exact k _ (e7.trans (ex_n (e8.trans (e9.trans eZ)))) (T7.ext fun b o h => (e8.trans (e9.trans eZ)) b o h)
def tPow59 : TE := tOp (rI CPow fun i j => .int (i ^ j.toNat)) (tC (.int 10)) (tC (.int 59))
def tEnd (K : PySem.W.Frag) (C : Addr) : TE := tOp rEq (tCall (spTotX K C) [] (fun _ _ _ => False) (tCons (tTup (tCons tPow59 (tCons (tUn (rU fun i => .int (-i)) (tC (.int 3))) tNil))) (tCons (tTup (tCons (tC (.int 2)) (tCons tPow59 tNil))) tNil))) (tOp (rI0 fun i j => .int (i - j)) (tC (.int 0)) tPow59)
theorem rv_end : EvR F0 (tEnd K C) σ H 0 (fun x _ => x = .bl true) := by
  have pw : EvR F0 tPow59 σ H 0 (fun x _ => x = .int (10 ^ 59)) := fun n H1 hn g e Q q => ⟨_, _, rfl, rfl, ⟨by decide, by decide, by decide⟩, q _ H1 Kx.refl g rfl⟩
  have n3 : EvR F0 (tUn (rU fun i => .int (-i)) (tC (.int 3))) σ H 0 (fun x _ => x = .int (-3)) := fun n H1 hn g e Q q => ⟨3, rfl, q _ H1 Kx.refl g rfl⟩
  have a : EvR F0 (tTup (tCons tPow59 (tCons (tUn (rU fun i => .int (-i)) (tC (.int 3))) tNil))) σ H 0 (IsD K (intsD [10 ^ 59, -3])) := rd_tup0 (ds := [.int (10 ^ 59), .int (-3)]) (ra_cons0 (rd_ofI pw) (ra_one (rd_ofI n3)))
  have b : EvR F0 (tTup (tCons (tC (.int 2)) (tCons tPow59 tNil))) σ H 0 (IsD K (intsD [2, 10 ^ 59])) := rd_tup0 (ds := [.int 2, .int (10 ^ 59)]) (ra_cons0 (rd_ofI rv_c) (ra_one (rd_ofI pw)))
  have sm : ∀ {x y : Int}, x.natAbs < 2 ^ 200 → y.natAbs < 2 ^ 200 → Sm4 [x, y] := fun {x y} hx hy z hz => by
    simp only [List.mem_cons, List.not_mem_nil, or_false] at hz
    rcases hz with rfl | rfl
    · exact lt_up hx (by decide)
    · exact lt_up hy (by decide)
  have t := rv_totE (C := C) a b (by decide) (by decide) (sm (by decide) (by decide)) (sm (by decide) (by decide))
  have e := rv_eqI t (rv_sub (i := 0) rv_c pw)
  have z : decide (dot [10 ^ 59, -3] [2, 10 ^ 59] = 0 - 10 ^ 59) = true := by decide
  rw [z] at e
  exact e
theorem dot_bnd : ∀ xs ys : List Int, (∀ z ∈ xs, -1000 ≤ z ∧ z ≤ 1000) → (∀ z ∈ ys, -1000 ≤ z ∧ z ≤ 1000) → (dot xs ys).natAbs ≤ xs.length * 1000000
  | [], _, _, _ => by simp [dot]
  | x :: xs, [], _, _ => by simp [dot]
  | x :: xs, y :: ys, hx, hy => by
    have h1 := hx x List.mem_cons_self
    have h2 := hy y List.mem_cons_self
    have h3 := dot_bnd xs ys (fun z hz => hx z (List.mem_cons_of_mem _ hz)) (fun z hz => hy z (List.mem_cons_of_mem _ hz))
    have h4 : (x * y).natAbs ≤ 1000 * 1000 := by
      rw [Int.natAbs_mul]
      exact Nat.mul_le_mul (by omega) (by omega)
    show (x * y + dot xs ys).natAbs ≤ (xs.length + 1) * 1000000
    omega
theorem flat_ints (xs : List Int) : flat (intsD xs) = true := by rw [intsD, flat_tup]; exact ints_flat xs
def nTt : List Str := ["_law_reader_here", "_law_size", "_law_one", "_law_k", "_law_two", "_law_bad"]
theorem scTt : FnScope nTt ["_law_reader_here"] (defScope (K18.topS 39)) := ⟨rfl, rfl, rfl, by decide +kernel, rfl, by decide +kernel, by decide +kernel⟩
theorem ok_tt {c0 P1 P2 P3 fv g fc fo ff : Addr} {fdv gd fdc fdo fdf : FuncData} {c : Nat → Addr} (F : FunC K "_law_check_totals" "_law_check_totals" (K18.topS 39) f fd c0) (TB : LamX.TabB base mg c0 P3) (n13 : P1 ≠ P3) (n23 : P2 ≠ P3)
    (cD : C8.Cal P w K mg base 1 "_law_draw" Fx.spDraw [])
    (Fv : FnOk P w K mg base (L2N.CX P w) 3 fv fdv ["question", "crowd"] (spTotX K C)) (gv : mg "total_of" = some (.ref fv)) (kv : PySem.W.keepIn K (.ref fv) = true) (bv : L2.Binds K fdv ["question", "crowd"] [])
    (M : Lm P w K mg base C c g gd fc fo ff fdc fdo fdf) (m_repr : mg "repr" = none) (m_list : mg "list" = none) (m_tuple : mg "tuple" = none) (m_sum : mg "sum" = none) : FnG P w K mg base CX0 6 f fd ["_law_reader_here"] (spChk K (T3 P1 P2 P3) 600) := by
  refine okGC F scTt (fun vs H Q E h => ?_) (fun A outer s H vs Q E hgd hr h => ?_)
  · obtain ⟨d, l, n, rfl, _⟩ := h
    rfl
  · obtain ⟨d, l, n, rfl, hR, hn, hT, q⟩ := h
    refine ⟨_, pss_cons (ps_for PassesOwn.never rfl (pi_list (pe_op op_cat (pe_listRg rfl (by rfl) m_list (prg_1 (by rfl) M.m_range pe_int)) (pe_lst (pa_cons pe_int pa_nil)))) (pg_name (i := 1) scTt.nd rfl (.inl rfl))
        (pss_cons (ps_set (i := 2) scTt.nd rfl (.inr rfl) (pe_callTy (T := "tuple") (r := rTupOf K) call_tupleOf (by rfl) m_tuple (by decide +kernel) (pa_cons (pe_lc (own := [("_law_k", 3)]) (g := gName 3) (by rfl) scTt.nd (pi_range1 (by rfl) M.m_range (pa_cons (pv 1) pa_nil)) (blkOk_by (own := [("_law_k", 3)]) (N := nTt) (sc := defScope (K18.topS 39)) (by decide +kernel)) (fun _ _ _ _ _ => pg_name (i := 3) scTt.nd rfl (.inl rfl)) (fun _ _ _ _ _ => pts_nil)
            (te := tOp (rI0 fun i j => .int (i - j)) (tCall Fx.spDraw [] C8.E0 (tCons (tVar 0) (tCons (tC (.int 19)) tNil))) (tC (.int 9))) (fun _ _ _ _ _ => pe_op op_sub (C8.pe_c cD hr (by decide) (by rfl) (pa_cons (pv 0) (pa_cons pe_int pa_nil))) pe_int)) pa_nil)))
        (pss_cons (ps_set (i := 4) scTt.nd rfl (.inr rfl) (pe_callTy (T := "tuple") (r := rTupOf K) call_tupleOf (by rfl) m_tuple (by decide +kernel) (pa_cons (pe_lc (own := [("_law_k", 3)]) (g := gName 3) (by rfl) scTt.nd (pi_range1 (by rfl) M.m_range (pa_cons (pv 1) pa_nil)) (blkOk_by (own := [("_law_k", 3)]) (N := nTt) (sc := defScope (K18.topS 39)) (by decide +kernel)) (fun _ _ _ _ _ => pg_name (i := 3) scTt.nd rfl (.inl rfl)) (fun _ _ _ _ _ => pts_nil)
            (te := tCall Fx.spDraw [] C8.E0 (tCons (tVar 0) (tCons (tC (.int 100)) tNil))) (fun _ _ _ _ _ => C8.pe_c cD hr (by decide) (by rfl) (pa_cons (pv 0) (pa_cons pe_int pa_nil)))) pa_nil)))
        (pss_cons (ps_if (pt_cmpR op_ne (pe_callB (r := rReprX K) (cr_reprX hgd hr.units) (by rfl) m_repr (by decide +kernel) (pa_cons (pe_call (E := fun _ _ _ => False) (dvs := []) Fv (hr.mono (by decide)) (by rfl) gv kv bv .nil no_outN (pa_cons (pv 2) (pa_cons (pv 4) pa_nil))) pa_nil))
            (pe_callB (r := rReprX K) (cr_reprX hgd hr.units) (by rfl) m_repr (by decide +kernel) (pa_cons (pe_callB (r := rSum K) (cr_sum rfl) (by rfl) m_sum (by decide +kernel) (pa_cons (pe_lc (own := [("_law_k", 3)]) (g := gName 3) (by rfl) scTt.nd (pi_range1 (by rfl) M.m_range (pa_cons (pv 1) pa_nil)) (blkOk_by (own := [("_law_k", 3)]) (N := nTt) (sc := defScope (K18.topS 39)) (by decide +kernel)) (fun _ _ _ _ _ => pg_name (i := 3) scTt.nd rfl (.inl rfl)) (fun _ _ _ _ _ => pts_nil)
              (te := tOp (rI CMulW fun i j => .int (i * j)) (tOp (rIxT K) (tVar 2) (tVar 3)) (tOp (rIxT K) (tVar 4) (tVar 3))) (fun _ _ _ _ _ => pe_op op_mulW (pe_ix ix_tup (pv 2) (pv 3) (fun _ _ => rfl)) (pe_ix ix_tup (pv 4) (pv 3) (fun _ _ => rfl)))) pa_nil)) pa_nil)) (nomark _)) (pss_one (ps_ret pe_bl)) pss_nil)
        (pss_one (ps_for PassesOwn.never rfl (pi_tup (pe_tup (pa_cons (pe_op op_catA (pv 4) (pe_tup (pa_cons pe_int pa_nil))) (pa_cons (pe_op op_catA (pv 4) (pe_tup (pa_cons pe_int (pa_cons pe_int pa_nil)))) pa_nil)))) (pg_name (i := 5) scTt.nd rfl (.inr rfl))
          (pss_cons (ps_if (pt_cmpR (r := rNeD K) (op_neD hr.units)
              (pe_lamN (T := T3 P1 P2 P3) (TT := TOut4 C) (Ng := nOut4) (t := fun E => tCall (spTotX K C) [] E (tCons (tVar 2) (tCons (tVar 5) tNil))) (k := 3) M.F (by rfl) M.go M.bo scOut4 rfl (.inl rfl) (fun cdv => out_tells M.T M.S M.m_range M.m_len (hr.mono (by decide))) TB rfl (.tail _ (.tail _ (.head _))) (fun p hp e => ?u1) hr (LamX.lamS_by (by kernel_rfl)) rfl (fun _ _ _ _ _ => rfl)
                (fun A' outer' s' H' E' f' c' hr' => pe_call Fv hr' (by rfl) gv kv bv .nil (L2N.passes_call (L2N.takes_of rfl rfl rfl rfl) fun _ _ _ _ h => h) (pa_cons (pv 2) (pa_cons (pv 5) pa_nil)))) (pe_tup (pa_cons pe_str (pa_cons pe_str (pa_cons (pe_un un_neg pe_int) pa_nil)))) (nomark _)) (pss_one (ps_ret pe_bl)) pss_nil)
          (pss_one (ps_if (pt_cmpR (r := rNeD K) (op_neD hr.units)
              (pe_lamN (T := T3 P1 P2 P3) (TT := TOut4 C) (Ng := nOut4) (t := fun E => tCall (spTotX K C) [] E (tCons (tVar 5) (tCons (tVar 2) tNil))) (k := 3) M.F (by rfl) M.go M.bo scOut4 rfl (.inl rfl) (fun cdv => out_tells M.T M.S M.m_range M.m_len (hr.mono (by decide))) TB rfl (.tail _ (.tail _ (.head _))) (fun p hp e => ?u2) hr (LamX.lamS_by (by kernel_rfl)) rfl (fun _ _ _ _ _ => rfl)
                (fun A' outer' s' H' E' f' c' hr' => pe_call Fv hr' (by rfl) gv kv bv .nil (L2N.passes_call (L2N.takes_of rfl rfl rfl rfl) fun _ _ _ _ h => h) (pa_cons (pv 5) (pa_cons (pv 2) pa_nil)))) (pe_tup (pa_cons pe_str (pa_cons pe_str (pa_cons (pe_un un_neg pe_int) pa_nil)))) (nomark _)) (pss_one (ps_ret pe_bl)) pss_nil)))))))))
      (pss_one (ps_ret (pe_cmpR op_eq (pe_call (E := fun _ _ _ => False) (dvs := []) Fv (hr.mono (by decide)) (by rfl) gv kv bv .nil no_outN (pa_cons (pe_tup (pa_cons (pe_op op_pow pe_int pe_int) (pa_cons (pe_un un_neg pe_int) pa_nil))) (pa_cons (pe_tup (pa_cons pe_int (pa_cons (pe_op op_pow pe_int pe_int) pa_nil))) pa_nil))) (pe_op op_sub pe_int (pe_op op_pow pe_int pe_int)) (nomark _)))), ?_⟩
    case u1 | u2 =>
      simp only [T3, List.mem_cons, List.not_mem_nil, or_false] at hp
      rcases hp with rfl | rfl | rfl
      · exact absurd e n13
      · exact absurd e n23
      · rfl
    have N0 : (RdF d l).N = 900000 := rfl
    obtain ⟨kv0, hd0⟩ : ∃ kv, H d = some (.dK kv) := by
      obtain ⟨ns, s', r, c, h1, _⟩ := hR
      exact ⟨_, h1⟩
    have lst : EvR F0 (tOp rCat (tLstRg (tRg1 (tC (.int 9)))) (tLst (tCons (tC (.int 30)) tNil))) [some (.ref d), none, none, none, none, none] H 0 (IsL F0 K (((List.range 9).map fun (i : Nat) => PyData.int (i : Int)) ++ [.int 30])) := rl_catX (rl_listRg (m := 9) F0.ok rv_c (by decide)) (rl_lst F0.ok (ra_cons (ka := 0) (kb := 0) F0.ok (rd_ofI rv_c) ra_nil)) (by decide)
    have sizes : ∀ z ∈ (((List.range 9).map fun (i : Nat) => PyData.int (i : Int)) ++ [.int 30]), ∃ s : Nat, z = .int (s : Int) ∧ s ≤ 30 := fun z hz => by
      rcases List.mem_append.mp hz with h | h
      · obtain ⟨i, hi, rfl⟩ := List.mem_map.mp h
        exact ⟨i, rfl, by have := List.mem_range.mp hi; omega⟩
      · obtain rfl := List.mem_singleton.mp h
        exact ⟨30, rfl, Nat.le_refl _⟩
    show tSeq (tFor (iList K (tOp rCat (tLstRg (tRg1 (tC (.int 9)))) (tLst (tCons (tC (.int 30)) tNil)))) (gName 1) _) _ _ [some (.ref d), none, none, none, none, none] H
    refine q_forLs lst fun H1 La xs e1 hLa dxs => ?_
    have hLd : La ≠ d := fun z => by
      have := e1 _ _ hd0
      rw [← z, hLa] at this
      cases this
    have R1 : RdAt H1 d l n := RdF.ok.ex (n := n) hR e1
    have T1 := hT.ext (fun b o h => e1 b o h)
    have xl : xs.length = 10 := by
      have := dps_len dxs
      simpa using this
    refine for_list (xs := xs) (D := { nx := tRet (tEnd K C) { nx := fun _ H' => Q .non H', rt := Q }, rt := Q }) (fun m σ' H' => ∃ x1 x2 x4 x5, σ' = [some (.ref d), x1, x2, none, x4, x5] ∧ ExR d H1 H' ∧ RdAt H' d l (n + 60 * m) ∧ LamX.Tabs (T3 P1 P2 P3) H') ⟨none, none, none, none, rfl, .refl _, R1, T1⟩ (fun m σ' H' _ ⟨_, _, _, _, _, e, _⟩ => sq_of (e _ _ hLa (fun ps z => by cases z) hLd)) (fun m x σ' H' hxm ⟨x1, x2, x4, x5, es', e, R', T'⟩ => ?_) fun σ' H' ⟨x1, x2, x4, x5, es', e, R', T'⟩ => ?_
    · subst es'
      have hlt : m < (((List.range 9).map fun (i : Nat) => PyData.int (i : Int)) ++ [PyData.int 30]).length := by
        have h1 := (List.getElem?_eq_some_iff.mp hxm).1
        have h2 := dps_len dxs
        omega
      have hm10 : m < 10 := by
        have := (List.getElem?_eq_some_iff.mp hxm).1
        omega
      obtain ⟨sz, ex, hsz⟩ : ∃ sz : Nat, x = V.int (sz : Int) ∧ sz ≤ 30 := by
        obtain ⟨u, hu, du⟩ := dps_get dxs (List.getElem?_eq_getElem hlt)
        rw [hxm] at hu
        cases hu
        obtain ⟨sz, ez, h⟩ := sizes _ (List.getElem_mem hlt)
        rw [ez] at du
        cases du
        exact ⟨sz, rfl, h⟩
      subst ex
      show tSeq (tAsg _ (gName 2)) _ _ [some (.ref d), some (.int (sz : Int)), x2, none, x4, x5] H'
      have draws : ∀ {te : TE} {σ' : L2.St} {H' : Hp} {lo hi : Int}, -1000 ≤ lo → hi ≤ 1000 → σ'[1]? = some (some (.int (sz : Int))) → (∀ (i : Nat) H'', EvR (RdF d l) te (((wipe σ' [3]).set 3 (some (V.int (i : Nat))))) H'' (0 + 1) (IntP fun z => lo ≤ z ∧ z ≤ hi)) → (∀ i : Nat, wipe ((wipe σ' [3]).set 3 (some (V.int (i : Nat)))) [3] = wipe σ' [3]) →
          EvR (RdF d l) (tCB (rTupOf K) (tCons (tLc (iRng1 (tCons (tVar 1) tNil)) (gName 3) tYes te [3]) tNil)) σ' H' (0 + sz * (0 + 1)) (fun v H'' => ∃ ns : List Int, ns.length = sz ∧ Sm4 ns ∧ (∀ z ∈ ns, -1000 ≤ z ∧ z ≤ 1000) ∧ Dp K H'' v (intsD ns)) := fun {te σ' H' lo hi} h0 h1 hs ht hw => by
        have lc := r_lcRP (F := RdF d l) (K := K) (Pe := fun x => ∃ z : Int, x = .int z ∧ lo ≤ z ∧ z ≤ hi) (k := 0) (ke := 0 + 1) (H := H') (σ := σ') (g := gName 3) (te := te) (tr := tCons (tVar 1) tNil) (vs := [3]) (m := sz) RdF.ok (fun x ⟨i, e, _⟩ => by rw [e]; rfl) (fun n H1 hn g e Q q => ⟨_, hs, q _ H1 Kx.refl g rfl⟩) (Nat.le_trans hsz (by decide))
          (fun i n H'' hi' g e => ⟨_, gv_name, hw i, Dt.EvR.imp (ht i H'') fun _ v H2 _ _ ⟨z, ez, hz⟩ => by
            subst ez
            exact ⟨.int z, ⟨z, rfl, hz⟩, .int z⟩⟩)
        refine Dt.EvR.imp (rd_tupOfP RdF.ok lc) fun _ v H2 _ _ ⟨x, ⟨es, ex, el, ep⟩, dx⟩ => ?_
        subst ex
        have es2 : es = (es.map intN).map PyData.int := by
          rw [List.map_map]
          conv => lhs; rw [← List.map_id es]
          refine List.map_congr_left fun x hx => ?_
          obtain ⟨i, rfl, _⟩ := ep x hx
          rfl
        have bnd : ∀ z ∈ es.map intN, -1000 ≤ z ∧ z ≤ 1000 := fun z hz => by
          obtain ⟨x, hx, rfl⟩ := List.mem_map.mp hz
          obtain ⟨i, rfl, hl, hh⟩ := ep x hx
          exact ⟨Int.le_trans h0 hl, Int.le_trans hh h1⟩
        refine ⟨es.map intN, by rw [List.length_map]; exact el, fun z hz => Nat.lt_of_lt_of_le (show z.natAbs < 2 ^ 10 by have := bnd z hz; omega) (Nat.pow_le_pow_right (by decide) (by decide)), bnd, ?_⟩
        rw [es2] at dx
        exact dx
      have A1 := draws (te := tOp (rI0 fun i j => .int (i - j)) (tCall Fx.spDraw [] C8.E0 (tCons (tVar 0) (tCons (tC (.int 19)) tNil))) (tC (.int 9))) (σ' := [some (.ref d), some (.int (sz : Int)), x2, none, x4, x5]) (H' := H') (lo := -9) (hi := 9) (by decide) (by decide) rfl
        (fun i H'' => IntP.imp (r_intI0 (ka := 0 + 1) (kb := 0) (o := (· - ·)) (p := fun i => 0 ≤ i ∧ i < 19) (q := (· = 9)) RdF.ok (r_below (c := 0) (r_drawR (i := 0) rfl rv_c (by decide) (by decide)) fun i a b => ⟨a, b⟩) (r_int rv_c)) fun z ⟨i, j, ⟨i0, i1⟩, ej, ez⟩ => by subst ej ez; omega) (fun i => rfl)
      refine q_asgR (F := RdF d l) (n := n + 60 * m) (k := 0 + sz * (0 + 1)) A1 R' (by omega) fun v2 H3 k3 g3 ⟨as, al, asm, ab, pa⟩ => ?_
      have A2 := draws (te := tCall Fx.spDraw [] C8.E0 (tCons (tVar 0) (tCons (tC (.int 100)) tNil))) (σ' := [some (.ref d), some (.int (sz : Int)), some v2, none, x4, x5]) (H' := H3) (lo := 0) (hi := 99) (by decide) (by decide) rfl
        (fun i H'' => r_below (c := 0) (r_drawR (i := 0) rfl rv_c (by decide) (by decide)) fun i a b => ⟨a, by omega⟩) (fun i => rfl)
      show tSeq (tAsg _ (gName 4)) _ _ [some (.ref d), some (.int (sz : Int)), some v2, none, x4, x5] H3
      refine q_asgR (F := RdF d l) (n := n + 60 * m + (0 + sz * (0 + 1))) (k := 0 + sz * (0 + 1)) A2 g3 (by omega) fun v4 H4 k4 g4 ⟨bs, bl, bsm, bb, pb⟩ => ?_
      have pa4 : Dp K H4 v2 (intsD as) := mono_d RdF.ok (flat_ints as) _ _ _ _ g3 k4 pa
      have T3' := tabs_k R' k3 T'
      have T4 := tabs_k g3 k4 T3'
      have e4 : ExR d H1 H4 := e.trans ((ExR.ofK k3).trans (ExR.ofK k4))
      have R4 : RdAt H4 d l (n + 60 * (m + 1)) := RdF.ok.up g4 (by omega)
      have hab : as.length = bs.length := by omega
      have db : (dot as bs).natAbs < 2 ^ 690 := Nat.lt_of_le_of_lt (Nat.le_trans (dot_bnd as bs ab bb) (show as.length * 1000000 ≤ 2 ^ 30 by rw [al]; omega)) (Nat.pow_lt_pow_right (by decide) (by decide))
      have tot : EvR F0 (tCall (spTotX K C) [] (fun _ _ _ => False) (tCons (tVar 2) (tCons (tVar 4) tNil))) [some (.ref d), some (.int (sz : Int)), some v2, none, some v4, x5] H4 0 (fun x _ => x = .int (dot as bs)) := rv_totE (rd_var0 rfl pa4) (rd_var0 rfl pb) (by omega) hab asm bsm
      have zl : (List.zipWith (· * ·) as bs).length = sz := by rw [List.length_zipWith]; omega
      have lcp := r_lcR (F := F0) (K := K) (k := 0) (kt := 0) (ke := 0) (H := H4) (σ := [some (.ref d), some (.int (sz : Int)), some v2, none, some v4, x5]) (g := gName 3) (tt := tYes) (te := tOp (rI CMulW fun i j => .int (i * j)) (tOp (rIxT K) (tVar 2) (tVar 3)) (tOp (rIxT K) (tVar 4) (tVar 3))) (tr := tCons (tVar 1) tNil) (vs := [3]) (m := sz) F0.ok (fun _ => true) (fun i => ((List.zipWith (· * ·) as bs).map PyData.int).getD i .none) (fun n H1 hn g e Q q => ⟨_, rfl, q _ H1 Kx.refl g rfl⟩) (by omega)
        (fun j hj _ => by
          have hz : j < (List.zipWith (· * ·) as bs).length := by rw [zl]; exact hj
          rw [List.getD_eq_getElem?_getD, List.getElem?_map, List.getElem?_eq_getElem hz]
          rfl)
        (fun i n H'' hi g e => ⟨_, gv_name, rfl, fun n H1 hn g e Q q => q H1 Kx.refl g, fun _ => by
          have h1 : i < as.length := by omega
          have h2 : i < bs.length := by omega
          have ez : ((List.zipWith (· * ·) as bs).map PyData.int).getD i .none = .int (as[i] * bs[i]) := by
            rw [List.getD_eq_getElem?_getD, List.getElem?_map, List.getElem?_zipWith, List.getElem?_eq_getElem h1, List.getElem?_eq_getElem h2]
            rfl
          show EvR F0 _ _ H'' 0 (IsD K (((List.zipWith (· * ·) as bs).map PyData.int).getD i .none))
          rw [ez]
          have ia : EvR F0 (tOp (rIxT K) (tVar 2) (tVar 3)) [some (.ref d), some (.int (sz : Int)), some v2, some (.int (i : Int)), some v4, x5] H'' 0 (fun x _ => x = .int as[i]) := rv_int (K := K) (rd_ix (ka := 0) (kb := 0) (ds := as.map PyData.int) F0.ok (rd_var0 rfl (dp_ex (F0.ex e) _ _ pa4)) (rv_var rfl) i (ixN_nat (by rw [List.length_map]; exact h1)) (by rw [List.getElem?_map, List.getElem?_eq_getElem h1]; rfl) (flat_ints as))
          have ib : EvR F0 (tOp (rIxT K) (tVar 4) (tVar 3)) [some (.ref d), some (.int (sz : Int)), some v2, some (.int (i : Int)), some v4, x5] H'' 0 (fun x _ => x = .int bs[i]) := rv_int (K := K) (rd_ix (ka := 0) (kb := 0) (ds := bs.map PyData.int) F0.ok (rd_var0 rfl (dp_ex (F0.ex e) _ _ pb)) (rv_var rfl) i (ixN_nat (by rw [List.length_map]; exact h2)) (by rw [List.getElem?_map, List.getElem?_eq_getElem h2]; rfl) (flat_ints bs))
          exact rd_ofI (rv_mul (n := 400) (m := 400) ia ib (asm _ (List.getElem_mem h1)) (bsm _ (List.getElem_mem h2)) (by decide))⟩)
      rw [outs_getD .none ((List.zipWith (· * ·) as bs).map PyData.int) (by rw [List.length_map, zl]), show 0 + sz * (0 + 0) = 0 from by simp] at lcp
      have sum := rv_sumL lcp
      rw [dot_sum] at sum
      show tSeq (tIfS (tTest (tOp rNe (tCB (rReprX K) (tCons (tCall (spTotX K C) [] (fun _ _ _ => False) (tCons (tVar 2) (tCons (tVar 4) tNil))) tNil)) (tCB (rReprX K) (tCons (tCB (rSum K) (tCons (tLc (iRng1 (tCons (tVar 1) tNil)) (gName 3) tYes (tOp (rI CMulW fun i j => .int (i * j)) (tOp (rIxT K) (tVar 2) (tVar 3)) (tOp (rIxT K) (tVar 4) (tVar 3))) [3]) tNil)) tNil)))) _ tNext) _ _ [some (.ref d), some (.int (sz : Int)), some v2, none, some v4, x5] H4
      refine q_whenR (F := F0) (n := 0) (k := 0) (b := !decide (PyData.shown (.int (dot as bs)) = PyData.shown (.int (dot as bs)))) (rt_val (rv_neS (rv_reprG (rd_ofI tot) (sg_int db) (by decide) (by decide)) (rv_reprG (rd_ofI sum) (sg_int db) (by decide) (by decide)))) F0.g (Nat.le_refl _) (fun z => absurd z (by simp)) fun _ H5 k5 _ => ?_
      have e5 := F0.ex k5
      have pa5 := dp_ex e5 _ _ pa4
      have pb5 := dp_ex e5 _ _ pb
      have T5 := T4.ext (fun b o h => e5 b o h)
      have R5 : RdAt H5 d l (n + 60 * (m + 1)) := RdF.ok.ex R4 e5
      have cat : ∀ {tb : TE} {zs : List Int}, EvR F0 tb [some (.ref d), some (.int (sz : Int)), some v2, none, some v4, x5] H5 0 (IsD K (intsD zs)) → zs.length ≤ 10 → EvR F0 (tOp (rCatA K) (tVar 4) tb) [some (.ref d), some (.int (sz : Int)), some v2, none, some v4, x5] H5 0 (IsD K (intsD (bs ++ zs))) := fun {tb zs} h hz => by
        have := rd_cat (ka := 0) (kb := 0) F0.ok (rd_var0 (i := 4) (σ := [some (.ref d), some (.int (sz : Int)), some v2, none, some v4, x5]) rfl pb5) h (ints_flat bs) (by rw [List.length_map, List.length_map]; omega)
        rw [← List.map_append] at this
        exact this
      have bads := rd_tup0 (K := K) (H := H5) (σ := [some (.ref d), some (.int (sz : Int)), some v2, none, some v4, x5]) (tr := tCons (tOp (rCatA K) (tVar 4) (tTup (tCons (tC (.int 0)) tNil))) (tCons (tOp (rCatA K) (tVar 4) (tTup (tCons (tC (.int 1)) (tCons (tC (.int 2)) tNil)))) tNil)) (ds := [intsD (bs ++ [0]), intsD (bs ++ [1, 2])])
        (ra_cons0 (cat (zs := [0]) (rd_tup0 (ds := [.int 0]) (ra_one (rd_ofI rv_c))) (by decide)) (ra_one (cat (zs := [1, 2]) (rd_tup0 (ds := [.int 1, .int 2]) (ra_cons0 (rd_ofI rv_c) (ra_one (rd_ofI rv_c)))) (by decide))))
      show tFor (iTup K (tTup (tCons (tOp (rCatA K) (tVar 4) (tTup (tCons (tC (.int 0)) tNil))) (tCons (tOp (rCatA K) (tVar 4) (tTup (tCons (tC (.int 1)) (tCons (tC (.int 2)) tNil)))) tNil)))) (gName 5) _ _ [some (.ref d), some (.int (sz : Int)), some v2, none, some v4, x5] H5
      refine s_forD bads fun H6 Ba xb e6 sB aB => ?_
      have T6 := T5.ext (fun b o h => e6 b o h)
      have R6 : RdAt H6 d l (n + 60 * (m + 1)) := RdF.ok.ex R5 e6
      have pa6 := dp_ex e6 _ _ pa5
      refine for_tup (xs := xb) (fun j σ'' H'' => ∃ y5, σ'' = [some (.ref d), some (.int (sz : Int)), some v2, none, some v4, y5] ∧ LamX.ExtN H6 H'' ∧ LamX.Tabs (T3 P1 P2 P3) H'') ⟨x5, rfl, .refl _, T6⟩ (fun j σ'' H'' _ ⟨_, _, eN, _⟩ => sqT_n eN sB) (fun j y σ'' H'' hyj ⟨y5, es'', eN, TN⟩ => ?_) fun σ'' H'' ⟨y5, es'', eN, TN⟩ => ⟨_, _, _, _, es'', e4.trans ((ExR.ofE e5).trans ((ExR.ofE e6).trans (ExR.ofN eN))), rd_at_n eN R6, TN⟩
      subst es''
      obtain ⟨zs, zlen, zsm, zne, dz⟩ : ∃ zs : List Int, zs.length ≤ 1000 ∧ Sm4 zs ∧ as.length ≠ zs.length ∧ Dp K H6 y (intsD zs) := by
        have hlt : j < ([intsD (bs ++ [0]), intsD (bs ++ [1, 2])] : List PyData).length := by
          have h1 := (List.getElem?_eq_some_iff.mp hyj).1
          have h2 := dps_len aB
          omega
        obtain ⟨u, hu, du⟩ := dps_get aB (List.getElem?_eq_getElem hlt)
        rw [hyj] at hu
        cases hu
        have hm := List.getElem_mem hlt
        obtain ⟨w0, ew⟩ : ∃ w0, w0 = ([intsD (bs ++ [0]), intsD (bs ++ [1, 2])] : List PyData)[j] := ⟨_, rfl⟩
        rw [← ew] at hm du
        simp only [List.mem_cons, List.not_mem_nil, or_false] at hm
        have sma : ∀ {zs : List Int}, (∀ z ∈ zs, z.natAbs < 10) → Sm4 (bs ++ zs) := fun {zs} h z hz => by
          rcases List.mem_append.mp hz with hz | hz
          · exact bsm z hz
          · exact Nat.lt_of_lt_of_le (show z.natAbs < 2 ^ 4 by have := h z hz; omega) (Nat.pow_le_pow_right (by decide) (by decide))
        rcases hm with rfl | rfl
        · exact ⟨bs ++ [0], by rw [List.length_append, List.length_singleton]; omega, sma (by decide), by rw [List.length_append, List.length_singleton]; omega, du⟩
        · exact ⟨bs ++ [1, 2], by rw [List.length_append]; simp; omega, sma (by decide), by rw [List.length_append]; simp; omega, du⟩
      have pa8 := dp_n eN _ _ pa6
      have dz8 := dp_n eN _ _ dz
      show tIfS _ _ tNext _ [some (.ref d), some (.int (sz : Int)), some v2, none, some v4, some y] H''
      refine lam_tot (i := 2) (j := 5) rfl rfl TN pa8 dz8 (by omega) zlen asm zsm zne fun H9 e9 T9 => ?_
      refine lam_tot (i := 5) (j := 2) rfl rfl T9 (dp_n e9 _ _ dz8) (dp_n e9 _ _ pa8) zlen (by omega) zsm asm (fun h => zne h.symm) fun H10 e10 T10 => ?_
      exact ⟨_, rfl, eN.trans (e9.trans e10), T10⟩
    · subst es'
      refine s_retR (F := F0) (n := 0) (k := 0) (P := fun x _ => x = .bl true) rv_end F0.g (Nat.le_refl _) fun v H2 k2 _ ev => ?_
      subst ev
      have e2 := F0.ex k2
      refine q H2 ((ExR.ofE e1).trans (e.trans (ExR.ofE e2))) ?_ (T'.ext fun b o h => e2 b o h)
      rw [xl] at R'
      exact RdF.ok.ex (n := n + 600) R' e2
end
end Q4
set_option maxHeartbeats 4000000
/-! ### k04: law -/
namespace Q4
open PySem PySem.Spec PyProof.Rows L2 L2H Evl Fx Fr Dt Tr K18 So K17 Hc DtG
def nLaw : List Str := ["_law_script", "_law_reader_here", "_law_lots", "_law_turn", "_law_saved", "_law_a", "_law_b"]
theorem scLaw : FnScope nLaw ["_law_script"] (defScope (K18.topS 40)) := ⟨rfl, rfl, rfl, by decide +kernel, rfl, by decide +kernel, by decide +kernel⟩
section
variable {P : Program} {w : World} {K : PySem.W.Frag} {mg : Str → Option Value} {base : Heap} {f f1 f2 f3 : Addr} {fd fd1 fd2 fd3 : FuncData} {te tl ta tb : TE} {σ σ2 : L2.St} {H H' H1 : Hp} {k ka kb n : Nat} {ds es : List PyData} {C d l : Addr}
theorem sg_intw {b : Nat} {i : Int} (h0 : 0 < b) (hb : b ≤ 690) (h : i.natAbs < 2 ^ b) : Sg 0 b (.int i) := by
  have hl : i.natAbs.log2 < b := by
    by_cases h0' : i.natAbs = 0
    · rw [h0']; simpa using h0
    · exact (Nat.log2_lt h0').mpr h
  refine ⟨by simp [PyData.canLay0], ?_, ?_, by simp [PyData.hasDict], by simp [PyData.depth], ?_⟩
  · have := int_text_length_le (a := i) (k := b) h0 hl
    simp only [PyData.intsShort, PyData.shown]
    exact decide_eq_true (by rw [PySem.ofString_length]; omega)
  · simp only [PyData.showable]
    exact decide_eq_true (by omega)
  · simp only [PyData.weight]
    split <;> omega
def GoodF (x : PyData) : Prop := ∃ r, x = frD r ∧ Bd 300 r
theorem goodF_flat (x : PyData) (h : GoodF x) : flat x = true := by
  obtain ⟨r, rfl, _⟩ := h
  rfl
theorem goodF_sg {x : PyData} (h : GoodF x) : Sg 1 602 x := by
  obtain ⟨r, rfl, hb⟩ := h
  exact sg_tup (m := 2) (w := 300) (ds := [.int r.num, .int (r.den : Int)]) (fun z hz => by
    simp only [List.mem_cons, List.not_mem_nil, or_false] at hz
    rcases hz with rfl | rfl
    · exact sg_intw (by decide) (by decide) hb.1
    · exact sg_intw (by decide) (by decide) hb.2) (Nat.le_refl 2)
theorem frD_of {p q : Int} (h1 : (Rat.divInt p q).num = p) (h2 : ((Rat.divInt p q).den : Int) = q) : PyData.tuple [.int p, .int q] = frD (Rat.divInt p q) := by rw [frD, h1, h2]
theorem kt_r (e : ExR d H H') (hd : ∃ kv, H d = some (.dK kv)) : KT K H H' := fun a xs h => by
  obtain ⟨kv, hd⟩ := hd
  have nd : ∀ {o : HO}, H a = some o → (∀ kv, o ≠ .dK kv) → a ≠ d := fun hb ho z => by
    rw [z, hd] at hb
    cases hb
    exact ho _ rfl
  refine h.imp (fun r => ?_) id
  rcases r with r | ⟨u, r⟩
  · exact .inl (e _ _ r (fun ps z => by cases z) (nd r fun kv z => by cases z))
  · exact .inr ⟨u, e _ _ r (fun ps z => by cases z) (nd r fun kv z => by cases z)⟩
def lots0 : List (Int × Int) := [(0, 1), (1, 1), (-1, 1), (1, 2), (-2, 3), (5, 12), (10 ^ 59, 1), (1, 10 ^ 59)]
def lotD (x : Int × Int) : PyData := .tuple [.int x.1, .int x.2]
theorem lots_good : ∀ x ∈ lots0.map lotD, GoodF x := by
  intro x hx
  obtain ⟨z, hz, rfl⟩ := List.mem_map.mp hx
  have red : ∀ z ∈ lots0, z.2 ≠ 0 ∧ z.1.natAbs < 2 ^ 250 ∧ z.2.natAbs < 2 ^ 250 ∧ (Rat.divInt z.1 z.2).num = z.1 ∧ ((Rat.divInt z.1 z.2).den : Int) = z.2 := by decide +kernel
  obtain ⟨h0, h1, h2, h3, h4⟩ := red z hz
  exact ⟨Rat.divInt z.1 z.2, frD_of h3 h4, Bd.mono (bd_div h0 h1 h2) (by decide)⟩
def spLaw4 (K : PySem.W.Frag) (T : List (Addr × Str)) : Sp := fun vs H Q _ => ∃ (a : Addr) (ns : List Int), vs = [.ref a] ∧ SqL K H a (ns.map V.int) ∧ LamX.Tabs T H ∧ ∀ H', Q (.bl true) H'
theorem ok_law4 {f4 : Addr} {fd4 : FuncData} {P1 P2 P3 : Addr} (F : Fun K "law" "law" (K18.topS 40) f fd) (cRd : C8.Cal P w K mg base 1 "_law_reader" (spReader K) []) (cRP : C8.Cal P w K mg base 3 "_law_random_part" (spRP K) [])
    (G2 : FnG P w K mg base CX0 6 f2 fd2 ["_law_a", "_law_b"] (spTwo K (T3 P1 P2 P3))) (g2 : mg "_law_check_two" = some (.ref f2)) (k2 : PySem.W.keepIn K (.ref f2) = true) (b2 : L2.Binds K fd2 ["_law_a", "_law_b"] [])
    (G3 : FnG P w K mg base CX0 6 f3 fd3 ["_law_reader_here"] (spChk K (T3 P1 P2 P3) 30)) (g3 : mg "_law_check_made" = some (.ref f3)) (k3 : PySem.W.keepIn K (.ref f3) = true) (b3 : L2.Binds K fd3 ["_law_reader_here"] [])
    (G4 : FnG P w K mg base CX0 6 f4 fd4 ["_law_reader_here"] (spChk K (T3 P1 P2 P3) 600)) (g4 : mg "_law_check_totals" = some (.ref f4)) (k4 : PySem.W.keepIn K (.ref f4) = true) (b4 : L2.Binds K fd4 ["_law_reader_here"] [])
    (m_range : mg "range" = none) (m_repr : mg "repr" = none) : FnG P w K mg base CX0 7 f fd ["_law_script"] (spLaw4 K (T3 P1 P2 P3)) := by
  refine okG F scLaw (fun vs H Q E h => ?_) (fun cdv A outer s H vs Q E hgd hr h => ?_)
  · obtain ⟨a, ns, rfl, _⟩ := h
    rfl
  · obtain ⟨a, ns, rfl, hS, hT, q⟩ := h
    refine ⟨_, pss_cons (ps_set (i := 1) scLaw.nd rfl (.inl rfl) (C8.pe_c cRd hr (by decide) (by rfl) (pa_cons (pv 0) pa_nil)))
      (pss_cons (ps_set (i := 2) scLaw.nd rfl (.inl rfl) (pe_lst (pa_cons (pe_tup (pa_cons pe_int (pa_cons pe_int pa_nil))) (pa_cons (pe_tup (pa_cons pe_int (pa_cons pe_int pa_nil))) (pa_cons (pe_tup (pa_cons (pe_un un_neg pe_int) (pa_cons pe_int pa_nil))) (pa_cons (pe_tup (pa_cons pe_int (pa_cons pe_int pa_nil))) (pa_cons (pe_tup (pa_cons (pe_un un_neg pe_int) (pa_cons pe_int pa_nil))) (pa_cons (pe_tup (pa_cons pe_int (pa_cons pe_int pa_nil))) (pa_cons (pe_tup (pa_cons (pe_op op_pow pe_int pe_int) (pa_cons pe_int pa_nil))) (pa_cons (pe_tup (pa_cons pe_int (pa_cons (pe_op op_pow pe_int pe_int) pa_nil))) pa_nil))))))))))
      (pss_cons (ps_for PassesOwn.never rfl (pi_range1 (by rfl) m_range (pa_cons pe_int pa_nil)) (pg_name (i := 3) scLaw.nd rfl (.inl rfl))
        (pss_one (ps_expr (pe_bm PySem.F.plainAttrs_list PySem.F.slot_list_append PySem.F.type_list_append mt_append (pv 2) (pa_cons (C8.pe_c cRP hr (by decide) (by rfl) (pa_cons (pv 1) pa_nil)) pa_nil)))))
      (pss_cons (ps_set (i := 4) scLaw.nd rfl (.inl rfl) (pe_callB (r := rReprX K) (cr_reprX hgd hr.units) (by rfl) m_repr (by decide +kernel) (pa_cons (pv 2) pa_nil)))
      (pss_cons (ps_for PassesOwn.never rfl (pi_list (pv 2)) (pg_name (i := 5) scLaw.nd rfl (.inl rfl))
        (pss_one (ps_for PassesOwn.never rfl (pi_list (pv 2)) (pg_name (i := 6) scLaw.nd rfl (.inl rfl))
          (pss_one (ps_if (pt_not (pt_val (pe_callG (E := C8.E0) G2 hgd hr (by rfl) g2 k2 b2 C8.pass0 (pa_cons (pv 5) (pa_cons (pv 6) pa_nil))))) (pss_one (ps_ret pe_bl)) pss_nil)))))
      (pss_one (ps_ret (pe_and (pe_callG (E := C8.E0) G3 hgd hr (by rfl) g3 k3 b3 C8.pass0 (pa_cons (pv 1) pa_nil)) (pe_and (pe_callG (E := C8.E0) G4 hgd hr (by rfl) g4 k4 b4 C8.pass0 (pa_cons (pv 1) pa_nil)) (pe_one (pe_cmpR op_eq (pe_callB (r := rReprX K) (cr_reprX hgd hr.units) (by rfl) m_repr (by decide +kernel) (pa_cons (pv 2) pa_nil)) (pv 4) (nomark _))))))))))), ?_⟩
    show tSeq (tAsg (tCall (spReader K) [] C8.E0 (tCons (tVar 0) tNil)) (gName 1)) _ _ [some (.ref a), none, none, none, none, none, none] H
    have rd0 : EvR F0 (tCall (spReader K) [] C8.E0 (tCons (tVar 0) tNil)) [some (.ref a), none, none, none, none, none, none] H 0 (fun v H' => ∃ d l, v = .ref d ∧ RdAt H' d l 0) := fun n H1 hn g e Q q => ⟨.ref a, rfl, a, ns, rfl, ex_l (F0.ex e) hS, fun H2 d l e2 R => q _ H2 (Kx.ex e2) F0.g ⟨d, l, rfl, R⟩⟩
    refine q_asgR (F := F0) (n := 0) (k := 0) (P := fun v H' => ∃ d l, v = .ref d ∧ RdAt H' d l 0) rd0 F0.g (Nat.le_refl _) fun v H1 k1 _ ⟨d, l, ev, R1⟩ => ?_
    subst ev
    have e1 := F0.ex k1
    have N0 : (RdF d l).N = 900000 := rfl
    have T1 := hT.ext (fun b o h => e1 b o h)
    have ng : ∀ {i : Int} {σ : L2.St} {H : Hp}, EvR (RdF d l) (tUn (rU fun i => .int (-i)) (tC (.int i))) σ H 0 (fun x _ => x = .int (-i)) := fun {i σ H} n H1 hn g e Q q => ⟨_, rfl, q _ H1 Kx.refl g rfl⟩
    have pw : ∀ {σ : L2.St} {H : Hp}, EvR (RdF d l) (tOp (rI CPow fun i j => .int (i ^ j.toNat)) (tC (.int 10)) (tC (.int 59))) σ H 0 (fun x _ => x = .int (10 ^ 59)) := fun {σ H} n H1 hn g e Q q => ⟨_, _, rfl, rfl, ⟨by decide, by decide, by decide⟩, q _ H1 Kx.refl g rfl⟩
    have tp : ∀ {x y : Int} {tx ty : TE} {σ : L2.St} {H : Hp}, EvR (RdF d l) tx σ H 0 (fun z _ => z = .int x) → EvR (RdF d l) ty σ H 0 (fun z _ => z = .int y) → EvR (RdF d l) (tTup (tCons tx (tCons ty tNil))) σ H 0 (IsD K (lotD (x, y))) := fun {x y tx ty σ H} h1 h2 => rd_tup RdF.ok (ra_cons (ka := 0) (kb := 0) RdF.ok (rd_ofI h1) (ra_cons (ka := 0) (kb := 0) RdF.ok (rd_ofI h2) ra_nil)) rfl (show 2 ≤ 100000 by decide)
    show tSeq (tAsg (tLst _) (gName 2)) _ _ [some (.ref a), some (.ref d), none, none, none, none, none] H1
    refine q_asgR (F := RdF d l) (n := 0) (k := 0) (P := IsL (RdF d l) K (lots0.map lotD)) (rl_lst RdF.ok (ra_cons (ka := 0) (kb := 0) RdF.ok (tp rv_c rv_c) (ra_cons (ka := 0) (kb := 0) RdF.ok (tp rv_c rv_c) (ra_cons (ka := 0) (kb := 0) RdF.ok (tp ng rv_c) (ra_cons (ka := 0) (kb := 0) RdF.ok (tp rv_c rv_c) (ra_cons (ka := 0) (kb := 0) RdF.ok (tp ng rv_c) (ra_cons (ka := 0) (kb := 0) RdF.ok (tp rv_c rv_c) (ra_cons (ka := 0) (kb := 0) RdF.ok (tp pw rv_c) (ra_cons (ka := 0) (kb := 0) RdF.ok (tp rv_c pw) ra_nil)))))))) (by decide)) R1 (by omega) fun v H2 j2 g2 ⟨L, xs0, ev, hLT, hL, dx0⟩ => ?_
    subst ev
    have T2 := tabs_k R1 j2 T1
    have hLd : L ≠ d := fun z => hLT (.inl z)
    have hLl : L ≠ l := fun z => hLT (.inr z)
    have R2 : RdAt H2 d l 0 := g2
    show tSeq (tFor (iRng1 (tCons (tC (.int 8)) tNil)) (gName 3) _) _ _ [some (.ref a), some (.ref d), some (.ref L), none, none, none, none] H2
    refine q_forRg (F := RdF d l) (n := 0) (k := 0) (P := fun x _ => x = .int ((8 : Nat) : Int)) (fun n H1 hn g e Q q => q _ H1 Kx.refl g rfl) R2 (by omega) fun v H3 j3 g3 ev => ⟨8, fun m σ' H' => ∃ x3, σ' = [some (.ref a), some (.ref d), some (.ref L), x3, none, none, none] ∧ RdAt H' d l (4 * m) ∧ LamX.Tabs (T3 P1 P2 P3) H' ∧ ∃ xs ds, H' L = some (.lst xs) ∧ DpAll K H' xs ds ∧ ds.length = 8 + m ∧ ∀ x ∈ ds, GoodF x, ev, by decide, ?_, fun m σ' H' hm ⟨x3, es', R', T', xs, ds, hL', dx', dl, dg⟩ => ?_, fun σ' H' ⟨x3, es', R', T', xs, ds, hL', dx', dl, dg⟩ => ?_⟩
    · exact ⟨none, rfl, g3, tabs_k R2 j3 T2, xs0, _, j3 _ _ hL hLd, mono_ds RdF.ok (by decide) _ _ _ _ R2 j3 dx0, by decide, lots_good⟩
    · subst es'
      have fl : flats ds = true := flats_all.mpr fun x hx => goodF_flat x (dg x hx)
      have xl := dps_len dx'
      have rp : EvR (RdF d l) (tCall (spRP K) [] C8.E0 (tCons (tVar 1) tNil)) [some (.ref a), some (.ref d), some (.ref L), some (.int (m : Int)), none, none, none] H' 4 (SomeD K GoodF) := fun n H1 hn g e Q q => ⟨.ref d, rfl, d, l, n, rfl, g, by omega, fun H2 v x kp R dv bd => q v H2 (kpR kp) R ⟨frD x, ⟨x, rfl, bd⟩, dv⟩⟩
      show tDrop (tBM K "list" rAppend (tVar 2) (tCons (tCall (spRP K) [] C8.E0 (tCons (tVar 1) tNil)) tNil)) _ [some (.ref a), some (.ref d), some (.ref L), some (.int (m : Int)), none, none, none] H'
      refine q_appR (F := RdF d l) (n := 4 * m) (k := 4) (i := 2) rfl hL' hLd rp R' (by omega) (by omega) fun v H4 j4 g4 ⟨x, gx, dv⟩ hL4 => ?_
      have kt := kt_lst (K := K) (u := .lst (xs ++ [v])) hL4
      have dx4 := mono_ds RdF.ok fl _ _ _ _ R' j4 dx'
      have R4 : RdAt H4 d l (4 * m + 4) := g4
      refine ⟨_, rfl, ?_, ?_, xs ++ [v], ds ++ [x], upd_same, dps_app (dps_kt kt _ _ fl dx4) (.cons (dp_kt kt _ _ (goodF_flat x gx) dv) .nil), by rw [List.length_append, dl]; rfl, fun z hz => ?_⟩
      · obtain ⟨ns', s', r', c', h1, h2, h3⟩ := R4
        exact ⟨ns', s', r', c', by rw [upd_ne hLd.symm]; exact h1, by rw [upd_ne hLl.symm]; exact h2, h3⟩
      · have T4 := tabs_k R' j4 T'
        intro p hp
        obtain ⟨ps, h1, h2, h3⟩ := T4 p hp
        have nL : ∀ {b : Addr} {o : HO}, H4 b = some o → (∀ ys, o ≠ .lst ys) → b ≠ L := fun hb ho z => by
          rw [z, hL4] at hb
          cases hb
          exact ho _ rfl
        refine ⟨ps, by rw [upd_ne (nL h1 fun ys z => by cases z)]; exact h1, h2, fun pos cv hc => ?_⟩
        obtain ⟨c', e1', e2'⟩ := h3 pos cv hc
        exact ⟨c', e1', by rw [upd_ne (nL e2' fun ys z => by cases z)]; exact e2'⟩
      · rcases List.mem_append.mp hz with hz | hz
        · exact dg z hz
        · obtain rfl := List.mem_singleton.mp hz
          exact gx
    · subst es'
      have fl : flats ds = true := flats_all.mpr fun x hx => goodF_flat x (dg x hx)
      have sg : Sg 2 9648 (.list ds) := sg_lst (m := 16) (w := 602) (fun z hz => goodF_sg (dg z hz)) (by rw [dl]; decide)
      have dpL : ∀ {H'' : Hp} {xs : List V}, H'' L = some (.lst xs) → DpAll K H'' xs ds → EvR F0 (tVar 2) [some (.ref a), some (.ref d), some (.ref L), x3, none, none, none] H'' 0 (IsD K (.list ds)) := fun hL'' dx'' n H1 hn g e Q q => ⟨.ref L, rfl, q _ H1 Kx.refl g (.lst (sq_of (F0.ex e _ _ hL'')) (dps_ex (F0.ex e) _ _ dx''))⟩
      show tSeq (tAsg (tCB (rReprX K) (tCons (tVar 2) tNil)) (gName 4)) _ _ [some (.ref a), some (.ref d), some (.ref L), x3, none, none, none] H'
      refine q_asgR (F := F0) (n := 0) (k := 0) (P := fun x _ => x = .str (PyData.shown (.list ds))) (rv_reprG (dpL hL' dx') sg (by decide) (by decide)) F0.g (Nat.le_refl _) fun v H4 j4 _ ev => ?_
      subst ev
      have e4 := F0.ex j4
      have R4 : RdAt H4 d l (4 * 8) := RdF.ok.ex R' e4
      have T4 := T'.ext (fun b o h => e4 b o h)
      have hL4 := e4 _ _ hL'
      have dx4 := dps_ex e4 _ _ dx'
      show tSeq (tFor (iList K (tVar 2)) (gName 5) _) _ _ [some (.ref a), some (.ref d), some (.ref L), x3, some (.str (PyData.shown (.list ds))), none, none] H4
      refine ⟨.ref L, rfl, L, rfl, ⟨_, sq_of hL4⟩, for_list (xs := xs) (fun m σ' H' => ∃ x5 x6, σ' = [some (.ref a), some (.ref d), some (.ref L), x3, some (.str (PyData.shown (.list ds))), x5, x6] ∧ LamX.ExtN H4 H' ∧ LamX.Tabs (T3 P1 P2 P3) H') ⟨none, none, rfl, .refl _, T4⟩ (fun m σ' H' _ ⟨_, _, _, e, _⟩ => sq_of (e _ _ hL4 fun ps z => by cases z)) (fun m x σ' H' hxm ⟨x5, x6, es', eN, TN⟩ => ?_) fun σ' H' ⟨x5, x6, es', eN, TN⟩ => ?_⟩
      · subst es'
        have item : ∀ {m : Nat} {x : V}, xs[m]? = some x → ∃ r, Bd 300 r ∧ Dp K H4 x (frD r) := fun {m x} hxm => by
          have hlt : m < ds.length := by
            have h1 := (List.getElem?_eq_some_iff.mp hxm).1
            have h2 := dps_len dx4
            omega
          obtain ⟨u, hu, du⟩ := dps_get dx4 (List.getElem?_eq_getElem hlt)
          rw [hxm] at hu
          cases hu
          obtain ⟨r, er, hb⟩ := dg _ (List.getElem_mem hlt)
          rw [er] at du
          exact ⟨r, hb, du⟩
        obtain ⟨ra, ba, da⟩ := item hxm
        show tFor (iList K (tVar 2)) (gName 6) _ _ [some (.ref a), some (.ref d), some (.ref L), x3, some (.str (PyData.shown (.list ds))), some x, x6] H'
        refine ⟨.ref L, rfl, L, rfl, ⟨_, sq_of (eN _ _ hL4 fun ps z => by cases z)⟩, for_list (xs := xs) (fun j σ'' H'' => ∃ x6, σ'' = [some (.ref a), some (.ref d), some (.ref L), x3, some (.str (PyData.shown (.list ds))), some x, x6] ∧ LamX.ExtN H4 H'' ∧ LamX.Tabs (T3 P1 P2 P3) H'') ⟨x6, rfl, eN, TN⟩ (fun j σ'' H'' _ ⟨_, _, e, _⟩ => sq_of (e _ _ hL4 fun ps z => by cases z)) (fun j y σ'' H'' hyj ⟨y6, es'', e2, TT2⟩ => ?_) fun σ'' H'' ⟨y6, es'', e2, TT2⟩ => ⟨_, _, es'', e2, TT2⟩⟩
        subst es''
        obtain ⟨rb, bb, db⟩ := item hyj
        refine ⟨x, rfl, y, rfl, x, y, ra, rb, rfl, dp_n e2 _ _ da, dp_n e2 _ _ db, ba, bb, TT2, fun H9 e9 T9 => ⟨true, rfl, ?_⟩⟩
        exact ⟨_, rfl, e2.trans e9, T9⟩
      · subst es'
        show tAndV (tCall (spChk K (T3 P1 P2 P3) 30) [] C8.E0 (tCons (tVar 1) tNil)) (tAndV (tCall (spChk K (T3 P1 P2 P3) 600) [] C8.E0 (tCons (tVar 1) tNil)) (tOp rEq (tCB (rReprX K) (tCons (tVar 2) tNil)) (tVar 4))) [some (.ref a), some (.ref d), some (.ref L), x3, some (.str (PyData.shown (.list ds))), x5, x6] H' _
        refine ⟨.ref d, rfl, d, l, 4 * 8, rfl, rd_at_n eN R4, by decide, TN, fun H5 x5' R5 T5 => ⟨true, rfl, ?_⟩⟩
        refine ⟨.ref d, rfl, d, l, 4 * 8 + 30, rfl, R5, by decide, T5, fun H6 x6' R6 T6 => ⟨true, rfl, ?_⟩⟩
        have xR := (ExR.ofN (d := d) eN).trans (x5'.trans x6')
        have hd4 : ∃ kv, H4 d = some (.dK kv) := by
          obtain ⟨_, _, _, _, h1, _⟩ := R4
          exact ⟨_, h1⟩
        have fl' : flats ds = true := fl
        have hL6 := xR _ _ hL4 (fun ps z => by cases z) hLd
        have dx6 := dps_kt (kt_r (K := K) xR hd4) _ _ fl' dx4
        have rr := rv_eqS (rv_reprG (K := K) (te := tVar 2) (σ := [some (.ref a), some (.ref d), some (.ref L), x3, some (.str (PyData.shown (.list ds))), x5, x6]) (H := H6) (fun n H1 hn g e Q q => ⟨.ref L, rfl, q _ H1 Kx.refl g (.lst (sq_of (F0.ex e _ _ hL6)) (dps_ex (F0.ex e) _ _ dx6))⟩) sg (by decide) (by decide)) (rv_var (i := 4) rfl)
        refine rr 0 H6 (Nat.le_refl _) F0.g Kx.refl _ fun v H7 k7 _ ev => ?_
        subst ev
        rw [decide_eq_true rfl]
        exact q _
end
end Q4
/-! ### a law's call, the caller without guards, the script and some empty tables of code objects tracked -/
namespace DtT
open PySem PySem.Spec PyProof.Rows L2 DtG
section
variable {P : Program} {w : World} {K : PySem.W.Frag} {mg mb : Str → Option Value} {s : Shared} {a : Addr} {vs : List Value} {H : Hp}
/-- what is tracked is no namespace and nothing of the fragment -/
def Apart (K : PySem.W.Frag) (s : Shared) (H : Hp) : Prop := ∀ b u, H b = some u → K.lookup b = none ∧ ∃ o, s.heap.get? b = some o ∧ ((∃ xs n, o.data = .seq xs n) ∨ o.data = .fields #[])
theorem apart_free (A : Apart K s H) {b : Addr} {o : Obj} (e : s.heap.get? b = some o) (h1 : ∀ xs n, o.data ≠ .seq xs n) (h2 : o.data ≠ .fields #[]) : H b = none := by
  cases q : H b with
  | none => rfl
  | some u =>
    obtain ⟨_, o', e', hd⟩ := A b u q
    rw [e] at e'
    cases e'
    rcases hd with ⟨xs, n, hd⟩ | hd
    · exact absurd hd (h1 xs n)
    · exact absurd hd h2
theorem apart_ns (A : Apart K s H) {b : Addr} {m : Str → Option Value} (h : s.heap.Ns b m) : (hidT s.heap H).Ns b m := by
  obtain ⟨o, es, ep, e, d, r⟩ := h
  exact ⟨o, es, ep, hidT_get e (apart_free A e (fun xs n z => by rw [d] at z; cases z) fun z => by rw [d] at z; cases z), d, r⟩
theorem apart_in (A : Apart K s H) (KX : K.In s.heap) : K.In (hidT s.heap H) := fun b o e => hidT_get (KX b o e) (by
  cases q : H b with
  | none => rfl
  | some u =>
    have := (A b u q).1
    rw [e] at this
    cases this)
theorem env_apart (A : Apart K s H) (KX : K.In s.heap) (hns : s.heap.Ns mainGlobals mg) (hb : s.heap.Ns builtinsNs mb) (hbb : ∀ x : Str, x ≠ "__name__" → mb x = bootBuiltins x) (hlim : s.heap.NoLimit) (hg : s.gens = #[]) (hok : HOk P w H s.heap) : Env0 P w K mg (hidT s.heap H) callerA [] s H := by
  refine ⟨rfl, ⟨apart_in A KX, apart_ns A hns, ⟨mb, apart_ns A hb, hbb⟩, ?_⟩, fun b o e => of_hidT e, Nat.le_of_eq (hidT_size _ _), trivial, fun b hb => (by cases hb), hok, .of_eq hg⟩
  obtain ⟨mc, h1, h2⟩ := hlim
  exact ⟨mc, apart_ns A h1, h2⟩
theorem tab_apart {c T : Addr} (A : Apart K s H) (hns : s.heap.Ns mainGlobals mg) (C : PySem.W.CodeHd s.heap c T) (hT : s.heap.get? T = some { cls := .none, data := .fields #[] })
    (hbm : ∃ (bm : Addr) (ob : Obj), mg "__builtins__" = some (.ref bm) ∧ bm ≠ builtinsNs ∧ s.heap.get? bm = some ob ∧ ob.cls = .type "module" ∧ ob.dict = some builtinsNs ∧ ob.data = .plain) : LamX.TabB (hidT s.heap H) mg c T := by
  have gT : mainGlobals ≠ T := fun z => by
    obtain ⟨o, es, ep, e, d, _⟩ := hns
    rw [z, hT] at e
    cases e
    cases d
  obtain ⟨bm, ob, b1, b2, b3, b4, b5, b6⟩ := hbm
  have bG : bm ≠ mainGlobals := fun z => by
    obtain ⟨o, es, ep, e, d, _⟩ := hns
    rw [← z, b3] at e
    cases e
    rw [b6] at d
    cases d
  have bT : bm ≠ T := fun z => by
    rw [z, hT] at b3
    cases b3
    cases b6
  obtain ⟨o, us, file, tf, flags, tg, inF, text, tt, e1, r1, r2, r3, rest⟩ := C
  have fc : H c = none := apart_free A e1 (fun xs n z => by rw [r2] at z; cases z) fun z => by
    rw [r2] at z
    cases z
    simp at r3
  exact ⟨⟨o, us, file, tf, flags, tg, inF, text, tt, hidT_get e1 fc, r1, r2, r3, rest⟩, ⟨bm, ob, b1, b2, bG, bT, hidT_get b3 (apart_free A b3 (fun xs n z => by rw [b6] at z; cases z) fun z => by rw [b6] at z; cases z), b4, b5, b6⟩, gT⟩
/-- the table at T, and the script at a as t says -/
def trk (T a : Addr) (t : Option HO) : Hp := fun b => if b = T then some (.tbl #[]) else if b = a then t else none
theorem trk_T {T : Addr} {t : Option HO} : trk T a t T = some (.tbl #[]) := if_pos rfl
theorem trk_a {T : Addr} {t : Option HO} (h : a ≠ T) : trk T a t a = t := (if_neg h).trans (if_pos rfl)
theorem trk_some {T b : Addr} {t : Option HO} {u : HO} (h : trk T a t b = some u) : (b = T ∧ u = .tbl #[]) ∨ (b ≠ T ∧ b = a ∧ t = some u) := by
  unfold trk at h
  split at h
  · rename_i hb
    cases h
    exact .inl ⟨hb, rfl⟩
  · rename_i hb
    split at h
    · rename_i hb2
      exact .inr ⟨hb, hb2, h⟩
    · cases h
theorem end_tab {T c : Addr} {t : Option HO} {r : Result} {s' : Shared} (h : CR CX0 [] P w (trk T a t) s (fun v _ => v = .bl true) (fun _ _ _ => False) r s') (hok : HOk P w (trk T a t) s.heap) (ht : ∀ u, t = some u → ∃ o xs, u = .frz o (.lst xs)) (C : PySem.W.CodeHd s.heap c T) (hT : s.heap.get? T = some { cls := .none, data := .fields #[] }) :
    r = .ok (.ret (.bool true)) ∧ OldK s.heap s'.heap ∧ s'.os = s.os ∧ AllBare s'.gens := by
  cases r with
  | error e => exact False.elim h
  | ok fl =>
    cases fl with
    | next => exact False.elim h
    | brk => exact False.elim h
    | cont => exact False.elim h
    | ret u =>
      obtain ⟨v, H', os, bare, un, hok', r', q⟩ := h
      obtain rfl : v = .bl true := q
      obtain rfl : u = Value.bool true := r'
      have stays : ∀ b o, b ≠ T → s.heap.get? b = some o → s'.heap.get? b = some o := fun b o hb e => by
        cases z : trk T a t b with
        | none => exact un.keep b o e z (fun y => by cases (show b ∈ ([] : List Addr) from y)) (by simp)
        | some u =>
          rcases trk_some z with ⟨y, _⟩ | ⟨_, _, y⟩
          · exact absurd y hb
          · obtain ⟨ob, xs, rfl⟩ := ht u y
            have e1 := (hok b _ z).1
            rw [e] at e1
            cases e1
            exact (hok' b _ (un.frzs b _ _ z)).1
      obtain ⟨more, z⟩ := un.tbls T #[] trk_T
      have grown : s'.heap.get? T = some { cls := .none, data := .fields (#[] ++ more) } := hok' T _ z
      refine ⟨rfl, ⟨fun b o e => ?_, fun b o e => ?_⟩, os, bare⟩
      · by_cases hb : b = T
        · subst hb
          rw [hT] at e
          cases e
          exact .inr (.inl ⟨(C.tab hT).isCodeTable, rfl, #[], more, rfl, grown⟩)
        · exact .inl (stays b o hb e)
      · by_cases hb : b = T
        · rw [hb]
          exact ⟨_, grown⟩
        · exact ⟨o, stays b o hb e⟩
theorem law_callGT {k : Nat} {fa c T : Addr} {fd : FuncData} {x : Str} {sp : Sp} {ns : List Int} (KX : K.In s.heap) (hns : s.heap.Ns mainGlobals mg) (hb : s.heap.Ns builtinsNs mb) (hbb : ∀ x : Str, x ≠ "__name__" → mb x = bootBuiltins x) (hlim : s.heap.NoLimit) (hg : s.gens = #[])
    (hT : s.heap.get? T = some { cls := .none, data := .fields #[] }) (nT : K.lookup T = none) (C : PySem.W.CodeHd s.heap c T)
    (hbm : ∃ (bm : Addr) (ob : Obj), mg "__builtins__" = some (.ref bm) ∧ bm ≠ builtinsNs ∧ s.heap.get? bm = some ob ∧ ob.cls = .type "module" ∧ ob.dict = some builtinsNs ∧ ob.data = .plain)
    (ha : s.heap.get? a = some { cls := .type "list", data := .seq vs.toArray }) (hi : IntsAre vs ns) (hl : ns.length ≤ sizeLine) (hr : Room k callerA)
    (F : ∀ base : Heap, K.In base → base.Ns mainGlobals mg → LamX.TabB base mg c T → FnG P w K mg base CX0 k fa fd [x] sp) (hbind : ∀ (s : Shared) (u : Value), BindsTo s fd ⟨[u], []⟩ [(x, u)])
    (hsp : ∀ H : Hp, H T = some (.tbl #[]) → SqL K H a (ns.map V.int) → sp [.ref a] H (fun v _ => v = .bl true) fun _ _ _ => False) :
    codeAny (model P w) callerA (.call (.ref fa) ⟨[.ref a], []⟩) (fun r s' => r = .ok (.ret (.bool true)) ∧ OldK s.heap s'.heap ∧ s'.os = s.os ∧ AllBare s'.gens) s := by
  have rv := vals_ints hi
  have lenV := hi.length
  have aT : a ≠ T := fun z => by
    rw [← z, ha] at hT
    have := congrArg Obj.data (Option.some.inj hT)
    cases this
  have go : ∀ t : Option HO, (t = none ∨ (t = some (.frz { cls := .type "list", data := .seq vs.toArray } (.lst (ns.map V.int))) ∧ K.lookup a = none)) → SqL K (trk T a t) a (ns.map V.int) → codeAny (model P w) callerA (.call (.ref fa) ⟨[.ref a], []⟩) (fun r s' => r = .ok (.ret (.bool true)) ∧ OldK s.heap s'.heap ∧ s'.os = s.os ∧ AllBare s'.gens) s := fun t ht hS => by
    have hok : HOk P w (trk T a t) s.heap := fun b u z => by
      rcases trk_some z with ⟨rfl, rfl⟩ | ⟨_, rfl, y⟩
      · exact hT
      · rcases ht with y' | ⟨y', _⟩
        · rw [y] at y'
          cases y'
        · rw [y] at y'
          cases y'
          exact ⟨ha, by rw [List.length_map]; exact hl, vs, _, rv, ha⟩
    have A : Apart K s (trk T a t) := fun b u z => by
      rcases trk_some z with ⟨rfl, _⟩ | ⟨_, rfl, y⟩
      · exact ⟨nT, _, hT, .inr rfl⟩
      · rcases ht with y' | ⟨_, y'⟩
        · rw [y] at y'
          cases y'
        · exact ⟨y', _, ha, .inl ⟨_, _, rfl⟩⟩
    refine codeAny_mono ((F _ (apart_in A KX) (apart_ns A hns) (tab_apart A hns C hT hbm)).run callerA [] s (trk T a t) ⟨[.ref a], []⟩ [.ref a] [.ref a] _ _ rfl hr (env_apart A KX hns hb hbb hlim hg hok) (hbind s (.ref a)) (.cons rfl .nil) (hsp _ trk_T hS)) fun r s' h => end_tab h hok (fun u y => ?_) C hT
    rcases ht with y' | ⟨y', _⟩
    · rw [y] at y'
      cases y'
    · rw [y] at y'
      cases y'
      exact ⟨_, _, rfl⟩
  cases hk : K.lookup a with
  | some o =>
    have e := KX a o hk
    rw [ha] at e
    cases e
    exact go none (.inl rfl) (.inr ⟨_, vs.toArray, _, hk, rfl, rfl, rfl, by rw [List.size_toArray, lenV]; exact hl, by simpa using rv⟩)
  | none => exact go (some _) (.inr ⟨rfl, hk⟩) (.inl (.inr ⟨_, trk_a aT⟩))
end
open He in
/-- a law's end over the facts of a head: the law's def by FnG, one table of code objects -/
theorem walk_ofGT {l : PySem.W.OpenLaw} {n k : Nat} {q : Program} {loose : List Str} {XP : (Str → Option Value) → Heap → Prop} {YP : World → Heap → Prop} {d : DefRec} {x : Str}
    (hn : l.most = some n) (hn2 : n ≤ sizeLine) (hdf : d.params.defaults = []) (hr : Room k callerA)
    (F : ∀ (w : World) (mg : Str → Option Value) (fa : Addr) (h : Heap), YP w h → h.Ns mainGlobals mg → mg d.name = some (.ref fa) →
      ∃ (K : PySem.W.Frag) (fd : FuncData) (sp : Sp) (c T : Addr), K.In h ∧ h.get? T = some { cls := .none, data := .fields #[] } ∧ K.lookup T = none ∧ PySem.W.CodeHd h c T ∧ (∀ (s : Shared) (u : Value), BindsTo s fd ⟨[u], []⟩ [(x, u)]) ∧
        (∀ (H : Hp) (a : Addr) (ns : List Int), ns.length ≤ n → (∀ z ∈ ns, Builtin.Int.intBits z ≤ 1048576) → H T = some (.tbl #[]) → SqL K H a (ns.map V.int) → sp [.ref a] H (fun v _ => v = .bl true) fun _ _ _ => False) ∧
        ∀ base : Heap, K.In base → base.Ns mainGlobals mg → LamX.TabB base mg c T → FnG l.prog w K mg base CX0 k fa fd [x] sp) :
    PySem.W.WalkO q loose XP YP l.row.toRowW d [] (fun f vs => PySem.call f vs) := by
  refine Att.attach_callB hn hdf fun w s₀ s₁ mg mb fa o pm cd doc a vs ns G Y ho hd hcd hmg hobj hints hlen hbits hg => ?_
  obtain ⟨K, fd, sp, c, T, KX, hT, nT, C, hb, hsp, hF⟩ := F w mg fa _ Y G.T.g hmg
  exact law_callGT KX G.T.g G.T.b G.T.builtins G.T.nolimit hg hT nT C G.T.bmain hobj hints (Nat.le_trans hlen hn2) hr hF hb fun H hH hS => hsp H a ns hlen hbits hH hS
end DtT
/-! ### a law's call, the caller without guards, several tables of code objects -/
namespace DtM
open PySem PySem.Spec PyProof.Rows L2 DtG DtT
section
variable {P : Program} {w : World} {K : PySem.W.Frag} {mg mb : Str → Option Value} {s : Shared} {a : Addr} {vs : List Value} {H : Hp} {cs : List (Addr × Addr)}
def Tb (cs : List (Addr × Addr)) (b : Addr) : Prop := b ∈ cs.map (·.2)
instance (b : Addr) : Decidable (Tb cs b) := inferInstanceAs (Decidable (b ∈ cs.map (·.2)))
def trk (cs : List (Addr × Addr)) (a : Addr) (t : Option HO) : Hp := fun b => if Tb cs b then some (.tbl #[]) else if b = a then t else none
theorem trk_T {b : Addr} {t : Option HO} (h : Tb cs b) : trk cs a t b = some (.tbl #[]) := if_pos h
theorem trk_a {t : Option HO} (h : ¬ Tb cs a) : trk cs a t a = t := (if_neg h).trans (if_pos rfl)
theorem trk_some {b : Addr} {t : Option HO} {u : HO} (h : trk cs a t b = some u) : (Tb cs b ∧ u = .tbl #[]) ∨ (¬ Tb cs b ∧ b = a ∧ t = some u) := by
  unfold trk at h
  split at h
  · rename_i hb
    cases h
    exact .inl ⟨hb, rfl⟩
  · rename_i hb
    split at h
    · rename_i hb2
      exact .inr ⟨hb, hb2, h⟩
    · cases h
theorem tb_ex {b : Addr} (h : Tb cs b) : ∃ p ∈ cs, p.2 = b := List.mem_map.mp h
theorem end_tab {t : Option HO} {r : Result} {s' : Shared} (h : CR CX0 [] P w (trk cs a t) s (fun v _ => v = .bl true) (fun _ _ _ => False) r s') (hok : HOk P w (trk cs a t) s.heap) (ht : ∀ u, t = some u → ∃ o xs, u = .frz o (.lst xs)) (C : ∀ p ∈ cs, PySem.W.CodeHd s.heap p.1 p.2) (hT : ∀ p ∈ cs, s.heap.get? p.2 = some { cls := .none, data := .fields #[] }) :
    r = .ok (.ret (.bool true)) ∧ OldK s.heap s'.heap ∧ s'.os = s.os ∧ AllBare s'.gens := by
  cases r with
  | error e => exact False.elim h
  | ok fl =>
    cases fl with
    | next => exact False.elim h
    | brk => exact False.elim h
    | cont => exact False.elim h
    | ret u =>
      obtain ⟨v, H', os, bare, un, hok', r', q⟩ := h
      obtain rfl : v = .bl true := q
      obtain rfl : u = Value.bool true := r'
      have stays : ∀ b o, ¬ Tb cs b → s.heap.get? b = some o → s'.heap.get? b = some o := fun b o hb e => by
        cases z : trk cs a t b with
        | none => exact un.keep b o e z (fun y => by cases (show b ∈ ([] : List Addr) from y)) (by simp)
        | some u =>
          rcases trk_some z with ⟨y, _⟩ | ⟨_, _, y⟩
          · exact absurd y hb
          · obtain ⟨ob, xs, rfl⟩ := ht u y
            have e1 := (hok b _ z).1
            rw [e] at e1
            cases e1
            exact (hok' b _ (un.frzs b _ _ z)).1
      have grown : ∀ b, Tb cs b → ∃ more : Array Value, s'.heap.get? b = some { cls := .none, data := .fields (#[] ++ more) } := fun b hb => by
        obtain ⟨more, z⟩ := un.tbls b #[] (trk_T hb)
        exact ⟨more, hok' b _ z⟩
      refine ⟨rfl, ⟨fun b o e => ?_, fun b o e => ?_⟩, os, bare⟩
      · by_cases hb : Tb cs b
        · obtain ⟨p, hp, rfl⟩ := tb_ex hb
          have hTp := hT p hp
          rw [hTp] at e
          cases e
          obtain ⟨more, g⟩ := grown _ hb
          exact .inr (.inl ⟨((C p hp).tab hTp).isCodeTable, rfl, #[], more, rfl, g⟩)
        · exact .inl (stays b o hb e)
      · by_cases hb : Tb cs b
        · obtain ⟨more, g⟩ := grown _ hb
          exact ⟨_, g⟩
        · exact ⟨o, stays b o hb e⟩
theorem law_callGM {k : Nat} {fa : Addr} {fd : FuncData} {x : Str} {sp : Sp} {ns : List Int} (KX : K.In s.heap) (hns : s.heap.Ns mainGlobals mg) (hb : s.heap.Ns builtinsNs mb) (hbb : ∀ x : Str, x ≠ "__name__" → mb x = bootBuiltins x) (hlim : s.heap.NoLimit) (hg : s.gens = #[])
    (hT : ∀ p ∈ cs, s.heap.get? p.2 = some { cls := .none, data := .fields #[] }) (nT : ∀ p ∈ cs, K.lookup p.2 = none) (C : ∀ p ∈ cs, PySem.W.CodeHd s.heap p.1 p.2)
    (hbm : ∃ (bm : Addr) (ob : Obj), mg "__builtins__" = some (.ref bm) ∧ bm ≠ builtinsNs ∧ s.heap.get? bm = some ob ∧ ob.cls = .type "module" ∧ ob.dict = some builtinsNs ∧ ob.data = .plain)
    (ha : s.heap.get? a = some { cls := .type "list", data := .seq vs.toArray }) (hi : IntsAre vs ns) (hl : ns.length ≤ sizeLine) (hr : Room k callerA)
    (F : ∀ base : Heap, K.In base → base.Ns mainGlobals mg → (∀ p ∈ cs, LamX.TabB base mg p.1 p.2) → FnG P w K mg base CX0 k fa fd [x] sp) (hbind : ∀ (s : Shared) (u : Value), BindsTo s fd ⟨[u], []⟩ [(x, u)])
    (hsp : ∀ H : Hp, (∀ p ∈ cs, H p.2 = some (.tbl #[])) → SqL K H a (ns.map V.int) → sp [.ref a] H (fun v _ => v = .bl true) fun _ _ _ => False) :
    codeAny (model P w) callerA (.call (.ref fa) ⟨[.ref a], []⟩) (fun r s' => r = .ok (.ret (.bool true)) ∧ OldK s.heap s'.heap ∧ s'.os = s.os ∧ AllBare s'.gens) s := by
  have rv := vals_ints hi
  have lenV := hi.length
  have memT : ∀ p ∈ cs, Tb cs p.2 := fun p hp => List.mem_map.mpr ⟨p, hp, rfl⟩
  have aT : ¬ Tb cs a := fun z => by
    obtain ⟨p, hp, e⟩ := tb_ex z
    have hTp := hT p hp
    rw [e, ha] at hTp
    have := congrArg Obj.data (Option.some.inj hTp)
    cases this
  have go : ∀ t : Option HO, (t = none ∨ (t = some (.frz { cls := .type "list", data := .seq vs.toArray } (.lst (ns.map V.int))) ∧ K.lookup a = none)) → SqL K (trk cs a t) a (ns.map V.int) → codeAny (model P w) callerA (.call (.ref fa) ⟨[.ref a], []⟩) (fun r s' => r = .ok (.ret (.bool true)) ∧ OldK s.heap s'.heap ∧ s'.os = s.os ∧ AllBare s'.gens) s := fun t ht hS => by
    have hok : HOk P w (trk cs a t) s.heap := fun b u z => by
      rcases trk_some z with ⟨hb, rfl⟩ | ⟨_, rfl, y⟩
      · obtain ⟨p, hp, rfl⟩ := tb_ex hb
        exact hT p hp
      · rcases ht with y' | ⟨y', _⟩
        · rw [y] at y'
          cases y'
        · rw [y] at y'
          cases y'
          exact ⟨ha, by rw [List.length_map]; exact hl, vs, _, rv, ha⟩
    have A : Apart K s (trk cs a t) := fun b u z => by
      rcases trk_some z with ⟨hb, _⟩ | ⟨_, rfl, y⟩
      · obtain ⟨p, hp, rfl⟩ := tb_ex hb
        exact ⟨nT p hp, _, hT p hp, .inr rfl⟩
      · rcases ht with y' | ⟨_, y'⟩
        · rw [y] at y'
          cases y'
        · exact ⟨y', _, ha, .inl ⟨_, _, rfl⟩⟩
    refine codeAny_mono ((F _ (apart_in A KX) (apart_ns A hns) (fun p hp => tab_apart A hns (C p hp) (hT p hp) hbm)).run callerA [] s (trk cs a t) ⟨[.ref a], []⟩ [.ref a] [.ref a] _ _ rfl hr (env_apart A KX hns hb hbb hlim hg hok) (hbind s (.ref a)) (.cons rfl .nil) (hsp _ (fun p hp => trk_T (memT p hp)) hS)) fun r s' h => end_tab h hok (fun u y => ?_) C hT
    rcases ht with y' | ⟨y', _⟩
    · rw [y] at y'
      cases y'
    · rw [y] at y'
      cases y'
      exact ⟨_, _, rfl⟩
  cases hk : K.lookup a with
  | some o =>
    have e := KX a o hk
    rw [ha] at e
    cases e
    exact go none (.inl rfl) (.inr ⟨_, vs.toArray, _, hk, rfl, rfl, rfl, by rw [List.size_toArray, lenV]; exact hl, by simpa using rv⟩)
  | none => exact go (some _) (.inr ⟨rfl, hk⟩) (.inl (.inr ⟨_, trk_a aT⟩))
end
open He in
/-- a law's end over the facts of a head: the law's def by FnG, several tables of code objects -/
theorem walk_ofGM {l : PySem.W.OpenLaw} {n k : Nat} {q : Program} {loose : List Str} {XP : (Str → Option Value) → Heap → Prop} {YP : World → Heap → Prop} {d : DefRec} {x : Str}
    (hn : l.most = some n) (hn2 : n ≤ sizeLine) (hdf : d.params.defaults = []) (hr : Room k callerA)
    (F : ∀ (w : World) (mg : Str → Option Value) (fa : Addr) (h : Heap), YP w h → h.Ns mainGlobals mg → mg d.name = some (.ref fa) →
      ∃ (K : PySem.W.Frag) (fd : FuncData) (sp : Sp) (cs : List (Addr × Addr)), K.In h ∧ (∀ p ∈ cs, h.get? p.2 = some { cls := .none, data := .fields #[] }) ∧ (∀ p ∈ cs, K.lookup p.2 = none) ∧ (∀ p ∈ cs, PySem.W.CodeHd h p.1 p.2) ∧ (∀ (s : Shared) (u : Value), BindsTo s fd ⟨[u], []⟩ [(x, u)]) ∧
        (∀ (H : Hp) (a : Addr) (ns : List Int), ns.length ≤ n → (∀ z ∈ ns, Builtin.Int.intBits z ≤ 1048576) → (∀ p ∈ cs, H p.2 = some (.tbl #[])) → SqL K H a (ns.map V.int) → sp [.ref a] H (fun v _ => v = .bl true) fun _ _ _ => False) ∧
        ∀ base : Heap, K.In base → base.Ns mainGlobals mg → (∀ p ∈ cs, LamX.TabB base mg p.1 p.2) → FnG l.prog w K mg base CX0 k fa fd [x] sp) :
    PySem.W.WalkO q loose XP YP l.row.toRowW d [] (fun f vs => PySem.call f vs) := by
  refine Att.attach_callB hn hdf fun w s₀ s₁ mg mb fa o pm cd doc a vs ns G Y ho hd hcd hmg hobj hints hlen hbits hg => ?_
  obtain ⟨K, fd, sp, cs, KX, hT, nT, C, hb, hsp, hF⟩ := F w mg fa _ Y G.T.g hmg
  exact law_callGM KX G.T.g G.T.b G.T.builtins G.T.nolimit hg hT nT C G.T.bmain hobj hints (Nat.le_trans hlen hn2) hr hF hb fun H hH hS => hsp H a ns hlen hbits hH hS
end DtM
/-! ### the head's facts, over the library's hook with one Bool more: written data, built-ins under a name, an own exception class -/
namespace Hx
open PySem PySem.Spec PyProof.Rows L2 He
mutual
def datB (K : PySem.W.Frag) : PyData → Value → Bool
  | .int i, u => (match u with
    | .int j _ => decide (j = i)
    | _ => false)
  | .str x, u => (match u with
    | .str y _ => decide (y = x)
    | _ => false)
  | .tuple ds, u => (match u with
    | .ref a => (match K.lookup a with
      | some o => decide (o.cls = .type "tuple") && (match o.data with
        | .seq its _ => decide (its.size ≤ sizeLine) && datsB K ds its.toList
        | _ => false)
      | none => false)
    | _ => false)
  | _, _ => false
def datsB (K : PySem.W.Frag) : List PyData → List Value → Bool
  | [], us => us.isEmpty
  | d :: ds, us => (match us with
    | [] => false
    | u :: us => datB K d u && datsB K ds us)
end
mutual
theorem datB_ok {K : PySem.W.Frag} : ∀ (d : PyData) (u : Value), datB K d u = true → ∃ v, RelV v u ∧ ∀ H, Dp K H v d
  | .int i, u, h => by
    cases u with
    | int j t =>
      obtain rfl : j = i := of_decide_eq_true h
      exact ⟨.int j, ⟨t, rfl⟩, fun _ => .int j⟩
    | _ => cases h
  | .str x, u, h => by
    cases u with
    | str y t =>
      obtain rfl : y = x := of_decide_eq_true h
      exact ⟨.str y, ⟨t, rfl⟩, fun _ => .str y⟩
    | _ => cases h
  | .tuple ds, u, h => by
    cases u with
    | ref a =>
      have h1 : (match K.lookup a with
        | some o => decide (o.cls = .type "tuple") && (match o.data with
          | .seq its _ => decide (its.size ≤ sizeLine) && datsB K ds its.toList
          | _ => false)
        | none => false) = true := h
      cases q : K.lookup a with
      | none =>
        rw [q] at h1
        cases h1
      | some o =>
        rw [q] at h1
        obtain ⟨c1, h2⟩ := ba h1
        split at h2
        · rename_i its n hd
          obtain ⟨c2, c3⟩ := ba h2
          obtain ⟨vs, rv, hv⟩ := datsB_ok ds its.toList c3
          exact ⟨.ref a, rfl, fun H => .tup (.inr ⟨o, its, n, q, of_decide_eq_true c1, hd, of_decide_eq_true c2, rv⟩) (hv H)⟩
        · cases h2
    | _ => cases h
  | .none, _, h => by cases h
  | .bool _, _, h => by cases h
  | .list _, _, h => by cases h
  | .dict _, _, h => by cases h
theorem datsB_ok {K : PySem.W.Frag} : ∀ (ds : List PyData) (us : List Value), datsB K ds us = true → ∃ vs, Vals vs us ∧ ∀ H, DpAll K H vs ds
  | [], us, h => by
    cases us with
    | nil => exact ⟨[], .nil, fun _ => .nil⟩
    | cons _ _ => cases h
  | d :: ds, us, h => by
    cases us with
    | nil => cases h
    | cons u us =>
      obtain ⟨h1, h2⟩ := ba (show (datB K d u && datsB K ds us) = true from h)
      obtain ⟨v, rv, hv⟩ := datB_ok d u h1
      obtain ⟨vs, rvs, hvs⟩ := datsB_ok ds us h2
      exact ⟨v :: vs, .cons rv rvs, fun H => .cons (hv H) (hvs H)⟩
end
/-- the module's name x holds this written datum -/
def datW (K : PySem.W.Frag) (p : Str × PyData) : Bool := eqO (PySem.W.nsIn K mainGlobals p.1) (some (some (.ref (ga K p.1)))) && datB K p.2 (.ref (ga K p.1))
theorem datW_ok {K : PySem.W.Frag} {h : Heap} {mg : Str → Option Value} {p : Str × PyData} (c : datW K p = true) (X : K.In h) (G : h.Ns mainGlobals mg) : K18.Wr K mg p.1 p.2 := by
  obtain ⟨c1, c2⟩ := ba c
  obtain ⟨v, rv, hv⟩ := datB_ok _ _ c2
  refine ⟨ga K p.1, PySem.W.mg_of X G (eqO_ok c1), fun H => ?_⟩
  cases v with
  | ref a =>
    have e : Value.ref (ga K p.1) = Value.ref a := rv
    injection e with e
    rw [e]
    exact hv H
  | _ => first | (obtain ⟨_, e⟩ := rv; cases e) | (exact absurd rv (fun e => by cases e))
/-- an own exception class -/
def oexB (K : PySem.W.Frag) (C : Addr) : Bool := (match K.lookup C with
  | some ⟨.type "type", _, .cls cd, sl⟩ => (match cd.mro, sl.toList with
    | .ref C' :: bm, [_, _, _, _, some (.builtin n), _] => C' == C && n == "ValueError.__new__" && !cd.hasDel && cd.hasDict && PySem.HandSPX.refsVE bm
    | _, _ => false)
  | _ => false) && (eqO (PySem.W.findIn K (.ref C) "__setattr__") (some (some (.builtin "object.__setattr__"))) && (decide (PySem.W.subIn K (.ref C) (.type "BaseException") = some true) && (decide (PySem.W.typeIn K (.ref C) = some (.type "type")) && PySem.W.keepIn K (.ref C))))
theorem oexB_ok {K : PySem.W.Frag} {C : Addr} (h : oexB K C = true) : OexC K C := by
  obtain ⟨q, h⟩ := ba h
  obtain ⟨h1, h⟩ := ba h
  obtain ⟨h2, h⟩ := ba h
  obtain ⟨h3, h4⟩ := ba h
  refine ⟨?_, eqO_ok h1, of_decide_eq_true h2, of_decide_eq_true h3, h4⟩
  split at q
  · rename_i dd cd sl ho
    split at q
    · rename_i C' bm k0 k1 k2 k3 n k5 hm hs
      simp only [Bool.and_eq_true, beq_iff_eq, Bool.not_eq_true'] at q
      obtain ⟨⟨⟨⟨rfl, rfl⟩, hdel⟩, hdct⟩, ht⟩ := q
      obtain ⟨nm, bs, mro, ns, qn, hd, sn, sub, ab, col, del⟩ := cd
      dsimp only at hm hdel hdct
      subst hm hdel hdct
      have hsl : sl = #[k0, k1, k2, k3, some (.builtin "ValueError.__new__"), k5] := by
        obtain ⟨l⟩ := sl
        simp only at hs
        rw [hs]
      subst hsl
      exact ⟨nm, qn, ns, bs, bm, sn, sub, ab, col, dd, k0, k1, k2, k3, k5, ho, ht⟩
    · cases q
  · cases q
def excDB (K : PySem.W.Frag) (C : Addr) : Bool := (PySem.W.clsIn K C).isSome && (eqO (PySem.W.findIn K (.ref C) "__class__") (some (some (.builtin "object.__class__"))) && (eqO (PySem.W.specialIn K (.builtin "object.__class__") "__get__") (some (some (.builtin "getset_descriptor.__get__"))) && (decide (PySem.W.takesIn K (.builtin "object.__class__") = some true) && decide (PySem.W.mroIn K C (.type "object") = some true))))
theorem excDB_ok {K : PySem.W.Frag} {C : Addr} (h : excDB K C = true) (T : XfC K C) : So.ExcD K C := by
  obtain ⟨h0, h⟩ := ba h
  obtain ⟨h1, h⟩ := ba h
  obtain ⟨h2, h⟩ := ba h
  obtain ⟨h3, h4⟩ := ba h
  exact ⟨h0, T.ga, T.gg, T.exC, eqO_ok h1, eqO_ok h2, of_decide_eq_true h3, of_decide_eq_true h4⟩
/-- what the suites of the laws ask of the class C: of its family F (the errors that it is), of the errors that it is not -/
def famB (K : PySem.W.Frag) (C : Addr) (fs : List Str) : Bool := fs.all fun f => eqO (PySem.W.findIn K (.ref C) f) (some none)
def initB (K : PySem.W.Frag) (C : Addr) : Bool := eqO (PySem.W.findIn K (.ref C) "__init__") (some (some (.ref (ma K C "__init__")))) && decide (PySem.W.typeIn K (.ref (ma K C "__init__")) = some (.type "function"))
def kitB (K : PySem.W.Frag) (C : Addr) (p : Str × Bool) : Bool := decide (PySem.W.kitOne K (.ref C) (.ref (ga K p.1)) = some p.2)
end Hx
/-! ### the head: what it says of the top -/
namespace Q4
open PySem PySem.Spec PyProof.Rows L2 L2H Evl Fx Fr Dt Tr K18 So K17 Hc DtG
def dN (x : Str) (i : Nat) : He.DefD := ⟨(x, none), x, x, defArgs (K18.topS i), defBody (K18.topS i), defScope (K18.topS i), [], []⟩
def dI : He.DefD := ⟨("NotUsable", some "__init__"), "__init__", "NotUsable.__init__", defArgs initS, defBody initS, defScope initS, [], []⟩
def fn : List He.DefD := [dN "is_whole" 15, dN "is_integer" 17, dN "made" 19, dN "reduced_pair" 20, dN "plus" 21, dN "minus" 22, dN "times" 23, dN "over" 24, dN "is_less" 25, dN "total_of" 26, dN "_law_reader" 28, dN "_law_draw" 29, dN "_law_class_flags" 30, dN "_law_own_flags" 31, dN "_law_fields" 32, dN "_law_outcome" 33, dN "_law_greatest" 34, dN "_law_part" 35, dN "_law_random_part" 36, dN "_law_check_made" 37, dN "_law_check_two" 38, dN "_law_check_totals" 39, dN "law" 40, dI]
def fa : List He.Fa := [.glo "is_whole", .glo "is_integer", .glo "made", .glo "reduced_pair", .glo "plus", .glo "minus", .glo "times", .glo "over", .glo "is_less", .glo "total_of", .glo "_law_reader", .glo "_law_draw", .glo "_law_class_flags", .glo "_law_own_flags", .glo "_law_fields", .glo "_law_outcome", .glo "_law_greatest", .glo "_law_part", .glo "_law_random_part", .glo "_law_check_made", .glo "_law_check_two", .glo "_law_check_totals", .glo "law", .free "isinstance", .free "int", .free "bool", .free "list", .free "tuple", .free "len", .free "range", .free "repr", .free "sum", .free "zip", .free "abs", .free "ValueError", .glo "InvalidPaper", .glo "NotUsable", .glo "NotTold", .glo "InvalidEvent", .glo "NothingToUndo", .glo "InvalidText", .glo "InvalidRow", .glo "PaperError", .glo "TraceError", .glo "BookError", .glo "TextError", .glo "ThinError"]
def kits : List (Str × Bool) := [("InvalidPaper", false), ("NotUsable", true), ("NotTold", false), ("InvalidEvent", false), ("NothingToUndo", false), ("InvalidText", false), ("InvalidRow", false), ("PaperError", false), ("TraceError", true), ("BookError", false), ("TextError", false), ("ThinError", true)]
def clsN : List Str := ["InvalidPaper", "NotUsable", "NotTold", "InvalidEvent", "NothingToUndo", "InvalidText", "InvalidRow", "PaperError", "TraceError", "BookError", "TextError", "ThinError"]
def cN (K : PySem.W.Frag) (i : Nat) : Addr := He.ga K (clsN.getD i "ThinError")
def t1 : He.Defn := ("_law_check_made", none)
def t2 : He.Defn := ("_law_check_two", none)
def t3 : He.Defn := ("_law_check_totals", none)
def tf : List He.Defn := [t1, t2, t3]
def dist (K : PySem.W.Frag) : Bool := !decide ((He.cT K t1).2 = (He.cT K t2).2) && (!decide ((He.cT K t1).2 = (He.cT K t3).2) && !decide ((He.cT K t2).2 = (He.cT K t3).2))
def ex (K : PySem.W.Frag) : Bool := Hx.bltB K [("gcd", "math.gcd")] && (dist K && (Hx.oexB K (He.ga K "NotUsable") && (L2.xfB K (He.ga K "NotUsable") && (Hx.excDB K (He.ga K "NotUsable") && (Hx.famB K (He.ga K "NotUsable") ["word", "at"] && (Hx.initB K (He.ga K "NotUsable") &&
  (decide (PySem.W.exmOne K (.ref (He.ga K "NotUsable")) (.ref (He.ga K "ThinError")) = some true) && (kits.all (fun q => Hx.kitB K (He.ga K "NotUsable") q) && decide (PySem.W.kitOne K (.ref (He.ga K "NotUsable")) (.type "ValueError") = some true)))))))))
abbrev R : PySem.W.OpenRow := PySem.W.OpenLaw.row PySem.Challenge.rw_thinspans_k04_fractions_told
abbrev hk : PySem.W.Hook := He.hookX 5 fa fn [] tf ex
def ob (s : PySem.W.SharedT) : He.AlX := He.obsX 5 fa fn [] tf ex (HandSHeadRun.getT s)
theorem ob_eq (s : PySem.W.SharedT) : ob s = hk.obs s.abs := He.obsX_eq (HandSHeadRun.getT_eq s)
def looseA : List Str := ["ThinError", "PaperError", "TraceError", "BookError", "TextError", "InvalidPaper", "NotUsable", "NotTold", "InvalidEvent", "NothingToUndo", "InvalidText", "InvalidRow", "is_whole", "is_integer", "made", "reduced_pair", "plus"]
def looseB : List Str := ["minus", "times", "over", "is_less", "total_of", "_law_reader", "_law_draw", "_law_class_flags", "_law_own_flags", "_law_fields", "_law_outcome", "_law_greatest", "_law_part", "_law_random_part", "_law_check_made", "_law_check_two", "_law_check_totals"]
def loose : List Str := looseA ++ looseB
set_option maxHeartbeats 0 in
theorem run (w : World) : HandSHeadRun.RunEqI R (PySem.W.view R.prog [0, 40]) hk ob 200000 loose w := by
  unfold HandSHeadRun.RunEqI
  kernel_rfl
end Q4
/-! ### the facts put together -/
namespace Q4
open PySem PySem.Spec PyProof.Rows L2 L2H Evl Fx Fr Dt Tr K18 So K17 Hc DtG
/-- as toFun, the code object told -/
theorem toFunC {K : PySem.W.Frag} {x qual : Str} {st : Stmt} {p : Str × Option Str} {fd : FuncData} (F : FunD K x qual (defArgs st) (defBody st) (defScope st) [] [] (He.fAd K p) fd) : FunC K x qual st (He.fAd K p) fd (He.codeOf K p) := by
  obtain ⟨⟨oc, od, dV, kV, doc, pm, an, cdv, ct, osl, e, l, c, d, k⟩, kp⟩ := F
  rcases d with ⟨_, d⟩ | ⟨d, _⟩
  · subst d
    obtain ⟨c', rfl⟩ := He.codeIn_ref c
    subst e
    have z : He.codeOf K p = c' := He.codeOf_eq l rfl
    rw [z]
    exact ⟨⟨oc, od, kV, doc, pm, an, ct, osl, rfl, l, c⟩, kp⟩
  · exact absurd rfl d
set_option maxHeartbeats 2000000 in
theorem facts {P : Program} {w : World} {K : PySem.W.Frag} {h : Heap} {mg : Str → Option Value} {f : Addr} (X : K.In h) (G : h.Ns mainGlobals mg) (hfa : mg ("law" : Str) = some (.ref f)) (c : He.SaysX fa fn [] tf ex w h K) :
    ∃ fd : FuncData, (∀ (s : Shared) (v : Value), BindsTo s fd ⟨[v], []⟩ [("_law_script", v)]) ∧ ∀ base : Heap, K.In base → base.Ns mainGlobals mg → (∀ p ∈ tf.map (He.cT K), LamX.TabB base mg p.1 p.2) → FnG P w K mg base CX0 7 f fd ["_law_script"] (spLaw4 K (T3 (He.cT K t1).2 (He.cT K t2).2 (He.cT K t3).2)) := by
  have cd := c.t.d
  have gl : ∀ (i : Nat) {x : Str}, fa[i]? = some (.glo x) → mg x = some (.ref (He.ga K x)) := fun i x e => He.glo_ok X G (cd.fact i e)
  have fr : ∀ (i : Nat) {x : Str}, fa[i]? = some (.free x) → mg x = none := fun i x e => He.free_ok X G (cd.fact i e)
  obtain ⟨_, Q0⟩ := cd.def_ 0 (d := dN "is_whole" 15) rfl
  obtain ⟨_, Q1⟩ := cd.def_ 1 (d := dN "is_integer" 17) rfl
  obtain ⟨_, Q2⟩ := cd.def_ 2 (d := dN "made" 19) rfl
  obtain ⟨_, Q3⟩ := cd.def_ 3 (d := dN "reduced_pair" 20) rfl
  obtain ⟨_, Q4⟩ := cd.def_ 4 (d := dN "plus" 21) rfl
  obtain ⟨_, Q5⟩ := cd.def_ 5 (d := dN "minus" 22) rfl
  obtain ⟨_, Q6⟩ := cd.def_ 6 (d := dN "times" 23) rfl
  obtain ⟨_, Q7⟩ := cd.def_ 7 (d := dN "over" 24) rfl
  obtain ⟨_, Q8⟩ := cd.def_ 8 (d := dN "is_less" 25) rfl
  obtain ⟨_, Q9⟩ := cd.def_ 9 (d := dN "total_of" 26) rfl
  obtain ⟨_, Q10⟩ := cd.def_ 10 (d := dN "_law_reader" 28) rfl
  obtain ⟨_, Q11⟩ := cd.def_ 11 (d := dN "_law_draw" 29) rfl
  obtain ⟨_, Q12⟩ := cd.def_ 12 (d := dN "_law_class_flags" 30) rfl
  obtain ⟨_, Q13⟩ := cd.def_ 13 (d := dN "_law_own_flags" 31) rfl
  obtain ⟨_, Q14⟩ := cd.def_ 14 (d := dN "_law_fields" 32) rfl
  obtain ⟨_, Q15⟩ := cd.def_ 15 (d := dN "_law_outcome" 33) rfl
  obtain ⟨_, Q16⟩ := cd.def_ 16 (d := dN "_law_greatest" 34) rfl
  obtain ⟨_, Q17⟩ := cd.def_ 17 (d := dN "_law_part" 35) rfl
  obtain ⟨_, Q18⟩ := cd.def_ 18 (d := dN "_law_random_part" 36) rfl
  obtain ⟨_, Q19⟩ := cd.def_ 19 (d := dN "_law_check_made" 37) rfl
  obtain ⟨_, Q20⟩ := cd.def_ 20 (d := dN "_law_check_two" 38) rfl
  obtain ⟨_, Q21⟩ := cd.def_ 21 (d := dN "_law_check_totals" 39) rfl
  obtain ⟨fd, Q22⟩ := cd.def_ 22 (d := dN "law" 40) rfl
  obtain ⟨_, QI⟩ := cd.def_ 23 (d := dI) rfl
  have F0 := Hx.toFun (st := K18.topS 15) Q0
  have F1 := Hx.toFun (st := K18.topS 17) Q1
  have F2 := Hx.toFun (st := K18.topS 19) Q2
  have F3 := Hx.toFun (st := K18.topS 20) Q3
  have F4 := Hx.toFun (st := K18.topS 21) Q4
  have F5 := Hx.toFun (st := K18.topS 22) Q5
  have F6 := Hx.toFun (st := K18.topS 23) Q6
  have F7 := Hx.toFun (st := K18.topS 24) Q7
  have F8 := Hx.toFun (st := K18.topS 25) Q8
  have F9 := Hx.toFun (st := K18.topS 26) Q9
  have F10 := Hx.toFun (st := K18.topS 28) Q10
  have F11 := Hx.toFun (st := K18.topS 29) Q11
  have F12 := Hx.toFun (st := K18.topS 30) Q12
  have F13 := Hx.toFun (st := K18.topS 31) Q13
  have F14 := Hx.toFun (st := K18.topS 32) Q14
  have F15 := Hx.toFun (st := K18.topS 33) Q15
  have F16 := Hx.toFun (st := K18.topS 34) Q16
  have F17 := Hx.toFun (st := K18.topS 35) Q17
  have F18 := Hx.toFun (st := K18.topS 36) Q18
  have F19 := Hx.toFun (st := K18.topS 37) Q19
  have F20 := Hx.toFun (st := K18.topS 38) Q20
  have F21 := Hx.toFun (st := K18.topS 39) Q21
  have F22 := Hx.toFun (st := K18.topS 40) Q22
  have C1 := toFunC (st := K18.topS 37) (p := t1) Q19
  have C2 := toFunC (st := K18.topS 38) (p := t2) Q20
  have C3 := toFunC (st := K18.topS 39) (p := t3) Q21
  have FI := Hx.toFun (st := initS) QI
  have e := hfa.symm.trans (gl 22 rfl)
  cases e
  obtain ⟨m1, m⟩ := He.ba c.more
  obtain ⟨m2, m⟩ := He.ba m
  obtain ⟨m5, m⟩ := He.ba m
  obtain ⟨m6, m⟩ := He.ba m
  obtain ⟨m7, m⟩ := He.ba m
  obtain ⟨m8, m⟩ := He.ba m
  obtain ⟨m9, m⟩ := He.ba m
  obtain ⟨m10, m⟩ := He.ba m
  obtain ⟨m11, m12⟩ := He.ba m
  obtain ⟨d1, d⟩ := He.ba m2
  obtain ⟨d2, d3⟩ := He.ba d
  have n12 : (He.cT K t1).2 ≠ (He.cT K t2).2 := by simpa using d1
  have n13 : (He.cT K t1).2 ≠ (He.cT K t3).2 := by simpa using d2
  have n23 : (He.cT K t2).2 ≠ (He.cT K t3).2 := by simpa using d3
  have gG : mg ("gcd" : Str) = some (.builtin "math.gcd") := PySem.W.mg_of X G (He.eqO_ok (List.all_eq_true.mp m1 ("gcd", "math.gcd") List.mem_cons_self))
  have oex := Hx.oexB_ok m5
  have xf := L2.xfB_ok m6
  have exd := Hx.excDB_ok m7 xf
  have fw : PySem.W.findIn K (.ref (He.ga K "NotUsable")) "word" = some none := He.eqO_ok (List.all_eq_true.mp m8 "word" (by simp))
  have fat : PySem.W.findIn K (.ref (He.ga K "NotUsable")) "at" = some none := He.eqO_ok (List.all_eq_true.mp m8 "at" (by simp))
  obtain ⟨n1, n2⟩ := He.ba m9
  have iC := He.eqO_ok n1
  have tI := of_decide_eq_true n2
  have kit : ∀ x b, (x, b) ∈ kits → PySem.W.kitOne K (.ref (He.ga K "NotUsable")) (.ref (He.ga K x)) = some b := fun x b hx => of_decide_eq_true (List.all_eq_true.mp m11 (x, b) hx)
  have T : Fl K mg (He.ga K "NotUsable") (cN K) :=
    ⟨exd, xf, fw, fat, ⟨(gl 35 rfl), kit "InvalidPaper" false (by simp [kits])⟩, ⟨(gl 36 rfl), kit "NotUsable" true (by simp [kits])⟩, ⟨(gl 37 rfl), kit "NotTold" false (by simp [kits])⟩, ⟨(gl 38 rfl), kit "InvalidEvent" false (by simp [kits])⟩, ⟨(gl 39 rfl), kit "NothingToUndo" false (by simp [kits])⟩, ⟨(gl 40 rfl), kit "InvalidText" false (by simp [kits])⟩, ⟨(gl 41 rfl), kit "InvalidRow" false (by simp [kits])⟩, ⟨(gl 42 rfl), kit "PaperError" false (by simp [kits])⟩, ⟨(gl 43 rfl), kit "TraceError" true (by simp [kits])⟩, ⟨(gl 44 rfl), kit "BookError" false (by simp [kits])⟩, ⟨(gl 45 rfl), kit "TextError" false (by simp [kits])⟩, ⟨(gl 46 rfl), kit "ThinError" true (by simp [kits])⟩, of_decide_eq_true m12, of_decide_eq_true m10, (fr 34 rfl), (fr 23 rfl)⟩
  have b := FunD.bindsA (ps := ["_law_script"]) Q22 fun _ _ _ _ _ _ us hl => match us, hl with | [_], _ => rfl
  refine ⟨fd, fun s v => b s [v] rfl, fun base _ _ TB => ?_⟩
  have B0 : L2.Binds K _ ["thing"] [] := F0.binds (ps := ["thing"]) fun _ _ _ _ _ _ us hl => match us, hl with | [_], _ => rfl
  have B1 : L2.Binds K _ ["thing"] [] := F1.binds (ps := ["thing"]) fun _ _ _ _ _ _ us hl => match us, hl with | [_], _ => rfl
  have B2 : L2.Binds K _ ["p", "q"] [] := F2.binds (ps := ["p", "q"]) fun _ _ _ _ _ _ us hl => match us, hl with | [_, _], _ => rfl
  have B3 : L2.Binds K _ ["p", "q"] [] := F3.binds (ps := ["p", "q"]) fun _ _ _ _ _ _ us hl => match us, hl with | [_, _], _ => rfl
  have B4 : L2.Binds K _ ["one", "other"] [] := F4.binds (ps := ["one", "other"]) fun _ _ _ _ _ _ us hl => match us, hl with | [_, _], _ => rfl
  have B5 : L2.Binds K _ ["one", "other"] [] := F5.binds (ps := ["one", "other"]) fun _ _ _ _ _ _ us hl => match us, hl with | [_, _], _ => rfl
  have B6 : L2.Binds K _ ["one", "other"] [] := F6.binds (ps := ["one", "other"]) fun _ _ _ _ _ _ us hl => match us, hl with | [_, _], _ => rfl
  have B7 : L2.Binds K _ ["one", "other"] [] := F7.binds (ps := ["one", "other"]) fun _ _ _ _ _ _ us hl => match us, hl with | [_, _], _ => rfl
  have B8 : L2.Binds K _ ["one", "other"] [] := F8.binds (ps := ["one", "other"]) fun _ _ _ _ _ _ us hl => match us, hl with | [_, _], _ => rfl
  have B9 : L2.Binds K _ ["question", "crowd"] [] := F9.binds (ps := ["question", "crowd"]) fun _ _ _ _ _ _ us hl => match us, hl with | [_, _], _ => rfl
  have B10 : L2.Binds K _ ["_law_script"] [] := F10.binds (ps := ["_law_script"]) fun _ _ _ _ _ _ us hl => match us, hl with | [_], _ => rfl
  have B11 : L2.Binds K _ ["_law_reader_here", "_law_many"] [] := F11.binds (ps := ["_law_reader_here", "_law_many"]) fun _ _ _ _ _ _ us hl => match us, hl with | [_, _], _ => rfl
  have B12 : L2.Binds K _ ["_law_e"] [] := F12.binds (ps := ["_law_e"]) fun _ _ _ _ _ _ us hl => match us, hl with | [_], _ => rfl
  have B13 : L2.Binds K _ ["_law_number"] [] := F13.binds (ps := ["_law_number"]) fun _ _ _ _ _ _ us hl => match us, hl with | [_], _ => rfl
  have B14 : L2.Binds K _ ["_law_e", "_law_number"] [] := F14.binds (ps := ["_law_e", "_law_number"]) fun _ _ _ _ _ _ us hl => match us, hl with | [_, _], _ => rfl
  have B15 : L2.Binds K _ ["_law_ask"] [] := F15.binds (ps := ["_law_ask"]) fun _ _ _ _ _ _ us hl => match us, hl with | [_], _ => rfl
  have B16 : L2.Binds K _ ["_law_a", "_law_b"] [] := F16.binds (ps := ["_law_a", "_law_b"]) fun _ _ _ _ _ _ us hl => match us, hl with | [_, _], _ => rfl
  have B17 : L2.Binds K _ ["_law_p", "_law_q"] [] := F17.binds (ps := ["_law_p", "_law_q"]) fun _ _ _ _ _ _ us hl => match us, hl with | [_, _], _ => rfl
  have B18 : L2.Binds K _ ["_law_reader_here"] [] := F18.binds (ps := ["_law_reader_here"]) fun _ _ _ _ _ _ us hl => match us, hl with | [_], _ => rfl
  have B19 : L2.Binds K _ ["_law_reader_here"] [] := F19.binds (ps := ["_law_reader_here"]) fun _ _ _ _ _ _ us hl => match us, hl with | [_], _ => rfl
  have B20 : L2.Binds K _ ["_law_a", "_law_b"] [] := F20.binds (ps := ["_law_a", "_law_b"]) fun _ _ _ _ _ _ us hl => match us, hl with | [_, _], _ => rfl
  have B21 : L2.Binds K _ ["_law_reader_here"] [] := F21.binds (ps := ["_law_reader_here"]) fun _ _ _ _ _ _ us hl => match us, hl with | [_], _ => rfl
  have B22 : L2.Binds K _ ["_law_script"] [] := F22.binds (ps := ["_law_script"]) fun _ _ _ _ _ _ us hl => match us, hl with | [_], _ => rfl
  have BI : L2.Binds K _ ["self", "word", "at"] [] := FI.binds (ps := ["self", "word", "at"]) fun _ _ _ _ _ _ us hl => match us, hl with | [_, _, _], _ => rfl
  have GI : FnOk P w K mg base (L2.CX P w) 1 _ _ ["self", "word", "at"] (spInit (He.ga K "NotUsable")) := ok_init FI oex fw fat
  have nu : Nu P w K mg base (He.ga K "NotUsable") _ _ := ⟨oex, (gl 36 rfl), iC, tI, GI, BI⟩
  have G0 : FnOk P w K mg base CX0 1 _ _ ["thing"] (spWhole K) := ok_whole F0 (fr 23 rfl) (fr 24 rfl) (fr 25 rfl)
  have c0 := cal F0 G0 (gl 0 rfl) B0
  have G1 : FnOk P w K mg base CX0 2 _ _ ["thing"] (spWhole K) := ok_integer F1 G0 F0.kp B0 (gl 0 rfl)
  have c1 := cal F1 G1 (gl 1 rfl) B1
  have G3 : FnOk P w K mg base CX0 1 _ _ ["p", "q"] (spMade K) := K17.made_d (ok_reduced F3 gG)
  have c3 := cal F3 G3 (gl 3 rfl) B3
  have G2 : FnOk P w K mg base (L2N.CX P w) 3 _ _ ["p", "q"] (spMadeX K (He.ga K "NotUsable")) := ok_madeX F2 c1 c3 nu
  have G4 : FnOk P w K mg base CX0 2 _ _ ["one", "other"] (spOpF K (· + ·)) := ok_plus F4 c3
  have c4 := cal F4 G4 (gl 4 rfl) B4
  have G5 : FnOk P w K mg base CX0 2 _ _ ["one", "other"] (spOpF K (· - ·)) := ok_minus F5 c3
  have c5 := cal F5 G5 (gl 5 rfl) B5
  have G6 : FnOk P w K mg base CX0 2 _ _ ["one", "other"] (spOpF K (· * ·)) := ok_times F6 c3
  have c6 := cal F6 G6 (gl 6 rfl) B6
  have G7 : FnOk P w K mg base (L2N.CX P w) 3 _ _ ["one", "other"] (spOverX K (He.ga K "NotUsable")) := ok_overX F7 c3 nu
  have G8 : FnOk P w K mg base CX0 1 _ _ ["one", "other"] (spLess K) := ok_less F8
  have c8 := cal F8 G8 (gl 8 rfl) B8
  have G9 : FnOk P w K mg base (L2N.CX P w) 3 _ _ ["question", "crowd"] (spTotX K (He.ga K "NotUsable")) := ok_totX F9 nu (fr 28 rfl) (fr 31 rfl) (fr 32 rfl)
  have G10 : FnOk P w K mg base CX0 1 _ _ ["_law_script"] (spReader K) := ok_reader F10 (fr 26 rfl)
  have c10 := cal F10 G10 (gl 10 rfl) B10
  have G11 : FnOk P w K mg base CX0 1 _ _ ["_law_reader_here", "_law_many"] (Fx.spDraw) := _root_.Q4.ok_draw F11 (fr 24 rfl) (fr 28 rfl)
  have c11 := cal F11 G11 (gl 11 rfl) B11
  have G16 : FnOk P w K mg base CX0 1 _ _ ["_law_a", "_law_b"] (spGr) := ok_gr F16 (fr 24 rfl)
  have c16 := cal F16 G16 (gl 16 rfl) B16
  have G17 : FnOk P w K mg base CX0 2 _ _ ["_law_p", "_law_q"] (spPart K) := ok_part F17 c16 (fr 33 rfl)
  have c17 := cal F17 G17 (gl 17 rfl) B17
  have G18 : FnOk P w K mg base CX0 3 _ _ ["_law_reader_here"] (spRP K) := ok_rp F18 c11 c17
  have c18 := cal F18 G18 (gl 18 rfl) B18
  have S : Sub4 P w K mg base (He.ga K "NotUsable") _ _ _ _ _ _ := ⟨ok_cf F12 T, (gl 12 rfl), F12.kp, B12, ok_of F13 (fr 29 rfl), (gl 13 rfl), F13.kp, B13, ok_fi F14 T, (gl 14 rfl), F14.kp, B14⟩
  have M : Lm P w K mg base (He.ga K "NotUsable") (cN K) _ _ _ _ _ _ _ _ := ⟨T, S, F15, (gl 15 rfl), B15, (fr 29 rfl), (fr 28 rfl)⟩
  have TB1 := TB (He.cT K t1) (by simp [tf])
  have TB2 := TB (He.cT K t2) (by simp [tf])
  have TB3 := TB (He.cT K t3) (by simp [tf])
  have GM : FnG P w K mg base CX0 6 _ _ ["_law_reader_here"] (spChk K (T3 (He.cT K t1).2 (He.cT K t2).2 (He.cT K t3).2) 30) := ok_md C1 TB1 n12.symm n13.symm c11 c17 G2 (gl 2 rfl) F2.kp B2 M (fr 30 rfl)
  have GW : FnG P w K mg base CX0 6 _ _ ["_law_a", "_law_b"] (spTwo K (T3 (He.cT K t1).2 (He.cT K t2).2 (He.cT K t3).2)) := ok_two C2 TB2 n12 n23.symm c4 c5 c6 c8 c17 G7 (gl 7 rfl) F7.kp B7 M (fr 30 rfl)
  have GT : FnG P w K mg base CX0 6 _ _ ["_law_reader_here"] (spChk K (T3 (He.cT K t1).2 (He.cT K t2).2 (He.cT K t3).2) 600) := ok_tt C3 TB3 n13 n23 c11 G9 (gl 9 rfl) F9.kp B9 M (fr 30 rfl) (fr 26 rfl) (fr 27 rfl) (fr 31 rfl)
  exact ok_law4 F22 c10 c18 GW (gl 20 rfl) F20.kp B20 GM (gl 19 rfl) F19.kp B19 GT (gl 21 rfl) F21.kp B21 (fr 29 rfl) (fr 30 rfl)
end Q4
open PySem PySem.W PySem.Calls PyProof.Rows
set_option maxHeartbeats 0 in
theorem PySem.Challenge.cw_thinspans_k04_fractions_told_holds : PySem.Challenge.rw_thinspans_k04_fractions_told.Holds := by
  w_on; o_law
  refine HandSHeadRun.head_imp (r := OpenLaw.row PySem.Challenge.rw_thinspans_k04_fractions_told) (q := view (OpenLaw.row PySem.Challenge.rw_thinspans_k04_fractions_told).prog [0, 40]) (H := Q4.hk) (ob := Q4.ob) (M := 200000) (loose := Q4.loose) (d := HandSHeadRun.topDef (OpenLaw.row PySem.Challenge.rw_thinspans_k04_fractions_told).prog 40) (kwd := []) Q4.ob_eq
    Q4.run (by kernel_rfl) (by kernel_rfl) (by kernel_rfl) (by rfl) (by first | assumption | decide +kernel) (by decide +kernel) ⟨rfl, rfl, rfl, rfl, rfl, by decide +kernel⟩ ?hw ?hc
  case hw => w_witness2
  case hc =>
    refine DtM.walk_ofGM (l := PySem.Challenge.rw_thinspans_k04_fractions_told) (n := 63) (k := 7) (x := "_law_script") rfl (by decide) (by kernel_rfl) ⟨rfl, by decide, by decide⟩ ?F
    intro w mg fa h Y G hmg0
    obtain ⟨K, KX, c⟩ := Y
    have hmg : mg ("law" : PySem.Str) = some (.ref fa) := by
      have e : (HandSHeadRun.topDef (OpenLaw.row PySem.Challenge.rw_thinspans_k04_fractions_told).prog 40).name = ("law" : PySem.Str) := by kernel_rfl
      rw [← e]
      exact hmg0
    obtain ⟨fd, hb, hF⟩ := Q4.facts (P := (PySem.Challenge.rw_thinspans_k04_fractions_told).prog) (w := w) KX G hmg c
    have al : ∀ {p : PySem.Addr × PySem.Addr}, p ∈ Q4.tf.map (He.cT K) → ∃ t ∈ Q4.tf, He.cT K t = p := fun hp => List.mem_map.mp hp
    refine ⟨K, fd, Q4.spLaw4 K _, Q4.tf.map (He.cT K), KX, fun p hp => ?_, fun p hp => ?_, fun p hp => ?_, hb, fun H a ns _ _ hT hS => ⟨a, ns, rfl, hS, fun p hp => ?_, fun _ => rfl⟩, hF⟩
    · obtain ⟨t, ht, rfl⟩ := al hp
      exact c.empty _ ht
    · obtain ⟨t, ht, rfl⟩ := al hp
      exact c.out _ ht
    · obtain ⟨t, ht, rfl⟩ := al hp
      exact PySem.W.codeHd_of_K KX (c.hd _ ht)
    · have h1 := hT (He.cT K Q4.t1) (by simp [Q4.tf])
      have h2 := hT (He.cT K Q4.t2) (by simp [Q4.tf])
      have h3 := hT (He.cT K Q4.t3) (by simp [Q4.tf])
      simp only [Q4.T3, List.mem_cons, List.not_mem_nil, or_false] at hp
      rcases hp with rfl | rfl | rfl
      · exact LamX.TabS.nil h1
      · exact LamX.TabS.nil h2
      · exact LamX.TabS.nil h3
