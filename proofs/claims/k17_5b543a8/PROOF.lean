import PyProof.Rows.All
import Wide.All
import OpenK.AllK
import Wide.FinOn
import KE.KStateDown
import HandS.ForMost
import HandS.Evl
import HandS.Gcd
import HandS.Wide
import HandS.TupMul
import HandS.TupAny
import HandS.IsInst
import HandS.Zip
import HandS.Conv
import HandS.NoneIn
import HandS.SetFor
import HandS.Defaults
import HandS.Codes
import HandS.EndBits
import HandS.HeadEnd
import HandS.HeadHook1
import HandS.HeadHook2
import HandS.Head0
import HandS.Head1
import HandS.Head2
import KE.SortData
import HandS.Style
import HandS.Deep
import HandS.Star
import HandS.Head3
import KE.GoesMore
import KE.GoesZip
import PyProof.ReprRoads
import HandS.Ends
import PyProof.ReprLen
import PyProof.FitsInt
import HandS.Keys
import HandS.Lambda
import HandS.ExcIs
import HandS.ExcField
import HandS.ExcInit
import HandS.WordsExc
import KE.KExcIs
import HandS.Iter
import PyProof.CallFns
import HandS.TupLe
import HandS.EndTab
import HandS.HeadHook4
import PySem.Challenge.RW_thinspans_k17_sights_told
set_option Elab.async false
set_option linter.all false
set_option maxRecDepth 100000
/-! the mathematics of reduced pairs -/
namespace Fr
theorem gcd_pos {p q : Int} (h : q ≠ 0) : 0 < Nat.gcd p.natAbs q.natAbs := Nat.gcd_pos_of_pos_right _ (by omega)
def comm (p q : Int) : Int := if q < 0 then -((Nat.gcd p.natAbs q.natAbs : Nat) : Int) else ((Nat.gcd p.natAbs q.natAbs : Nat) : Int)
theorem comm_neg {p q : Int} (h : q < 0) : comm p q = -((Nat.gcd p.natAbs q.natAbs : Nat) : Int) := if_pos h
theorem comm_pos {p q : Int} (h : ¬ q < 0) : comm p q = ((Nat.gcd p.natAbs q.natAbs : Nat) : Int) := if_neg h
theorem gcd_eq (p q : Int) : Int.gcd q p = Nat.gcd p.natAbs q.natAbs := by unfold Int.gcd; exact Nat.gcd_comm _ _
theorem fdiv_neg_dvd {a b : Int} (hb : b ≠ 0) (h : b ∣ a) : a.fdiv (-b) = -(a / b) := by
  rw [Int.fdiv_neg hb, if_pos h, Int.fdiv_eq_ediv_of_dvd h]
theorem gdl (p q : Int) : ((Nat.gcd p.natAbs q.natAbs : Nat) : Int) ∣ p := Int.ofNat_dvd_left.mpr (Nat.gcd_dvd_left _ _)
theorem gdr (p q : Int) : ((Nat.gcd p.natAbs q.natAbs : Nat) : Int) ∣ q := Int.ofNat_dvd_left.mpr (Nat.gcd_dvd_right _ _)
theorem red_num {p q : Int} (h : q ≠ 0) : p.fdiv (comm p q) = (Rat.divInt p q).num := by
  have g := gcd_pos (p := p) h
  rw [Rat.num_divInt, gcd_eq]
  by_cases hq : q < 0
  · rw [comm_neg hq, Int.sign_eq_neg_one_of_neg hq, fdiv_neg_dvd (by omega) (gdl p q), show (-1 : Int) * p = -p by omega, Int.neg_ediv_of_dvd (gdl p q)]
  · rw [comm_pos hq, Int.sign_eq_one_of_pos (show 0 < q by omega), Int.one_mul, Int.fdiv_eq_ediv_of_nonneg _ (Int.natCast_nonneg _)]
theorem red_den {p q : Int} (h : q ≠ 0) : q.fdiv (comm p q) = ((Rat.divInt p q).den : Int) := by
  have g := gcd_pos (p := p) h
  rw [Rat.den_divInt, gcd_eq, if_neg h, Int.natCast_ediv]
  by_cases hq : q < 0
  · rw [comm_neg hq, fdiv_neg_dvd (by omega) (gdr p q), ← Int.neg_ediv_of_dvd (gdr p q)]
    congr 1
    omega
  · rw [comm_pos hq, Int.fdiv_eq_ediv_of_nonneg _ (Int.natCast_nonneg _)]
    congr 1
    omega
/-- bounded: both parts below 2 ^ n -/
def Bd (n : Nat) (r : Rat) : Prop := r.num.natAbs < 2 ^ n ∧ r.den < 2 ^ n
theorem Bd.mono {n m : Nat} {r : Rat} (h : Bd n r) (hm : n ≤ m) : Bd m r := ⟨Nat.lt_of_lt_of_le h.1 (Nat.pow_le_pow_right (by decide) hm), Nat.lt_of_lt_of_le h.2 (Nat.pow_le_pow_right (by decide) hm)⟩
theorem bd_div {p q : Int} {n : Nat} (h : q ≠ 0) (hp : p.natAbs < 2 ^ n) (hq : q.natAbs < 2 ^ n) : Bd n (Rat.divInt p q) := by
  have g := gcd_pos (p := p) h
  refine ⟨?_, ?_⟩
  · rw [Rat.num_divInt, gcd_eq]
    have e : (q.sign * p / ((Nat.gcd p.natAbs q.natAbs : Nat) : Int)).natAbs ≤ p.natAbs := by
      refine Nat.le_trans (Int.natAbs_ediv_le_natAbs _ _) ?_
      rw [Int.natAbs_mul, Int.natAbs_sign_of_ne_zero h, Nat.one_mul]
      exact Nat.le_refl _
    omega
  · rw [Rat.den_divInt, if_neg h]
    have e : q.natAbs / Int.gcd q p ≤ q.natAbs := Nat.div_le_self _ _
    omega
theorem nd_lt {a b n m : Nat} (h1 : a < 2 ^ n) (h2 : b < 2 ^ m) : a * b < 2 ^ (n + m) := by
  rw [Nat.pow_add]
  exact Nat.mul_lt_mul'' h1 h2
theorem im_lt {a b : Int} {n m : Nat} (h1 : a.natAbs < 2 ^ n) (h2 : b.natAbs < 2 ^ m) : (a * b).natAbs < 2 ^ (n + m) := by
  rw [Int.natAbs_mul]
  exact nd_lt h1 h2
theorem ia_lt {a b : Int} {n : Nat} (h1 : a.natAbs < 2 ^ n) (h2 : b.natAbs < 2 ^ n) : (a + b).natAbs < 2 ^ (n + 1) := by
  rw [Nat.pow_succ]
  omega
theorem is_lt {a b : Int} {n : Nat} (h1 : a.natAbs < 2 ^ n) (h2 : b.natAbs < 2 ^ n) : (a - b).natAbs < 2 ^ (n + 1) := by
  rw [Nat.pow_succ]
  omega
theorem lt_up {a n m : Nat} (h : a < 2 ^ n) (hm : n ≤ m) : a < 2 ^ m := Nat.lt_of_lt_of_le h (Nat.pow_le_pow_right (by decide) hm)
theorem den_ne (x : Rat) : (x.den : Int) ≠ 0 := by
  have := x.den_nz
  omega
theorem add_eq (x y : Rat) : Rat.divInt (x.num * y.den + y.num * x.den) (x.den * y.den) = x + y := by
  conv => rhs; rw [← Rat.num_divInt_den x, ← Rat.num_divInt_den y]
  rw [Rat.divInt_add_divInt _ _ (den_ne x) (den_ne y)]
theorem sub_eq (x y : Rat) : Rat.divInt (x.num * y.den - y.num * x.den) (x.den * y.den) = x - y := by
  conv => rhs; rw [← Rat.num_divInt_den x, ← Rat.num_divInt_den y]
  rw [Rat.divInt_sub_divInt _ _ (den_ne x) (den_ne y)]
theorem mul_eq (x y : Rat) : Rat.divInt (x.num * y.num) (x.den * y.den) = x * y := by
  conv => rhs; rw [← Rat.num_divInt_den x, ← Rat.num_divInt_den y]
  rw [Rat.divInt_mul_divInt]
theorem div_eq (x y : Rat) : Rat.divInt (x.num * y.den) (x.den * y.num) = x / y := by
  rw [Rat.div_def]
  conv => rhs; rw [← Rat.num_divInt_den x, ← Rat.num_divInt_den y, Rat.inv_divInt]
  rw [Rat.divInt_mul_divInt]
theorem num_ne {x : Rat} (h : x ≠ 0) : x.num ≠ 0 := fun e => h (Rat.num_eq_zero.mp e)
theorem bd_add {x y : Rat} {n m : Nat} (h1 : Bd n x) (h2 : Bd m y) : Bd (n + m + 1) (x + y) := by
  rw [← add_eq]
  have a1 : (x.den : Int).natAbs < 2 ^ n := h1.2
  have a2 : (y.den : Int).natAbs < 2 ^ m := h2.2
  have d := Int.mul_ne_zero (den_ne x) (den_ne y)
  refine bd_div d (ia_lt (im_lt h1.1 a2) ?_) (lt_up (im_lt a1 a2) (by omega))
  have := im_lt h2.1 a1
  rwa [Nat.add_comm m n] at this
theorem bd_sub {x y : Rat} {n m : Nat} (h1 : Bd n x) (h2 : Bd m y) : Bd (n + m + 1) (x - y) := by
  rw [← sub_eq]
  have a1 : (x.den : Int).natAbs < 2 ^ n := h1.2
  have a2 : (y.den : Int).natAbs < 2 ^ m := h2.2
  have d := Int.mul_ne_zero (den_ne x) (den_ne y)
  refine bd_div d (is_lt (im_lt h1.1 a2) ?_) (lt_up (im_lt a1 a2) (by omega))
  have := im_lt h2.1 a1
  rwa [Nat.add_comm m n] at this
theorem bd_mul {x y : Rat} {n m : Nat} (h1 : Bd n x) (h2 : Bd m y) : Bd (n + m) (x * y) := by
  rw [← mul_eq]
  have a1 : (x.den : Int).natAbs < 2 ^ n := h1.2
  have a2 : (y.den : Int).natAbs < 2 ^ m := h2.2
  exact bd_div (Int.mul_ne_zero (den_ne x) (den_ne y)) (im_lt h1.1 h2.1) (im_lt a1 a2)
theorem bd_quo {x y : Rat} {n m : Nat} (h1 : Bd n x) (h2 : Bd m y) (h : y ≠ 0) : Bd (n + m) (x / y) := by
  rw [← div_eq]
  have a1 : (x.den : Int).natAbs < 2 ^ n := h1.2
  have a2 : (y.den : Int).natAbs < 2 ^ m := h2.2
  exact bd_div (Int.mul_ne_zero (den_ne x) (num_ne h)) (im_lt h1.1 a2) (im_lt a1 h2.1)
theorem lt_eq (x y : Rat) : decide (x.num * y.den < y.num * x.den) = decide (x < y) := by
  rw [decide_eq_decide]
  exact (Rat.lt_iff x y).symm
theorem red_self {x : Rat} : Nat.gcd x.num.natAbs (x.den : Int).natAbs = 1 := by
  have := x.reduced
  exact this
theorem made_self (x : Rat) {c : Int} (h : c ≠ 0) : Rat.divInt (x.num * c) (x.den * c) = x := by
  rw [Rat.divInt_mul_right h, Rat.num_divInt_den]
theorem made_neg (x : Rat) : Rat.divInt (0 - x.num) (0 - x.den) = x := by
  rw [show (0 : Int) - x.num = -x.num by omega, show (0 : Int) - x.den = -x.den by omega, Rat.neg_divInt_neg, Rat.num_divInt_den]
theorem ext_iff {x y : Rat} : (x.num = y.num ∧ (x.den : Int) = y.den) ↔ x = y := ⟨fun h => Rat.ext h.1 (by have := h.2; omega), fun h => by rw [h]; exact ⟨rfl, rfl⟩⟩
end Fr
/-! general rules over the layer: what evaluates to a value of which something is known (EvP), reduced pairs as tuples (IsF), the draws' reader (RdAt) -/
namespace Fx
open PySem PySem.Spec PyProof.Rows L2 Evl
abbrev VP := V → Hp → Prop
def Mono (P : VP) : Prop := ∀ v H H', Ex H H' → P v H → P v H'
def EvP (te : TE) (σ : L2.St) (H : Hp) (P : VP) : Prop := ∀ H1, Ex H H1 → ∀ Q : VK, (∀ v H2, Ex H1 H2 → P v H2 → Q v H2) → te σ H1 Q
section
variable {te ta tb : TE} {σ : L2.St} {H : Hp} {P P' : VP} {v x y z : V}
theorem EvP.of (h : Ev te σ H v) : EvP te σ H (fun x _ => x = v) := fun H1 e Q q => h H1 e Q fun H2 e2 => q v H2 e2 rfl
theorem EvP.ofU {xs : List V} (h : EvU te σ H xs) : EvP te σ H (fun x H' => ∃ p, x = .ref p ∧ H' p = some (.tup xs)) := fun H1 e Q q => h H1 e Q fun p H2 _ e2 hp => q _ H2 e2 ⟨p, rfl, hp⟩
theorem EvP.mono {H' : Hp} (e : Ex H H') (h : EvP te σ H P) : EvP te σ H' P := fun H1 a Q q => h H1 (e.trans a) Q q
theorem EvP.imp (h : EvP te σ H P) (k : ∀ v H', Ex H H' → P v H' → P' v H') : EvP te σ H P' := fun H1 e Q q => h H1 e Q fun v H2 e2 p => q v H2 e2 (k v H2 (e.trans e2) p)
theorem ev_op2 {r : R2} (ha : EvP ta σ H P) (mP : Mono P) (hb : EvP tb σ H P') (hr : ∀ x y H1, Ex H H1 → P x H1 → P' y H1 → RV r x y H1 z) : Ev (tOp r ta tb) σ H z := fun H1 e Q q =>
  ha H1 e _ fun x H2 e2 p => hb H2 (e.trans e2) _ fun y H3 e3 p' => hr x y H3 (e.trans (e2.trans e3)) (mP _ _ _ e3 p) p' H3 (Ex.refl _) Q fun H4 e4 => q H4 (e2.trans (e3.trans e4))
theorem ev_op1 {r : R2} (ha : EvP ta σ H P) (hb : Ev tb σ H y) (mP : Mono P) (hr : ∀ x H1, Ex H H1 → P x H1 → RV r x y H1 z) : Ev (tOp r ta tb) σ H z :=
  ev_op2 ha mP (EvP.of hb) fun x y' H1 e p ey => by
    subst ey
    exact hr x H1 e p
end
/-! ### a tuple of two ints that is the reduced pair of a rational -/
def frO (r : Rat) : HO := .tup [.int r.num, .int (r.den : Int)]
def IsF (r : Rat) : VP := fun v H => ∃ p, v = .ref p ∧ H p = some (frO r)
theorem IsF.mono {r : Rat} : Mono (IsF r) := fun _ _ _ e ⟨p, h1, h2⟩ => ⟨p, h1, e p _ h2⟩
section
variable {te ta tb : TE} {σ : L2.St} {H : Hp} {K : PySem.W.Frag} {r r' : Rat} {p : Addr} {v x y z : V}
theorem IsF.sq (h : H p = some (frO r)) : SqT K H p [.int r.num, .int (r.den : Int)] := st_of h
theorem evF_var {i : Nat} (h : σ[i]? = some (some (.ref p))) (hp : H p = some (frO r)) : EvP (tVar i) σ H (IsF r) := fun H1 e Q q => ⟨.ref p, h, q _ H1 (Ex.refl _) ⟨p, rfl, e p _ hp⟩⟩
theorem evF_tup {n d : Int} (hn : r.num = n) (hd : (r.den : Int) = d) (ha : Ev ta σ H (.int n)) (hb : Ev tb σ H (.int d)) : EvP (tTup (tCons ta (tCons tb tNil))) σ H (IsF r) := by
  have h := EvP.ofU (eu_tup (ea_cons ha (ea_cons hb ea_nil)) (by show 2 ≤ 100000; decide))
  refine h.imp fun v H' _ ⟨p, h1, h2⟩ => ⟨p, h1, ?_⟩
  rw [h2, frO, hn, hd]
theorem ev_ix0 (h : EvP te σ H (IsF r)) : Ev (tOp (rIxT K) te (tC (.int 0))) σ H (.int r.num) := ev_op1 h ev_c IsF.mono fun x H1 _ ⟨p, e, hp⟩ => by
  subst e
  exact rv_ixT (IsF.sq hp) rfl
theorem ev_ix1 (h : EvP te σ H (IsF r)) : Ev (tOp (rIxT K) te (tC (.int 1))) σ H (.int (r.den : Int)) := ev_op1 h ev_c IsF.mono fun x H1 _ ⟨p, e, hp⟩ => by
  subst e
  exact rv_ixT (IsF.sq hp) rfl
theorem dpF (h : H p = some (frO r)) : Dp K H (.ref p) (.tuple [.int r.num, .int (r.den : Int)]) := .tup (IsF.sq h) (.cons (.int _) (.cons (.int _) .nil))
theorem eqvF (r r' : Rat) : PyData.eqv (.tuple [.int r.num, .int (r.den : Int)]) (.tuple [.int r'.num, .int (r'.den : Int)]) = decide (r = r') := by
  rw [PyData.eqv, PyData.eqvAll, PyData.eqvAll, PyData.eqvAll, PyData.eqv, PyData.eqv, Bool.and_true]
  by_cases e : r = r'
  · subst e
    simp
  · rw [decide_eq_false e]
    by_cases e1 : r.num = r'.num
    · have e2 : (r.den : Int) ≠ r'.den := fun e2 => e (Rat.ext e1 (by omega))
      simp [beq_eq_false_iff_ne.mpr e2]
    · simp [beq_eq_false_iff_ne.mpr e1]
theorem shF (r : Rat) : SeqAt.shaped (.tuple [.int r.num, .int (r.den : Int)]) = true := rfl
theorem ev_eqF (ha : EvP ta σ H (IsF r)) (hb : EvP tb σ H (IsF r')) : Ev (tOp (rEqD K) ta tb) σ H (.bl (decide (r = r'))) := ev_op2 ha IsF.mono hb fun x y H1 _ ⟨p, e, hp⟩ ⟨q, e', hq⟩ => by
  subst e e'
  refine fun H2 e2 Q k => ⟨_, _, dpF (e2 _ _ hp), dpF (e2 _ _ hq), shF r, shF r', ?_⟩
  rw [eqvF]
  exact k H2 (Ex.refl _)
theorem ev_neF (ha : EvP ta σ H (IsF r)) (hb : EvP tb σ H (IsF r')) : Ev (tOp (rNeD K) ta tb) σ H (.bl (!decide (r = r'))) := ev_op2 ha IsF.mono hb fun x y H1 _ ⟨p, e, hp⟩ ⟨q, e', hq⟩ => by
  subst e e'
  refine fun H2 e2 Q k => ⟨_, _, dpF (e2 _ _ hp), dpF (e2 _ _ hq), shF r, shF r', ?_⟩
  rw [eqvF]
  exact k H2 (Ex.refl _)
/-! ### a def of two pairs: to a pair; to a truth value -/
def spF2 (ok : Rat → Rat → Prop) (f : Rat → Rat → Rat) : Sp := fun vs H Q _ => ∃ (a b : Addr) (x y : Rat), vs = [.ref a, .ref b] ∧ H a = some (frO x) ∧ H b = some (frO y) ∧ ok x y ∧ ∀ H' p, Ex H H' → H' p = some (frO (f x y)) → Q (.ref p) H'
def spB2 (ok : Rat → Rat → Prop) (f : Rat → Rat → Bool) : Sp := fun vs H Q _ => ∃ (a b : Addr) (x y : Rat), vs = [.ref a, .ref b] ∧ H a = some (frO x) ∧ H b = some (frO y) ∧ ok x y ∧ Q (.bl (f x y)) H
def spI2F (ok : Int → Int → Prop) (f : Int → Int → Rat) : Sp := fun vs H Q _ => ∃ (i j : Int), vs = [.int i, .int j] ∧ ok i j ∧ ∀ H' p, Ex H H' → H' p = some (frO (f i j)) → Q (.ref p) H'
theorem evF_call {ok : Rat → Rat → Prop} {f : Rat → Rat → Rat} {E : XK} (ha : EvP ta σ H (IsF r)) (hb : EvP tb σ H (IsF r')) (hk : ok r r') : EvP (tCall (spF2 ok f) [] E (tCons ta (tCons tb tNil))) σ H (IsF (f r r')) := fun H1 e Q q =>
  ha H1 e _ fun x H2 e2 ⟨p, h1, h2⟩ => hb H2 (e.trans e2) _ fun y H3 e3 ⟨p', h1', h2'⟩ => by
    subst h1 h1'
    exact ⟨p, p', r, r', rfl, e3 _ _ h2, h2', hk, fun H4 z e4 hz => q _ H4 (e2.trans (e3.trans e4)) ⟨z, rfl, hz⟩⟩
theorem ev_callB {ok : Rat → Rat → Prop} {f : Rat → Rat → Bool} {E : XK} (ha : EvP ta σ H (IsF r)) (hb : EvP tb σ H (IsF r')) (hk : ok r r') : Ev (tCall (spB2 ok f) [] E (tCons ta (tCons tb tNil))) σ H (.bl (f r r')) := fun H1 e Q q =>
  ha H1 e _ fun x H2 e2 ⟨p, h1, h2⟩ => hb H2 (e.trans e2) _ fun y H3 e3 ⟨p', h1', h2'⟩ => by
    subst h1 h1'
    exact ⟨p, p', r, r', rfl, e3 _ _ h2, h2', hk, q H3 (e2.trans e3)⟩
theorem evF_callI {ok : Int → Int → Prop} {f : Int → Int → Rat} {E : XK} {i j : Int} (ha : Ev ta σ H (.int i)) (hb : Ev tb σ H (.int j)) (hk : ok i j) : EvP (tCall (spI2F ok f) [] E (tCons ta (tCons tb tNil))) σ H (IsF (f i j)) := fun H1 e Q q =>
  ha H1 e _ fun H2 e2 => hb H2 (e.trans e2) _ fun H3 e3 => ⟨i, j, rfl, hk, fun H4 z e4 hz => q _ H4 (e2.trans (e3.trans e4)) ⟨z, rfl, hz⟩⟩
theorem EvP.cast {s s' : Rat} (h : EvP te σ H (IsF s)) (e : s = s') : EvP te σ H (IsF s') := e ▸ h
end
/-! ### floor division by a great divisor of any sign -/
section
variable {X : Cx}
def CDivS (_ j : Int) : Prop := j ≠ 0 ∧ j.natAbs.log2 < 9000
theorem op_fdivWN : OpR X (binaryOp .FloorDiv) (rI CDivS fun i j => .int (i.fdiv j)) := opI fun i j _ _ _ _ _ hc q => floordiv_int hc.1 q (.inl (PyProof.noPylong_of_log2 hc.2))
theorem cdivS {i j : Int} {b : Nat} (h : j ≠ 0) (hb : j.natAbs < 2 ^ b) (h0 : 0 < b) (h9 : b ≤ 9000) : CDivS i j := ⟨h, Nat.lt_of_lt_of_le (PySem.Flt.log2_lt_of h0 hb) h9⟩
end
end Fx
/-! ### list.count over truth values; a tuple times 1 -/
namespace Fx
open PySem PySem.Spec PyProof.Rows L2
def eqb (k : Bool) (v : Value) : Bool := match v with
  | .bool b => b == k
  | _ => false
theorem vals_bl : ∀ {bs : List Bool} {us : List Value}, Vals (bs.map V.bl) us → us = bs.map Value.bool
  | [], _, h => by
    cases h
    rfl
  | b :: r, _, h => by
    cases h with
    | cons a t =>
      have e := vals_bl t
      rw [e, show _ = Value.bool b from a]
      rfl
theorem eqb_count (k : Bool) : ∀ bs : List Bool, (bs.map Value.bool).countP (eqb k) = bs.count k
  | [] => rfl
  | b :: r => by
    rw [List.map_cons, List.countP_cons, List.count_cons, eqb_count k r] <;> rfl
section
variable {X : Cx}
def rCntB (K : PySem.W.Frag) : V → List V → Hp → VK → Prop := fun x xs H Q => ∃ (p : Addr) (bs : List Bool) (k : Bool), x = .ref p ∧ xs = [.bl k] ∧ SqL K H p (bs.map V.bl) ∧ Q (.int (bs.count k : Nat)) H
theorem mt_countB : MtR X "list.count" (rCntB X.K) := by
  intro pins s σ H x xs v us Q I rx rxs h
  obtain ⟨p, bs, k, rfl, rfl, hs, q⟩ := h
  cases rx
  obtain ⟨u, rfl, ru⟩ := rxs.one
  cases (show u = Value.bool k from ru)
  obtain ⟨its, rv, ⟨⟨cls, dd, data, sl⟩, n, ho, hc, hdn, hd⟩, hlen⟩ := I.list hs
  simp only at hc hd
  subst hc hd
  have ei := vals_bl rv
  subst ei
  refine call_meets PySem.F.slot_list_count ⟨_, ho, rfl⟩ PySem.F.entry_list_count (PySem.F.args_list_count_2 _ _)
    (SeqAt.list_countAt p (bs.map Value.bool).toArray n dd sl (.bool k) (eqb k)) ⟨ho, fun y hy => ?_, ?_⟩
  · obtain ⟨b, _, e⟩ := List.mem_map.mp (show y ∈ bs.map Value.bool by simpa using hy)
    subst e
    exact SeqAt.EqAt.bool_bool b k
  · have ec : (bs.map Value.bool).toArray.toList.countP (eqb k) = bs.count k := eqb_count k bs
    refine ⟨.int (bs.count k : Nat), H, I.tok _, ⟨s.toks, ?_⟩, q⟩
    show Value.int (((bs.map Value.bool).toArray.toList.countP (eqb k) : Nat) : Int) s.toks = Value.int ((bs.count k : Nat) : Int) s.toks
    rw [ec]
end
theorem tuple_mul1 (l : Addr) (items : Array Value) (n : Nat) (dd : Option Addr) (sl : Array (Option Value)) (x : Int) (u : Tok) (c0 : (decide (x < -(2 ^ 63)) || decide (x ≥ 2 ^ 63)) = false) (c1 : (items.isEmpty || x == 1) = true) :
    Meets (Builtin.«tuple.__mul__» ⟨[.ref l, .int x u], []⟩) (fun _ R s => s.heap.get? l = some { cls := .type "tuple", dict := dd, data := .seq items n, slots := sl } ∧
      R (.ok (.ret (Value.ref l))) s) :=
  .of_wp fun prog w A R s h => by
    obtain ⟨hp, g, d, tk, os⟩ := s
    obtain ⟨hl, h⟩ := h
    have f1 := AutoSeq1.idx_int
    wp_walk using wpAny_loadPart' hl
    repeat (first
      | (refine wpAny_ite_false (decide_eq_false (by rw [c0]; exact Bool.false_ne_true)) ?_; wp_walk using wpAny_loadPart' hl)
      | (refine wpAny_ite_true (decide_eq_true c1) ?_; wp_walk using wpAny_loadPart' hl))
    exact ⟨_, rfl, h⟩
def rRepT1 (K : PySem.W.Frag) : R2 := fun x y H Q => ∃ l xs, x = .ref l ∧ y = .int 1 ∧ SqT K H l xs ∧ Q (.ref l) H
section
variable {X : Cx}
theorem op_repT1 : OpR X (binaryOp .Mult) (rRepT1 X.K) := by
  intro pins s σ H x y v u Q I rx ry h
  obtain ⟨l, xs, rfl, rfl, hT, q⟩ := h
  cases rx
  obtain ⟨t, rfl⟩ := ry
  obtain ⟨its, r, ⟨⟨cls, dd, data, sl⟩, ho, hc, n, hd⟩, hs⟩ := I.tuple hT
  simp only at hc hd
  subst hc hd
  have c0 : (decide ((1 : Int) < -(2 ^ 63)) || decide ((1 : Int) ≥ 2 ^ 63)) = false := by decide
  have c1 : (its.toArray.isEmpty || (1 : Int) == 1) = true := by simp
  refine wpAny_binaryOp_repeat_ref (T := "tuple") (U := "int") (by decide) ⟨_, ho, rfl⟩ (fun s' => typeIs_int s' 1 t) noFill_tuple_mul F.fills_int_mul F.slot_int_rmul repeat_tuple F.slot_int_index.lookup
    (call_meets F.slot_int_rmul (typeIs_int s 1 t) F.entry_int_rmul (F.args_int_rmul_2 _ _) (int_rmul_tuple 1 t l its.toArray n dd sl)
      ⟨ho, rfl, ⟨_, ho, rfl⟩, call_meets F.slot_tuple_mul ⟨_, ho, rfl⟩ F.entry_tuple_mul (F.args_tuple_mul_2 _ _) (tuple_mul1 l its.toArray n dd sl 1 t c0 c1) ⟨ho, ?_⟩⟩)
  exact ⟨.ref l, H, I, rfl, q⟩
end
end Fx
/-! ### more evaluations -/
namespace Fx
open PySem PySem.Spec PyProof.Rows L2 Evl Fr
section
variable {te ta tb tl : TE} {t : TT} {σ : L2.St} {H : Hp} {K : PySem.W.Frag} {v x y z : V}
theorem ev_neB {a b : Bool} (ha : Ev ta σ H (.bl a)) (hb : Ev tb σ H (.bl b)) : Ev (tOp rNe ta tb) σ H (.bl (!decide (a = b))) := by
  have h := ev_op (z := .bl (!decide (V.bl a = V.bl b))) ha hb (rv_ne rfl)
  have e : decide (V.bl a = V.bl b) = decide (a = b) := decide_eq_decide.mpr ⟨fun h => V.bl.inj h, fun h => by rw [h]⟩
  rw [e] at h
  exact h
theorem ev_neI {a b : Int} (ha : Ev ta σ H (.int a)) (hb : Ev tb σ H (.int b)) : Ev (tOp rNe ta tb) σ H (.bl (!decide (a = b))) := by
  have h := ev_op (z := .bl (!decide (V.int a = V.int b))) ha hb (rv_ne rfl)
  have e : decide (V.int a = V.int b) = decide (a = b) := decide_eq_decide.mpr ⟨fun h => V.int.inj h, fun h => by rw [h]⟩
  rw [e] at h
  exact h
theorem ev_eqI {a b : Int} (ha : Ev ta σ H (.int a)) (hb : Ev tb σ H (.int b)) : Ev (tOp rEq ta tb) σ H (.bl (decide (a = b))) := by
  have h := ev_op (z := .bl (decide (V.int a = V.int b))) ha hb (rv_eq rfl)
  have e : decide (V.int a = V.int b) = decide (a = b) := decide_eq_decide.mpr ⟨fun h => V.int.inj h, fun h => by rw [h]⟩
  rw [e] at h
  exact h
theorem ev_countB {bs : List Bool} {k : Bool} (h : EvL ta σ H (bs.map V.bl)) : Ev (tBM K "list" (rCntB K) ta (tCons (tC (.bl k)) tNil)) σ H (.int (bs.count k : Nat)) := fun H1 e Q q =>
  h H1 e _ fun p H2 _ e2 hp => ⟨.inl ⟨rfl, _, sq_of hp⟩, p, bs, k, rfl, rfl, sq_of hp, q H2 e2⟩
/-- a comprehension over a new tuple of which no item passes the test -/
theorem el_lcTno {Pe : VP} {j : Nat} {vs : List Nat} (mP : Mono Pe) (h : EvP tl σ H (fun v H' => ∃ p ps, v = .ref p ∧ H' p = some (.tup ps) ∧ ∀ x ∈ ps, Pe x H')) (hw : ∀ x, wipe ((wipe σ vs).set j (some x)) vs = wipe σ vs)
    (hno : ∀ x H1, Ex H H1 → Pe x H1 → EvT t ((wipe σ vs).set j (some x)) H1 false) : EvL (tLc (iTup K tl) (gName j) t te vs) σ H [] := fun H0 e Q q => h H0 e _ fun v H1 e1 ⟨p, ps, ev, hp, hel⟩ => by
  subst ev
  exact ⟨p, rfl, ⟨ps, st_of hp⟩, fun Dl hD => lc_tup (xs := ps) (fun i H' => Ex H1 H' ∧ H' Dl = some (.lst [])) ⟨Ex.new hD, upd_same⟩ (fun i H' _ w => st_of (w.1 p _ hp))
    (fun i x H' hi w => ⟨hw x, hno x H' (e.trans (e1.trans w.1)) (mP _ _ _ w.1 (hel x (List.mem_of_getElem? hi))) H' (Ex.refl _) _ fun H3 e3 => iteF ⟨w.1.trans e3, e3 _ _ w.2⟩⟩) (fun H' w => q Dl H' (fresh_back e1 hD) (e1.trans w.1) w.2)⟩
theorem evp_tup3 {P : VP} (mP : Mono P) (ha : EvP ta σ H P) (hb : EvP tb σ H P) (hc : EvP tl σ H P) : EvP (tTup (tCons ta (tCons tb (tCons tl tNil)))) σ H (fun v H' => ∃ p ps, v = .ref p ∧ H' p = some (.tup ps) ∧ ∀ x ∈ ps, P x H') := fun H1 e Q q =>
  ha H1 e _ fun x H2 e2 p2 => hb H2 (e.trans e2) _ fun y H3 e3 p3 => hc H3 (e.trans (e2.trans e3)) _ fun z H4 e4 p4 => ⟨by show 3 ≤ sizeLine; decide, fun p hp => by
    have n := Ex.new (o := .tup [x, y, z]) hp
    refine q _ _ (e2.trans (e3.trans (e4.trans n))) ⟨p, _, rfl, upd_same, fun u hu => ?_⟩
    simp only [List.mem_cons, List.not_mem_nil, or_false] at hu
    rcases hu with rfl | rfl | rfl
    · exact mP _ _ _ (e3.trans (e4.trans n)) p2
    · exact mP _ _ _ (e4.trans n) p3
    · exact mP _ _ _ n p4⟩
theorem ev_neL0 (ha : EvL ta σ H []) (hb : EvL tb σ H []) : Ev (tOp (rNeD K) ta tb) σ H (.bl false) := ev_opLL ha hb fun p q H1 hp hq e => fun H2 e2 Q k =>
  ⟨.list [], .list [], .lst (sq_of (e2 _ _ hp)) .nil, .lst (sq_of (e2 _ _ hq)) .nil, rfl, rfl, k H2 (Ex.refl _)⟩
theorem IsF.ofP {te : TE} {r : Rat} (h : EvP te σ H (IsF r)) : EvP te σ H (fun v H' => ∃ s : Rat, IsF s v H') := h.imp fun _ _ _ p => ⟨r, p⟩
theorem IsF.monoE : Mono (fun v H' => ∃ s : Rat, IsF s v H') := fun _ _ _ e ⟨s, p⟩ => ⟨s, IsF.mono _ _ _ e p⟩
end
/-! ### the mathematics of the rules of reckoning -/
theorem bd0 : Bd 1 (0 : Rat) := ⟨by decide, by decide⟩
theorem bd1 : Bd 1 (1 : Rat) := ⟨by decide, by decide⟩
theorem num_pos {z : Rat} : (0 < z.num) ↔ 0 < z := by
  rw [Rat.lt_iff]
  simp
theorem num_neg {z : Rat} : (z.num < 0) ↔ z < 0 := by
  rw [Rat.lt_iff]
  simp
theorem dd {p q : Prop} [Decidable p] [Decidable q] (h : p ↔ q) : (decide p = decide q) := decide_eq_decide.mpr h
theorem nf {b : Bool} (h : b = true) : (!b) = false := by rw [h]; rfl
theorem lt_add (x y z : Rat) : x < y ↔ x + z < y + z := by grind
theorem lt_mul {x y z : Rat} (h : 0 < z) : x < y ↔ x * z < y * z := (Rat.mul_lt_mul_right h).symm
theorem lt_mul_neg {x y z : Rat} (h : z < 0) : x < y ↔ y * z < x * z := by
  have h' : 0 < -z := by grind
  have k := Rat.mul_lt_mul_right (a := x) (b := y) h'
  rw [← k]
  grind
end Fx
/-! ### the reader of the draws -/
namespace Fx
open PySem PySem.Spec PyProof.Rows L2 Evl
def rdK (l : Addr) (spot rest calls : Int) : List (Key × V) := [(.inr "cells", .ref l), (.inr "spot", .int spot), (.inr "rest", .int rest), (.inr "calls", .int calls)]
theorem n1 : ¬ ((Sum.inr "cells" : Key) = (Sum.inr "spot" : Key)) := by decide +kernel
theorem n2 : ¬ ((Sum.inr "cells" : Key) = (Sum.inr "rest" : Key)) := by decide +kernel
theorem n3 : ¬ ((Sum.inr "cells" : Key) = (Sum.inr "calls" : Key)) := by decide +kernel
theorem n4 : ¬ ((Sum.inr "spot" : Key) = (Sum.inr "rest" : Key)) := by decide +kernel
theorem n5 : ¬ ((Sum.inr "spot" : Key) = (Sum.inr "calls" : Key)) := by decide +kernel
theorem n6 : ¬ ((Sum.inr "rest" : Key) = (Sum.inr "calls" : Key)) := by decide +kernel
theorem n4' : ¬ ((Sum.inr "rest" : Key) = (Sum.inr "spot" : Key)) := by decide +kernel
theorem n5' : ¬ ((Sum.inr "calls" : Key) = (Sum.inr "spot" : Key)) := by decide +kernel
theorem n6' : ¬ ((Sum.inr "calls" : Key) = (Sum.inr "rest" : Key)) := by decide +kernel
section
variable {l : Addr} {s r c z : Int}
theorem val_cells : valV (rdK l s r c) (.inr "cells") = some (.ref l) := valV_pos rfl
theorem val_spot : valV (rdK l s r c) (.inr "spot") = some (.int s) := (valV_neg n1).trans (valV_pos rfl)
theorem val_rest : valV (rdK l s r c) (.inr "rest") = some (.int r) := (valV_neg n2).trans ((valV_neg n4).trans (valV_pos rfl))
theorem val_calls : valV (rdK l s r c) (.inr "calls") = some (.int c) := (valV_neg n3).trans ((valV_neg n5).trans ((valV_neg n6).trans (valV_pos rfl)))
theorem put_spot : putK (rdK l s r c) (.inr "spot") (.int z) = rdK l z r c := by
  unfold putK
  rw [if_pos (by rw [valV_any, val_spot]; rfl)]
  show [(if _ then _ else _), (if _ then _ else _), (if _ then _ else _), (if _ then _ else _)] = rdK l z r c
  rw [if_neg n1, if_pos rfl, if_neg n4', if_neg n5']
  rfl
theorem put_rest : putK (rdK l s r c) (.inr "rest") (.int z) = rdK l s z c := by
  unfold putK
  rw [if_pos (by rw [valV_any, val_rest]; rfl)]
  show [(if _ then _ else _), (if _ then _ else _), (if _ then _ else _), (if _ then _ else _)] = rdK l s z c
  rw [if_neg n2, if_neg n4, if_pos rfl, if_neg n6']
  rfl
theorem put_calls : putK (rdK l s r c) (.inr "calls") (.int z) = rdK l s r z := by
  unfold putK
  rw [if_pos (by rw [valV_any, val_calls]; rfl)]
  show [(if _ then _ else _), (if _ then _ else _), (if _ then _ else _), (if _ then _ else _)] = rdK l s r z
  rw [if_neg n3, if_neg n5, if_neg n6, if_pos rfl]
  rfl
end
section
variable {H : Hp} {d l : Addr} {s r c z : Int}
theorem get_cells (h : H d = some (.dK (rdK l s r c))) : DGet H d (.str "cells") (some (.ref l)) := by
  rw [← val_cells (l := l) (s := s) (r := r) (c := c)]
  exact DGet.k (k := .inr "cells") h
theorem get_spot (h : H d = some (.dK (rdK l s r c))) : DGet H d (.str "spot") (some (.int s)) := by
  rw [← val_spot (l := l) (s := s) (r := r) (c := c)]
  exact DGet.k (k := .inr "spot") h
theorem get_rest (h : H d = some (.dK (rdK l s r c))) : DGet H d (.str "rest") (some (.int r)) := by
  rw [← val_rest (l := l) (s := s) (r := r) (c := c)]
  exact DGet.k (k := .inr "rest") h
theorem get_calls (h : H d = some (.dK (rdK l s r c))) : DGet H d (.str "calls") (some (.int c)) := by
  rw [← val_calls (l := l) (s := s) (r := r) (c := c)]
  exact DGet.k (k := .inr "calls") h
theorem rd_len : (rdK l s r c).length < sizeLine := by show 4 < sizeLine; decide
theorem dput_spot : DPut (upd H d (.dK (rdK l s r c))) d (.str "spot") (.int z) (upd H d (.dK (rdK l z r c))) := by
  have h := DPut.k (H := upd H d (.dK (rdK l s r c))) (a := d) (k := .inr "spot") (v := .int z) upd_same rd_len
  rw [put_spot, upd_upd] at h
  exact h
theorem dput_rest : DPut (upd H d (.dK (rdK l s r c))) d (.str "rest") (.int z) (upd H d (.dK (rdK l s z c))) := by
  have h := DPut.k (H := upd H d (.dK (rdK l s r c))) (a := d) (k := .inr "rest") (v := .int z) upd_same rd_len
  rw [put_rest, upd_upd] at h
  exact h
theorem dput_calls (h : H d = some (.dK (rdK l s r c))) : DPut H d (.str "calls") (.int z) (upd H d (.dK (rdK l s r z))) := by
  have h := DPut.k (k := .inr "calls") (v := .int z) h rd_len
  rw [put_calls] at h
  exact h
end
/-- the reader at d, its cells at l, after at most n draws -/
def RdAt (H : Hp) (d l : Addr) (n : Nat) : Prop := ∃ (ns : List Int) (s r c : Int), H d = some (.dK (rdK l s r c)) ∧ H l = some (.lst (ns.map V.int)) ∧ ns.length ≤ 63 ∧ 0 ≤ s ∧ 0 ≤ c ∧ c ≤ n
/-- all but what stands at d is as it was -/
def Kp (d : Addr) (H H' : Hp) : Prop := ∀ b o, H b = some o → b ≠ d → H' b = some o
theorem Kp.refl (d : Addr) (H : Hp) : Kp d H H := fun _ _ h _ => h
theorem Kp.trans {d : Addr} {H H1 H2 : Hp} (a : Kp d H H1) (b : Kp d H1 H2) : Kp d H H2 := fun x o h n => b x o (a x o h n) n
theorem Kp.ex {d : Addr} {H H1 : Hp} (e : Ex H H1) : Kp d H H1 := fun x o h _ => e x o h
theorem Kp.upd {d : Addr} {H : Hp} {o : HO} : Kp d H (upd H d o) := fun b u h n => by
  rw [upd_ne n]
  exact h
/-- what H does not know may change -/
theorem Kp.mut {d p : Addr} {H H1 : Hp} {o : HO} (k : Kp d H H1) (h : H p = none) : Kp d H (L2.upd H1 p o) := fun b u hb n => by
  rw [upd_ne (ne_of_none hb h)]
  exact k b u hb n
section
variable {H H' : Hp} {d l : Addr} {n m : Nat}
theorem RdAt.ex (h : RdAt H d l n) (e : Ex H H') : RdAt H' d l n := by
  obtain ⟨ns, s, r, c, h1, h2, h3⟩ := h
  exact ⟨ns, s, r, c, e _ _ h1, e _ _ h2, h3⟩
theorem RdAt.mono (h : RdAt H d l n) (e : n ≤ m) : RdAt H d l m := by
  obtain ⟨ns, s, r, c, h1, h2, h3, h4, h5, h6⟩ := h
  exact ⟨ns, s, r, c, h1, h2, h3, h4, h5, by omega⟩
theorem RdAt.is (h : RdAt H d l n) : ∃ kvs, H d = some (.dK kvs) := by
  obtain ⟨ns, s, r, c, h1, _⟩ := h
  exact ⟨_, h1⟩
theorem RdAt.isL (h : RdAt H d l n) : ∃ o, H l = some o := by
  obtain ⟨ns, s, r, c, _, h1, _⟩ := h
  exact ⟨_, h1⟩
theorem RdAt.upd (h : RdAt H d l n) {p : Addr} {o : HO} (h1 : p ≠ d) (h2 : p ≠ l) : RdAt (L2.upd H p o) d l n := by
  obtain ⟨ns, s, r, c, q1, q2, q3⟩ := h
  exact ⟨ns, s, r, c, by rw [upd_ne h1.symm]; exact q1, by rw [upd_ne h2.symm]; exact q2, q3⟩
theorem RdAt.neT (h : RdAt H d l n) {a : Addr} {xs : List V} (ha : H a = some (.tup xs)) : a ≠ d := by
  obtain ⟨kvs, h1⟩ := h.is
  exact ne_of ha h1 (by intro z; cases z)
theorem RdAt.neL (h : RdAt H d l n) {a : Addr} {xs : List V} (ha : H a = some (.lst xs)) : a ≠ d := by
  obtain ⟨kvs, h1⟩ := h.is
  exact ne_of ha h1 (by intro z; cases z)
theorem RdAt.neN (h : RdAt H d l n) {a : Addr} (ha : H a = none) : a ≠ l := by
  obtain ⟨o, h1⟩ := h.isL
  exact (ne_of_none h1 ha).symm
end
def spDraw : Sp := fun vs H Q _ => ∃ (d l : Addr) (many : Int) (n : Nat), vs = [.ref d, .int many] ∧ RdAt H d l n ∧ n ≤ 1000000 ∧ 0 < many ∧ many < 2 ^ 60 ∧ ∀ H' r, Kp d H H' → RdAt H' d l (n + 1) → 0 ≤ r → r < many → Q (.int r) H'
end Fx
/-! ### tuples of ints; comprehensions over range; draws in comprehensions -/
namespace Fx
open PySem PySem.Spec PyProof.Rows L2 Evl
def dot : List Int → List Int → Int
  | x :: xs, y :: ys => x * y + dot xs ys
  | _, _ => 0
theorem dot_add : ∀ xs ys zs : List Int, xs.length = ys.length → ys.length = zs.length → dot xs (List.zipWith (· + ·) ys zs) = dot xs ys + dot xs zs
  | [], _, _, _, _ => rfl
  | _ :: _, [], _, h, _ => nomatch h
  | _ :: _, _ :: _, [], _, h => nomatch h
  | x :: xs, y :: ys, z :: zs, h1, h2 => by
    have ih := dot_add xs ys zs (Nat.succ.inj h1) (Nat.succ.inj h2)
    show x * (y + z) + dot xs (List.zipWith (· + ·) ys zs) = (x * y + dot xs ys) + (x * z + dot xs zs)
    rw [ih]
    grind
theorem dot_sub : ∀ xs ys zs : List Int, xs.length = ys.length → ys.length = zs.length → dot (List.zipWith (· - ·) xs ys) zs = dot xs zs - dot ys zs
  | [], [], _, _, _ => by
    simp [dot]
  | [], _ :: _, _, h, _ => nomatch h
  | _ :: _, [], _, h, _ => nomatch h
  | _ :: _, _ :: _, [], _, h => nomatch h
  | x :: xs, y :: ys, z :: zs, h1, h2 => by
    have ih := dot_sub xs ys zs (Nat.succ.inj h1) (Nat.succ.inj h2)
    show (x - y) * z + dot (List.zipWith (· - ·) xs ys) zs = (x * z + dot xs zs) - (y * z + dot ys zs)
    rw [ih]
    grind
theorem dot_zero : ∀ (n : Nat) (ys : List Int), dot (List.replicate n 0) ys = 0
  | 0, _ => rfl
  | n + 1, [] => rfl
  | n + 1, y :: ys => by
    show 0 * y + dot (List.replicate n 0) ys = 0
    rw [dot_zero n ys]
    omega
theorem dot_one : ∀ (n : Nat) (ys : List Int), ys.length = n → dot (List.replicate n 1) ys = ys.sum
  | 0, [], _ => rfl
  | 0, _ :: _, h => nomatch h
  | n + 1, [], h => nomatch h
  | n + 1, y :: ys, h => by
    show 1 * y + dot (List.replicate n 1) ys = (y :: ys).sum
    rw [dot_one n ys (Nat.succ.inj h), List.sum_cons]
    omega
theorem dot_app : ∀ xs xs' ys ys' : List Int, xs.length = ys.length → dot (xs ++ xs') (ys ++ ys') = dot xs ys + dot xs' ys'
  | [], _, [], _, _ => by
    simp [dot]
  | [], _, _ :: _, _, h => nomatch h
  | _ :: _, _, [], _, h => nomatch h
  | x :: xs, xs', y :: ys, ys', h => by
    have ih := dot_app xs xs' ys ys' (Nat.succ.inj h)
    show x * y + dot (xs ++ xs') (ys ++ ys') = (x * y + dot xs ys) + dot xs' ys'
    rw [ih]
    omega
theorem dot_sum : ∀ xs ys : List Int, (List.zipWith (· * ·) xs ys).sum = dot xs ys
  | [], _ => by simp [dot]
  | _ :: _, [] => by simp [dot]
  | x :: xs, y :: ys => by
    show (x * y :: List.zipWith (· * ·) xs ys).sum = x * y + dot xs ys
    rw [List.sum_cons, dot_sum xs ys]
theorem range_zip (f : Int → Int → Int) {m : Nat} {xs ys : List Int} (h1 : xs.length = m) (h2 : ys.length = m) : (List.range m).map (fun i => V.int (f (xs.getD i 0) (ys.getD i 0))) = (List.zipWith f xs ys).map V.int := by
  refine List.ext_getElem ?_ fun i g1 g2 => ?_
  · rw [List.length_map, List.length_range, List.length_map, List.length_zipWith, h1, h2, Nat.min_self]
  · rw [List.length_map, List.length_range] at g1
    have a1 : i < xs.length := by omega
    have a2 : i < ys.length := by omega
    rw [List.getElem_map, List.getElem_map, List.getElem_range, List.getElem_zipWith, List.getD_eq_getElem?_getD, List.getD_eq_getElem?_getD, List.getElem?_eq_getElem a1, List.getElem?_eq_getElem a2]
    rfl
theorem given_all (n : Nat) (v : Nat → V) : given n (fun _ => true) v = (List.range n).map v := by
  unfold given
  rw [List.filter_eq_self.mpr (fun _ _ => rfl)]
def rTupOf (K : PySem.W.Frag) : List V → Hp → VK → Prop := fun xs H Q => ∃ p ys, xs = [.ref p] ∧ ((SqL K H p ys ∧ ∀ l, H l = none → Q (.ref l) (upd H l (.tup ys))) ∨ (SqT K H p ys ∧ Q (.ref p) H))
theorem call_tupleOf {X : Cx} : CallR X (.type "tuple") (rTupOf X.K) := call_tuple_of
/-- a tuple of ints -/
def IsT (xs : List Int) : VP := fun v H => ∃ p, v = .ref p ∧ H p = some (.tup (xs.map V.int))
theorem IsT.mono {xs : List Int} : Mono (IsT xs) := fun _ _ _ e ⟨p, h1, h2⟩ => ⟨p, h1, e p _ h2⟩
/-- the bound of what is multiplied -/
def Sm (xs : List Int) : Prop := ∀ x ∈ xs, x.natAbs < 2 ^ 400
def spTot : Sp := fun vs H Q _ => ∃ (a b : Addr) (xs ys : List Int), vs = [.ref a, .ref b] ∧ H a = some (.tup (xs.map V.int)) ∧ H b = some (.tup (ys.map V.int)) ∧ xs.length = ys.length ∧ xs.length ≤ 1000 ∧ Sm xs ∧ Sm ys ∧ ∀ H', Ex H H' → Q (.int (dot xs ys)) H'
section
variable {te ta tb tl : TE} {σ : L2.St} {H : Hp} {K : PySem.W.Frag} {v x y z : V} {xs ys : List Int}
theorem evT_var {i : Nat} {p : Addr} (h : σ[i]? = some (some (.ref p))) (hp : H p = some (.tup (xs.map V.int))) : EvP (tVar i) σ H (IsT xs) := fun H1 e Q q => ⟨.ref p, h, q _ H1 (Ex.refl _) ⟨p, rfl, e p _ hp⟩⟩
theorem ev_tot {E : XK} (ha : EvP ta σ H (IsT xs)) (hb : EvP tb σ H (IsT ys)) (hl : xs.length = ys.length) (h1 : xs.length ≤ 1000) (sx : Sm xs) (sy : Sm ys) : Ev (tCall spTot [] E (tCons ta (tCons tb tNil))) σ H (.int (dot xs ys)) := fun H1 e Q q =>
  ha H1 e _ fun x H2 e2 ⟨p, g1, g2⟩ => hb H2 (e.trans e2) _ fun y H3 e3 ⟨p', g1', g2'⟩ => by
    subst g1 g1'
    exact ⟨p, p', xs, ys, rfl, e3 _ _ g2, g2', hl, h1, sx, sy, fun H4 e4 => q H4 (e2.trans (e3.trans e4))⟩
theorem ev_ixT {i : Nat} (ha : EvP ta σ H (IsT xs)) (hb : Ev tb σ H (.int (i : Int))) (hi : i < xs.length) : Ev (tOp (rIxT K) ta tb) σ H (.int (xs.getD i 0)) := ev_op1 ha hb IsT.mono fun x H1 _ ⟨p, e, hp⟩ => by
  subst e
  refine rv_ixT (st_of hp) (atI_nat ?_)
  rw [List.getElem?_map, List.getElem?_eq_getElem hi, List.getD_eq_getElem?_getD, List.getElem?_eq_getElem hi]
  rfl
/-- tuple([..]) -/
theorem evT_of (h : EvL ta σ H (xs.map V.int)) : EvP (tCB (rTupOf K) (tCons ta tNil)) σ H (IsT xs) := fun H1 e Q q =>
  h H1 e _ fun p H2 _ e2 hp => ⟨p, _, rfl, .inl ⟨sq_of hp, fun l hl => q _ _ (e2.trans (Ex.new hl)) ⟨l, rfl, upd_same⟩⟩⟩
theorem evT_rep {n : Int} {m : Nat} (hm : 1 ≤ m) (hm2 : m ≤ 1000) (hb : Ev tb σ H (.int (m : Int))) : EvP (tOp (fun x y H Q => rRepT K x y H Q ∨ rRepT1 K x y H Q) (tTup (tCons (tC (.int n)) tNil)) tb) σ H (IsT (List.replicate m n)) := fun H1 e Q q =>
  (EvP.ofU (eu_tup (ea_cons ev_c ea_nil) (by show 1 ≤ 100000; decide))) H1 e _ fun x H2 e2 ⟨p, ex, hp⟩ => by
    subst ex
    refine hb H2 (e.trans e2) _ fun H3 e3 => ?_
    by_cases h : m = 1
    · subst h
      exact .inr ⟨p, _, rfl, rfl, st_of (e3 _ _ hp), q _ _ (e2.trans e3) ⟨p, rfl, e3 _ _ hp⟩⟩
    · refine .inl ⟨p, (m : Int), _, rfl, rfl, st_of (e3 _ _ hp), (by intro z; cases z), by omega, by omega, by show 1 ≤ 1000; decide, fun l hl => q _ _ (e2.trans (e3.trans (Ex.new hl))) ⟨l, rfl, ?_⟩⟩
      rw [upd_same]
      congr 2
      have : ∀ k : Nat, (List.replicate k [V.int n]).flatten = (List.replicate k n).map V.int := fun k => by
        induction k with
        | zero => rfl
        | succ k ih =>
          rw [List.replicate_succ, List.flatten_cons, ih, List.replicate_succ, List.map_cons]
          rfl
      rw [Int.toNat_natCast]
      exact this m
theorem evT_cat (ha : EvP ta σ H (IsT xs)) (hb : EvP tb σ H (IsT ys)) (hx : xs ≠ []) (hy : ys ≠ []) (hl : xs.length + ys.length ≤ 1000) : EvP (tOp (rCatT K) ta tb) σ H (IsT (xs ++ ys)) := fun H1 e Q q =>
  ha H1 e _ fun x H2 e2 ⟨p, g1, g2⟩ => hb H2 (e.trans e2) _ fun y H3 e3 ⟨p', g1', g2'⟩ => by
    subst g1 g1'
    refine ⟨p, p', _, _, rfl, rfl, st_of (e3 _ _ g2), st_of g2', fun z => hx (List.map_eq_nil_iff.mp z), ?_, fun z => absurd (List.map_eq_nil_iff.mp z) hy, fun _ l hl => q _ _ (e2.trans (e3.trans (Ex.new hl))) ⟨l, rfl, ?_⟩⟩
    · rw [List.length_map, List.length_map]
      exact Nat.le_trans hl (by decide)
    · rw [upd_same, List.map_append]
end
/-! ### sum of a tuple -/
section
variable {X : Cx}
def rSumT (K : PySem.W.Frag) : List V → Hp → VK → Prop := fun vs H Q => ∃ (a : Addr) (ns : List Int), vs = [V.ref a] ∧ SqT K H a (ns.map V.int) ∧ Q (.int ns.sum) H
theorem cr_sumT (hc : X.calm = true) : CallR X (.builtin "sum") (rSumT X.K) := by
  intro pins s σ H vs us Q I r h
  obtain ⟨a, ns, rfl, hs, q⟩ := h
  obtain ⟨its, rv, hl, _⟩ := I.tuple hs
  rw [Vals.ref1 r]
  have hi := rv.ints
  obtain ⟨xs, e⟩ := hi.allInts.items
  have hn : numsOf (intItems xs).toList = ns := by rw [← e]; exact hi.numsOf
  rw [nums_intItems] at hn
  have hl2 : s.heap.IsTuple a (intItems xs) := by rw [← e]; exact hl
  refine PySem.W.ktm_sumG (I.ok.hd hc) hl2 fun h' tk t' hk => ⟨.int _, H, I.kept hk, ⟨_, rfl⟩, ?_⟩
  rw [preSum_eq, List.take_of_length_le (by simp), hn]
  exact q
end
theorem ev_sumT {ta : TE} {σ : L2.St} {H : Hp} {K : PySem.W.Frag} {xs : List Int} (ha : EvP ta σ H (IsT xs)) : Ev (tCB (rSumT K) (tCons ta tNil)) σ H (.int xs.sum) := fun H1 e Q q =>
  ha H1 e _ fun x H2 e2 ⟨p, g1, g2⟩ => by
    subst g1
    exact ⟨p, xs, rfl, st_of g2, q _ e2⟩
/-! ### draws in comprehensions -/
def Drawn (te : TE) (σ : L2.St) (d l : Addr) (lo hi : Int) : Prop := ∀ H n, RdAt H d l n → n ≤ 900000 → ∀ Q : VK, (∀ H' v, Kp d H H' → RdAt H' d l (n + 1) → lo ≤ v → v ≤ hi → Q (.int v) H') → te σ H Q
theorem lc_drawn {ta : TA} {σ : L2.St} {H : Hp} {te : TE} {j m n : Nat} {vs : List Nat} {d l : Addr} {lo hi : Int} {Q : VK} (h : EvA ta σ H [.int (m : Int)]) (hm : m ≤ 1000) (hR : RdAt H d l n) (hn : n + m ≤ 900000)
    (hw : ∀ x, wipe ((wipe σ vs).set j (some x)) vs = wipe σ vs) (hd : ∀ x, Drawn te ((wipe σ vs).set j (some x)) d l lo hi)
    (q : ∀ D H' (js : List Int), H D = none → Kp d H H' → RdAt H' d l (n + m) → H' D = some (.lst (js.map V.int)) → js.length = m → (∀ v ∈ js, lo ≤ v ∧ v ≤ hi) → Q (.ref D) H') : tLc (iRng1 ta) (gName j) tYes te vs σ H Q := by
  refine h H (Ex.refl H) _ fun H1 e1 => ⟨(m : Int), rfl, by omega, by omega, fun Dl hD => ?_⟩
  have hD0 : H Dl = none := fresh_back e1 hD
  have hDl : Dl ≠ l := hR.neN hD0
  refine lc_range (lo := 0) (n := (m : Int).toNat) (fun i H' => Kp d H H' ∧ RdAt H' d l (n + i) ∧ ∃ js : List Int, H' Dl = some (.lst (js.map V.int)) ∧ js.length = i ∧ ∀ v ∈ js, lo ≤ v ∧ v ≤ hi) ?_ (fun i H' hi' p => ?_) (fun H' p => ?_)
  · exact ⟨(Kp.ex e1).mut hD0, (hR.ex e1).ex (Ex.new hD), [], upd_same, rfl, fun _ hv => nomatch hv⟩
  · obtain ⟨k1, R1, js, g1, g2, g3⟩ := p
    have nd : Dl ≠ d := R1.neL g1
    refine ⟨hw _, ?_⟩
    show te _ _ _
    refine hd _ H' (n + i) R1 (by omega) _ fun H2 v k2 R2 a1 a2 => ⟨js.map V.int, k2 _ _ g1 nd, ?_, (k1.trans k2).mut hD0, R2.upd nd hDl, js ++ [v], ?_, ?_, fun u hu => ?_⟩
    · rw [List.length_map]
      exact sz_lt (by omega)
    · rw [upd_same, List.map_append]
      rfl
    · rw [List.length_append, g2]
      rfl
    · rcases List.mem_append.mp hu with hu | hu
      · exact g3 u hu
      · rw [List.mem_singleton.mp hu]
        exact ⟨a1, a2⟩
  · obtain ⟨k1, R1, js, g1, g2, g3⟩ := p
    rw [Int.toNat_natCast] at R1 g2
    exact q Dl H' js hD0 k1 R1 g1 g2 g3
/-- tuple([.. for k in range(m)]) of draws, by an element's word -/
def DrawnT (te : TE) (σ : L2.St) (d l : Addr) (m : Nat) (lo hi : Int) : Prop := ∀ H n, RdAt H d l n → n ≤ 800000 → ∀ Q : VK, (∀ H' p (js : List Int), Kp d H H' → RdAt H' d l (n + m) → H' p = some (.tup (js.map V.int)) → js.length = m → (∀ v ∈ js, lo ≤ v ∧ v ≤ hi) → Q (.ref p) H') → te σ H Q
theorem drawnT_of {ta : TA} {σ : L2.St} {te : TE} {j m : Nat} {vs : List Nat} {d l : Addr} {lo hi : Int} (h : ∀ H, EvA ta σ H [.int (m : Int)]) (hm : m ≤ 1000)
    (hw : ∀ x, wipe ((wipe σ vs).set j (some x)) vs = wipe σ vs) (hd : ∀ x, Drawn te ((wipe σ vs).set j (some x)) d l lo hi) {K : PySem.W.Frag} :
    DrawnT (tCB (rTupOf K) (tCons (tLc (iRng1 ta) (gName j) tYes te vs) tNil)) σ d l m lo hi := fun H n hR hn Q q => by
  have z := lc_drawn (Q := fun v H1 => ∃ p ys, [v] = [V.ref p] ∧ ((SqL K H1 p ys ∧ ∀ l, H1 l = none → Q (.ref l) (upd H1 l (.tup ys))) ∨ (SqT K H1 p ys ∧ Q (.ref p) H1))) (h H) hm hR (by omega) hw hd fun D H' js hD k R g1 g2 g3 => ⟨D, _, rfl, .inl ⟨sq_of g1, fun t ht => q _ t js (k.trans (Kp.ex (Ex.new ht))) (R.ex (Ex.new ht)) upd_same g2 g3⟩⟩
  exact z
/-- a list of two such tuples -/
theorem lc_two {σ : L2.St} {H : Hp} {te : TE} {j m n : Nat} {vs : List Nat} {d l : Addr} {lo hi : Int} {Q : VK} (hm : m ≤ 1000) (hR : RdAt H d l n) (hn : n + 2 * m ≤ 700000)
    (hw : ∀ x, wipe ((wipe σ vs).set j (some x)) vs = wipe σ vs) (hd : ∀ x, DrawnT te ((wipe σ vs).set j (some x)) d l m lo hi)
    (q : ∀ D H' (p1 p2 : Addr) (xs ys : List Int), Kp d H H' → RdAt H' d l (n + 2 * m) → H' D = some (.lst [.ref p1, .ref p2]) → H' p1 = some (.tup (xs.map V.int)) → H' p2 = some (.tup (ys.map V.int)) → xs.length = m → ys.length = m →
      (∀ v ∈ xs, lo ≤ v ∧ v ≤ hi) → (∀ v ∈ ys, lo ≤ v ∧ v ≤ hi) → Q (.ref D) H') : tLc (iRng1 (tCons (tC (.int 2)) tNil)) (gName j) tYes te vs σ H Q := by
  refine ⟨2, rfl, by decide, by decide, fun Dl hD => ?_⟩
  have hDl : Dl ≠ l := hR.neN hD
  refine lc_range (lo := 0) (n := (2 : Int).toNat) (fun i H' => Kp d H H' ∧ RdAt H' d l (n + i * m) ∧ ∃ ps : List Addr, H' Dl = some (.lst (ps.map V.ref)) ∧ ps.length = i ∧ ∀ p ∈ ps, ∃ js : List Int, H' p = some (.tup (js.map V.int)) ∧ js.length = m ∧ ∀ v ∈ js, lo ≤ v ∧ v ≤ hi) ?_ (fun i H' hi' p => ?_) (fun H' p => ?_)
  · exact ⟨(Kp.refl d H).mut hD, by simpa using hR.ex (Ex.new hD), [], upd_same, rfl, fun _ hv => nomatch hv⟩
  · obtain ⟨k1, R1, ps, g1, g2, g3⟩ := p
    have nd : Dl ≠ d := R1.neL g1
    have hi2 : i < 2 := hi'
    have him : i * m ≤ 2 * m := Nat.mul_le_mul_right m (by omega)
    refine ⟨hw _, ?_⟩
    show te _ _ _
    refine hd _ H' (n + i * m) R1 (by omega) _ fun H2 p js k2 R2 f1 f2 f3 => ⟨ps.map V.ref, k2 _ _ g1 nd, ?_, (k1.trans k2).mut hD, ?_, ps ++ [p], ?_, ?_, fun u hu => ?_⟩
    · rw [List.length_map]
      exact sz_lt (by omega)
    · have := R2.upd (o := HO.lst (ps.map V.ref ++ [.ref p])) nd hDl
      rw [Nat.add_mul, Nat.one_mul, ← Nat.add_assoc]
      exact this
    · rw [upd_same, List.map_append]
      rfl
    · rw [List.length_append, g2]
      rfl
    · have keep : ∀ (a : Addr) (xs : List V), H2 a = some (.tup xs) → (upd H2 Dl (.lst (ps.map V.ref ++ [.ref p]))) a = some (.tup xs) := fun a xs ha => by
        rw [upd_ne (ne_of ha (k2 _ _ g1 nd) (by intro z; cases z))]
        exact ha
      rcases List.mem_append.mp hu with hu | hu
      · obtain ⟨js', z1, z2⟩ := g3 u hu
        exact ⟨js', keep u _ (k2 _ _ z1 (R1.neT z1)), z2⟩
      · rw [List.mem_singleton.mp hu]
        exact ⟨js, keep p _ f1, f2, f3⟩
  · obtain ⟨k1, R1, ps, g1, g2, g3⟩ := p
    have g2' : ps.length = 2 := g2
    match ps, g2' with
    | [p1, p2], _ =>
      obtain ⟨xs, x1, x2, x3⟩ := g3 p1 (by simp)
      obtain ⟨ys, y1, y2, y3⟩ := g3 p2 (by simp)
      exact q Dl H' p1 p2 xs ys k1 R1 g1 x1 y1 x2 y2 x3 y3
end Fx
/-! ### zip of two tuples in a comprehension; lists of one length -/
namespace Fx
open PySem PySem.Spec PyProof.Rows L2 Evl
theorem lc_zipT {K : PySem.W.Frag} {a b : Addr} {xs ys : List V} {g : TG} {tt : TT} {te : TE} {vs : List Nat} {σ : L2.St} {H1 : Hp} {D : Addr} {Qd : Hp → Prop} (hl : xs.length = ys.length) (Pv : Nat → Hp → Prop) (h0 : Pv 0 (upd H1 D (.lst []))) (hq : ∀ i H, Pv i H → SqT K H a xs ∧ SqT K H b ys)
    (hs : ∀ (i : Nat) (x y : V) (T : Addr) (H : Hp), xs[i]? = some x → ys[i]? = some y → Pv i H → H T = none → g (.ref T) (wipe σ vs) (upd H T (.tup [x, y])) fun σ2 H2 => wipe σ2 vs = wipe σ vs ∧ tt σ2 H2 fun b H3 =>
      if b = true then te σ2 H3 fun y H4 => ∃ acc, H4 D = some (.lst acc) ∧ acc.length < sizeLine ∧ Pv (i + 1) (upd H4 D (.lst (acc ++ [y]))) else Pv (i + 1) H3) (hd : ∀ H, Pv xs.length H → Qd H) :
    ∃ W : Nat → Nat → Hp → Prop, (∃ m, W 0 m (upd H1 D (.lst []))) ∧ ∀ i m H, W i m H →
      ((RZ.ItzT K a b).stop i H ∧ Qd H) ∨ ((RZ.ItzT K a b).go i H ∧ ∃ Nx : Hp → Prop, (∀ H', Nx H' → ∃ m', m' < m ∧ W (i + 1) m' H') ∧ ∀ x H', (RZ.ItzT K a b).yld i H x H' → g x (wipe σ vs) H' fun σ2 H2 => wipe σ2 vs = wipe σ vs ∧ tt σ2 H2 fun b H3 =>
        if b = true then te σ2 H3 fun y H4 => ∃ acc, H4 D = some (.lst acc) ∧ acc.length < sizeLine ∧ Nx (upd H4 D (.lst (acc ++ [y]))) else Nx H3) := by
  refine ⟨fun i m H => m = xs.length - i ∧ i ≤ xs.length ∧ Pv i H, ⟨xs.length, by simp, Nat.zero_le _, h0⟩, ?_⟩
  rintro i m H ⟨rfl, hi, p⟩
  obtain ⟨qx, qy⟩ := hq i H p
  by_cases hlt : i < xs.length
  · have hx : xs[i]? = some xs[i] := List.getElem?_eq_getElem hlt
    have hlt2 : i < ys.length := by omega
    have hy : ys[i]? = some ys[i] := List.getElem?_eq_getElem hlt2
    refine .inr ⟨⟨xs, ys, _, _, qx, qy, hx, hy⟩, Pv (i + 1), fun H' p' => ⟨xs.length - (i + 1), by omega, rfl, hlt, p'⟩, fun v H' y => ?_⟩
    obtain ⟨T, x', y', rfl, hT, rfl, f1, f2⟩ := y
    exact hs i x' y' T H (f1 xs qx) (f2 ys qy) p hT
  · have e : i = xs.length := by omega
    subst e
    exact .inl ⟨⟨xs, ys, qx, qy, Or.inl (Nat.le_refl _)⟩, hd H p⟩
def Lm (m : Nat) (xs : List Int) : Prop := xs.length = m ∧ Sm xs
theorem sm_of {xs : List Int} (h : ∀ v ∈ xs, -1000 ≤ v ∧ v ≤ 1000) : Sm xs := fun v hv => Nat.lt_of_lt_of_le (show v.natAbs < 2 ^ 10 by have := h v hv; omega) (Nat.pow_le_pow_right (by decide) (by decide))
theorem zw_mem {f : Int → Int → Int} : ∀ {xs ys : List Int} {v : Int}, v ∈ List.zipWith f xs ys → ∃ x y, x ∈ xs ∧ y ∈ ys ∧ v = f x y
  | [], _, _, h => by simp at h
  | _ :: _, [], _, h => by simp at h
  | x :: xs, y :: ys, v, h => by
    rcases List.mem_cons.mp (show v ∈ f x y :: List.zipWith f xs ys from h) with h | h
    · exact ⟨x, y, by simp, by simp, h⟩
    · obtain ⟨x', y', h1, h2, h3⟩ := zw_mem h
      exact ⟨x', y', List.mem_cons_of_mem _ h1, List.mem_cons_of_mem _ h2, h3⟩
theorem lm_zw {f : Int → Int → Int} {m : Nat} {xs ys : List Int} {a b : Int} (hf : ∀ x y, x ∈ xs → y ∈ ys → -1000 ≤ f x y ∧ f x y ≤ 1000) (h1 : xs.length = m) (h2 : ys.length = m) : Lm m (List.zipWith f xs ys) := by
  refine ⟨by rw [List.length_zipWith, h1, h2, Nat.min_self], sm_of fun v hv => ?_⟩
  obtain ⟨x, y, hx, hy, e⟩ := zw_mem hv
  rw [e]
  exact hf x y hx hy
theorem lm_rep {m : Nat} {n : Int} (h : -1000 ≤ n ∧ n ≤ 1000) : Lm m (List.replicate m n) := ⟨List.length_replicate, sm_of fun v hv => by rw [List.eq_of_mem_replicate hv]; exact h⟩
theorem lm_app {m k : Nat} {xs ys : List Int} (h1 : Lm m xs) (h2 : Lm k ys) : Lm (m + k) (xs ++ ys) := ⟨by rw [List.length_append, h1.1, h2.1], fun v hv => (List.mem_append.mp hv).elim (h1.2 v) (h2.2 v)⟩
section
variable {te ta tb tl : TE} {tz : TS} {D : Ends} {t : TT} {σ : L2.St} {H : Hp} {K : PySem.W.Frag} {v x y z : V} {xs ys : List Int}
theorem ev_totL {E : XK} {m : Nat} (ha : EvP ta σ H (IsT xs)) (hb : EvP tb σ H (IsT ys)) (lx : Lm m xs) (ly : Lm m ys) (hm : m ≤ 1000) : Ev (tCall spTot [] E (tCons ta (tCons tb tNil))) σ H (.int (dot xs ys)) :=
  ev_tot ha hb (lx.1.trans ly.1.symm) (by rw [lx.1]; exact hm) lx.2 ly.2
theorem q_asgP {P : VP} {i : Nat} (h : EvP te σ H P) (k : ∀ v H1, Ex H H1 → P v H1 → tz D (σ.set i (some v)) H1) : tSeq (tAsg te (gName i)) tz D σ H := h H (Ex.refl H) _ fun v H1 e p => k v H1 e p
/-- [f(xs[k], ys[k]) for k in range(m)] -/
theorem el_zw {ta : TA} {j m : Nat} {vs : List Nat} {f : Int → Int → Int} (h : EvA ta σ H [.int (m : Int)]) (hm : m ≤ 1000) (hx : xs.length = m) (hy : ys.length = m) (hw : ∀ x, wipe ((wipe σ vs).set j (some x)) vs = wipe σ vs)
    (he : ∀ (i : Nat) H1, Ex H H1 → i < m → Ev te ((wipe σ vs).set j (some (.int (i : Int)))) H1 (.int (f (xs.getD i 0) (ys.getD i 0)))) : EvL (tLc (iRng1 ta) (gName j) tYes te vs) σ H ((List.zipWith f xs ys).map V.int) := by
  have z := el_lcR1 (t := tYes) (te := te) (j := j) (vs := vs) (fun _ => true) (fun i => V.int (f (xs.getD i 0) (ys.getD i 0))) h (by omega) hw (fun i H1 _ _ => fun H2 _ Q q => q H2 (Ex.refl _)) (fun i H1 e hi _ => he i H1 e (by omega))
  rw [given_all, Int.toNat_natCast, range_zip f hx hy] at z
  exact z
end
end Fx
/-! ### the head's facts, with built-ins that the top imports under a name -/
namespace Hx
open PySem PySem.Spec PyProof.Rows L2 He
abbrev AlE : Type := Bool × AlD
def bltB (K : PySem.W.Frag) (bs : List (Str × String)) : Bool := bs.all fun p => eqO (PySem.W.nsIn K mainGlobals p.1) (some (some (.builtin p.2)))
def obsE (fa : List Fa) (fn : List DefD) (bs : List (Str × String)) (K : PySem.W.Frag) : AlE := (bltB K bs, obsD fa fn K)
def valE (fn : List DefD) : AlE := (true, valD fn)
def SaysE (fa : List Fa) (fn : List DefD) (bs : List (Str × String)) (K : PySem.W.Frag) : Prop := obsE fa fn bs K = valE fn
def obsEG (n : Nat) (fa : List Fa) (fn : List DefD) (bs : List (Str × String)) (g : Addr → Option Obj) : AlE := obsE fa fn bs (frG g (asD g n))
def hookE (n : Nat) (fa : List Fa) (fn : List DefD) (bs : List (Str × String)) : PySem.W.Hook where
  α := AlE
  obs := fun s => obsEG n fa fn bs s.heap.get?
  val := fun _ => valE fn
  says := fun _ h => ∃ K : PySem.W.Frag, K.In h ∧ SaysE fa fn bs K
  of := fun _ _ e => ⟨_, frG_in, e⟩
  keeps := fun _ _ _ ⟨K, hK, c⟩ k => ⟨K, PySem.W.Frag.In.keeps hK k, c⟩
theorem obsEG_eq {n : Nat} {fa : List Fa} {fn : List DefD} {bs : List (Str × String)} {g : Addr → Option Obj} {s : Shared} (h : ∀ a, g a = s.heap.get? a) : obsEG n fa fn bs g = (hookE n fa fn bs).obs s := by
  have e : g = s.heap.get? := funext h
  rw [e] <;> rfl
section
variable {fa : List Fa} {fn : List DefD} {bs : List (Str × String)} {K : PySem.W.Frag} {h : Heap} {mg : Str → Option Value}
theorem SaysE.d (c : SaysE fa fn bs K) : SaysD fa fn K := congrArg (fun z : AlE => z.2) c
theorem SaysE.blt (c : SaysE fa fn bs K) (X : K.In h) (G : h.Ns mainGlobals mg) (i : Nat) {x : Str} {id : String} (e : bs[i]? = some (x, id) := by rfl) : mg x = some (.builtin id) := by
  have c1 : bltB K bs = true := congrArg (fun z : AlE => z.1) c
  exact PySem.W.mg_of X G (eqO_ok (List.all_eq_true.mp c1 (x, id) (List.mem_of_getElem? e)))
end
/-- a def without defaults, as Words has it -/
theorem toFun {K : PySem.W.Frag} {x qual : Str} {st : Stmt} {f : Addr} {fd : FuncData} (F : FunD K x qual (defArgs st) (defBody st) (defScope st) [] [] f fd) : Fun K x qual st f fd := by
  obtain ⟨⟨oc, od, dV, kV, doc, pm, an, cdv, ct, osl, e, l, c, d, k⟩, kp⟩ := F
  rcases d with ⟨_, d⟩ | ⟨d, _⟩
  · subst d
    exact ⟨⟨oc, od, kV, doc, pm, an, cdv, ct, osl, e, l, c⟩, kp⟩
  · exact absurd rfl d
/-- a law's end over the facts of a head -/
theorem walk_ofEB {l : PySem.W.OpenLaw} {n k : Nat} {q : Program} {loose : List Str} {XP : (Str → Option Value) → Heap → Prop} {YP : World → Heap → Prop} {d : DefRec} {CX : CXT} {x : Str}
    (hn : l.most = some n) (hn2 : n ≤ sizeLine) (hdf : d.params.defaults = []) (hr : Room k callerA)
    (F : ∀ (w : World) (mg : Str → Option Value) (fa : Addr) (h : Heap), YP w h → h.Ns mainGlobals mg → mg d.name = some (.ref fa) →
      ∃ (K : PySem.W.Frag) (fd : FuncData) (sp : Sp), K.In h ∧ (∀ (s : Shared) (u : Value), BindsTo s fd ⟨[u], []⟩ [(x, u)]) ∧
        (∀ (H : Hp) (a : Addr) (ns : List Int), ns.length ≤ n → (∀ z ∈ ns, Builtin.Int.intBits z ≤ 1048576) → Only H → SqL K H a (ns.map V.int) → sp [.ref a] H (fun v _ => v = .bl true) fun _ _ _ => False) ∧
        ∀ base : Heap, K.In base → base.Ns mainGlobals mg → FnOk l.prog w K mg base CX k fa fd [x] sp)
    (hCX : ∀ (H : Hp) (s : Shared) (e : Value) (s' : Shared), CX [] H s (fun _ _ _ => False) e s' → False) :
    PySem.W.WalkO q loose XP YP l.row.toRowW d [] (fun f vs => PySem.call f vs) := by
  refine Att.attach_callB hn hdf fun w s₀ s₁ mg mb fa o pm cd doc a vs ns G Y ho hd hcd hmg hobj hints hlen hbits hg => ?_
  obtain ⟨K, fd, sp, KX, hb, hsp, hF⟩ := F w mg fa _ Y G.T.g hmg
  exact law_call KX G.T.g G.T.b G.T.builtins G.T.nolimit hg hobj hints (Nat.le_trans hlen hn2) hr hF hb (fun H hO hS => hsp H a ns hlen hbits hO hS) fun H e s' => hCX H s₁ e s'
end Hx
/-! ### data of tuples, and readings beside things that change -/
namespace Dt
open PySem PySem.Spec PyProof.Rows L2 Evl Fx
mutual
/-- data without lists and dicts -/
def flat : PyData → Bool
  | .none => true
  | .bool _ => true
  | .int _ => true
  | .str _ => true
  | .list _ => false
  | .tuple ds => flats ds
  | .dict _ => false
def flats : List PyData → Bool
  | [] => true
  | d :: ds => flat d && flats ds
end
theorem flats_cons {d : PyData} {ds : List PyData} : flats (d :: ds) = true ↔ flat d = true ∧ flats ds = true := by
  rw [flats, Bool.and_eq_true]
theorem flats_all : ∀ {ds : List PyData}, flats ds = true ↔ ∀ d ∈ ds, flat d = true
  | [] => by simp [flats]
  | d :: ds => by rw [flats_cons, flats_all, List.forall_mem_cons]
theorem flat_tup {ds : List PyData} : flat (.tuple ds) = flats ds := by rw [flat]
section
variable {K : PySem.W.Frag} {H H' : Hp}
/-- tuples are kept -/
def KT (K : PySem.W.Frag) (H H' : Hp) : Prop := ∀ a xs, SqT K H a xs → SqT K H' a xs
mutual
theorem dp_kt (k : KT K H H') : ∀ (d : PyData) (v : V), flat d = true → Dp K H v d → Dp K H' v d
  | .none, _, _, h => by cases h; exact .non
  | .bool _, _, _, h => by cases h; exact .bl _
  | .int _, _, _, h => by cases h; exact .int _
  | .str _, _, _, h => by cases h; exact .str _
  | .list _, _, f, _ => by simp [flat] at f
  | .tuple ds, _, f, h => by
    cases h with
    | tup h1 h2 => exact .tup (k _ _ h1) (dps_kt k ds _ (by rwa [flat] at f) h2)
  | .dict _, _, f, _ => by simp [flat] at f
theorem dps_kt (k : KT K H H') : ∀ (ds : List PyData) (vs : List V), flats ds = true → DpAll K H vs ds → DpAll K H' vs ds
  | [], _, _, h => by cases h; exact .nil
  | d :: ds, _, f, h => by
    have f' := flats_cons.mp f
    cases h with
    | cons h1 h2 => exact .cons (dp_kt k d _ f'.1 h1) (dps_kt k ds _ f'.2 h2)
end
mutual
theorem dp_ex (e : Ex H H') : ∀ (d : PyData) (v : V), Dp K H v d → Dp K H' v d
  | .none, _, h => by cases h; exact .non
  | .bool _, _, h => by cases h; exact .bl _
  | .int _, _, h => by cases h; exact .int _
  | .str _, _, h => by cases h; exact .str _
  | .list ds, _, h => by
    cases h with
    | lst h1 h2 => exact .lst (ex_l e h1) (dps_ex e ds _ h2)
  | .tuple ds, _, h => by
    cases h with
    | tup h1 h2 => exact .tup (ex_t e h1) (dps_ex e ds _ h2)
  | .dict _, _, h => nomatch h
theorem dps_ex (e : Ex H H') : ∀ (ds : List PyData) (vs : List V), DpAll K H vs ds → DpAll K H' vs ds
  | [], _, h => by cases h; exact .nil
  | d :: ds, _, h => by
    cases h with
    | cons h1 h2 => exact .cons (dp_ex e d _ h1) (dps_ex e ds _ h2)
end
theorem dps_len : ∀ {ds : List PyData} {vs : List V}, DpAll K H vs ds → vs.length = ds.length
  | [], _, h => by cases h; rfl
  | d :: ds, _, h => by
    cases h with
    | cons h1 h2 => simp [dps_len h2]
theorem dps_get : ∀ {ds : List PyData} {vs : List V} {i : Nat} {d : PyData}, DpAll K H vs ds → ds[i]? = some d → ∃ v, vs[i]? = some v ∧ Dp K H v d
  | [], _, _, _, _, e => by simp at e
  | d :: ds, _, i, d', h, e => by
    cases h with
    | @cons v vs _ _ h1 h2 =>
      cases i with
      | zero =>
        rw [List.getElem?_cons_zero] at e
        cases e
        exact ⟨v, rfl, h1⟩
      | succ i =>
        rw [List.getElem?_cons_succ] at e
        obtain ⟨u, q1, q2⟩ := dps_get h2 e
        exact ⟨u, by rw [List.getElem?_cons_succ]; exact q1, q2⟩
theorem dps_app : ∀ {ds es : List PyData} {vs us : List V}, DpAll K H vs ds → DpAll K H us es → DpAll K H (vs ++ us) (ds ++ es)
  | [], _, _, _, h, h' => by cases h; exact h'
  | d :: ds, _, _, _, h, h' => by
    cases h with
    | cons h1 h2 => exact .cons h1 (dps_app h2 h')
theorem dps_snoc {ds : List PyData} {d : PyData} {vs : List V} {v : V} (h : DpAll K H vs ds) (h' : Dp K H v d) : DpAll K H (vs ++ [v]) (ds ++ [d]) := dps_app h (.cons h' .nil)
theorem dps_rev : ∀ {ds : List PyData} {vs : List V}, DpAll K H vs ds → DpAll K H vs.reverse ds.reverse
  | [], _, h => by cases h; exact .nil
  | d :: ds, _, h => by
    cases h with
    | cons h1 h2 =>
      rw [List.reverse_cons, List.reverse_cons]
      exact dps_snoc (dps_rev h2) h1
theorem dps_take : ∀ {n : Nat} {ds : List PyData} {vs : List V}, DpAll K H vs ds → DpAll K H (vs.take n) (ds.take n)
  | 0, _, _, _ => by rw [List.take_zero, List.take_zero]; exact .nil
  | n + 1, [], _, h => by cases h; exact .nil
  | n + 1, d :: ds, _, h => by
    cases h with
    | cons h1 h2 => exact .cons h1 (dps_take h2)
theorem dps_drop : ∀ {n : Nat} {ds : List PyData} {vs : List V}, DpAll K H vs ds → DpAll K H (vs.drop n) (ds.drop n)
  | 0, _, _, h => by rw [List.drop_zero, List.drop_zero]; exact h
  | n + 1, [], _, h => by cases h; exact .nil
  | n + 1, d :: ds, _, h => by
    cases h with
    | cons h1 h2 =>
      rw [List.drop_succ_cons, List.drop_succ_cons]
      exact dps_drop h2
theorem dps_last {ds : List PyData} {d : PyData} {vs : List V} (h : DpAll K H vs (ds ++ [d])) : ∃ us u, vs = us ++ [u] ∧ DpAll K H us ds ∧ Dp K H u d := by
  have hl := dps_len h
  rw [List.length_append, List.length_singleton] at hl
  have hv : vs ≠ [] := by intro e; rw [e] at hl; simp at hl
  have e := List.dropLast_concat_getLast hv
  have h1 := dps_take (n := ds.length) h
  have h2 := dps_drop (n := ds.length) h
  rw [List.take_left] at h1
  rw [List.drop_left] at h2
  have e1 : vs.take ds.length = vs.dropLast := by rw [List.dropLast_eq_take, hl, Nat.add_sub_cancel]
  have e2 : vs.drop ds.length = [vs.getLast hv] := by
    have q : (vs.dropLast ++ [vs.getLast hv]).drop ds.length = [vs.getLast hv] := by
      have l1 : vs.dropLast.length = ds.length := by rw [List.length_dropLast, hl, Nat.add_sub_cancel]
      rw [← l1]
      exact List.drop_left
    rwa [e] at q
  rw [e1] at h1
  rw [e2] at h2
  cases h2 with
  | cons h3 h4 => exact ⟨_, _, e.symm, h1, h3⟩
/-- a value that reads as d -/
def IsD (K : PySem.W.Frag) (d : PyData) : VP := fun v H => Dp K H v d
end
/-- all but S is kept -/
def Kx (S : Addr → Prop) (H H' : Hp) : Prop := ∀ b o, H b = some o → ¬ S b → H' b = some o
theorem Kx.refl {S : Addr → Prop} {H : Hp} : Kx S H H := fun _ _ h _ => h
theorem Kx.trans {S : Addr → Prop} {H H1 H2 : Hp} (a : Kx S H H1) (b : Kx S H1 H2) : Kx S H H2 := fun x o h n => b x o (a x o h n) n
theorem Kx.ex {S : Addr → Prop} {H H1 : Hp} (e : Ex H H1) : Kx S H H1 := fun x o h _ => e x o h
theorem Kx.mut {S : Addr → Prop} {H H1 : Hp} {p : Addr} {o : HO} (k : Kx S H H1) (h : H p = none) : Kx S H (upd H1 p o) := fun b u hb n => by
  have : b ≠ p := by rintro rfl; rw [h] at hb; cases hb
  rw [upd_ne this]
  exact k b u hb n
theorem Kx.at {S : Addr → Prop} {H H1 : Hp} {p : Addr} {o : HO} (k : Kx S H H1) (h : S p) : Kx S H (upd H1 p o) := fun b u hb n => by
  have : b ≠ p := by rintro rfl; exact n h
  rw [upd_ne this]
  exact k b u hb n
def mutO (o : HO) : Prop := (∃ xs, o = .lst xs) ∨ ∃ kvs, o = .dK kvs
/-- what may change (S), where what is told of it stands (T), what is told (G, after so many turns), how many turns there may be -/
structure Fd where
  S : Addr → Prop
  T : Addr → Prop
  G : Nat → Hp → Prop
  N : Nat
structure Fd.Ok (F : Fd) : Prop where
  sub : ∀ {a}, F.S a → F.T a
  at_ : ∀ {n H a}, F.G n H → F.T a → ∃ o, H a = some o ∧ mutO o
  loc : ∀ {n H H'}, F.G n H → (∀ a o, F.T a → H a = some o → H' a = some o) → F.G n H'
  up : ∀ {n m H}, F.G n H → n ≤ m → F.G m H
/-- nothing changes -/
def F0 : Fd := ⟨fun _ => False, fun _ => False, fun _ _ => True, 0⟩
theorem F0.ok : F0.Ok := ⟨fun h => h, fun _ h => h.elim, fun _ _ => trivial, fun _ _ => trivial⟩
theorem F0.g {n : Nat} {H : Hp} : F0.G n H := trivial
theorem F0.ex {H H' : Hp} (e : Kx F0.S H H') : Ex H H' := fun a o h => e a o h fun z => z
def MonoF (F : Fd) (P : VP) : Prop := ∀ n v H H', F.G n H → Kx F.S H H' → P v H → P v H'
def MonoA (F : Fd) (P : List V → Hp → Prop) : Prop := ∀ n v H H', F.G n H → Kx F.S H H' → P v H → P v H'
def EvR (F : Fd) (te : TE) (σ : L2.St) (H : Hp) (k : Nat) (P : VP) : Prop := ∀ n H1, n + k ≤ F.N → F.G n H1 → Kx F.S H H1 → ∀ Q : VK, (∀ v H2, Kx F.S H1 H2 → F.G (n + k) H2 → P v H2 → Q v H2) → te σ H1 Q
def EvRA (F : Fd) (ta : TA) (σ : L2.St) (H : Hp) (k : Nat) (P : List V → Hp → Prop) : Prop := ∀ n H1, n + k ≤ F.N → F.G n H1 → Kx F.S H H1 → ∀ Q : List V → Hp → Prop, (∀ v H2, Kx F.S H1 H2 → F.G (n + k) H2 → P v H2 → Q v H2) → ta σ H1 Q
def EvRT (F : Fd) (tt : TT) (σ : L2.St) (H : Hp) (k : Nat) (b : Bool) : Prop := ∀ n H1, n + k ≤ F.N → F.G n H1 → Kx F.S H H1 → ∀ Q : Bool → Hp → Prop, (∀ H2, Kx F.S H1 H2 → F.G (n + k) H2 → Q b H2) → tt σ H1 Q
section
variable {F : Fd} {K : PySem.W.Frag} {te ta tb tc : TE} {tr : TA} {tt tu : TT} {σ : L2.St} {H H' : Hp} {P P' R : VP} {PA : List V → Hp → Prop} {d d' d2 : PyData} {ds : List PyData} {n k ka kb : Nat} {v : V}
theorem Fd.Ok.ex (o : F.Ok) (g : F.G n H) (e : Ex H H') : F.G n H' := o.loc g fun a u _ h => e a u h
theorem Fd.Ok.kt (o : F.Ok) (g : F.G n H) (e : Kx F.S H H') : KT K H H' := fun a xs h => by
  rcases h with (h | ⟨u, h⟩) | h
  · refine .inl (.inl (e a _ h fun hs => ?_))
    obtain ⟨w, q, m⟩ := o.at_ g (o.sub hs)
    rw [h] at q
    cases q
    rcases m with ⟨_, m⟩ | ⟨_, m⟩ <;> cases m
  · refine .inl (.inr ⟨u, e a _ h fun hs => ?_⟩)
    obtain ⟨w, q, m⟩ := o.at_ g (o.sub hs)
    rw [h] at q
    cases q
    rcases m with ⟨_, m⟩ | ⟨_, m⟩ <;> cases m
  · exact .inr h
theorem Fd.Ok.new (o : F.Ok) (g : F.G n H) {p : Addr} (h : H p = none) : ¬ F.T p := fun t => by
  obtain ⟨w, q, _⟩ := o.at_ g t
  rw [h] at q
  cases q
/-- at an address that was new, something else may be put -/
theorem Fd.Ok.put (o : F.Ok) {m : Nat} (g0 : F.G m H) {p : Addr} (h : H p = none) {u : HO} (g : F.G n H') : F.G n (upd H' p u) := o.loc g fun a w t q => by
  have : a ≠ p := by rintro rfl; exact o.new g0 h t
  rw [upd_ne this]
  exact q
theorem mono_d (o : F.Ok) (f : flat d = true) : MonoF F (IsD K d) := fun n v H H' g e p => dp_kt (o.kt g e) d v f p
theorem mono_ds (o : F.Ok) (f : flats ds = true) : MonoA F (fun vs H => DpAll K H vs ds) := fun n v H H' g e p => dps_kt (o.kt g e) ds v f p
theorem mono_eq {x : V} : MonoF F (fun v _ => v = x) := fun _ _ _ _ _ _ p => p
theorem EvR.mono (h : EvR F te σ H k P) (e : Kx F.S H H') : EvR F te σ H' k P := fun n H1 hn g e1 Q q => h n H1 hn g (e.trans e1) Q q
theorem EvRT.mono {b : Bool} (h : EvRT F tt σ H k b) (e : Kx F.S H H') : EvRT F tt σ H' k b := fun n H1 hn g e1 Q q => h n H1 hn g (e.trans e1) Q q
theorem EvRA.mono (h : EvRA F tr σ H k PA) (e : Kx F.S H H') : EvRA F tr σ H' k PA := fun n H1 hn g e1 Q q => h n H1 hn g (e.trans e1) Q q
theorem EvR.imp (h : EvR F te σ H k P) (i : ∀ n v H', F.G n H' → Kx F.S H H' → P v H' → P' v H') : EvR F te σ H k P' := fun n H1 hn g e1 Q q => h n H1 hn g e1 Q fun v H2 e2 g2 p => q v H2 e2 g2 (i _ v H2 g2 (e1.trans e2) p)
theorem EvR.cast (h : EvR F te σ H k (IsD K d)) (e : d = d') : EvR F te σ H k (IsD K d') := e ▸ h
theorem EvR.up {k' : Nat} (o : F.Ok) (h : EvR F te σ H k P) (hk : k ≤ k') : EvR F te σ H k' P := fun n H1 hn g e1 Q q => h n H1 (by omega) g e1 Q fun v H2 e2 g2 p => q v H2 e2 (o.up g2 (by omega)) p
theorem EvRT.up {k' : Nat} {b : Bool} (o : F.Ok) (h : EvRT F tt σ H k b) (hk : k ≤ k') : EvRT F tt σ H k' b := fun n H1 hn g e1 Q q => h n H1 (by omega) g e1 Q fun H2 e2 g2 => q H2 e2 (o.up g2 (by omega))
theorem r_var {i : Nat} (m : MonoF F P) (g0 : F.G n H) (h : σ[i]? = some (some v)) (p : P v H) : EvR F (tVar i) σ H 0 P := fun n1 H1 hn g e Q q => ⟨v, h, q v H1 Kx.refl g (m n v H H1 g0 e p)⟩
theorem rd_var (o : F.Ok) (g0 : F.G n H) {i : Nat} (h : σ[i]? = some (some v)) (p : Dp K H v d) (f : flat d = true := by rfl) : EvR F (tVar i) σ H 0 (IsD K d) := r_var (mono_d o f) g0 h p
theorem rv_var {i : Nat} (h : σ[i]? = some (some v)) : EvR F (tVar i) σ H 0 (fun x _ => x = v) := fun n1 H1 hn g e Q q => ⟨v, h, q v H1 Kx.refl g rfl⟩
theorem rv_c : EvR F (tC v) σ H 0 (fun x _ => x = v) := fun n1 H1 hn g e Q q => q v H1 Kx.refl g rfl
theorem rd_int {i : Int} : EvR F (tC (.int i)) σ H 0 (IsD K (.int i)) := fun n1 H1 hn g e Q q => q _ H1 Kx.refl g (.int i)
theorem rd_str {i : Str} : EvR F (tC (.str i)) σ H 0 (IsD K (.str i)) := fun n1 H1 hn g e Q q => q _ H1 Kx.refl g (.str i)
theorem rd_bl {i : Bool} : EvR F (tC (.bl i)) σ H 0 (IsD K (.bool i)) := fun n1 H1 hn g e Q q => q _ H1 Kx.refl g (.bl i)
theorem rv_int {i : Int} (h : EvR F te σ H k (IsD K (.int i))) : EvR F te σ H k (fun x _ => x = .int i) := h.imp fun _ v _ _ _ p => by cases p; rfl
theorem rv_str {i : Str} (h : EvR F te σ H k (IsD K (.str i))) : EvR F te σ H k (fun x _ => x = .str i) := h.imp fun _ v _ _ _ p => by cases p; rfl
theorem rv_bl {i : Bool} (h : EvR F te σ H k (IsD K (.bool i))) : EvR F te σ H k (fun x _ => x = .bl i) := h.imp fun _ v _ _ _ p => by cases p; rfl
theorem rd_ofI {i : Int} (h : EvR F te σ H k (fun x _ => x = .int i)) : EvR F te σ H k (IsD K (.int i)) := h.imp fun _ v _ _ _ p => by subst p; exact .int i
theorem rd_ofB {i : Bool} (h : EvR F te σ H k (fun x _ => x = .bl i)) : EvR F te σ H k (IsD K (.bool i)) := h.imp fun _ v _ _ _ p => by subst p; exact .bl i
theorem rd_ofS {i : Str} (h : EvR F te σ H k (fun x _ => x = .str i)) : EvR F te σ H k (IsD K (.str i)) := h.imp fun _ v _ _ _ p => by subst p; exact .str i
theorem r_op {r : R2} (o : F.Ok) (mP : MonoF F P) (ha : EvR F ta σ H ka P) (hb : EvR F tb σ H kb P') (hr : ∀ x y n H1, F.G n H1 → Kx F.S H H1 → P x H1 → P' y H1 → ∀ Q : VK, (∀ z H2, Ex H1 H2 → R z H2 → Q z H2) → r x y H1 Q) : EvR F (tOp r ta tb) σ H (ka + kb) R :=
  fun n H1 hn g e Q q => ha n H1 (by omega) g e _ fun x H2 e2 g2 p => hb (n + ka) H2 (by omega) g2 (e.trans e2) _ fun y H3 e3 g3 p' => hr x y _ H3 g3 (e.trans (e2.trans e3)) (mP _ _ _ _ g2 e3 p) p' Q fun z H4 e4 pz =>
    q z H4 (e2.trans (e3.trans (Kx.ex e4))) (by rw [← Nat.add_assoc]; exact o.ex g3 e4) pz
theorem ra_nil : EvRA F tNil σ H 0 (fun vs H => DpAll K H vs []) := fun n1 H1 hn g e Q q => q _ H1 Kx.refl g .nil
theorem ra_cons (o : F.Ok) (h : EvR F te σ H ka (IsD K d)) (hr : EvRA F tr σ H kb (fun vs H => DpAll K H vs ds)) (f : flat d = true := by rfl) : EvRA F (tCons te tr) σ H (ka + kb) (fun vs H => DpAll K H vs (d :: ds)) :=
  fun n H1 hn g e Q q => h n H1 (by omega) g e _ fun x H2 e2 g2 p => hr (n + ka) H2 (by omega) g2 (e.trans e2) _ fun vs H3 e3 g3 p' => q (x :: vs) H3 (e2.trans e3) (by rw [← Nat.add_assoc]; exact g3) (.cons (mono_d o f _ _ _ _ g2 e3 p) p')
theorem rd_tup (o : F.Ok) (h : EvRA F tr σ H k (fun vs H => DpAll K H vs ds)) (f : flats ds = true := by rfl) (hl : ds.length ≤ 100000 := by simp) : EvR F (tTup tr) σ H k (IsD K (.tuple ds)) :=
  fun n H1 hn g e Q q => h n H1 hn g e _ fun vs H2 e2 g2 p => ⟨sz_of (by rw [dps_len p]; exact hl), fun a ha => q (.ref a) _ (e2.trans (Kx.ex (Ex.new ha))) (o.ex g2 (Ex.new ha)) (.tup (st_of upd_same) (dps_ex (Ex.new ha) _ _ p))⟩
theorem rd_ix {i : Int} (o : F.Ok) (ha : EvR F ta σ H ka (IsD K (.tuple ds))) (hb : EvR F tb σ H kb (fun x _ => x = .int i)) (j : Nat) (hj : ixN ds.length i = some j) (hd : ds[j]? = some d) (f : flat (.tuple ds) = true := by rfl) : EvR F (tOp (rIxT K) ta tb) σ H (ka + kb) (IsD K d) :=
  r_op o (mono_d o f) ha hb fun x y n H1 g e px py Q q => by
    subst py
    cases px with
    | tup h1 h2 =>
      obtain ⟨u, hu, hdu⟩ := dps_get h2 hd
      exact ⟨_, _, i, u, rfl, rfl, h1, by unfold atI; rw [dps_len h2, hj]; exact hu, q u H1 (Ex.refl _) hdu⟩
theorem rb_eq (o : F.Ok) (ha : EvR F ta σ H ka (IsD K d)) (hb : EvR F tb σ H kb (IsD K d')) (sd : SeqAt.shaped d = true) (sd' : SeqAt.shaped d' = true) (f : flat d = true := by rfl) : EvR F (tOp (rEqD K) ta tb) σ H (ka + kb) (fun x _ => x = .bl (PyData.eqv d d')) :=
  r_op o (mono_d o f) ha hb fun x y n H1 g e px py Q q => ⟨d, d', px, py, sd, sd', q _ H1 (Ex.refl _) rfl⟩
theorem rb_ne (o : F.Ok) (ha : EvR F ta σ H ka (IsD K d)) (hb : EvR F tb σ H kb (IsD K d')) (sd : SeqAt.shaped d = true) (sd' : SeqAt.shaped d' = true) (f : flat d = true := by rfl) : EvR F (tOp (rNeD K) ta tb) σ H (ka + kb) (fun x _ => x = .bl (!PyData.eqv d d')) :=
  r_op o (mono_d o f) ha hb fun x y n H1 g e px py Q q => ⟨d, d', px, py, sd, sd', q _ H1 (Ex.refl _) rfl⟩
/-- tests -/
theorem rt_val {b : Bool} (h : EvR F te σ H k (fun x _ => x = .bl b)) : EvRT F (tTest te) σ H k b := fun n H1 hn g e Q q => h n H1 hn g e _ fun v H2 e2 g2 p => ⟨b, p, q H2 e2 g2⟩
theorem rt_B {b : Bool} (h : EvR F te σ H k (fun x _ => x = .bl b)) : EvRT F (tB te) σ H k b := fun n H1 hn g e Q q => h n H1 hn g e _ fun v H2 e2 g2 p => ⟨b, p, q H2 e2 g2⟩
theorem rt_not {a : Bool} (h1 : EvRT F tt σ H k a) : EvRT F (tNot tt) σ H k (!a) := fun n H1 hn g e _ q => h1 n H1 hn g e _ fun H2 e2 g2 => q H2 e2 g2
theorem rt_is {a b : Bool} (h : EvRT F tt σ H k a) (e : a = b) : EvRT F tt σ H k b := e ▸ h
theorem rt_and {a b : Bool} (o : F.Ok) (h1 : EvRT F tt σ H ka a) (h2 : a = true → EvRT F tu σ H kb b) : EvRT F (tAnd tt tu) σ H (ka + kb) (a && b) := fun n H1 hn g e Q q => h1 n H1 (by omega) g e _ fun H2 e2 g2 => by
  cases a with
  | false => exact q H2 e2 (o.up g2 (by omega))
  | true => exact h2 rfl (n + ka) H2 (by omega) g2 (e.trans e2) _ fun H3 e3 g3 => q H3 (e2.trans e3) (by rw [← Nat.add_assoc]; exact g3)
theorem rt_or {a b : Bool} (o : F.Ok) (h1 : EvRT F tt σ H ka a) (h2 : a = false → EvRT F tu σ H kb b) : EvRT F (tOr tt tu) σ H (ka + kb) (a || b) := fun n H1 hn g e Q q => h1 n H1 (by omega) g e _ fun H2 e2 g2 => by
  cases a with
  | true => exact q H2 e2 (o.up g2 (by omega))
  | false => exact h2 rfl (n + ka) H2 (by omega) g2 (e.trans e2) _ fun H3 e3 g3 => q H3 (e2.trans e3) (by rw [← Nat.add_assoc]; exact g3)
theorem r_if {b : Bool} (o : F.Ok) (h : EvRT F tt σ H ka b) (h1 : b = true → EvR F ta σ H kb P) (h2 : b = false → EvR F tb σ H kb P) : EvR F (tIf tt ta tb) σ H (ka + kb) P := fun n H1 hn g e Q q => h n H1 (by omega) g e _ fun H2 e2 g2 => by
  cases b with
  | true => exact h1 rfl (n + ka) H2 (by omega) g2 (e.trans e2) _ fun v H3 e3 g3 p => q v H3 (e2.trans e3) (by rw [← Nat.add_assoc]; exact g3) p
  | false => exact h2 rfl (n + ka) H2 (by omega) g2 (e.trans e2) _ fun v H3 e3 g3 p => q v H3 (e2.trans e3) (by rw [← Nat.add_assoc]; exact g3) p
theorem rb_and {a b : Bool} (o : F.Ok) (h1 : EvR F ta σ H ka (fun x _ => x = .bl a)) (h2 : a = true → EvR F tb σ H kb (fun x _ => x = .bl b)) : EvR F (tAndV ta tb) σ H (ka + kb) (fun x _ => x = .bl (a && b)) := fun n H1 hn g e Q q => h1 n H1 (by omega) g e _ fun v H2 e2 g2 p => ⟨a, p, by
  cases a with
  | false => exact q _ H2 e2 (o.up g2 (by omega)) rfl
  | true => exact h2 rfl (n + ka) H2 (by omega) g2 (e.trans e2) _ fun v H3 e3 g3 p => q v H3 (e2.trans e3) (by rw [← Nat.add_assoc]; exact g3) p⟩
theorem rb_or {a b : Bool} (o : F.Ok) (h1 : EvR F ta σ H ka (fun x _ => x = .bl a)) (h2 : a = false → EvR F tb σ H kb (fun x _ => x = .bl b)) : EvR F (tOrV ta tb) σ H (ka + kb) (fun x _ => x = .bl (a || b)) := fun n H1 hn g e Q q => h1 n H1 (by omega) g e _ fun v H2 e2 g2 p => ⟨a, p, by
  cases a with
  | true => exact q _ H2 e2 (o.up g2 (by omega)) rfl
  | false => exact h2 rfl (n + ka) H2 (by omega) g2 (e.trans e2) _ fun v H3 e3 g3 p => q v H3 (e2.trans e3) (by rw [← Nat.add_assoc]; exact g3) p⟩
theorem rb_not {a : Bool} (h1 : EvR F ta σ H k (fun x _ => x = .bl a)) : EvR F (tNotV ta) σ H k (fun x _ => x = .bl (!a)) := fun n H1 hn g e _ q => h1 n H1 hn g e _ fun v H2 e2 g2 p => ⟨a, p, q _ H2 e2 g2 rfl⟩
end
end Dt
/-! ### comprehensions, calls and statements beside things that change -/
namespace Dt
open PySem PySem.Spec PyProof.Rows L2 Evl Fx
section
variable {F : Fd} {K : PySem.W.Frag} {te ta tb tl : TE} {tr : TA} {tt tu : TT} {g : TG} {σ : L2.St} {H H' : Hp} {P P' R : VP} {d d' d2 : PyData} {ds es : List PyData} {n k ka kb kt ke : Nat} {v : V}
/-- a list of its own that reads as these data -/
def IsL (F : Fd) (K : PySem.W.Frag) (ds : List PyData) : VP := fun v H => ∃ p xs, v = .ref p ∧ ¬ F.T p ∧ H p = some (.lst xs) ∧ DpAll K H xs ds
theorem mono_l (o : F.Ok) (f : flats ds = true) : MonoF F (IsL F K ds) := fun n v H H' g e ⟨p, xs, e1, h1, h2, h3⟩ => ⟨p, xs, e1, h1, e _ _ h2 fun s => h1 (o.sub s), mono_ds o f n _ _ _ g e h3⟩
theorem IsL.dp (h : IsL F K ds v H) : Dp K H v (.list ds) := by
  obtain ⟨p, xs, rfl, _, h2, h3⟩ := h
  exact .lst (sq_of h2) h3
/-- where a value is put, on a heap that stays -/
def Gv (g : TG) (x : V) (σ : L2.St) (H : Hp) (σ2 : L2.St) : Prop := ∀ Q : L2.St → Hp → Prop, Q σ2 H → g x σ H Q
theorem gv_name {i : Nat} {x : V} : Gv (gName i) x σ H (σ.set i (some x)) := fun Q q => q
def outs (f : Nat → Bool) (e : Nat → PyData) (i : Nat) : List PyData := ((List.range i).filter f).map e
theorem outs_yes {f : Nat → Bool} {e : Nat → PyData} {i : Nat} (h : f i = true) : outs f e (i + 1) = outs f e i ++ [e i] := by
  unfold outs
  rw [List.range_succ, List.filter_append, List.map_append, List.filter_cons, if_pos h]
  rfl
theorem outs_no {f : Nat → Bool} {e : Nat → PyData} {i : Nat} (h : f i = false) : outs f e (i + 1) = outs f e i := by
  unfold outs
  rw [List.range_succ, List.filter_append, List.map_append, List.filter_cons, if_neg (by rw [h]; exact Bool.false_ne_true)]
  simp
theorem outs_len {f : Nat → Bool} {e : Nat → PyData} {i : Nat} : (outs f e i).length ≤ i := by
  unfold outs
  rw [List.length_map]
  have h := List.length_filter_le f (List.range i)
  rwa [List.length_range] at h
theorem outs_flat {f : Nat → Bool} {e : Nat → PyData} {i m : Nat} (h : ∀ j, j < m → f j = true → flat (e j) = true) (hi : i ≤ m) : flats (outs f e i) = true := flats_all.mpr fun d hd => by
  unfold outs at hd
  obtain ⟨j, hj, rfl⟩ := List.mem_map.mp hd
  have q := List.mem_filter.mp hj
  exact h j (by have := List.mem_range.mp q.1; omega) q.2
theorem outs_all {e : Nat → PyData} {i : Nat} : outs (fun _ => true) e i = (List.range i).map e := by
  unfold outs
  rw [List.filter_eq_self.mpr fun _ _ => rfl]
/-- within a comprehension -/
def Cd (F : Fd) (K : PySem.W.Frag) (H1 : Hp) (Dl : Addr) (n0 k : Nat) (f : Nat → Bool) (e : Nat → PyData) (i : Nat) (H' : Hp) : Prop :=
  Kx F.S H1 H' ∧ F.G (n0 + i * k) H' ∧ ∃ vs, H' Dl = some (.lst vs) ∧ DpAll K H' vs (outs f e i)
theorem cd_turn (o : F.Ok) {H1 H' : Hp} {Dl : Addr} {n0 m i : Nat} {f : Nat → Bool} {e : Nat → PyData} {σ2 : L2.St} (g1 : F.G n0 H1) (hD : H1 Dl = none) (p : Cd F K H1 Dl n0 (kt + ke) f e i H') (hi : i < m) (hm : m ≤ 40000) (hN : n0 + m * (kt + ke) ≤ F.N)
    (fl : ∀ j, j < m → f j = true → flat (e j) = true) (ht : EvRT F tt σ2 H' kt (f i)) (he : f i = true → EvR F te σ2 H' ke (IsD K (e i))) :
    tt σ2 H' fun b H3 => if b = true then te σ2 H3 fun y H4 => ∃ acc, H4 Dl = some (.lst acc) ∧ acc.length < sizeLine ∧ Cd F K H1 Dl n0 (kt + ke) f e (i + 1) (upd H4 Dl (.lst (acc ++ [y]))) else Cd F K H1 Dl n0 (kt + ke) f e (i + 1) H3 := by
  obtain ⟨p1, p2, vs, p3, p4⟩ := p
  have nS : ¬ F.S Dl := fun s => o.new g1 hD (o.sub s)
  have hk : n0 + (i + 1) * (kt + ke) = n0 + i * (kt + ke) + kt + ke := by rw [Nat.succ_mul]; omega
  have hb : n0 + i * (kt + ke) + (kt + ke) ≤ F.N := by
    have : (i + 1) * (kt + ke) ≤ m * (kt + ke) := Nat.mul_le_mul_right _ hi
    rw [Nat.succ_mul] at this
    omega
  have fo : flats (outs f e i) = true := outs_flat fl (by omega)
  refine ht _ H' (by omega) p2 Kx.refl _ fun H3 e3 g3 => ?_
  cases hf : f i with
  | true =>
    show te σ2 H3 fun y H4 => _
    refine he hf _ H3 (by omega) g3 e3 _ fun y H4 e4 g4 hy => ⟨vs, e4 _ _ (e3 _ _ p3 nS) nS, sz_lt (by rw [dps_len p4]; have := outs_len (f := f) (e := e) (i := i); omega), (p1.trans (e3.trans e4)).mut hD, ?_, vs ++ [y], upd_same, ?_⟩
    · rw [hk]
      exact o.put g1 hD g4
    · rw [outs_yes hf]
      have h4 : DpAll K H4 vs (outs f e i) := mono_ds o fo _ _ _ _ g3 e4 (mono_ds o fo _ _ _ _ p2 e3 p4)
      have kt' : KT K H4 (upd H4 Dl (.lst (vs ++ [y]))) := fun a xs h => by
        have hne : ∀ u, H4 a = some u → (∀ ys, u ≠ .lst ys) → a ≠ Dl := fun u q z => by
          rintro rfl
          rw [e4 _ _ (e3 _ _ p3 nS) nS] at q
          cases q
          exact z _ rfl
        rcases h with (h | ⟨u, h⟩) | h
        · exact .inl (.inl (by rw [upd_ne (hne _ h fun _ z => by cases z)]; exact h))
        · exact .inl (.inr ⟨u, by rw [upd_ne (hne _ h fun _ z => by cases z)]; exact h⟩)
        · exact .inr h
      exact dps_snoc (dps_kt kt' _ _ fo h4) (dp_kt kt' _ _ (fl i hi hf) hy)
  | false =>
    show Cd F K H1 Dl n0 (kt + ke) f e (i + 1) H3
    refine ⟨p1.trans e3, by rw [hk]; exact o.up g3 (by omega), vs, e3 _ _ p3 nS, ?_⟩
    rw [outs_no hf]
    exact mono_ds o fo _ _ _ _ p2 e3 p4
theorem kt_new {H : Hp} {p : Addr} {u : HO} (h : H p = none) : KT K H (upd H p u) := fun a xs q => ex_t (Ex.new h) q
/-- [e for .. in xs if ..], xs a list -/
theorem r_lcL (o : F.Ok) {vs : List Nat} (f : Nat → Bool) (e : Nat → PyData) (h : EvR F tl σ H k (IsL F K ds)) (fd : flats ds = true) (hm : ds.length ≤ 40000) (fl : ∀ j, j < ds.length → f j = true → flat (e j) = true)
    (ht : ∀ i x d n H', ds[i]? = some d → Dp K H' x d → F.G n H' → Kx F.S H H' → ∃ σ2, Gv g x (wipe σ vs) H' σ2 ∧ wipe σ2 vs = wipe σ vs ∧ EvRT F tt σ2 H' kt (f i) ∧ (f i = true → EvR F te σ2 H' ke (IsD K (e i)))) :
    EvR F (tLc (iList K tl) g tt te vs) σ H (k + ds.length * (kt + ke)) (IsL F K (outs f e ds.length)) := fun n H0 hn g0 e0 Q q => h n H0 (by omega) g0 e0 _ fun v H1 e1 g1 ⟨a, xs, ev, hT, ha, hx⟩ => by
  subst ev
  have hl := dps_len hx
  have nS : ¬ F.S a := fun s => hT (o.sub s)
  refine ⟨a, rfl, ⟨xs, sq_of ha⟩, fun Dl hD => lc_list (xs := xs) (Cd F K H1 Dl (n + k) (kt + ke) f e) ?_ (fun i H' _ p => sq_of (p.1 a _ ha nS)) (fun i x H' hi p => ?_) fun H' p => ?_⟩
  · exact ⟨Kx.ex (Ex.new hD), by rw [Nat.zero_mul]; exact o.put g1 hD g1, [], upd_same, .nil⟩
  · have hlt := (List.getElem?_eq_some_iff.mp hi).1
    have hdi : ds[i]? = some ds[i] := List.getElem?_eq_getElem (by omega)
    obtain ⟨u, hu, hdu⟩ := dps_get (mono_ds o fd _ _ _ _ g1 p.1 hx) hdi
    rw [hi] at hu
    cases hu
    obtain ⟨σ2, q1, q2, q3, q4⟩ := ht i x _ _ H' hdi hdu p.2.1 (e0.trans (e1.trans p.1))
    exact q1 _ ⟨q2, cd_turn o g1 hD p (by omega) hm (by rw [Nat.add_assoc]; exact hn) fl q3 q4⟩
  · rw [hl] at p
    obtain ⟨p1, p2, ws, p3, p4⟩ := p
    exact q (.ref Dl) H' (e1.trans p1) (by rw [← Nat.add_assoc]; exact p2) ⟨Dl, ws, rfl, o.new g1 hD, p3, p4⟩
/-- .. xs a tuple -/
theorem r_lcT (o : F.Ok) {vs : List Nat} (f : Nat → Bool) (e : Nat → PyData) (h : EvR F tl σ H k (IsD K (.tuple ds))) (fd : flats ds = true) (hm : ds.length ≤ 40000) (fl : ∀ j, j < ds.length → f j = true → flat (e j) = true)
    (ht : ∀ i x d n H', ds[i]? = some d → Dp K H' x d → F.G n H' → Kx F.S H H' → ∃ σ2, Gv g x (wipe σ vs) H' σ2 ∧ wipe σ2 vs = wipe σ vs ∧ EvRT F tt σ2 H' kt (f i) ∧ (f i = true → EvR F te σ2 H' ke (IsD K (e i)))) :
    EvR F (tLc (iTup K tl) g tt te vs) σ H (k + ds.length * (kt + ke)) (IsL F K (outs f e ds.length)) := fun n H0 hn g0 e0 Q q => h n H0 (by omega) g0 e0 _ fun v H1 e1 g1 hd => by
  cases hd with
  | @tup a xs _ ha hx =>
  have hl := dps_len hx
  refine ⟨a, rfl, ⟨xs, ha⟩, fun Dl hD => lc_tup (xs := xs) (Cd F K H1 Dl (n + k) (kt + ke) f e) ?_ (fun i H' _ p => o.kt g1 p.1 _ _ ha) (fun i x H' hi p => ?_) fun H' p => ?_⟩
  · exact ⟨Kx.ex (Ex.new hD), by rw [Nat.zero_mul]; exact o.put g1 hD g1, [], upd_same, .nil⟩
  · have hlt := (List.getElem?_eq_some_iff.mp hi).1
    have hdi : ds[i]? = some ds[i] := List.getElem?_eq_getElem (by omega)
    obtain ⟨u, hu, hdu⟩ := dps_get (mono_ds o fd _ _ _ _ g1 p.1 hx) hdi
    rw [hi] at hu
    cases hu
    obtain ⟨σ2, q1, q2, q3, q4⟩ := ht i x _ _ H' hdi hdu p.2.1 (e0.trans (e1.trans p.1))
    exact q1 _ ⟨q2, cd_turn o g1 hD p (by omega) hm (by rw [Nat.add_assoc]; exact hn) fl q3 q4⟩
  · rw [hl] at p
    obtain ⟨p1, p2, ws, p3, p4⟩ := p
    exact q (.ref Dl) H' (e1.trans p1) (by rw [← Nat.add_assoc]; exact p2) ⟨Dl, ws, rfl, o.new g1 hD, p3, p4⟩
/-- .. over range(m) -/
theorem r_lcR (o : F.Ok) {vs : List Nat} {m : Nat} (f : Nat → Bool) (e : Nat → PyData) (h : EvRA F tr σ H k (fun us _ => us = [.int (m : Int)])) (hm : m ≤ 40000) (fl : ∀ j, j < m → f j = true → flat (e j) = true)
    (ht : ∀ i n H', i < m → F.G n H' → Kx F.S H H' → ∃ σ2, Gv g (.int (i : Int)) (wipe σ vs) H' σ2 ∧ wipe σ2 vs = wipe σ vs ∧ EvRT F tt σ2 H' kt (f i) ∧ (f i = true → EvR F te σ2 H' ke (IsD K (e i)))) :
    EvR F (tLc (iRng1 tr) g tt te vs) σ H (k + m * (kt + ke)) (IsL F K (outs f e m)) := fun n H0 hn g0 e0 Q q => h n H0 (by omega) g0 e0 _ fun us H1 e1 g1 hd => by
  subst hd
  refine ⟨(m : Int), rfl, by omega, by omega, fun Dl hD => lc_range (lo := 0) (n := (m : Int).toNat) (Cd F K H1 Dl (n + k) (kt + ke) f e) ?_ (fun i H' hi p => ?_) fun H' p => ?_⟩
  · exact ⟨Kx.ex (Ex.new hD), by rw [Nat.zero_mul]; exact o.put g1 hD g1, [], upd_same, .nil⟩
  · have him : i < m := by omega
    have e00 : (0 : Int) + (i : Int) = (i : Int) := Int.zero_add _
    obtain ⟨σ2, q1, q2, q3, q4⟩ := ht i _ H' him p.2.1 (e0.trans (e1.trans p.1))
    rw [e00]
    exact q1 _ ⟨q2, cd_turn o g1 hD p him hm (by rw [Nat.add_assoc]; exact hn) fl q3 q4⟩
  · rw [show (m : Int).toNat = m from Int.toNat_natCast m] at p
    obtain ⟨p1, p2, ws, p3, p4⟩ := p
    exact q (.ref Dl) H' (e1.trans p1) (by rw [← Nat.add_assoc]; exact p2) ⟨Dl, ws, rfl, o.new g1 hD, p3, p4⟩
/-- no test -/
theorem rt_yes {b : Bool} (h : b = true) : EvRT F (fun _ H Q => Q true H) σ H 0 b := fun n H1 hn g e Q q => h ▸ q H1 Kx.refl g
/-- tuple(xs), xs a list of its own -/
theorem rd_tupOf (o : F.Ok) (h : EvR F te σ H k (IsL F K ds)) : EvR F (tCB (rTupOf K) (tCons te tNil)) σ H k (IsD K (.tuple ds)) := fun n H1 hn g e Q q => h n H1 hn g e _ fun v H2 e2 g2 ⟨p, xs, ev, hT, ha, hx⟩ => by
  subst ev
  exact ⟨p, xs, rfl, .inl ⟨sq_of ha, fun l hl => q (.ref l) _ (e2.trans (Kx.ex (Ex.new hl))) (o.ex g2 (Ex.new hl)) (.tup (st_of upd_same) (dps_ex (Ex.new hl) _ _ hx))⟩⟩
/-- the promise of a def that changes nothing: of data, data -/
def spD (K : PySem.W.Frag) (R : List PyData → PyData → Prop) : Sp := fun vs H Q _ => ∃ ds d, DpAll K H vs ds ∧ R ds d ∧ ∀ v H', Ex H H' → Dp K H' v d → Q v H'
/-- .. a new list of data -/
def spL (K : PySem.W.Frag) (R : List PyData → List PyData → Prop) : Sp := fun vs H Q _ => ∃ ds es, DpAll K H vs ds ∧ R ds es ∧ ∀ p xs H', H p = none → Ex H H' → H' p = some (.lst xs) → DpAll K H' xs es → Q (.ref p) H'
theorem rd_call {Rl : List PyData → PyData → Prop} {E : XK} (o : F.Ok) (h : EvRA F tr σ H k (fun vs H => DpAll K H vs ds)) (hR : Rl ds d) : EvR F (tCall (spD K Rl) [] E tr) σ H k (IsD K d) := fun n H1 hn g e Q q => h n H1 hn g e _ fun vs H2 e2 g2 p =>
  ⟨ds, d, by rw [List.append_nil]; exact p, hR, fun v H3 e3 hv => q v H3 (e2.trans (Kx.ex e3)) (o.ex g2 e3) hv⟩
theorem rl_call {Rl : List PyData → List PyData → Prop} {E : XK} (o : F.Ok) (h : EvRA F tr σ H k (fun vs H => DpAll K H vs ds)) (hR : Rl ds es) : EvR F (tCall (spL K Rl) [] E tr) σ H k (IsL F K es) := fun n H1 hn g e Q q => h n H1 hn g e _ fun vs H2 e2 g2 p =>
  ⟨ds, es, by rw [List.append_nil]; exact p, hR, fun a xs H3 ha e3 hv hx => q (.ref a) H3 (e2.trans (Kx.ex e3)) (o.ex g2 e3) ⟨a, xs, rfl, o.new g2 ha, hv, hx⟩⟩
end
end Dt
/-! ### sorted of data, a tuple turned round, a list extended by a tuple -/
namespace HT
open PySem PySem.Calls PyProof.Rows
section
variable {prog : Program} {w : World} {A : Around} {E : Value → Shared → Prop} {s : Shared}
theorem adjust_back (n : Nat) : Builtin.Slice.sliceAdjust none none (-1) (n : Int) = ((n : Int) - 1, -1) := rfl
theorem places_back (n : Nat) : Builtin.Slice.slicePlaces ((n : Int) - 1) (-1) (-1) = n := by
  unfold Builtin.Slice.slicePlaces
  rw [if_neg (by decide)]
  by_cases h : (n : Int) - 1 > -1
  · rw [if_pos h]
    have : ((n : Int) - 1 - -1 - 1) / -(-1) = (n : Int) - 1 := by rw [show -(-1 : Int) = 1 from rfl, Int.ediv_one]; omega
    rw [this]
    omega
  · rw [if_neg h]
    omega
theorem applied_back {sl : Addr} {vl vu vs : Value} {n : Nat} {Q : Int × Int × Nat → Shared → Prop} (hs : s.heap.IsSliceOf sl vl vu vs) (pl : IsPart vl none) (pu : IsPart vu none) (ps : IsPart vs (some (-1)))
    (h : Q ((n : Int) - 1, -1, n) s) : wpAny (model prog w) A (Builtin.Slice.sliceApplied (.ref sl) (pure (n : Int))) Q E s := by
  obtain ⟨os, hos, hcs, hds⟩ := id hs
  unfold Builtin.Slice.sliceApplied Builtin.Slice.sliceFields
  refine wpAny_bind (wpAny_bind (wpAny_field hos hds (x := vl) rfl (wpAny_bind (wpAny_field hos hds (x := vu) rfl (wpAny_bind (wpAny_field hos hds (x := vs) rfl (wpAny_pure ?_)))))))
  refine wpAny_bind (slicePart_ ps ?_)
  show wpAny _ _ (if ((-1 : Int) == 0) = true then _ else _) _ _ s
  rw [if_neg (by decide)]
  refine wpAny_bind (slicePart_ pl (wpAny_bind (slicePart_ pu (wpAny_bind (wpAny_pure ?_)))))
  show wpAny _ _ (match Builtin.Slice.sliceAdjust none none (-1) (n : Int) with | (lo, hi) => pure (lo, (-1 : Int), Builtin.Slice.slicePlaces lo hi (-1))) _ _ s
  rw [adjust_back]
  show wpAny _ _ (pure ((n : Int) - 1, (-1 : Int), Builtin.Slice.slicePlaces ((n : Int) - 1) (-1) (-1))) _ _ s
  rw [places_back]
  exact wpAny_pure h
theorem fm_congr {α β : Type} {f g : α → Option β} : ∀ {l : List α}, (∀ m ∈ l, f m = g m) → l.filterMap f = l.filterMap g
  | [], _ => rfl
  | a :: l, h => by
    rw [List.filterMap_cons, List.filterMap_cons, h a (List.mem_cons_self ..), fm_congr fun m hm => h m (List.mem_cons_of_mem _ hm)]
theorem pick_back (xs : Array Value) : ((List.range xs.size).filterMap fun (m : Nat) => xs[((xs.size : Int) - 1 + (m : Int) * -1).toNat]?) = xs.toList.reverse := by
  have e : ∀ m ∈ List.range xs.size, xs[((xs.size : Int) - 1 + (m : Int) * -1).toNat]? = xs.toList.reverse[m]? := fun m hm => by
    have hm' := List.mem_range.mp hm
    have : ((xs.size : Int) - 1 + (m : Int) * -1).toNat = xs.toList.length - 1 - m := by rw [Array.length_toList]; omega
    rw [this, List.getElem?_reverse (by rw [Array.length_toList]; exact hm'), Array.getElem?_toList]
  rw [fm_congr e]
  have hl : xs.size = xs.toList.reverse.length := by rw [List.length_reverse, Array.length_toList]
  rw [hl]
  generalize xs.toList.reverse = l
  clear e hl
  induction l with
  | nil => rfl
  | cons a l ih =>
    rw [List.length_cons, List.range_succ_eq_map, List.filterMap_cons, List.filterMap_map]
    show a :: _ = _
    congr 1
theorem getItem_tuple_back {t sl : Addr} {items : Array Value} {vl vu vs : Value} {Q : Value → Shared → Prop} (ht : IsTup s.heap t items) (hs : s.heap.IsSliceOf sl vl vu vs) (pl : IsPart vl none) (pu : IsPart vu none) (ps : IsPart vs (some (-1)))
    (h : Q (.ref s.heap.objs.size) { s with heap := s.heap.push { cls := .type "tuple", data := .seq items.toList.reverse.toArray } }) (hsz : items.size ≤ sizeLine) : wpAny (model prog w) A (getItem (.ref t) (.ref sl)) Q E s := by
  have hz : sizeOk (.seq items.toList.reverse.toArray) := by
    show items.toList.reverse.toArray.size ≤ sizeLine
    rw [List.size_toArray, List.length_reverse, Array.length_toList]
    exact hsz
  obtain ⟨os, hos, hcs, hds⟩ := id hs
  have hTs : s.TypeIs (.ref sl) "slice" := ⟨os, hos, hcs⟩
  unfold getItem
  try with_reducible refine wpAny_holding ?_
  first | refine wpAny_bind (wpAny_pure ?_) | skip
  refine wpAny_bind (wpAny_sequenceKey ht.typeIs (by decide) ?_)
  refine wpAny_bind (wpAny_callSpecial?_slot (name := Str.ofString "__getitem__") ht.typeIs PyProof.Rows.slot_tuple_getitem
    (wpAny_call_entry PyProof.Rows.slot_tuple_getitem ht.typeIs entry_tuple_getitem ?_ (args_tuple_getitem _ _)))
  show wpAny _ _ (Builtin.Tuple.tupleItemsOf (.ref t) >>= _) _ _ s
  refine wpAny_bind (tupleItemsOf_ ht ?_)
  refine wpAny_bind (wpAny_typeOf hTs ?_)
  rw [if_pos (by decide)]
  refine wpAny_bind (applied_back hs pl pu ps ?_)
  have hno : ¬ ((((items.size : Int) - 1) == 0 && (-1 : Int) == 1 && items.size == items.size) = true) := by
    intro q
    rw [Bool.and_eq_true, Bool.and_eq_true] at q
    exact absurd q.1.2 (by decide)
  show wpAny _ _ (if (((items.size : Int) - 1) == 0 && (-1 : Int) == 1 && items.size == items.size) = true then _ else _) _ _ s
  rw [if_neg hno, pick_back]
  first
    | exact wpAny_bind (m := Builtin.Tuple.tupleExact _) (wpAny_newObj_type (wpAny_pure ⟨_, rfl, wpAny_pure h⟩) hz)
    | exact wpAny_bind (m := Builtin.Tuple.tupleExact _) (wpAny_newObj_type (wpAny_bind (wpAny_pure (wpAny_pure ⟨_, rfl, wpAny_pure h⟩))) hz)
    | exact wpAny_bind (wpAny_bind (m := Builtin.Tuple.tupleExact _) (wpAny_newObj_type (wpAny_pure (wpAny_pure ⟨_, rfl, wpAny_pure h⟩)) hz))
    | exact wpAny_bind (wpAny_bind (m := Builtin.Tuple.tupleExact _) (wpAny_newObj_type (wpAny_pure ⟨_, rfl, wpAny_pure h⟩) hz))
end
end HT
namespace L2
open PySem PySem.Spec PyProof.Rows
section
variable {X : Cx}
/-- t[::-1] -/
def tRevT (K : PySem.W.Frag) (te : TE) : TE := fun σ H Q => te σ H fun x H1 => ∃ a xs, x = .ref a ∧ SqT K H1 a xs ∧ ∀ p, H1 p = none → Q (.ref p) (upd H1 p (.tup xs.reverse))
theorem pe_revT {e : Expr} {te : TE} {k : Nat} {p1 p2 p3 pos : Pos} (he : PE X e te) : PE X (.Subscript e (.Slice none none (some (.UnaryOp .USub (.Constant (.int 1) k p1) p2)) p3) pos) (tRevT X.K te) := by
  refine ⟨fun pins s σ H Q I h => ?_⟩
  refine Subscript_ (thn (he.run pins s σ H _ I h) fun v s1 ⟨x, H1, I1, r1, q1⟩ => ?_)
  obtain ⟨a, xs, ex, hx, q⟩ := q1
  subst ex
  cases r1
  have hst : PO X (some (.UnaryOp .USub (.Constant (.int 1) k p1) p2)) (tPart (tUn (rU fun i => .int (-i)) (tC (.int 1)))) := po_some (pe_un un_neg pe_int)
  refine wpAny_Slice (thn (po_none.run pins s1 σ H1 (fun o H2 => o = none ∧ H2 = H1) I1 ⟨rfl, rfl⟩) fun vl s2 ⟨l, H2, I2, pl, el, e2⟩ => ?_)
  subst el e2
  refine thn (po_none.run pins s2 σ H2 (fun o H3 => o = none ∧ H3 = H2) I2 ⟨rfl, rfl⟩) fun vu s3 ⟨u, H3, I3, pu, eu, e3⟩ => ?_
  subst eu e3
  refine thn (hst.run pins s3 σ H3 (fun o H4 => o = some (-1) ∧ H4 = H3) I3 ⟨1, rfl, -1, rfl, rfl, rfl⟩) fun vs s4 ⟨o, H4, I4, ps, eo, e4⟩ => ?_
  subst eo e4
  have I5 : Inv X pins σ H4 { s4 with heap := s4.heap.push { cls := .type "slice", data := .fields #[vl, vu, vs] } } := I4.kept (t' := s4.toks) fun b ob q => Heap.get?_push_of_some _ q
  obtain ⟨its, r, ht, hz⟩ := I5.tuple hx
  have hlen := r.length
  show wpAny (model X.prog X.w) X.A (subscriptTail e (.Slice none none (some (.UnaryOp .USub (.Constant (.int 1) k p1) p2)) p3) (.ref a) (.ref s4.heap.objs.size)) (EP X pins σ Q) X.xe { s4 with heap := s4.heap.push { cls := .type "slice", data := .fields #[vl, vu, vs] } }
  refine tail_any (ops := [.ref a, .ref s4.heap.objs.size]) ht.typeIs (PyProof.Rows.slot_tuple_getitem.lookup) ?_ (by with_unfolding_all rfl)
  refine HT.getItem_tuple_back ht (Heap.IsSliceOf.new _ vl vu vs) pl pu ps ?_ (by rw [List.size_toArray]; omega)
  refine ⟨.ref _, _, I5.laid (t' := s4.toks) (o := .tup xs.reverse) (fun b ob q => Heap.get?_push_of_some _ q) (Nat.le_refl _) ?_, rfl, q _ (I5.hok.fresh (Nat.le_refl _))⟩
  exact ⟨by rw [List.length_reverse]; exact hz, its.reverse, r.reverse, ⟨_, Heap.get?_push_size _ rfl, rfl, 0, rfl⟩⟩
/-- sorted(xs): data that are alike -/
def rSortD (K : PySem.W.Frag) : List V → Hp → VK → Prop := fun us H Q => ∃ a vs ds, us = [.ref a] ∧ SqL K H a vs ∧ DpAll K H vs ds ∧ PySem.W.AllAlike ds ∧ PySem.W.Sortable ds ∧ (∀ d ∈ ds, PyData.depth d ≤ 40) ∧
  ∀ l ws, H l = none → DpAll K H ws (ds.mergeSort (PySem.W.dataLe false id)) → Q (.ref l) (upd H l (.lst ws))
theorem each_zip {K : PySem.W.Frag} {H : Hp} : ∀ {us : List Value} {vs : List V} {ds : List PyData}, Vals vs us → DpAll K H vs ds → PySem.W.EachIs (fun u (b : V × PyData) => RelV b.1 u ∧ Dp K H b.1 b.2) us (vs.zip ds)
  | _, _, _, .nil, .nil => .nil
  | _, _, _, .cons r rs, .cons h hs => .cons ⟨r, h⟩ (each_zip rs hs)
theorem zip_snd {K : PySem.W.Frag} {H : Hp} : ∀ {vs : List V} {ds : List PyData}, DpAll K H vs ds → (vs.zip ds).map Prod.snd = ds
  | _, _, .nil => rfl
  | _, _, .cons _ hs => by rw [List.zip_cons_cons, List.map_cons, zip_snd hs]
theorem each_back {K : PySem.W.Frag} {H : Hp} : ∀ {us : List Value} {bs : List (V × PyData)}, PySem.W.EachIs (fun u (b : V × PyData) => RelV b.1 u ∧ Dp K H b.1 b.2) us bs → Vals (bs.map Prod.fst) us ∧ DpAll K H (bs.map Prod.fst) (bs.map Prod.snd)
  | _, _, .nil => ⟨.nil, .nil⟩
  | _, _, .cons h t => ⟨.cons h.1 (each_back t).1, .cons h.2 (each_back t).2⟩
theorem cr_sortedD (hu : X.A.units + 64 < cLine) : CallR X (.builtin "sorted") (rSortD X.K) := by
  intro pins s σ H vs us Q I r h
  obtain ⟨a, xs, ds, rfl, hs, hd, hal, hk, hdp, q⟩ := h
  obtain ⟨its, rv, hl, hz⟩ := I.list hs
  rw [Vals.ref1 r]
  have e := each_zip rv hd
  have ez := zip_snd hd
  have er : PySem.W.EachIs (fun v (b : V × PyData) => ∃ as, Reads s.heap v b.2 as) its (xs.zip ds) := e.mono fun u b ⟨h1, h2⟩ => Dp.reads I b.2 b.1 u h2 h1
  have len : (xs.zip ds).length = xs.length := by
    have := congrArg List.length ez
    rw [List.length_map] at this
    rw [this]
    have l2 := rv.length
    have l3 := e.length
    omega
  refine PySem.W.sorted_data (enc := Prod.snd) hl.isList e er (by rw [ez]; exact hal) (by rw [ez]; exact hk) (by rw [len]; exact hz) (fun b hb => ?_) fun out h1 h2 => ?_
  · have : b.2 ∈ ds := by rw [← ez]; exact List.mem_map.mpr ⟨b, hb, rfl⟩
    have := hdp _ this
    omega
  · obtain ⟨ep, he'⟩ := PyProof.Rows.sortedAll_at s.heap its out.toArray
    obtain ⟨b1, b2⟩ := each_back h2
    have hm : ((xs.zip ds).mergeSort (PySem.W.dataLe false Prod.snd)).map Prod.snd = ds.mergeSort (PySem.W.dataLe false id) := by
      exact (List.map_mergeSort (r := PySem.W.dataLe false Prod.snd) (s := PySem.W.dataLe false id) (f := Prod.snd) (l := xs.zip ds) (fun _ _ _ _ => rfl)).trans (by rw [ez])
    rw [hm] at b2
    have hlen : (((xs.zip ds).mergeSort (PySem.W.dataLe false Prod.snd)).map Prod.fst).length ≤ sizeLine := by rw [List.length_map, List.length_mergeSort, len]; exact hz
    exact ⟨.ref _, upd H (s.heap.objs.size + 1) (.lst _), I.laid (t' := s.toks) (fun _ _ => PyProof.Rows.sortedAll_old) (Nat.le_succ _) ⟨hlen, out, ep, b1, he'⟩, rfl, q _ _ (I.hok.fresh (Nat.le_succ _)) b2⟩
end
end L2
/-! ### lists that are filled and emptied; slices of data -/
namespace PySem.AutoSeq1
open PySem
theorem list_extendT (l : Addr) (items : Array Value) (n : Nat) (b : Addr) (items2 : Array Value) (n2 : Nat) (dd : Option Addr) (sl : Array (Option Value)) (hs0 : ¬(!items.isEmpty && Builtin.List.listTooLong (items.size + items2.size)) = true) (hs1 : items.size ≤ sizeLine) (hs2 : items.size + items2.size ≤ sizeLine + 1) :
    Meets (Builtin.«list.extend» ⟨[.ref l, .ref b], []⟩) (fun _ R s => s.heap.get? l = some { cls := .type "list", dict := none, data := .seq items n, slots := #[] } ∧ s.heap.get? b = some { cls := .type "tuple", dict := dd, data := .seq items2 n2, slots := sl } ∧ R (.ok (.ret Value.none)) { s with heap := s.heap.update l (Obj.mapSeq fun x => x ++ items2), toks := s.toks }) :=
  .of_wp fun prog w A R s h => by
    obtain ⟨hp, g, d, tk, os⟩ := s; obtain ⟨hl, hb, h⟩ := h; have f1 := idx_int; have f2 := sub_tuple_tuple; have f3 := sub_list_list; have f4 := sub_tuple_list; have f5 := sub_list_tuple;
    have hz' : (items ++ items2).size ≤ sizeLine + 1 := by rw [Array.size_append]; exact hs2
    wp_walk using (wpAny_updateSeq hl rfl (hz := hs1) (_hz' := hz')), wpAny_loadPart' hl, wpAny_loadPart' hb; exact ⟨_, rfl, h⟩
end PySem.AutoSeq1
namespace L2
open PySem PySem.Spec PyProof.Rows
section
variable {X : Cx}
/-- xs.extend(t), t a tuple -/
def rExtendT (K : PySem.W.Frag) : V → List V → Hp → VK → Prop := fun x vs H Q => ∃ l b xs zs, x = .ref l ∧ vs = [.ref b] ∧ H l = some (.lst xs) ∧ SqT K H b zs ∧ xs.length + zs.length ≤ sizeLine ∧ Q .non (upd H l (.lst (xs ++ zs)))
theorem mt_extendT : MtM X "list.extend" (rExtendT X.K) := by
  intro pins s σ H x vs v us Q I rx rv h
  obtain ⟨l, b, xs, zs, rfl, rfl, hH, hB, hz, q⟩ := h
  cases rx
  obtain ⟨u, rfl, ru⟩ := rv.one
  cases ru
  obtain ⟨z, its, n, r, hl, e⟩ := I.lstM hH
  obtain ⟨its2, r2, ⟨⟨cls2, dd2, data2, sl2⟩, e2, hc2, n2, hd2⟩, hz2⟩ := I.tuple hB
  simp only at hc2 hd2
  subst hc2 hd2
  have hl2 := r2.length
  have hsz : its.toArray.size + its2.toArray.size ≤ sizeLine := by rw [List.size_toArray, List.size_toArray]; omega
  have hlong : ¬ (!its.toArray.isEmpty && Builtin.List.listTooLong (its.toArray.size + its2.toArray.size)) = true := by
    rw [notLongL hsz, Bool.and_false]
    exact Bool.false_ne_true
  refine call_meets F.slot_list_extend ⟨_, e, rfl⟩ F.entry_list_extend (F.args_list_extend_2 _ _)
    (AutoSeq1.list_extendT l its.toArray n b its2.toArray n2 dd2 sl2 hlong (by rw [List.size_toArray]; omega) (by omega)) ⟨e, e2, ?_⟩
  refine ⟨.non, _, I.lset (its' := its ++ its2) hH e (by simp) (r.append r2) ?_, rfl, q⟩
  rw [List.length_append]
  omega
end
end L2
namespace Dt
open PySem PySem.Spec PyProof.Rows L2 Evl Fx
section
variable {F : Fd} {K : PySem.W.Frag} {te ta tb tl : TE} {tr : TA} {tt : TT} {g : TG} {tu tw tz : TS} {σ : L2.St} {H H' : Hp} {P P' R : VP} {d d' d2 : PyData} {ds es : List PyData} {n k ka kb kt ke : Nat} {v : V} {D : Ends}
/-! statements -/
theorem q_asgR {i : Nat} (h : EvR F te σ H k P) (g0 : F.G n H) (hn : n + k ≤ F.N) (kk : ∀ v H1, Kx F.S H H1 → F.G (n + k) H1 → P v H1 → tz D (σ.set i (some v)) H1) : tSeq (tAsg te (gName i)) tz D σ H := h n H hn g0 Kx.refl _ kk
theorem q_asgG (h : EvR F te σ H k P) (g0 : F.G n H) (hn : n + k ≤ F.N) (kk : ∀ v H1, Kx F.S H H1 → F.G (n + k) H1 → P v H1 → g v σ H1 (tz D)) : tSeq (tAsg te g) tz D σ H := h n H hn g0 Kx.refl _ kk
theorem s_retR (h : EvR F te σ H k P) (g0 : F.G n H) (hn : n + k ≤ F.N) (kk : ∀ v H1, Kx F.S H H1 → F.G (n + k) H1 → P v H1 → D.rt v H1) : tRet te D σ H := h n H hn g0 Kx.refl _ kk
theorem s_ifR {b : Bool} (h : EvRT F tt σ H k b) (g0 : F.G n H) (hn : n + k ≤ F.N) (h1 : b = true → ∀ H1, Kx F.S H H1 → F.G (n + k) H1 → tu D σ H1) (h2 : b = false → ∀ H1, Kx F.S H H1 → F.G (n + k) H1 → tw D σ H1) : tIfS tt tu tw D σ H := h n H hn g0 Kx.refl _ fun H1 e1 g1 => by
  cases b with
  | true => exact h1 rfl H1 e1 g1
  | false => exact h2 rfl H1 e1 g1
/-- if ..: return ..; the rest -/
theorem q_whenR {b : Bool} (h : EvRT F tt σ H k b) (g0 : F.G n H) (hn : n + k ≤ F.N) (h1 : b = true → ∀ H1, Kx F.S H H1 → F.G (n + k) H1 → tu { D with nx := tz D } σ H1) (h2 : b = false → ∀ H1, Kx F.S H H1 → F.G (n + k) H1 → tz D σ H1) : tSeq (tIfS tt tu tNext) tz D σ H :=
  s_ifR (D := { D with nx := tz D }) h g0 hn h1 h2
/-- xs.append(e) -/
theorem q_appR {i : Nat} {l : Addr} {xs : List V} (hv : σ[i]? = some (some (.ref l))) (hl : H l = some (.lst xs)) (hT : ¬ F.S l) (h : EvR F te σ H k P) (g0 : F.G n H) (hn : n + k ≤ F.N) (hz : xs.length < 100000)
    (kk : ∀ v H1, Kx F.S H H1 → F.G (n + k) H1 → P v H1 → H1 l = some (.lst xs) → D.nx σ (upd H1 l (.lst (xs ++ [v])))) : tDrop (tBM K "list" rAppend (tVar i) (tCons te tNil)) D σ H :=
  ⟨.ref l, hv, .inl ⟨rfl, xs, sq_of hl⟩, h n H hn g0 Kx.refl _ fun v H1 e1 g1 p => ⟨l, xs, v, rfl, rfl, e1 _ _ hl hT, sz_lt hz, kk v H1 e1 g1 p (e1 _ _ hl hT)⟩⟩
/-- xs.extend(ys) -/
theorem q_extL {i : Nat} {l : Addr} {xs : List V} (hv : σ[i]? = some (some (.ref l))) (hl : H l = some (.lst xs)) (hT : ¬ F.S l) (h : EvR F te σ H k (IsL F K ds)) (g0 : F.G n H) (hn : n + k ≤ F.N) (hz : xs.length + ds.length ≤ 100000)
    (kk : ∀ zs H1, Kx F.S H H1 → F.G (n + k) H1 → DpAll K H1 zs ds → H1 l = some (.lst xs) → D.nx σ (upd H1 l (.lst (xs ++ zs)))) : tDrop (tBM K "list" rExtend (tVar i) (tCons te tNil)) D σ H :=
  ⟨.ref l, hv, .inl ⟨rfl, xs, sq_of hl⟩, h n H hn g0 Kx.refl _ fun v H1 e1 g1 ⟨b, zs, ev, _, hb, hd⟩ => ⟨l, b, xs, zs, rfl, by rw [ev], e1 _ _ hl hT, hb, by rw [dps_len hd]; exact sz_of hz, kk zs H1 e1 g1 hd (e1 _ _ hl hT)⟩⟩
theorem q_extT {i : Nat} {l : Addr} {xs : List V} (hv : σ[i]? = some (some (.ref l))) (hl : H l = some (.lst xs)) (hT : ¬ F.S l) (h : EvR F te σ H k (IsD K (.tuple ds))) (g0 : F.G n H) (hn : n + k ≤ F.N) (hz : xs.length + ds.length ≤ 100000)
    (kk : ∀ zs H1, Kx F.S H H1 → F.G (n + k) H1 → DpAll K H1 zs ds → H1 l = some (.lst xs) → D.nx σ (upd H1 l (.lst (xs ++ zs)))) : tDrop (tBM K "list" (rExtendT K) (tVar i) (tCons te tNil)) D σ H :=
  ⟨.ref l, hv, .inl ⟨rfl, xs, sq_of hl⟩, h n H hn g0 Kx.refl _ fun v H1 e1 g1 hd => by
    cases hd with
    | @tup b zs _ hb hd => exact ⟨l, b, xs, zs, rfl, rfl, e1 _ _ hl hT, hb, by rw [dps_len hd]; exact sz_of hz, kk zs H1 e1 g1 hd (e1 _ _ hl hT)⟩⟩
/-- .. = xs.pop() -/
theorem q_popR {i : Nat} {l : Addr} {xs : List V} {y : V} (hv : σ[i]? = some (some (.ref l))) (hl : H l = some (.lst (xs ++ [y]))) (kk : g y σ (upd H l (.lst xs)) (tz D)) : tSeq (tAsg (tBM0 K "list" rPop (tVar i)) g) tz D σ H :=
  ⟨.ref l, hv, .inl ⟨rfl, _, sq_of hl⟩, l, xs ++ [y], y, rfl, rfl, hl, by simp, by rw [List.dropLast_concat]; exact kk⟩
/-! expressions -/
theorem rd_revT (o : F.Ok) (h : EvR F te σ H k (IsD K (.tuple ds))) : EvR F (tRevT K te) σ H k (IsD K (.tuple ds.reverse)) := fun n H1 hn g e Q q => h n H1 hn g e _ fun v H2 e2 g2 hd => by
  cases hd with
  | @tup a xs _ ha hd => exact ⟨a, xs, rfl, ha, fun p hp => q _ _ (e2.trans (Kx.ex (Ex.new hp))) (o.ex g2 (Ex.new hp)) (.tup (st_of upd_same) (dps_ex (Ex.new hp) _ _ (dps_rev hd)))⟩
theorem rl_revL (o : F.Ok) (h : EvR F te σ H k (IsL F K ds)) : EvR F (tRevL K te) σ H k (IsL F K ds.reverse) := fun n H1 hn g e Q q => h n H1 hn g e _ fun v H2 e2 g2 ⟨a, xs, ev, hT, ha, hd⟩ => by
  subst ev
  exact ⟨a, xs, rfl, sq_of ha, fun p hp => q _ _ (e2.trans (Kx.ex (Ex.new hp))) (o.ex g2 (Ex.new hp)) ⟨p, _, rfl, o.new g2 hp, upd_same, dps_ex (Ex.new hp) _ _ (dps_rev hd)⟩⟩
theorem rl_lst (o : F.Ok) (h : EvRA F tr σ H k (fun vs H => DpAll K H vs ds)) (hl : ds.length ≤ 100000 := by simp) : EvR F (tLst tr) σ H k (IsL F K ds) :=
  fun n H1 hn g e Q q => h n H1 hn g e _ fun vs H2 e2 g2 p => ⟨sz_of (by rw [dps_len p]; exact hl), fun a ha => q (.ref a) _ (e2.trans (Kx.ex (Ex.new ha))) (o.ex g2 (Ex.new ha)) ⟨a, vs, rfl, o.new g2 ha, upd_same, dps_ex (Ex.new ha) _ _ p⟩⟩
theorem rl_sorted (o : F.Ok) (h : EvR F te σ H k (IsL F K ds)) (hal : PySem.W.AllAlike ds) (hk : PySem.W.Sortable ds) (hd : ∀ d ∈ ds, PyData.depth d ≤ 40) : EvR F (tCB (rSortD K) (tCons te tNil)) σ H k (IsL F K (ds.mergeSort (PySem.W.dataLe false id))) := fun n H1 hn g e Q q =>
  h n H1 hn g e _ fun v H2 e2 g2 ⟨a, xs, ev, hT, ha, hx⟩ => ⟨a, xs, ds, by rw [ev], sq_of ha, hx, hal, hk, hd, fun p ws hp hw => q _ _ (e2.trans (Kx.ex (Ex.new hp))) (o.ex g2 (Ex.new hp)) ⟨p, ws, rfl, o.new g2 hp, upd_same, dps_ex (Ex.new hp) _ _ hw⟩⟩
theorem rv_lenT (h : EvR F te σ H k (IsD K (.tuple ds))) : EvR F (tCB (rLenS K) (tCons te tNil)) σ H k (fun x _ => x = .int (ds.length : Int)) := fun n H1 hn g e Q q => h n H1 hn g e _ fun v H2 e2 g2 hd => by
  cases hd with
  | @tup a xs _ ha hd => exact ⟨a, xs, rfl, .inr ha, q _ H2 e2 g2 (by rw [dps_len hd])⟩
theorem rv_lenL (h : EvR F te σ H k (IsL F K ds)) : EvR F (tCB (rLenS K) (tCons te tNil)) σ H k (fun x _ => x = .int (ds.length : Int)) := fun n H1 hn g e Q q => h n H1 hn g e _ fun v H2 e2 g2 ⟨a, xs, ev, hT, ha, hd⟩ => by
  subst ev
  exact ⟨a, xs, rfl, .inl (sq_of ha), q _ H2 e2 g2 (by rw [dps_len hd])⟩
/-- (*t, e) -/
theorem ra_star (o : F.Ok) (h : EvR F te σ H ka (IsD K (.tuple ds))) (fd : flats ds = true) (hr : EvRA F tr σ H kb (fun vs H => DpAll K H vs es)) : EvRA F (StX.tStar K te tr) σ H (ka + kb) (fun vs H => DpAll K H vs (ds ++ es)) :=
  fun n H1 hn g e Q q => h n H1 (by omega) g e _ fun v H2 e2 g2 hd => by
    cases hd with
    | @tup a xs _ ha hd => exact ⟨a, xs, rfl, .inl ha, hr (n + ka) H2 (by omega) g2 (e.trans e2) _ fun vs H3 e3 g3 p' => q _ H3 (e2.trans e3) (by rw [← Nat.add_assoc]; exact g3) (dps_app (mono_ds o fd _ _ _ _ g2 e3 hd) p')⟩
theorem rd_ixL {i : Int} (o : F.Ok) (ha : EvR F ta σ H ka (IsL F K ds)) (fd : flats ds = true) (hb : EvR F tb σ H kb (fun x _ => x = .int i)) (j : Nat) (hj : ixN ds.length i = some j) (hd : ds[j]? = some d) : EvR F (tOp (rIxL K) ta tb) σ H (ka + kb) (IsD K d) :=
  r_op o (mono_l o fd) ha hb fun x y n H1 g e ⟨p, xs, ex, hT, hp, hx⟩ py Q q => by
    subst py ex
    obtain ⟨u, hu, hdu⟩ := dps_get hx hd
    exact ⟨_, _, i, u, rfl, rfl, sq_of hp, by unfold atI; rw [dps_len hx, hj]; exact hu, q u H1 (Ex.refl _) hdu⟩
/-- x in a list -/
theorem rb_inL (o : F.Ok) (ha : EvR F ta σ H ka (IsD K d)) (hb : EvR F tb σ H kb (IsL F K ds)) (f : flat d = true) (sd : SeqAt.shaped d = true) (se : SeqAt.shaped (.list ds) = true) : EvR F (tOp (rInD K) ta tb) σ H (ka + kb) (fun x _ => x = .bl (ds.any fun z => PyData.eqv z d)) :=
  r_op o (mono_d o f) ha hb fun x y n H1 g e px py Q q => ⟨d, ds, px, py.dp, sd, se, q _ H1 (Ex.refl _) rfl⟩
/-- t[lo:hi] -/
theorem rd_slT {tlo thi : TO} {lo hi : Option Int} (o : F.Ok) (h : EvR F te σ H k (IsD K (.tuple ds))) (h1 : ∀ H1, EvO tlo σ H1 lo) (h2 : ∀ H1, EvO thi σ H1 hi) : EvR F (tSl (rSlA K) te tlo thi) σ H k (IsD K (.tuple ((ds.drop (HT.sIx ds.length 0 lo)).take (HT.sIx ds.length ds.length hi - HT.sIx ds.length 0 lo)))) := fun n H1 hn g e Q q => h n H1 hn g e _ fun v H2 e2 g2 hd => by
  cases hd with
  | @tup a xs _ ha hd =>
    have hl := dps_len hd
    refine h1 H2 H2 (Ex.refl _) _ fun H3 e3 => h2 H3 H3 (Ex.refl _) _ fun H4 e4 => ?_
    have e34 := e3.trans e4
    refine ⟨a, xs, rfl, ex_t e34 ha, fun ⟨w1, w2⟩ => ?_, fun hw p hp => ?_⟩
    · refine q _ H4 (e2.trans (Kx.ex e34)) (o.ex g2 e34) ?_
      rw [hl] at w1 w2
      rw [w1, w2, Nat.sub_zero, List.drop_zero, List.take_length]
      exact .tup (ex_t e34 ha) (dps_ex e34 _ _ hd)
    · refine q _ _ (e2.trans (Kx.ex (e34.trans (Ex.new hp)))) (o.ex g2 (e34.trans (Ex.new hp))) (.tup (st_of upd_same) (dps_ex (e34.trans (Ex.new hp)) _ _ ?_))
      unfold cutV
      rw [hl]
      exact dps_take (dps_drop hd)
end
end Dt
namespace Dt
open PySem PySem.Spec PyProof.Rows L2 Evl Fx
section
variable {K : PySem.W.Frag} {H H' H1 : Hp} {p : Addr} {xs ys : List V} {u : HO} {d : PyData} {ds : List PyData} {v : V} {F : Fd}
theorem kt_lst (h : H p = some (.lst xs)) : KT K H (upd H p u) := fun a zs q => by
  have hne : ∀ o, H a = some o → (∀ ys, o ≠ .lst ys) → a ≠ p := fun o q z => by
    rintro rfl
    rw [h] at q
    cases q
    exact z _ rfl
  rcases q with (q | ⟨o, q⟩) | q
  · exact .inl (.inl (by rw [upd_ne (hne _ q fun _ z => by cases z)]; exact q))
  · exact .inl (.inr ⟨o, by rw [upd_ne (hne _ q fun _ z => by cases z)]; exact q⟩)
  · exact .inr q
theorem kt_ex (e : Ex H H') : KT K H H' := fun a xs h => ex_t e h
theorem kt_trans (a : KT K H H1) (b : KT K H1 H') : KT K H H' := fun x ys h => b x ys (a x ys h)
/-- the truth of a name that holds a list -/
def tTru (K : PySem.W.Frag) (i : Nat) : TT := fun σ H Q => tVar i σ H fun x H' => ∃ k, TruV K x H' k ∧ Q k H'
theorem et_truL {σ : L2.St} {i : Nat} (hv : σ[i]? = some (some (.ref p))) (h : H p = some (.lst xs)) : EvT (tTru K i) σ H (!xs.isEmpty) := fun H1 e Q q => ⟨.ref p, hv, _, .inl ⟨xs, sq_of (e _ _ h), rfl⟩, q H1 (Ex.refl H1)⟩
theorem F0.kx (e : Ex H H') : Kx F0.S H H' := Kx.ex e
theorem ne_addr {q : Addr} {o : HO} (h : H p = none) (h' : H q = some o) : q ≠ p := by
  rintro rfl
  rw [h] at h'
  cases h'
/-- list(range(n)) -/
theorem rl_listRg {te : TE} {σ : L2.St} {k m : Nat} (o : F.Ok) (h : EvR F te σ H k (fun x _ => x = .int (m : Int))) (hm : m ≤ 100000) : EvR F (tLstRg (tRg1 te)) σ H k (IsL F K ((List.range m).map fun (i : Nat) => PyData.int (i : Int))) := fun n H1 hn g e Q q => h n H1 hn g e _ fun v H2 e2 g2 ev => by
  refine ⟨(m : Int), ev, RgOk.of_le (by omega) (by omega) (by omega) (by omega), fun p hp => q _ _ (e2.trans (Kx.ex (Ex.new hp))) (o.ex g2 (Ex.new hp)) ⟨p, _, rfl, o.new g2 hp, upd_same, ?_⟩⟩
  unfold rgV
  rw [show ((m : Int) - 0).toNat = m by omega]
  clear hp
  generalize upd H2 p _ = H3
  have go : ∀ l : List Nat, DpAll K H3 (l.map fun (i : Nat) => V.int (0 + (i : Int))) (l.map fun (i : Nat) => PyData.int (i : Int)) := fun l => by
    induction l with
    | nil => exact .nil
    | cons a l ih =>
      refine .cons ?_ ih
      show Dp K H3 (V.int (0 + (a : Int))) (PyData.int (a : Int))
      rw [Int.zero_add]
      exact .int _
  exact go _
theorem rl_var {σ : L2.St} {n i : Nat} (o : F.Ok) (g0 : F.G n H) (h : σ[i]? = some (some v)) (p : IsL F K ds v H) (f : flats ds = true) : EvR F (tVar i) σ H 0 (IsL F K ds) := r_var (mono_l o f) g0 h p
theorem range_getD {α : Type} (z : α) : ∀ l : List α, (List.range l.length).map (fun i => l.getD i z) = l
  | [] => rfl
  | a :: l => by
    rw [List.length_cons, List.range_succ_eq_map, List.map_cons, List.map_map]
    show a :: _ = a :: l
    congr 1
    exact range_getD z l
theorem outs_getD (z : PyData) (l : List PyData) {m : Nat} (h : l.length = m) : outs (fun _ => true) (fun i => l.getD i z) m = l := by
  subst h
  rw [outs_all]
  exact range_getD z l
/-- a list that H0 doesn't know -/
def IsN (H0 : Hp) (F : Fd) (K : PySem.W.Frag) (ds : List PyData) : VP := fun v H => ∃ p xs, v = .ref p ∧ H0 p = none ∧ ¬ F.T p ∧ H p = some (.lst xs) ∧ DpAll K H xs ds
theorem kx_none {n : Nat} {p : Addr} (o : F.Ok) (g : F.G n H1) (e : Kx F.S H H1) (h : H1 p = none) : H p = none := by
  cases q : H p with
  | none => rfl
  | some u =>
    by_cases s : F.S p
    · obtain ⟨w, z, _⟩ := o.at_ g (o.sub s)
      rw [h] at z
      cases z
    · rw [e _ _ q s] at h
      cases h
theorem rn_lst {tr : TA} {σ : L2.St} {k : Nat} (o : F.Ok) (h : EvRA F tr σ H k (fun vs H => DpAll K H vs ds)) (hl : ds.length ≤ 100000 := by simp) : EvR F (tLst tr) σ H k (IsN H F K ds) :=
  fun n H1 hn g e Q q => h n H1 hn g e _ fun vs H2 e2 g2 p => ⟨sz_of (by rw [dps_len p]; exact hl), fun a ha => q (.ref a) _ (e2.trans (Kx.ex (Ex.new ha))) (o.ex g2 (Ex.new ha)) ⟨a, vs, rfl, kx_none o g2 (e.trans e2) ha, o.new g2 ha, upd_same, dps_ex (Ex.new ha) _ _ p⟩⟩
theorem dps_uncons {vs : List V} (h : DpAll K H vs (d :: ds)) : ∃ v r, vs = v :: r ∧ Dp K H v d ∧ DpAll K H r ds := by
  cases h with
  | cons h1 h2 => exact ⟨_, _, rfl, h1, h2⟩
theorem dps_none {vs : List V} (h : DpAll K H vs []) : vs = [] := by
  cases h
  rfl
theorem dp_two {d e : PyData} (h : Dp K H v (.tuple [d, e])) : ∃ a x y, v = .ref a ∧ SqT K H a [x, y] ∧ Dp K H x d ∧ Dp K H y e := by
  cases h with
  | tup h1 h2 =>
    cases h2 with
    | cons p1 q1 =>
      cases q1 with
      | cons p2 q2 =>
        cases q2
        exact ⟨_, _, _, rfl, h1, p1, p2⟩
theorem dp_three {d e c : PyData} (h : Dp K H v (.tuple [d, e, c])) : ∃ a x y z, v = .ref a ∧ SqT K H a [x, y, z] ∧ Dp K H x d ∧ Dp K H y e ∧ Dp K H z c := by
  cases h with
  | tup h1 h2 =>
    cases h2 with
    | cons p1 q1 =>
      cases q1 with
      | cons p2 q2 =>
        cases q2 with
        | cons p3 q3 =>
          cases q3
          exact ⟨_, _, _, _, rfl, h1, p1, p2, p3⟩
end
theorem call_lenS {X : Cx} : CallR X (.builtin "len") (rLenS X.K) := by
  intro pins s σ H xs us Q I r h
  obtain ⟨p, ys, rfl, hs, q⟩ := h
  exact call_len pins s σ H _ us Q I r ⟨.ref p, ys.length, rfl, hs.elim (fun h => .inl ⟨ys, h, rfl⟩) fun h => .inr ⟨ys, h, rfl⟩, q⟩
theorem pa_starK {X : Cx} {K : PySem.W.Frag} {e : Expr} {te : TE} {es : List Expr} {t : TA} {p : Pos} (hK : X.K = K) (he : PE X e te) (hr : PA X es t) (hs : starEach (.Starred e p :: es) X.env = (true, eval e X.env) :: starEach es X.env := by rfl) : PA X (.Starred e p :: es) (StX.tStar K te t) := by
  subst hK
  exact StX.pa_star he hr hs
end Dt
/-! ### span trees as a type, their data, their spans -/
namespace Tr
open PySem PySem.Spec PyProof.Rows L2 Evl Fx Dt
/-- a span tree: service, mark, calls -/
inductive T where
  | mk (s : Str) (m : Int) (cs : List T)
def T.name : T → Str | .mk s _ _ => s
def T.mark : T → Int | .mk _ m _ => m
def T.calls : T → List T | .mk _ _ cs => cs
mutual
def enc : T → PyData
  | .mk s m cs => .tuple [.str s, .int m, .tuple (encs cs)]
def encs : List T → List PyData
  | [] => []
  | t :: ts => enc t :: encs ts
end
theorem encs_map : ∀ ts : List T, encs ts = ts.map enc
  | [] => by rw [encs]; rfl
  | t :: ts => by rw [encs, encs_map ts]; rfl
theorem enc_eq (t : T) : enc t = .tuple [.str t.name, .int t.mark, .tuple (t.calls.map enc)] := by
  cases t
  rw [enc, encs_map]
  rfl
mutual
theorem enc_flat : ∀ t, flat (enc t) = true
  | .mk s m cs => by rw [enc, flat_tup, flats, flats, flats, flats, flat, flat, flat_tup, encs_flat cs]; rfl
theorem encs_flat : ∀ ts, flats (encs ts) = true
  | [] => by rw [encs, flats]
  | t :: ts => by rw [encs, flats, enc_flat t, encs_flat ts]; rfl
end
theorem maps_flat (ts : List T) : flats (ts.map enc) = true := by rw [← encs_map]; exact encs_flat ts
mutual
def size : T → Nat
  | .mk _ _ cs => sizes cs + 1
def sizes : List T → Nat
  | [] => 0
  | t :: ts => size t + sizes ts
end
theorem size_eq (t : T) : size t = sizes t.calls + 1 := by cases t; rw [size]; rfl
theorem sizes_app : ∀ ts us : List T, sizes (ts ++ us) = sizes ts + sizes us
  | [], us => by rw [List.nil_append, sizes]; omega
  | t :: ts, us => by rw [List.cons_append, sizes, sizes, sizes_app ts us]; omega
theorem sizes_rev : ∀ ts : List T, sizes ts.reverse = sizes ts
  | [] => rfl
  | t :: ts => by rw [List.reverse_cons, sizes_app, sizes_rev ts, sizes, sizes, sizes]; omega
theorem len_sizes : ∀ ts : List T, ts.length ≤ sizes ts
  | [] => by rw [sizes]; exact Nat.le_refl _
  | .mk _ _ cs :: ts => by
    have := len_sizes ts
    rw [sizes, size, List.length_cons]
    omega
mutual
/-- the subtrees, a caller ahead of its calls -/
def subs : T → List T
  | .mk s m cs => .mk s m cs :: subsA cs
def subsA : List T → List T
  | [] => []
  | t :: ts => subs t ++ subsA ts
end
theorem subs_eq (t : T) : subs t = t :: subsA t.calls := by cases t; rw [subs]; rfl
theorem subsA_app : ∀ ts us : List T, subsA (ts ++ us) = subsA ts ++ subsA us
  | [], us => by rw [List.nil_append, subsA]; rfl
  | t :: ts, us => by rw [List.cons_append, subsA, subsA, subsA_app ts us, List.append_assoc]
mutual
theorem subs_len : ∀ t : T, (subs t).length = size t
  | .mk s m cs => by rw [subs, size, List.length_cons, subsA_len cs]
theorem subsA_len : ∀ ts : List T, (subsA ts).length = sizes ts
  | [] => by rw [subsA, sizes]; rfl
  | t :: ts => by rw [subsA, sizes, List.length_append, subs_len t, subsA_len ts]
end
mutual
/-- the paths with the subtrees -/
def placed : List Nat → T → List (List Nat × T)
  | p, .mk s m cs => (p, .mk s m cs) :: placedA p 0 cs
def placedA : List Nat → Nat → List T → List (List Nat × T)
  | _, _, [] => []
  | p, i, t :: ts => placed (p ++ [i]) t ++ placedA p (i + 1) ts
end
theorem placed_eq (p : List Nat) (t : T) : placed p t = (p, t) :: placedA p 0 t.calls := by cases t; rw [placed]; rfl
mutual
theorem placed_snd : ∀ (p : List Nat) (t : T), (placed p t).map Prod.snd = subs t
  | p, .mk s m cs => by rw [placed, subs, List.map_cons, placedA_snd p 0 cs]
theorem placedA_snd : ∀ (p : List Nat) (i : Nat) (ts : List T), (placedA p i ts).map Prod.snd = subsA ts
  | p, i, [] => by rw [placedA, subsA]; rfl
  | p, i, t :: ts => by rw [placedA, subsA, List.map_append, placed_snd, placedA_snd]
end
theorem placed_len (p : List Nat) (t : T) : (placed p t).length = size t := by rw [← subs_len, ← placed_snd p t, List.length_map]
mutual
theorem placed_path : ∀ (q : List Nat) (t : T) (x : List Nat × T), x ∈ placed q t → x.1.length + size x.2 ≤ q.length + size t
  | q, .mk s m cs, x, h => by
    rw [placed, List.mem_cons] at h
    rcases h with rfl | h
    · exact Nat.le_refl _
    · have := placedA_path q 0 cs x h
      rw [size]
      omega
theorem placedA_path : ∀ (q : List Nat) (i : Nat) (ts : List T) (x : List Nat × T), x ∈ placedA q i ts → x.1.length + size x.2 ≤ q.length + 1 + sizes ts
  | q, i, [], x, h => by
    rw [placedA] at h
    cases h
  | q, i, t :: ts, x, h => by
    rw [placedA, List.mem_append] at h
    rw [sizes]
    rcases h with h | h
    · have := placed_path (q ++ [i]) t x h
      rw [List.length_append, List.length_singleton] at this
      omega
    · have := placedA_path q (i + 1) ts x h
      omega
end
/-- what a stack of pairs still gives -/
def placedS : List (List Nat × T) → List (List Nat × T)
  | [] => []
  | (p, t) :: r => placed p t ++ placedS r
theorem placedS_app : ∀ a b : List (List Nat × T), placedS (a ++ b) = placedS a ++ placedS b
  | [], b => rfl
  | (p, t) :: a, b => by rw [List.cons_append, placedS, placedS, placedS_app a b, List.append_assoc]
/-- the calls with their paths -/
def kids (p : List Nat) (i : Nat) : List T → List (List Nat × T)
  | [] => []
  | t :: ts => (p ++ [i], t) :: kids p (i + 1) ts
theorem kids_placed (p : List Nat) : ∀ (i : Nat) (ts : List T), placedS (kids p i ts) = placedA p i ts
  | _, [] => by rw [placedA]; rfl
  | i, t :: ts => by rw [kids, placedS, placedA, kids_placed p (i + 1) ts]
theorem kids_len (p : List Nat) : ∀ (i : Nat) (ts : List T), (kids p i ts).length = ts.length
  | _, [] => rfl
  | i, t :: ts => by rw [kids, List.length_cons, kids_len p (i + 1) ts, List.length_cons]
theorem kids_get (p : List Nat) : ∀ (i : Nat) (ts : List T) (j : Nat), (kids p i ts)[j]? = (ts[j]?).map fun t => (p ++ [i + j], t)
  | _, [], j => by simp [kids]
  | i, t :: ts, 0 => by simp [kids]
  | i, t :: ts, j + 1 => by
    rw [kids, List.getElem?_cons_succ, kids_get p (i + 1) ts j, List.getElem?_cons_succ, show i + 1 + j = i + (j + 1) by omega]
def sizeS : List (List Nat × T) → Nat
  | [] => 0
  | (_, t) :: r => size t + sizeS r
theorem placedS_len : ∀ a : List (List Nat × T), (placedS a).length = sizeS a
  | [] => rfl
  | (p, t) :: r => by rw [placedS, sizeS, List.length_append, placed_len, placedS_len r]
theorem sizeS_app : ∀ a b : List (List Nat × T), sizeS (a ++ b) = sizeS a + sizeS b
  | [], b => by rw [List.nil_append, sizeS]; omega
  | (p, t) :: a, b => by rw [List.cons_append, sizeS, sizeS, sizeS_app a b]; omega
theorem sizeS_rev (a : List (List Nat × T)) : sizeS a.reverse = sizeS a := by
  induction a with
  | nil => rfl
  | cons x a ih =>
    obtain ⟨p, t⟩ := x
    rw [List.reverse_cons, sizeS_app, ih, sizeS, sizeS, sizeS]
    omega
theorem len_sizeS : ∀ a : List (List Nat × T), a.length ≤ sizeS a
  | [] => Nat.le_refl _
  | (p, t) :: a => by
    have := len_sizeS a
    rw [sizeS, List.length_cons, size_eq]
    omega
theorem sizeS_kids (p : List Nat) : ∀ (i : Nat) (ts : List T), sizeS (kids p i ts) = sizes ts
  | _, [] => by rw [sizes]; rfl
  | i, t :: ts => by rw [kids, sizeS, sizes, sizeS_kids p (i + 1) ts]
def pathD (p : List Nat) : PyData := .tuple (p.map fun (i : Nat) => .int (i : Int))
def ptD (x : List Nat × T) : PyData := .tuple [pathD x.1, enc x.2]
theorem path_flats (p : List Nat) : flats (p.map fun (i : Nat) => PyData.int (i : Int)) = true := flats_all.mpr fun d hd => by
  obtain ⟨i, _, rfl⟩ := List.mem_map.mp hd
  rfl
theorem path_flat (p : List Nat) : flat (pathD p) = true := path_flats p
theorem pair_flat (x : List Nat × T) : flat (ptD x) = true := by
  unfold ptD
  rw [flat_tup, flats, flats, flats, path_flat, enc_flat]
  rfl
theorem pairs_flat (xs : List (List Nat × T)) : flats (xs.map ptD) = true := flats_all.mpr fun d hd => by
  obtain ⟨x, _, rfl⟩ := List.mem_map.mp hd
  exact pair_flat x
theorem kids_flat (p : List Nat) (i : Nat) (cs : List T) (j : Nat) : flat (((kids p i cs).reverse.map ptD).getD j .none) = true := by
  rw [List.getD_eq_getElem?_getD]
  cases h : ((kids p i cs).reverse.map ptD)[j]? with
  | none => rfl
  | some d => exact flats_all.mp (pairs_flat _) d (List.mem_of_getElem? h)
/-- the i-th of the calls, from the right -/
theorem kids_back (p : List Nat) (cs : List T) (i : Nat) (hi : i < cs.length) : ∃ (j : Nat) (c : T), cs[j]? = some c ∧ j < cs.length ∧ ((List.range cs.length).map fun (i : Nat) => PyData.int (i : Int)).reverse[i]? = some (.int (j : Int)) ∧ ((kids p 0 cs).reverse.map ptD).getD i .none = ptD (p ++ [j], c) := by
  refine ⟨cs.length - 1 - i, cs[cs.length - 1 - i], List.getElem?_eq_getElem (by omega), by omega, ?_, ?_⟩
  · rw [List.getElem?_reverse (by rw [List.length_map, List.length_range]; exact hi), List.length_map, List.length_range, List.getElem?_map, List.getElem?_range (by omega)]
    rfl
  · rw [List.getD_eq_getElem?_getD, List.getElem?_map, List.getElem?_reverse (by rw [kids_len]; exact hi), kids_len, kids_get, List.getElem?_eq_getElem (show cs.length - 1 - i < cs.length by omega), Nat.zero_add]
    rfl
theorem pathD_snoc (p : List Nat) (j : Nat) : pathD (p ++ [j]) = .tuple ((p.map fun (i : Nat) => PyData.int (i : Int)) ++ [.int (j : Int)]) := by
  unfold pathD
  rw [List.map_append]
  rfl
section
variable {F : Fd} {K : PySem.W.Frag} {te : TE} {σ : L2.St} {H : Hp} {k : Nat} {t : T}
theorem rt_name (o : F.Ok) (h : EvR F te σ H k (IsD K (enc t))) : EvR F (tOp (rIxT K) te (tC (.int 0))) σ H k (IsD K (.str t.name)) :=
  rd_ix (kb := 0) o (h.cast (enc_eq t)) rv_c 0 rfl rfl (by rw [← enc_eq]; exact enc_flat t)
theorem rt_mark (o : F.Ok) (h : EvR F te σ H k (IsD K (enc t))) : EvR F (tOp (rIxT K) te (tC (.int 1))) σ H k (IsD K (.int t.mark)) :=
  rd_ix (kb := 0) o (h.cast (enc_eq t)) rv_c 1 rfl rfl (by rw [← enc_eq]; exact enc_flat t)
theorem rt_calls (o : F.Ok) (h : EvR F te σ H k (IsD K (enc t))) : EvR F (tOp (rIxT K) te (tC (.int 2))) σ H k (IsD K (.tuple (t.calls.map enc))) :=
  rd_ix (kb := 0) o (h.cast (enc_eq t)) rv_c 2 rfl rfl (by rw [← enc_eq]; exact enc_flat t)
end
end Tr
namespace K18
open PySem PySem.Spec PyProof.Rows L2 Evl Fx Dt Tr
def topS (i : Nat) : Stmt := PySem.Challenge.pw_thinspans_k17_sights_told.main.body.getD i (.Pass ⟨0, 0, 0, 0⟩)
theorem scSubs : FnScope ["tree", "found", "waiting", "here"] ["tree"] (defScope (topS 15)) := ⟨rfl, rfl, rfl, by decide +kernel, rfl, by decide +kernel, by decide +kernel⟩
section
variable {P : Program} {w : World} {K : PySem.W.Frag} {mg : Str → Option Value} {base : Heap} {f f2 f3 : Addr} {fd fd2 fd3 : FuncData}
def spSubs (K : PySem.W.Frag) : Sp := spL K fun ds es => ∃ t, size t ≤ 1000 ∧ ds = [enc t] ∧ es = (subs t).map enc
theorem ok_subs (F : Fun K "subtrees_of" "subtrees_of" (topS 15) f fd) : FnOk P w K mg base CX0 1 f fd ["tree"] (spSubs K) := by
  refine F.ok scSubs (fun vs H Q E h => ?_) (fun cdv A outer s H vs Q E hr h => ?_)
  · obtain ⟨ds, es, hd, ⟨t, _, rfl, _⟩, _⟩ := h
    exact dps_len hd
  · obtain ⟨ds, es, hd, ⟨t, hs, rfl, rfl⟩, q⟩ := h
    refine ⟨_, pss_cons (ps_set (i := 1) scSubs.nd rfl (.inl rfl) (pe_lst pa_nil))
      (pss_cons (ps_set (i := 2) scSubs.nd rfl (.inl rfl) (pe_lst (pa_cons (pv 0) pa_nil)))
      (pss_cons (ps_while PassesOwn.never (pt_truth (pv 2) (fun _ => rfl))
        (pss_cons (ps_asg (pe_bm0 PySem.F.plainAttrs_list PySem.F.slot_list_pop PySem.F.type_list_pop mt_pop (pv 2)) (pg_name (i := 3) scSubs.nd rfl (.inl rfl)))
        (pss_cons (ps_expr (pe_bm PySem.F.plainAttrs_list PySem.F.slot_list_append PySem.F.type_list_append mt_append (pv 1) (pa_cons (pv 3) pa_nil)))
        (pss_one (ps_expr (pe_bm PySem.F.plainAttrs_list PySem.F.slot_list_extend PySem.F.type_list_extend mt_extendT (pv 2) (pa_cons (pe_revT (pe_ix ix_tup (pv 3) pe_int (fun _ _ => rfl))) pa_nil)))))))
      (pss_one (ps_ret (pv 1))))), ?_⟩
    show tSeq (tAsg (tLst tNil) (gName 1)) (tSeq (tAsg (tLst (tCons (tVar 0) tNil)) (gName 2)) (tSeq (tWhile (tTru K 2) _) _)) _ _ _
    match vs, hd with
    | [v0], .cons hv0 .nil =>
    refine q_asgL (el_lst ea_nil (by simp)) fun A1 H1 n1 e1 h1 => q_asgL (el_lst (ea_cons (ev_var rfl) ea_nil) (by simp)) fun A2 H2 n2 e2 h2 => ?_
    have hne : A1 ≠ A2 := ne_addr n2 h1
    have n2' : H A2 = none := fresh_back e1 n2
    refine s_while (fun m σ' H' => ∃ (done pend : List T) (xs ys : List V) (u : Option V), σ' = [some v0, some (.ref A1), some (.ref A2), u] ∧ Ex H H' ∧ H' A1 = some (.lst xs) ∧ H' A2 = some (.lst ys) ∧ DpAll K H' xs (done.map enc) ∧ DpAll K H' ys (pend.map enc) ∧
      done ++ subsA pend.reverse = subs t ∧ m = sizes pend) (sizes [t]) ⟨[], [t], [], [v0], none, rfl, e1.trans e2, e2 _ _ h1, h2, .nil, .cons (dp_ex (e1.trans e2) _ _ hv0) .nil, by simp [subsA], rfl⟩ fun m σ' H' ⟨done, pend, xs, ys, u, es, ee, hx, hy, dx, dy, hm, em⟩ => ?_
    subst es em
    have lp : xs.length + ys.length ≤ 1000 := by
      have a1 := dps_len dx
      have a2 := dps_len dy
      have a3 := congrArg List.length hm
      rw [List.length_append, subsA_len, sizes_rev, subs_len] at a3
      have a4 := len_sizes pend
      rw [List.length_map] at a1 a2
      omega
    refine ⟨!ys.isEmpty, et_truL rfl hy, fun hb H3 e3 => ?_, fun hb H3 e3 => ?_⟩
    · have hp : pend ≠ [] := by
        rintro rfl
        cases dy
        simp at hb
      obtain ⟨ps, y, rfl⟩ : ∃ ps y, pend = ps ++ [y] := ⟨_, _, (List.dropLast_concat_getLast hp).symm⟩
      rw [List.map_append, List.map_singleton] at dy
      obtain ⟨zs, v, rfl, dz, dv⟩ := dps_last dy
      refine ⟨fun σ2 H2 => ∃ m', m' < sizes (ps ++ [y]) ∧ ∃ (done pend : List T) (xs ys : List V) (u : Option V), σ2 = [some v0, some (.ref A1), some (.ref A2), u] ∧ Ex H H2 ∧ H2 A1 = some (.lst xs) ∧ H2 A2 = some (.lst ys) ∧ DpAll K H2 xs (done.map enc) ∧ DpAll K H2 ys (pend.map enc) ∧
        done ++ subsA pend.reverse = subs t ∧ m' = sizes pend, fun _ _ h => h, ?_⟩
      refine q_popR rfl (e3 _ _ hy) ?_
      have k1 : KT K H3 (upd H3 A2 (.lst zs)) := kt_lst (e3 _ _ hy)
      have ex1 : Ex H (upd H3 A2 (.lst zs)) := (ee.trans e3).mut n2'
      have hx1 : upd H3 A2 (.lst zs) A1 = some (.lst xs) := by rw [upd_ne hne]; exact e3 _ _ hx
      refine q_appR (F := F0) (n := 0) (k := 0) (P := IsD K (enc y)) (D := _) rfl hx1 (fun z => z) (rd_var F0.ok (n := 0) F0.g rfl (dp_kt (kt_trans (kt_ex e3) k1) _ _ (enc_flat y) dv) (enc_flat y)) F0.g (Nat.le_refl _) (by omega) fun v' H4 e4 _ dv' hx4 => ?_
      replace e4 := F0.ex e4
      have hy4 : H4 A2 = some (.lst zs) := e4 _ _ upd_same
      have hy5 : upd H4 A1 (.lst (xs ++ [v'])) A2 = some (.lst zs) := by rw [upd_ne hne.symm]; exact hy4
      have k5 : KT K H4 (upd H4 A1 (.lst (xs ++ [v']))) := kt_lst hx4
      have ex5 : Ex H (upd H4 A1 (.lst (xs ++ [v']))) := (ex1.trans e4).mut n1
      have kz : KT K H' H4 := kt_trans (kt_ex e3) (kt_trans k1 (kt_ex e4))
      have ly : y.calls.length + ps.length ≤ 1000 := by
        have a3 := congrArg List.length hm
        rw [List.length_append, subsA_len, sizes_rev, subs_len, sizes_app, sizes, sizes, size_eq] at a3
        have a4 := len_sizes ps
        have a5 := len_sizes y.calls
        omega
      have lz := dps_len dz
      rw [List.length_map] at lz
      refine q_extT (F := F0) (n := 0) (k := 0) (ds := (y.calls.map enc).reverse) rfl hy5 (fun z => z) (rd_revT F0.ok (rt_calls F0.ok (rd_var F0.ok (n := 0) F0.g rfl (dp_kt (kt_trans kz k5) _ _ (enc_flat y) dv) (enc_flat y)))) F0.g (Nat.le_refl _) (by rw [List.length_reverse, List.length_map]; omega) fun us H6 e6 _ du hy6 => ?_
      replace e6 := F0.ex e6
      have hx6 : H6 A1 = some (.lst (xs ++ [v'])) := e6 _ _ upd_same
      have k7 : KT K H6 (upd H6 A2 (.lst (zs ++ us))) := kt_lst hy6
      refine ⟨_, ?_, done ++ [y], ps ++ y.calls.reverse, xs ++ [v'], zs ++ us, _, rfl, (ex5.trans e6).mut n2', by rw [upd_ne hne]; exact hx6, upd_same, ?_, ?_, ?_, rfl⟩
      · rw [sizes_app, sizes_app, sizes_rev, sizes, sizes, size_eq]
        omega
      · rw [List.map_append]
        have kk := kt_trans k5 (kt_trans (kt_ex e6) k7)
        exact dps_snoc (dps_kt (kt_trans kz kk) _ _ (maps_flat done) dx) (dp_kt kk _ _ (enc_flat y) dv')
      · rw [List.map_append, List.map_reverse]
        exact dps_app (dps_kt (kt_trans kz (kt_trans k5 (kt_trans (kt_ex e6) k7))) _ _ (maps_flat ps) dz) (dps_kt k7 _ _ (by rw [← List.map_reverse]; exact maps_flat _) du)
      · rw [List.reverse_append, List.reverse_reverse, subsA_app, ← hm, List.reverse_append, List.reverse_singleton, subsA_app, List.append_assoc]
        show _ ++ ([y] ++ _) = _ ++ (subsA [y] ++ _)
        rw [subsA, subsA, subs_eq, List.append_nil]
        rfl
    · have hp : ys = [] := by
        cases ys with
        | nil => rfl
        | cons _ _ => simp at hb
      subst hp
      have hp : pend = [] := by
        cases pend with
        | nil => rfl
        | cons _ _ => cases dy
      subst hp
      rw [List.reverse_nil, subsA, List.append_nil] at hm
      subst hm
      exact s_ret (v := .ref A1) (ev_var rfl) fun H4 e4 => q A1 xs H4 (fresh_back (Ex.refl H) n1) (ee.trans (e3.trans e4)) (e4 _ _ (e3 _ _ hx)) (dps_ex (e3.trans e4) _ _ dx)
end
end K18
namespace K18
open PySem PySem.Spec PyProof.Rows L2 Evl Fx Dt Tr
theorem scPlaced : FnScope ["tree", "found", "waiting", "path", "here", "places", "place"] ["tree"] (defScope (topS 14)) := ⟨rfl, rfl, rfl, by decide +kernel, rfl, by decide +kernel, by decide +kernel⟩
section
variable {P : Program} {w : World} {K : PySem.W.Frag} {mg : Str → Option Value} {base : Heap} {f f2 f3 : Addr} {fd fd2 fd3 : FuncData}
def spPlaced (K : PySem.W.Frag) : Sp := spL K fun ds es => ∃ t, size t ≤ 1000 ∧ ds = [enc t] ∧ es = (placed [] t).map ptD
set_option maxHeartbeats 1000000 in
theorem ok_placed (F : Fun K "placed_subtrees" "placed_subtrees" (topS 14) f fd) (m_range : mg "range" = none) (m_len : mg "len" = none) (m_list : mg "list" = none) : FnOk P w K mg base CX0 1 f fd ["tree"] (spPlaced K) := by
  refine F.ok scPlaced (fun vs H Q E h => ?_) (fun cdv A outer s H vs Q E hr h => ?_)
  · obtain ⟨ds, es, hd, ⟨t, _, rfl, _⟩, _⟩ := h
    exact dps_len hd
  · obtain ⟨ds, es, hd, ⟨t, hs, rfl, rfl⟩, q⟩ := h
    refine ⟨_, pss_cons (ps_set (i := 1) scPlaced.nd rfl (.inl rfl) (pe_lst pa_nil))
      (pss_cons (ps_set (i := 2) scPlaced.nd rfl (.inl rfl) (pe_lst (pa_cons (pe_tup (pa_cons (pe_tup pa_nil) (pa_cons (pv 0) pa_nil))) pa_nil)))
      (pss_cons (ps_while PassesOwn.never (pt_truth (pv 2) (fun _ => rfl))
        (pss_cons (ps_asg (pe_bm0 PySem.F.plainAttrs_list PySem.F.slot_list_pop PySem.F.type_list_pop mt_pop (pv 2)) (pg_tup (by rfl) (pgs_cons (pg_name (i := 3) scPlaced.nd rfl (.inr rfl)) (pgs_cons (pg_name (i := 4) scPlaced.nd rfl (.inr rfl)) pgs_nil))))
        (pss_cons (ps_expr (pe_bm PySem.F.plainAttrs_list PySem.F.slot_list_append PySem.F.type_list_append mt_append (pv 1) (pa_cons (pe_tup (pa_cons (pv 3) (pa_cons (pv 4) pa_nil))) pa_nil)))
        (pss_cons (ps_set (i := 5) scPlaced.nd rfl (.inl rfl) (pe_listRg (by rfl) (by rfl) m_list (prg_1 (by rfl) m_range (pe_callB (r := rLenS K) call_lenS (by rfl) m_len PySem.boot_len (pa_cons (pe_ix ix_tup (pv 4) pe_int (fun _ _ => rfl)) pa_nil)))))
        (pss_one (ps_expr (pe_bm PySem.F.plainAttrs_list PySem.F.slot_list_extend PySem.F.type_list_extend mt_extend (pv 2) (pa_cons
          (pe_lc (own := [("place", 6)]) (g := gName 6) (by rfl) scPlaced.nd (pi_list (pe_revL (pv 5))) (blkOk_by (own := [("place", 6)]) (N := ["tree", "found", "waiting", "path", "here", "places", "place"]) (sc := defScope (topS 14)) (by decide +kernel)) (fun _ _ _ _ _ => pg_name (i := 6) scPlaced.nd rfl (.inl rfl)) (fun _ _ _ _ _ => pts_nil)
            (fun _ _ _ _ _ => pe_tup (pa_cons (pe_tup (pa_starK (K := K) rfl (pv 3) (pa_cons (pv 6) pa_nil))) (pa_cons (pe_ix (r := rIxT K) ix_tup (pe_ix (r := rIxT K) ix_tup (pv 4) pe_int (fun _ _ => rfl)) (pv 6) (fun _ _ => rfl)) pa_nil)))) pa_nil))))))))
      (pss_one (ps_ret (pv 1))))), ?_⟩
    show tSeq (tAsg (tLst tNil) (gName 1)) (tSeq (tAsg (tLst (tCons (tTup (tCons (tTup tNil) (tCons (tVar 0) tNil))) tNil)) (gName 2)) (tSeq (tWhile (tTru K 2) _) _)) _ _ _
    match vs, hd with
    | [v0], .cons hv0 .nil =>
    refine q_asgL (el_lst ea_nil (by simp)) fun A1 H1 n1 e1 h1 => ?_
    refine q_asgR (F := F0) (n := 0) (k := 0) (P := IsN H1 F0 K [ptD ([], t)]) (rn_lst F0.ok (ra_cons (ka := 0) (kb := 0) F0.ok (rd_tup F0.ok (ra_cons (ka := 0) (kb := 0) F0.ok (rd_tup F0.ok ra_nil) (ra_cons (ka := 0) (kb := 0) F0.ok (rd_var F0.ok (n := 0) F0.g rfl (dp_ex e1 _ _ hv0) (enc_flat t)) ra_nil (enc_flat t)) rfl) (pair_flat ([], t))) ra_nil (pair_flat ([], t)))) F0.g (Nat.le_refl _) fun w2 H2 e2 _ ⟨A2, ws, ew, n2, _, h2, dw⟩ => ?_
    subst ew
    replace e2 := F0.ex e2
    have hne : A1 ≠ A2 := ne_addr n2 h1
    have n2' : H A2 = none := fresh_back e1 n2
    refine s_while (fun m σ' H' => ∃ (done pend : List (List Nat × T)) (xs ys : List V) (u3 u4 u5 : Option V), σ' = [some v0, some (.ref A1), some (.ref A2), u3, u4, u5, none] ∧ Ex H H' ∧ H' A1 = some (.lst xs) ∧ H' A2 = some (.lst ys) ∧ DpAll K H' xs (done.map ptD) ∧ DpAll K H' ys (pend.map ptD) ∧
      done ++ placedS pend.reverse = Tr.placed [] t ∧ m = sizeS pend) (sizeS [([], t)]) ⟨[], [([], t)], [], ws, none, none, none, rfl, e1.trans e2, e2 _ _ h1, h2, .nil, dw, by simp [placedS], rfl⟩ fun m σ' H' ⟨done, pend, xs, ys, u3, u4, u5, es, ee, hx, hy, dx, dy, hm, em⟩ => ?_
    subst es em
    have a1 := dps_len dx
    have a2 := dps_len dy
    have a3 := congrArg List.length hm
    rw [List.length_append, placedS_len, sizeS_rev, placed_len] at a3
    have a4 := len_sizeS pend
    rw [List.length_map] at a1 a2
    have lp : xs.length + ys.length ≤ 1000 := by omega
    refine ⟨!ys.isEmpty, et_truL rfl hy, fun hb H3 e3 => ?_, fun hb H3 e3 => ?_⟩
    · have hp : pend ≠ [] := by
        rintro rfl
        cases dy
        simp at hb
      obtain ⟨ps, py, rfl⟩ : ∃ ps y, pend = ps ++ [y] := ⟨_, _, (List.dropLast_concat_getLast hp).symm⟩
      obtain ⟨p, y⟩ := py
      rw [List.map_append, List.map_singleton] at dy
      obtain ⟨zs, v, rfl, dz, dv⟩ := dps_last dy
      refine ⟨fun σ2 H2 => ∃ m', m' < sizeS (ps ++ [(p, y)]) ∧ ∃ (done pend : List (List Nat × T)) (xs ys : List V) (u3 u4 u5 : Option V), σ2 = [some v0, some (.ref A1), some (.ref A2), u3, u4, u5, none] ∧ Ex H H2 ∧ H2 A1 = some (.lst xs) ∧ H2 A2 = some (.lst ys) ∧ DpAll K H2 xs (done.map ptD) ∧ DpAll K H2 ys (pend.map ptD) ∧
        done ++ placedS pend.reverse = Tr.placed [] t ∧ m' = sizeS pend, fun _ _ h => h, ?_⟩
      refine q_popR rfl (e3 _ _ hy) ?_
      have k1 : KT K H3 (upd H3 A2 (.lst zs)) := kt_lst (e3 _ _ hy)
      have ex1 : Ex H (upd H3 A2 (.lst zs)) := (ee.trans e3).mut n2'
      have hx1 : upd H3 A2 (.lst zs) A1 = some (.lst xs) := by rw [upd_ne hne]; exact e3 _ _ hx
      have dv1 : Dp K (upd H3 A2 (.lst zs)) v (ptD (p, y)) := dp_kt (kt_trans (kt_ex e3) k1) _ _ (pair_flat (p, y)) dv
      obtain ⟨a, vp, vy, rfl, ha, dp, dyy⟩ := dp_two dv1
      refine ⟨a, [vp, vy], rfl, ha, rfl, vp, [vy], rfl, vy, [], rfl, rfl, ?_⟩
      refine q_appR (F := F0) (n := 0) (k := 0) (P := IsD K (ptD (p, y))) (D := _) rfl hx1 (fun z => z) (rd_tup F0.ok (ra_cons (ka := 0) (kb := 0) F0.ok (rd_var F0.ok (n := 0) F0.g rfl dp (path_flat p)) (ra_cons (ka := 0) (kb := 0) F0.ok (rd_var F0.ok (n := 0) F0.g rfl dyy (enc_flat y)) ra_nil (enc_flat y)) (path_flat p)) (pair_flat (p, y))) F0.g (Nat.le_refl _) (by omega) fun v' H4 e4 _ dv' hx4 => ?_
      replace e4 := F0.ex e4
      have hy4 : H4 A2 = some (.lst zs) := e4 _ _ upd_same
      have hy5 : upd H4 A1 (.lst (xs ++ [v'])) A2 = some (.lst zs) := by rw [upd_ne hne.symm]; exact hy4
      have k5 : KT K H4 (upd H4 A1 (.lst (xs ++ [v']))) := kt_lst hx4
      have k45 := kt_trans (kt_ex e4) k5
      have ex5 : Ex H (upd H4 A1 (.lst (xs ++ [v']))) := (ex1.trans e4).mut n1
      have kz : KT K H' H4 := kt_trans (kt_ex e3) (kt_trans k1 (kt_ex e4))
      have dp5 := dp_kt k45 _ _ (path_flat p) dp
      have dy5 := dp_kt k45 _ _ (enc_flat y) dyy
      have ly : y.calls.length + ps.length ≤ 1000 := by
        rw [sizeS_app, sizeS, sizeS, size_eq] at a3
        have b1 := len_sizeS ps
        have b2 := len_sizes y.calls
        omega
      have lz := dps_len dz
      rw [List.length_map] at lz
      have ry : EvR F0 (tVar 4) [some v0, some (.ref A1), some (.ref A2), some vp, some vy, u5, none] (upd H4 A1 (.lst (xs ++ [v']))) 0 (IsD K (enc y)) := rd_var F0.ok (n := 0) F0.g rfl dy5 (enc_flat y)
      -- places
      refine q_asgR (F := F0) (n := 0) (k := 0) (P := IsL F0 K ((List.range y.calls.length).map fun (i : Nat) => PyData.int (i : Int))) (rl_listRg F0.ok (EvR.imp (rv_lenT (rt_calls F0.ok ry)) fun _ x _ _ _ hxx => by rw [hxx, List.length_map]) (by omega)) F0.g (Nat.le_refl _) fun vl H6 e6 _ il => ?_
      replace e6 := F0.ex e6
      have hx6 : H6 A1 = some (.lst (xs ++ [v'])) := e6 _ _ upd_same
      have hy6 : H6 A2 = some (.lst zs) := e6 _ _ hy5
      have fr : flats ((List.range y.calls.length).map fun (i : Nat) => PyData.int (i : Int)) = true := path_flats _
      have frr : flats ((List.range y.calls.length).map fun (i : Nat) => PyData.int (i : Int)).reverse = true := flats_all.mpr fun d hd => flats_all.mp fr d (List.mem_reverse.mp hd)
      have lk := kids_len p 0 y.calls
      -- the kids, turned round
      have hl : ((List.range y.calls.length).map fun (i : Nat) => PyData.int (i : Int)).reverse.length = y.calls.length := by rw [List.length_reverse, List.length_map, List.length_range]
      have dp6 := dp_ex e6 _ _ dp5
      have dy6 := dp_ex e6 _ _ dy5
      have hbody : ∀ (i : Nat) (x : V) (d : PyData) (n : Nat) (H8 : Hp), ((List.range y.calls.length).map fun (i : Nat) => PyData.int (i : Int)).reverse[i]? = some d → Dp K H8 x d → F0.G n H8 → Kx F0.S H6 H8 →
          ∃ σ2, Gv (gName 6) x (wipe [some v0, some (.ref A1), some (.ref A2), some vp, some vy, some vl, none] [6]) H8 σ2 ∧ wipe σ2 [6] = wipe [some v0, some (.ref A1), some (.ref A2), some vp, some vy, some vl, none] [6] ∧ EvRT F0 tYes σ2 H8 0 true ∧
            (true = true → EvR F0 (tTup (tCons (tTup (StX.tStar K (tVar 3) (tCons (tVar 6) tNil))) (tCons (tOp (rIxT K) (tOp (rIxT K) (tVar 4) (tC (.int 2))) (tVar 6)) tNil))) σ2 H8 0 (IsD K (((kids p 0 y.calls).reverse.map ptD).getD i .none))) := fun i x d n H8 hd hx8 _ e8 => by
        replace e8 := F0.ex e8
        have hi : i < y.calls.length := by
          have := (List.getElem?_eq_some_iff.mp hd).1
          omega
        obtain ⟨j, c, hc, hj, hr, he⟩ := kids_back p y.calls i hi
        rw [hr] at hd
        cases hd
        refine ⟨_, gv_name, rfl, rt_yes rfl, fun _ => ?_⟩
        rw [he]
        refine rd_tup F0.ok (ra_cons (ka := 0) (kb := 0) F0.ok ?_ (ra_cons (ka := 0) (kb := 0) F0.ok ?_ ra_nil (enc_flat c)) (path_flat _)) (pair_flat (p ++ [j], c))
        · show EvR F0 _ _ _ _ (IsD K (pathD (p ++ [j])))
          rw [pathD_snoc]
          refine rd_tup F0.ok (ra_star (ka := 0) (kb := 0) F0.ok (rd_var F0.ok (n := 0) F0.g rfl (dp_ex e8 _ _ dp6) (path_flat p)) (path_flats p) (ra_cons (ka := 0) (kb := 0) F0.ok (rd_var F0.ok (n := 0) F0.g rfl hx8) ra_nil)) ?_ ?_
          · have := path_flat (p ++ [j])
            rwa [pathD_snoc] at this
          · rw [List.length_append, List.length_map, List.length_singleton]
            have hin : (p, y) ∈ Tr.placed [] t := by
              rw [← hm, List.reverse_append, List.reverse_singleton, placedS_app, placedS, placedS, placed_eq]
              simp
            have := placed_path [] t (p, y) hin
            simp only [List.length_nil] at this
            omega
        · refine rd_ix (ka := 0) (kb := 0) (i := (j : Int)) F0.ok (rt_calls F0.ok (rd_var F0.ok (n := 0) F0.g rfl (dp_ex e8 _ _ dy6) (enc_flat y))) (rv_int (K := K) (rd_var F0.ok (n := 0) F0.g rfl hx8)) j ?_ ?_ (maps_flat _)
          · rw [List.length_map]
            exact ixN_nat hj
          · rw [List.getElem?_map, hc]
            rfl
      have hc := r_lcL (F := F0) (K := K) (k := 0) (kt := 0) (ke := 0) (H := H6) (tl := tRevL K (tVar 5)) (vs := [6]) F0.ok (fun _ => true) (fun i => ((kids p 0 y.calls).reverse.map ptD).getD i .none)
        (rl_revL F0.ok (rl_var F0.ok (n := 0) F0.g rfl il fr)) frr (by rw [hl]; omega) (fun j _ _ => kids_flat _ _ _ j) hbody
      rw [hl, outs_getD .none _ (by rw [List.length_map, List.length_reverse, kids_len])] at hc
      refine q_extL (F := F0) (n := 0) (k := 0 + y.calls.length * (0 + 0)) (ds := (kids p 0 y.calls).reverse.map ptD) rfl hy6 (fun z => z) hc F0.g (by simp) (by rw [List.length_map, List.length_reverse, kids_len]; omega) fun us H9 e9 _ du hy9 => ?_
      replace e9 := F0.ex e9
      have hx9 : H9 A1 = some (.lst (xs ++ [v'])) := e9 _ _ hx6
      have k9 : KT K H9 (upd H9 A2 (.lst (zs ++ us))) := kt_lst hy9
      refine ⟨_, ?_, done ++ [(p, y)], ps ++ (kids p 0 y.calls).reverse, xs ++ [v'], zs ++ us, _, _, _, rfl, ((ex5.trans e6).trans e9).mut n2', by rw [upd_ne hne]; exact hx9, upd_same, ?_, ?_, ?_, rfl⟩
      · rw [sizeS_app, sizeS_app, sizeS_rev, sizeS_kids, sizeS, sizeS, size_eq]
        omega
      · rw [List.map_append]
        have kk := kt_trans k5 (kt_trans (kt_ex (e6.trans e9)) k9)
        exact dps_snoc (dps_kt (kt_trans kz kk) _ _ (pairs_flat done) dx) (dp_kt kk _ _ (pair_flat (p, y)) dv')
      · rw [List.map_append]
        exact dps_app (dps_kt (kt_trans kz (kt_trans k5 (kt_trans (kt_ex (e6.trans e9)) k9))) _ _ (pairs_flat ps) dz) (dps_kt k9 _ _ (pairs_flat _) du)
      · rw [List.reverse_append, List.reverse_reverse, placedS_app, ← hm, List.reverse_append, List.reverse_singleton, placedS_app, List.append_assoc, kids_placed]
        show _ ++ ([(p, y)] ++ _) = _ ++ (placedS [(p, y)] ++ _)
        rw [placedS, placedS, placed_eq, List.append_nil]
        rfl
    · have hp : ys = [] := by
        cases ys with
        | nil => rfl
        | cons _ _ => simp at hb
      subst hp
      have hp : pend = [] := by
        cases pend with
        | nil => rfl
        | cons _ _ => cases dy
      subst hp
      rw [List.reverse_nil, placedS, List.append_nil] at hm
      subst hm
      exact s_ret (v := .ref A1) (ev_var rfl) fun H4 e4 => q A1 xs H4 (fresh_back (Ex.refl H) n1) (ee.trans (e3.trans e4)) (e4 _ _ (e3 _ _ hx)) (dps_ex (e3.trans e4) _ _ dx)
end
end K18
namespace K18
open PySem PySem.Spec PyProof.Rows L2 Evl Fx Fr
abbrev sWhole : Stmt := topS 13
abbrev sInteger : Stmt := topS 17
abbrev sReduced : Stmt := topS 21
theorem scWhole : FnScope ["thing"] ["thing"] (defScope sWhole) := ⟨rfl, rfl, rfl, by decide +kernel, rfl, by decide +kernel, by decide +kernel⟩
theorem scInteger : FnScope ["thing"] ["thing"] (defScope sInteger) := ⟨rfl, rfl, rfl, by decide +kernel, rfl, by decide +kernel, by decide +kernel⟩
theorem scReduced : FnScope ["p", "q", "common"] ["p", "q"] (defScope sReduced) := ⟨rfl, rfl, rfl, by decide +kernel, rfl, by decide +kernel, by decide +kernel⟩
section
variable {P : Program} {w : World} {K : PySem.W.Frag} {mg : Str → Option Value} {base : Heap} {f f2 f3 : Addr} {fd fd2 fd3 : FuncData} {CX : CXT}
/-! ### whole numbers -/
/-- of any value whose kind is known: whether it is an int, not a bool -/
def spWhole (K : PySem.W.Frag) : Sp := fun vs H Q _ => ∃ (x : V) (T : String) (a b : Bool), vs = [x] ∧ TyX K H x (.type T) ∧ kitB T "int" = some a ∧ kitB T "bool" = some b ∧ Q (.bl (a && !b)) H
theorem ok_whole (F : Fun K "is_whole" "is_whole" sWhole f fd) (mI : mg "isinstance" = none) (mi : mg "int" = none) (mb : mg "bool" = none) : FnOk P w K mg base CX0 1 f fd ["thing"] (spWhole K) := by
  refine F.ok scWhole (fun vs H Q E h => ?_) (fun cdv A outer s H vs Q E hr h => ?_)
  · obtain ⟨x, T, a, b, rfl, _⟩ := h
    rfl
  · obtain ⟨x, T, a, b, rfl, ty, e1, e2, q⟩ := h
    refine ⟨_, pss_one (ps_ret (pe_and (pe_callB call_isi (by rfl) mI (by decide +kernel) (pa_cons (pv 0) (pa_cons (pe_bltn (v := .ty "int") (by rfl) mi (by decide +kernel) rfl) pa_nil)))
      (pe_one (pe_not (pe_callB call_isi (by rfl) mI (by decide +kernel) (pa_cons (pv 0) (pa_cons (pe_bltn (v := .ty "bool") (by rfl) mb (by decide +kernel) rfl) pa_nil))))))), ?_⟩
    refine ⟨_, rfl, x, .ty "int", _, _, a, rfl, .ty "int", ty, kit_ty e1, a, rfl, ?_⟩
    cases a with
    | false => exact iteF q
    | true => exact iteT ⟨_, rfl, x, .ty "bool", _, _, b, rfl, .ty "bool", ty, kit_ty e2, b, rfl, q⟩
theorem ok_integer (F : Fun K "is_integer" "is_integer" sInteger f fd) (G : FnOk P w K mg base CX0 1 f2 fd2 ["thing"] (spWhole K)) (k2 : PySem.W.keepIn K (.ref f2) = true) (b2 : Binds K fd2 ["thing"] []) (g2 : mg "is_whole" = some (.ref f2)) : FnOk P w K mg base CX0 2 f fd ["thing"] (spWhole K) := by
  refine F.ok scInteger (fun vs H Q E h => ?_) (fun cdv A outer s H vs Q E hr h => ?_)
  · obtain ⟨x, T, a, b, rfl, _⟩ := h
    rfl
  · have h0 := h
    obtain ⟨x, T, a, b, rfl, ty, e1, e2, q⟩ := h
    exact ⟨_, pss_one (ps_ret (pe_call G hr (by rfl) g2 k2 b2 .nil pass0 (pa_cons (pv 0) pa_nil))), _, rfl, x, T, a, b, rfl, ty, e1, e2, q⟩
theorem tyI (K : PySem.W.Frag) (H : Hp) (i : Int) : TyX K H (.int i) (.type "int") := .base (.int i)
theorem kII : kitB "int" "int" = some true := by decide +kernel
theorem kIB : kitB "int" "bool" = some false := by decide +kernel
/-! ### reduced pairs -/
def okR (i j : Int) : Prop := j ≠ 0 ∧ i.natAbs < 2 ^ 4000 ∧ j.natAbs < 2 ^ 4000
theorem comm_lt {p q : Int} (h : q ≠ 0) (hq : q.natAbs < 2 ^ 4000) : (comm p q).natAbs < 2 ^ 4000 ∧ comm p q ≠ 0 := by
  have g := gcd_pos (p := p) h
  have l : Nat.gcd p.natAbs q.natAbs ≤ q.natAbs := Nat.gcd_le_right _ (by omega)
  unfold comm
  split <;> omega
theorem ok_reduced (F : Fun K "reduced_pair" "reduced_pair" sReduced f fd) (gG : mg "gcd" = some (.builtin "math.gcd")) : FnOk P w K mg base CX0 1 f fd ["p", "q"] (spI2F okR Rat.divInt) := by
  refine F.ok scReduced (fun vs H Q E h => ?_) (fun cdv A outer s H vs Q E hr h => ?_)
  · obtain ⟨i, j, rfl, _⟩ := h
    rfl
  · obtain ⟨i, j, rfl, ⟨h0, h1, h2⟩, q⟩ := h
    obtain ⟨c1, c2⟩ := comm_lt (p := i) h0 h2
    have cd1 : CDivS i (comm i j) := cdivS c2 c1 (by decide) (by decide)
    have cd2 : CDivS j (comm i j) := cdivS c2 c1 (by decide) (by decide)
    refine ⟨_, pss_cons (ps_set (i := 2) scReduced.nd rfl (.inl rfl) (pe_callBfun cr_gcd (by rfl) gG (pa_cons (pv 0) (pa_cons (pv 1) pa_nil))))
      (pss_cons (ps_if (pt_cmpR op_lt (pv 1) pe_int (nomark _)) (pss_one (ps_set (i := 2) scReduced.nd rfl (.inl rfl) (pe_un un_neg (pv 2)))) pss_nil)
      (pss_one (ps_ret (pe_tup (pa_cons (pe_op op_fdivWN (pv 0) (pv 2)) (pa_cons (pe_op op_fdivWN (pv 1) (pv 2)) pa_nil)))))), ?_⟩
    refine ⟨_, rfl, _, rfl, _, _, rfl, _, rfl, _, _, rfl, rfl, _, rfl, ?_⟩
    have fin : ∀ p, H p = none → Q (.ref p) (upd H p (.tup [.int (i.fdiv (comm i j)), .int (j.fdiv (comm i j))])) := fun p hp => by
      refine q _ p (Ex.new hp) ?_
      rw [upd_same, red_num h0, red_den h0]
      rfl
    by_cases hj : j < 0
    · rw [decide_eq_true hj]
      refine iteT ?_
      rw [comm_neg hj] at fin cd1 cd2
      exact ⟨_, rfl, _, rfl, _, rfl, _, rfl, _, _, rfl, rfl, cd1, _, rfl, _, rfl, _, _, rfl, rfl, cd2, (by show 2 ≤ sizeLine; decide), fin⟩
    · rw [decide_eq_false hj]
      refine iteF ?_
      rw [comm_pos hj] at fin cd1 cd2
      exact ⟨_, rfl, _, rfl, _, _, rfl, rfl, cd1, _, rfl, _, rfl, _, _, rfl, rfl, cd2, (by show 2 ≤ sizeLine; decide), fin⟩
/-! ### reckoning -/
def okB (s : Nat) (x y : Rat) : Prop := ∃ n m, Bd n x ∧ Bd m y ∧ n + m + s ≤ 4000
theorem mulW {i j : Int} {n m : Nat} (h1 : i.natAbs < 2 ^ n) (h2 : j.natAbs < 2 ^ m) (h : n + m ≤ 4000) : CMulW i j := wide_mul (lt_up h1 (Nat.le_succ n)) (lt_up h2 (Nat.le_succ m)) (by omega) (by omega) (by omega)
theorem ev_mul {ta tb : TE} {σ : L2.St} {H : Hp} {i j : Int} {n m : Nat} (ha : Ev ta σ H (.int i)) (hb : Ev tb σ H (.int j)) (h1 : i.natAbs < 2 ^ n) (h2 : j.natAbs < 2 ^ m) (h : n + m ≤ 4000) : Ev (tOp (rI CMulW fun i j => .int (i * j)) ta tb) σ H (.int (i * j)) := ev_op ha hb (rv_I (g := fun i j => .int (i * j)) (mulW h1 h2 h))
theorem ev_add {ta tb : TE} {σ : L2.St} {H : Hp} {i j : Int} (ha : Ev ta σ H (.int i)) (hb : Ev tb σ H (.int j)) : Ev (tOp (rI0 fun i j => .int (i + j)) ta tb) σ H (.int (i + j)) := ev_op ha hb (rv_I0 (g := fun i j => .int (i + j)))
theorem ev_sub {ta tb : TE} {σ : L2.St} {H : Hp} {i j : Int} (ha : Ev ta σ H (.int i)) (hb : Ev tb σ H (.int j)) : Ev (tOp (rI0 fun i j => .int (i - j)) ta tb) σ H (.int (i - j)) := ev_op ha hb (rv_I0 (g := fun i j => .int (i - j)))
theorem ev_lt {ta tb : TE} {σ : L2.St} {H : Hp} {i j : Int} (ha : Ev ta σ H (.int i)) (hb : Ev tb σ H (.int j)) : Ev (tOp (rI0 fun i j => .bl (decide (i < j))) ta tb) σ H (.bl (decide (i < j))) := ev_op ha hb (rv_I0 (g := fun i j => .bl (decide (i < j))))
theorem ev_gt {ta tb : TE} {σ : L2.St} {H : Hp} {i j : Int} (ha : Ev ta σ H (.int i)) (hb : Ev tb σ H (.int j)) : Ev (tOp (rI0 fun i j => .bl (decide (j < i))) ta tb) σ H (.bl (decide (j < i))) := ev_op ha hb (rv_I0 (g := fun i j => .bl (decide (j < i))))
end
end K18
/-! ### plain rules -/
namespace Tr
open PySem PySem.Spec PyProof.Rows L2 Evl Fx Dt
def frD (r : Rat) : PyData := .tuple [.int r.num, .int (r.den : Int)]
inductive Pl where
  | own (p q : Int)
  | shared (p q : Int)
  | caller
  | bad
  | late
  | never
def Pl.word : Pl → Str
  | .own _ _ => "own"
  | .shared _ _ => "shared"
  | .caller => "caller"
  | .bad => "bad"
  | .late => "late"
  | .never => "never"
def Pl.more : Pl → List PyData
  | .own p q => [.int p, .int q]
  | .shared p q => [.int p, .int q]
  | _ => []
def Pl.D (x : Pl) : PyData := .tuple (.str x.word :: x.more)
def Pl.Ok : Pl → Prop
  | .own p q => 0 < q ∧ p.natAbs < 2 ^ 60 ∧ q.natAbs < 2 ^ 60
  | .shared p q => 0 < q ∧ p.natAbs < 2 ^ 60 ∧ q.natAbs < 2 ^ 60
  | _ => True
theorem Pl.flat (x : Pl) : Dt.flat x.D = true := by cases x <;> rfl
/-- whether it says so by a draw of the trace -/
def Pl.says (bad late called : Bool) (draw : Rat) : Pl → Bool
  | .own _ _ => false
  | .shared p q => decide (draw < Rat.divInt p q)
  | .caller => called
  | .bad => bad
  | .late => late
  | .never => false
def Pl.chance (bad late called : Bool) (draw : Rat) : Pl → Rat
  | .own p q => Rat.divInt p q
  | x => if x.says bad late called draw then 1 else 0
inductive Ru where
  | one (a : Pl)
  | or (a b : Pl)
def Ru.D : Ru → PyData
  | .one a => a.D
  | .or a b => .tuple [.str "or", a.D, b.D]
def Ru.plains : Ru → List Pl
  | .one a => [a]
  | .or a b => [a, b]
def Ru.Ok (r : Ru) : Prop := ∀ p ∈ r.plains, p.Ok
theorem Ru.flat (x : Ru) : Dt.flat x.D = true := by
  cases x with
  | one a => exact a.flat
  | or a b =>
    show Dt.flat (.tuple [.str "or", a.D, b.D]) = true
    rw [flat_tup, flats, flats, flats, flats, a.flat, b.flat]
    rfl
theorem fr_flat (r : Rat) : Dt.flat (frD r) = true := rfl
theorem sh_str {x : Str} (h : PyData.strOk x = true) : SeqAt.shaped (.str x) = true := by simp [SeqAt.shaped, PyData.canLay0, PyData.depth, h]
theorem word_ok (x : Pl) : PyData.strOk x.word = true := by
  cases x with
  | own p q => exact (by decide +kernel : PyData.strOk ("own" : Str) = true)
  | shared p q => exact (by decide +kernel : PyData.strOk ("shared" : Str) = true)
  | caller => decide +kernel
  | bad => decide +kernel
  | late => decide +kernel
  | never => decide +kernel
theorem word_or (x : Pl) : (x.word == ("or" : Str)) = false := by
  cases x with
  | own p q => exact (by decide +kernel : (("own" : Str) == ("or" : Str)) = false)
  | shared p q => exact (by decide +kernel : (("shared" : Str) == ("or" : Str)) = false)
  | caller => decide +kernel
  | bad => decide +kernel
  | late => decide +kernel
  | never => decide +kernel
theorem sh_int (x : Int) : SeqAt.shaped (.int x) = true := by simp [SeqAt.shaped, PyData.canLay0, PyData.depth]
theorem str_eqv (a b : Str) : PyData.eqv (.str a) (.str b) = (a == b) := by simp [PyData.eqv]
theorem int_eqv (a b : Int) : PyData.eqv (.int a) (.int b) = (a == b) := by simp [PyData.eqv]
end Tr
namespace K18
open PySem PySem.Spec PyProof.Rows L2 Evl Fx Fr Dt Tr
section
variable {P : Program} {w : World} {K : PySem.W.Frag} {mg : Str → Option Value} {base : Heap} {f f2 f3 : Addr} {fd fd2 fd3 : FuncData}
def spLess (K : PySem.W.Frag) : Sp := spD K fun ds d => ∃ x y, okB 1 x y ∧ ds = [frD x, frD y] ∧ d = .bool (decide (x < y))
def spMade (K : PySem.W.Frag) : Sp := spD K fun ds d => ∃ i j, okR i j ∧ ds = [.int i, .int j] ∧ d = frD (Rat.divInt i j)
def spPlains (K : PySem.W.Frag) : Sp := spD K fun ds d => ∃ r : Ru, ds = [r.D] ∧ d = .tuple (r.plains.map Pl.D)
end
end K18
namespace Tr
open PySem PySem.Spec PyProof.Rows L2 Evl Fx Dt
def Pl.sh (draw : Rat) : Pl → Bool
  | .shared p q => decide (draw < Rat.divInt p q)
  | _ => false
theorem word_own {x : Pl} (h : (x.word == ("own" : Str)) = true) : ∃ p q, x = .own p q := by
  cases x with
  | own p q => exact ⟨p, q, rfl⟩
  | shared p q => exact absurd h (by have : (("shared" : Str) == ("own" : Str)) = false := by decide +kernel
                                     show ¬ (("shared" : Str) == ("own" : Str)) = true
                                     rw [this]
                                     exact Bool.false_ne_true)
  | caller => exact absurd h (by decide +kernel)
  | bad => exact absurd h (by decide +kernel)
  | late => exact absurd h (by decide +kernel)
  | never => exact absurd h (by decide +kernel)
theorem word_shared {x : Pl} (h : (x.word == ("shared" : Str)) = true) : ∃ p q, x = .shared p q := by
  cases x with
  | shared p q => exact ⟨p, q, rfl⟩
  | own p q => exact absurd h (by have : (("own" : Str) == ("shared" : Str)) = false := by decide +kernel
                                  show ¬ (("own" : Str) == ("shared" : Str)) = true
                                  rw [this]
                                  exact Bool.false_ne_true)
  | caller => exact absurd h (by decide +kernel)
  | bad => exact absurd h (by decide +kernel)
  | late => exact absurd h (by decide +kernel)
  | never => exact absurd h (by decide +kernel)
theorem not_own {x : Pl} (h : (x.word == ("own" : Str)) = false) : ∀ p q, x ≠ .own p q := fun p q e => by
  subst e
  exact absurd h (by have : (("own" : Str) == ("own" : Str)) = true := by decide +kernel
                     show ¬ (("own" : Str) == ("own" : Str)) = false
                     rw [this]
                     exact fun z => Bool.noConfusion z)
theorem says_eq (x : Pl) (h : ∀ p q, x ≠ .own p q) (bad late called : Bool) (draw : Rat) : ((x.word == ("shared" : Str)) && x.sh draw || ((x.word == ("caller" : Str)) && called || ((x.word == ("bad" : Str)) && bad || ((x.word == ("late" : Str)) && late)))) = x.says bad late called draw := by
  have w1 : (("shared" : Str) == ("shared" : Str)) = true := by decide +kernel
  have w2 : (("shared" : Str) == ("caller" : Str)) = false := by decide +kernel
  have w3 : (("shared" : Str) == ("bad" : Str)) = false := by decide +kernel
  have w4 : (("shared" : Str) == ("late" : Str)) = false := by decide +kernel
  have c1 : (("caller" : Str) == ("shared" : Str)) = false := by decide +kernel
  have c2 : (("caller" : Str) == ("caller" : Str)) = true := by decide +kernel
  have c3 : (("caller" : Str) == ("bad" : Str)) = false := by decide +kernel
  have c4 : (("caller" : Str) == ("late" : Str)) = false := by decide +kernel
  have b1 : (("bad" : Str) == ("shared" : Str)) = false := by decide +kernel
  have b2 : (("bad" : Str) == ("caller" : Str)) = false := by decide +kernel
  have b3 : (("bad" : Str) == ("bad" : Str)) = true := by decide +kernel
  have b4 : (("bad" : Str) == ("late" : Str)) = false := by decide +kernel
  have l1 : (("late" : Str) == ("shared" : Str)) = false := by decide +kernel
  have l2 : (("late" : Str) == ("caller" : Str)) = false := by decide +kernel
  have l3 : (("late" : Str) == ("bad" : Str)) = false := by decide +kernel
  have l4 : (("late" : Str) == ("late" : Str)) = true := by decide +kernel
  have n1 : (("never" : Str) == ("shared" : Str)) = false := by decide +kernel
  have n2 : (("never" : Str) == ("caller" : Str)) = false := by decide +kernel
  have n3 : (("never" : Str) == ("bad" : Str)) = false := by decide +kernel
  have n4 : (("never" : Str) == ("late" : Str)) = false := by decide +kernel
  cases x with
  | own p q => exact absurd rfl (h p q)
  | shared p q => simp only [Pl.word, Pl.sh, Pl.says, w1, w2, w3, w4, Bool.true_and, Bool.false_and, Bool.or_false]
  | caller => simp only [Pl.word, Pl.sh, Pl.says, c1, c2, c3, c4, Bool.true_and, Bool.false_and, Bool.or_false, Bool.false_or]
  | bad => simp only [Pl.word, Pl.sh, Pl.says, b1, b2, b3, b4, Bool.true_and, Bool.false_and, Bool.or_false, Bool.false_or]
  | late => simp only [Pl.word, Pl.sh, Pl.says, l1, l2, l3, l4, Bool.true_and, Bool.false_and, Bool.or_false, Bool.false_or]
  | never => simp only [Pl.word, Pl.sh, Pl.says, n1, n2, n3, n4, Bool.true_and, Bool.false_and, Bool.or_false, Bool.false_or]
theorem chance_eq (x : Pl) (h : ∀ p q, x ≠ .own p q) (bad late called : Bool) (draw : Rat) : x.chance bad late called draw = if x.says bad late called draw then 1 else 0 := by
  cases x with
  | own p q => exact absurd rfl (h p q)
  | _ => rfl
end Tr
namespace K18
open PySem PySem.Spec PyProof.Rows L2 Evl Fx Fr Dt Tr
section
variable {P : Program} {w : World} {K : PySem.W.Frag} {mg : Str → Option Value} {base : Heap} {f f2 f3 : Addr} {fd fd2 fd3 : FuncData}
/-- a name of the module that holds data written there -/
def Wr (K : PySem.W.Frag) (mg : Str → Option Value) (x : Str) (d : PyData) : Prop := ∃ a, mg x = some (.ref a) ∧ ∀ H, Dp K H (.ref a) d
theorem rd_const {F : Fd} {σ : L2.St} {H : Hp} {a : Addr} {d : PyData} (h : ∀ H, Dp K H (.ref a) d) : EvR F (tC (.ref a)) σ H 0 (IsD K d) := fun n1 H1 hn g e Q q => q _ H1 Kx.refl g (h H1)
def spChance (K : PySem.W.Frag) : Sp := spD K fun ds d => ∃ (x : Pl) (bad late called : Bool) (draw : Rat), x.Ok ∧ Bd 60 draw ∧ ds = [x.D, .bool bad, .bool late, .bool called, frD draw] ∧ d = frD (x.chance bad late called draw)
theorem okR_of {p q : Int} (h : 0 < q ∧ p.natAbs < 2 ^ 60 ∧ q.natAbs < 2 ^ 60) : okR p q := ⟨by omega, lt_up h.2.1 (by decide), lt_up h.2.2 (by decide)⟩
theorem bd_made {p q : Int} (h : 0 < q ∧ p.natAbs < 2 ^ 60 ∧ q.natAbs < 2 ^ 60) : Bd 60 (Rat.divInt p q) := bd_div (by omega) h.2.1 h.2.2
end
end K18
namespace Tr
open PySem PySem.Spec PyProof.Rows L2 Evl Fx Dt
def rowD (x : Str × Ru) : PyData := .tuple [.str x.1, x.2.D]
theorem row_flat (x : Str × Ru) : Dt.flat (rowD x) = true := by
  unfold rowD
  rw [flat_tup, flats, flats, flats, x.2.flat]
  rfl
theorem rows_flat (xs : List (Str × Ru)) : flats (xs.map rowD) = true := flats_all.mpr fun d hd => by
  obtain ⟨x, _, rfl⟩ := List.mem_map.mp hd
  exact row_flat x
/-- the place of a service's rule -/
def RuleAt (rs : List (Str × Ru)) (s : Str) (i : Nat) (r : Ru) : Prop := rs[i]? = some (s, r) ∧ ∀ j x, j < i → rs[j]? = some x → x.1 ≠ s
def Names (rs : List (Str × Ru)) : Prop := ∀ x ∈ rs, PyData.strOk x.1 = true
def spanD (x : List Nat × T) : PyData := .tuple [pathD x.1, .str x.2.name, .int x.2.mark]
theorem span_flat (x : List Nat × T) : Dt.flat (spanD x) = true := by
  unfold spanD
  rw [flat_tup, flats, flats, flats, flats, path_flat]
  rfl
def isBad (t : T) : Bool := (subs t).any fun s => s.mark == 1
end Tr
namespace Dt
open PySem PySem.Spec PyProof.Rows L2 Evl Fx
section
variable {K : PySem.W.Frag} {F : Fd} {te : TE} {σ : L2.St} {H : Hp} {k : Nat}
theorem dps_bools : ∀ {bs : List Bool} {vs : List V}, DpAll K H vs (bs.map PyData.bool) → vs = bs.map V.bl
  | [], _, h => by cases h; rfl
  | b :: bs, _, h => by
    cases h with
    | cons h1 h2 =>
      cases h1
      rw [dps_bools h2]
      rfl
theorem rb_any {bs : List Bool} (h : EvR F te σ H k (IsL F K (bs.map PyData.bool))) : EvR F (tCB (rAny K) (tCons te tNil)) σ H k (fun u _ => u = .bl (bs.any id)) := fun n H1 hn g e Q q => h n H1 hn g e _ fun v H2 e2 g2 ⟨a, xs, ev, hT, ha, hx⟩ => by
  subst ev
  have := dps_bools hx
  subst this
  exact ⟨a, bs, rfl, sq_of ha, q _ H2 e2 g2 rfl⟩
theorem gv_pair {i j : Nat} {a : Addr} {x y : V} (h : SqT K H a [x, y]) : Gv (gTup K 2 (gCons (gName i) (gCons (gName j) gNil))) (.ref a) σ H ((σ.set i (some x)).set j (some y)) := fun Q q => ⟨a, [x, y], rfl, h, rfl, x, [y], rfl, y, [], rfl, rfl, q⟩
end
end Dt
namespace K18
open PySem PySem.Spec PyProof.Rows L2 Evl Fx Fr Dt Tr
section
variable {P : Program} {w : World} {K : PySem.W.Frag} {mg : Str → Option Value} {base : Heap} {f f2 f3 : Addr} {fd fd2 fd3 : FuncData}
def spRule (K : PySem.W.Frag) : Sp := spD K fun ds d => ∃ (rs : List (Str × Ru)) (s : Str) (i : Nat) (r : Ru), Names rs ∧ PyData.strOk s = true ∧ RuleAt rs s i r ∧ ds = [.tuple (rs.map rowD), .str s] ∧ d = r.D
def spBad (K : PySem.W.Frag) : Sp := spD K fun ds d => ∃ t, size t ≤ 1000 ∧ ds = [enc t] ∧ d = .bool (isBad t)
def spSpans (K : PySem.W.Frag) : Sp := spD K fun ds d => ∃ t, size t ≤ 1000 ∧ ds = [enc t] ∧ d = .tuple ((Tr.placed [] t).map spanD)
end
end K18
namespace Dt
open PySem PySem.Spec PyProof.Rows L2 Evl Fx
/-- zip of two tuples in a comprehension, the first not longer -/
theorem lc_zipLe {K : PySem.W.Frag} {a b : Addr} {xs ys : List V} {g : TG} {tt : TT} {te : TE} {vs : List Nat} {σ : L2.St} {H1 : Hp} {D : Addr} {Qd : Hp → Prop} (hl : xs.length ≤ ys.length) (Pv : Nat → Hp → Prop) (h0 : Pv 0 (upd H1 D (.lst []))) (hq : ∀ i H, Pv i H → SqT K H a xs ∧ SqT K H b ys)
    (hs : ∀ (i : Nat) (x y : V) (T : Addr) (H : Hp), xs[i]? = some x → ys[i]? = some y → Pv i H → H T = none → g (.ref T) (wipe σ vs) (upd H T (.tup [x, y])) fun σ2 H2 => wipe σ2 vs = wipe σ vs ∧ tt σ2 H2 fun b H3 =>
      if b = true then te σ2 H3 fun y H4 => ∃ acc, H4 D = some (.lst acc) ∧ acc.length < sizeLine ∧ Pv (i + 1) (upd H4 D (.lst (acc ++ [y]))) else Pv (i + 1) H3) (hd : ∀ H, Pv xs.length H → Qd H) :
    ∃ W : Nat → Nat → Hp → Prop, (∃ m, W 0 m (upd H1 D (.lst []))) ∧ ∀ i m H, W i m H →
      ((RZ.ItzT K a b).stop i H ∧ Qd H) ∨ ((RZ.ItzT K a b).go i H ∧ ∃ Nx : Hp → Prop, (∀ H', Nx H' → ∃ m', m' < m ∧ W (i + 1) m' H') ∧ ∀ x H', (RZ.ItzT K a b).yld i H x H' → g x (wipe σ vs) H' fun σ2 H2 => wipe σ2 vs = wipe σ vs ∧ tt σ2 H2 fun b H3 =>
        if b = true then te σ2 H3 fun y H4 => ∃ acc, H4 D = some (.lst acc) ∧ acc.length < sizeLine ∧ Nx (upd H4 D (.lst (acc ++ [y]))) else Nx H3) := by
  refine ⟨fun i m H => m = xs.length - i ∧ i ≤ xs.length ∧ Pv i H, ⟨xs.length, by simp, Nat.zero_le _, h0⟩, ?_⟩
  rintro i m H ⟨rfl, hi, p⟩
  obtain ⟨qx, qy⟩ := hq i H p
  by_cases hlt : i < xs.length
  · have hx : xs[i]? = some xs[i] := List.getElem?_eq_getElem hlt
    have hlt2 : i < ys.length := by omega
    have hy : ys[i]? = some ys[i] := List.getElem?_eq_getElem hlt2
    refine .inr ⟨⟨xs, ys, _, _, qx, qy, hx, hy⟩, Pv (i + 1), fun H' p' => ⟨xs.length - (i + 1), by omega, rfl, hlt, p'⟩, fun v H' y => ?_⟩
    obtain ⟨T, x', y', rfl, hT, rfl, f1, f2⟩ := y
    exact hs i x' y' T H (f1 xs qx) (f2 ys qy) p hT
  · have e : i = xs.length := by omega
    subst e
    exact .inl ⟨⟨xs, ys, qx, qy, Or.inl (Nat.le_refl _)⟩, hd H p⟩
section
variable {F : Fd} {K : PySem.W.Frag} {te ta tb tl : TE} {tr : TA} {tt tu : TT} {g : TG} {σ : L2.St} {H H' H1 : Hp} {d d' : PyData} {ds es : List PyData} {n n0 k ka kb kt ke i : Nat} {v : V} {Dl : Addr} {f : Nat → Bool} {e : Nat → PyData}
theorem Cd.new (o : F.Ok) (p : Cd F K H1 Dl n0 k f e i H') {T : Addr} {u : HO} (h : H' T = none) : Cd F K H1 Dl n0 k f e i (upd H' T u) := by
  obtain ⟨p1, p2, vs, p3, p4⟩ := p
  exact ⟨p1.trans (Kx.ex (Ex.new h)), o.ex p2 (Ex.new h), vs, Ex.new h _ _ p3, dps_ex (Ex.new h) _ _ p4⟩
/-- [e for (..) in zip(t, u) if ..], tuples -/
theorem r_lcZ (o : F.Ok) {vs : List Nat} (f : Nat → Bool) (e : Nat → PyData) (h : EvRA F tr σ H k (fun us H => DpAll K H us [.tuple ds, .tuple es])) (fd : flats ds = true) (fe : flats es = true) (hle : ds.length ≤ es.length) (hm : ds.length ≤ 40000) (fl : ∀ j, j < ds.length → f j = true → flat (e j) = true)
    (ht : ∀ i x y T d d' n H', ds[i]? = some d → es[i]? = some d' → Dp K H' x d → Dp K H' y d' → SqT K H' T [x, y] → F.G n H' → Kx F.S H H' → ∃ σ2, Gv g (.ref T) (wipe σ vs) H' σ2 ∧ wipe σ2 vs = wipe σ vs ∧ EvRT F tt σ2 H' kt (f i) ∧ (f i = true → EvR F te σ2 H' ke (IsD K (e i)))) :
    EvR F (tLc (RZ.iZipA K tr) g tt te vs) σ H (k + ds.length * (kt + ke)) (IsL F K (outs f e ds.length)) := fun n H0 hn g0 e0 Q q => h n H0 (by omega) g0 e0 _ fun us H1 e1 g1 hd => by
  obtain ⟨u1, us, rfl, p1, hd⟩ := dps_uncons hd
  obtain ⟨u2, us, rfl, p2, hd⟩ := dps_uncons hd
  obtain rfl := dps_none hd
  cases p1 with
  | @tup a xs _ ha hx =>
  cases p2 with
  | @tup b ys _ hb hy =>
  have hl := dps_len hx
  have hl2 := dps_len hy
  refine ⟨a, b, xs, ys, rfl, .inr ⟨ha, hb, fun Dl hD => lc_zipLe (xs := xs) (by omega) (Cd F K H1 Dl (n + k) (kt + ke) f e) ?_ (fun i H' p => ⟨o.kt g1 p.1 _ _ ha, o.kt g1 p.1 _ _ hb⟩) (fun i x y T H' hi hj p hT => ?_) fun H' p => ?_⟩⟩
  · exact ⟨Kx.ex (Ex.new hD), by rw [Nat.zero_mul]; exact o.put g1 hD g1, [], upd_same, .nil⟩
  · have hlt := (List.getElem?_eq_some_iff.mp hi).1
    have hdi : ds[i]? = some ds[i] := List.getElem?_eq_getElem (by omega)
    have hei : es[i]? = some es[i] := List.getElem?_eq_getElem (by omega)
    have p' : Cd F K H1 Dl (n + k) (kt + ke) f e i (upd H' T (.tup [x, y])) := p.new o hT
    obtain ⟨u, hu, hdu⟩ := dps_get (mono_ds o fd _ _ _ _ g1 p'.1 hx) hdi
    rw [hi] at hu
    cases hu
    obtain ⟨u, hu, hdu'⟩ := dps_get (mono_ds o fe _ _ _ _ g1 p'.1 hy) hei
    rw [hj] at hu
    cases hu
    obtain ⟨σ2, q1, q2, q3, q4⟩ := ht i x y T _ _ _ _ hdi hei hdu hdu' (st_of upd_same) p'.2.1 (e0.trans (e1.trans p'.1))
    exact q1 _ ⟨q2, cd_turn o g1 hD p' (by omega) hm (by rw [Nat.add_assoc]; exact hn) fl q3 q4⟩
  · rw [hl] at p
    obtain ⟨p1, p2, ws, p3, p4⟩ := p
    exact q (.ref Dl) H' (e1.trans p1) (by rw [← Nat.add_assoc]; exact p2) ⟨Dl, ws, rfl, o.new g1 hD, p3, p4⟩
theorem sIx_0 (n d : Nat) : HT.sIx n d none = d := rfl
theorem sIx_last (n : Nat) : HT.sIx n n (some (-1)) = n - 1 := by
  unfold HT.sIx
  simp
  omega
/-- t[:-1] -/
theorem rd_init {σ : L2.St} (o : F.Ok) (h : EvR F te σ H k (IsD K (.tuple ds))) : EvR F (tSl (rSlA K) te tNoPart (tPart (tUn (rU fun i => .int (-i)) (tC (.int 1))))) σ H k (IsD K (.tuple ds.dropLast)) := by
  have z := rd_slT (lo := none) (hi := some (-1)) o h (fun H1 => eo_none) fun H1 => eo_some (ev_un ev_c ru_neg)
  rw [sIx_0, List.drop_zero, sIx_last, Nat.sub_zero, ← List.dropLast_eq_take] at z
  exact z
/-- for .. in zip(t, u), tuples of one length -/
theorem q_forZ {tb tz : TS} {D : Ends} (o : F.Ok) (h : EvRA F tr σ H k (fun us H => DpAll K H us [.tuple ds, .tuple es])) (g0 : F.G n H) (hn : n + k ≤ F.N) (fd : flats ds = true) (fe : flats es = true) (hl : ds.length = es.length) (Pv : Hp → Nat → L2.St → Hp → Prop)
    (h0 : ∀ H1, Kx F.S H H1 → F.G (n + k) H1 → Pv H1 0 σ H1) (hk : ∀ H1 i σ' H', Pv H1 i σ' H' → KT K H1 H')
    (hs : ∀ H1 i x y T d d' σ' H', ds[i]? = some d → es[i]? = some d' → Pv H1 i σ' H' → H' T = none → Dp K (upd H' T (.tup [x, y])) x d → Dp K (upd H' T (.tup [x, y])) y d' → g (.ref T) σ' (upd H' T (.tup [x, y])) fun σ2 H2 => tb { D with nx := Pv H1 (i + 1), ct := Pv H1 (i + 1), bk := tz D } σ2 H2)
    (hd : ∀ H1 σ' H', Kx F.S H H1 → Pv H1 ds.length σ' H' → tz D σ' H') : tSeq (tFor (RZ.iZipA K tr) g tb) tz D σ H := h n H hn g0 Kx.refl _ fun us H1 e1 g1 hu => by
  obtain ⟨u1, us, rfl, p1, hu⟩ := dps_uncons hu
  obtain ⟨u2, us, rfl, p2, hu⟩ := dps_uncons hu
  obtain rfl := dps_none hu
  cases p1 with
  | @tup a xs _ ha hx =>
  cases p2 with
  | @tup b ys _ hb hy =>
  have lx := dps_len hx
  have ly := dps_len hy
  refine ⟨a, b, xs, ys, rfl, .inr ⟨ha, hb, RZ.for_zipT (by omega) (Pv H1) (h0 H1 e1 g1) (fun i σ' H' p => ⟨hk _ _ _ _ p _ _ ha, hk _ _ _ _ p _ _ hb⟩) (fun i x y T σ' H' hi hj p hT => ?_) fun σ' H' p => hd H1 σ' H' e1 (by rw [← lx]; exact p)⟩⟩
  have h1 := (List.getElem?_eq_some_iff.mp hi).1
  have h2 := (List.getElem?_eq_some_iff.mp hj).1
  have hdi : ds[i]? = some ds[i] := List.getElem?_eq_getElem (by omega)
  have hei : es[i]? = some es[i] := List.getElem?_eq_getElem (by omega)
  have kk : KT K H1 (upd H' T (.tup [x, y])) := kt_trans (hk _ _ _ _ p) (kt_ex (Ex.new hT))
  obtain ⟨u, hu, hdu⟩ := dps_get (dps_kt kk _ _ fd hx) hdi
  rw [hi] at hu
  cases hu
  obtain ⟨u, hu, hdu'⟩ := dps_get (dps_kt kk _ _ fe hy) hei
  rw [hj] at hu
  cases hu
  exact hs H1 i x y T _ _ σ' H' hdi hei p hT hdu hdu'
end
end Dt
namespace Tr
open PySem PySem.Spec PyProof.Rows L2 Evl Fx Fr Dt
def mkD (x : Rat × Rat) : PyData := .tuple [frD x.1, frD x.2]
theorem mk_flat (x : Rat × Rat) : Dt.flat (mkD x) = true := rfl
theorem mks_flat (xs : List (Rat × Rat)) : flats (xs.map mkD) = true := flats_all.mpr fun d hd => by
  obtain ⟨x, _, rfl⟩ := List.mem_map.mp hd
  rfl
theorem spans_flat (xs : List (List Nat × T)) : flats (xs.map spanD) = true := flats_all.mpr fun d hd => by
  obtain ⟨x, _, rfl⟩ := List.mem_map.mp hd
  exact span_flat x
theorem paths_flat (xs : List (List Nat)) : flats (xs.map pathD) = true := flats_all.mpr fun d hd => by
  obtain ⟨x, _, rfl⟩ := List.mem_map.mp hd
  exact path_flat x
theorem plains_flat (xs : List Pl) : flats (xs.map Pl.D) = true := flats_all.mpr fun d hd => by
  obtain ⟨x, _, rfl⟩ := List.mem_map.mp hd
  exact x.flat
def saysAny (r : Ru) (bad late called : Bool) (draw : Rat) (own : Rat × Rat) : Bool := (r.plains.zip [own.1, own.2]).any fun z => decide (z.2 < z.1.chance bad late called draw)
def calledIn (acc : List (List Nat)) (p : List Nat) : Bool := !(p == []) && acc.any fun z => z == p.dropLast
def step (ρ : Str → Ru) (late : Bool) (draw : Rat) (acc : List (List Nat)) (x : (List Nat × T) × (Rat × Rat)) : List (List Nat) :=
  if saysAny (ρ x.1.2.name) (x.1.2.mark == 1) late (calledIn acc x.1.1) draw x.2 then acc ++ [x.1.1] else acc
def keptBy (ρ : Str → Ru) (t : T) (draw : Rat) (owns : List (Rat × Rat)) : List (List Nat) := ((placed [] t).zip owns).foldl (step ρ (isBad t) draw) []
theorem eqvs_ints : ∀ p q : List Nat, PyData.eqvAll (p.map fun (i : Nat) => PyData.int (i : Int)) (q.map fun (i : Nat) => PyData.int (i : Int)) = (p == q)
  | [], [] => by simp [PyData.eqvAll]
  | [], _ :: _ => by simp [PyData.eqvAll]
  | _ :: _, [] => by simp [PyData.eqvAll]
  | a :: p, b :: q => by
    rw [List.map_cons, List.map_cons, PyData.eqvAll, eqvs_ints p q, int_eqv, List.cons_beq_cons]
    congr 1
    by_cases h : a = b
    · subst h
      exact (beq_self_eq_true _).trans (beq_self_eq_true _).symm
    · have h' : ¬ ((a : Int) = (b : Int)) := by omega
      exact (beq_eq_false_iff_ne.mpr h').trans (beq_eq_false_iff_ne.mpr h).symm
theorem path_eqv (p q : List Nat) : PyData.eqv (pathD p) (pathD q) = (p == q) := by
  unfold pathD
  rw [PyData.eqv]
  exact eqvs_ints p q
theorem lay_ints : ∀ p : List Nat, PyData.canLayAll0 (p.map fun (i : Nat) => PyData.int (i : Int)) = true
  | [] => by simp [PyData.canLayAll0]
  | a :: p => by rw [List.map_cons, PyData.canLayAll0, lay_ints p]; simp [PyData.canLay0]
theorem depth_nats : ∀ p : List Nat, PyData.depthAll (p.map fun (i : Nat) => PyData.int (i : Int)) = 0
  | [] => by simp [PyData.depthAll]
  | a :: p => by rw [List.map_cons, PyData.depthAll, depth_nats p]; simp [PyData.depth]
theorem path_lay (p : List Nat) : PyData.canLay0 (pathD p) = true := by
  unfold pathD
  rw [PyData.canLay0]
  exact lay_ints p
theorem path_depth (p : List Nat) : PyData.depth (pathD p) = 1 := by
  unfold pathD
  rw [PyData.depth, depth_nats]
theorem sh_path (p : List Nat) : SeqAt.shaped (pathD p) = true := by
  show ((pathD p).canLay0 && decide ((pathD p).depth ≤ 64)) = true
  rw [path_lay, path_depth]
  rfl
theorem lay_paths : ∀ ks : List (List Nat), PyData.canLayAll0 (ks.map pathD) = true
  | [] => by simp [PyData.canLayAll0]
  | a :: p => by rw [List.map_cons, PyData.canLayAll0, lay_paths p, path_lay]; rfl
theorem depth_paths : ∀ ks : List (List Nat), PyData.depthAll (ks.map pathD) ≤ 1
  | [] => by simp [PyData.depthAll]
  | a :: p => by
    have := depth_paths p
    rw [List.map_cons, PyData.depthAll, path_depth]
    omega
theorem sh_paths (ks : List (List Nat)) : SeqAt.shaped (.list (ks.map pathD)) = true := by
  have h := depth_paths ks
  show ((PyData.list (ks.map pathD)).canLay0 && decide ((PyData.list (ks.map pathD)).depth ≤ 64)) = true
  rw [Bool.and_eq_true]
  exact ⟨by rw [PyData.canLay0]; exact lay_paths ks, decide_eq_true (by rw [PyData.depth]; omega)⟩
theorem path_init (p : List Nat) : (p.map fun (i : Nat) => PyData.int (i : Int)).dropLast = p.dropLast.map fun (i : Nat) => PyData.int (i : Int) := by rw [List.map_dropLast]
theorem chance_bd {x : Pl} (h : x.Ok) (bad late called : Bool) (draw : Rat) : Bd 60 (x.chance bad late called draw) := by
  have b0 : Bd 60 (0 : Rat) := bd0.mono (by decide)
  have b1 : Bd 60 (1 : Rat) := bd1.mono (by decide)
  have bi : ∀ c : Bool, Bd 60 (if c = true then (1 : Rat) else 0) := fun c => by cases c <;> simp <;> assumption
  cases x with
  | own p q => exact bd_div (by have := h.1; omega) h.2.1 h.2.2
  | _ => exact bi _
theorem step_len (ρ : Str → Ru) (late : Bool) (draw : Rat) : ∀ (xs : List ((List Nat × T) × (Rat × Rat))) (acc : List (List Nat)), (xs.foldl (step ρ late draw) acc).length ≤ acc.length + xs.length
  | [], acc => Nat.le_refl _
  | x :: xs, acc => by
    have h := step_len ρ late draw xs (step ρ late draw acc x)
    have h2 : (step ρ late draw acc x).length ≤ acc.length + 1 := by
      unfold step
      split <;> simp
    rw [List.foldl_cons, List.length_cons]
    omega
end Tr
namespace K18
open PySem PySem.Spec PyProof.Rows L2 Evl Fx Fr Dt Tr
section
variable {P : Program} {w : World} {K : PySem.W.Frag} {mg : Str → Option Value} {base : Heap} {f f2 f3 : Addr} {fd fd2 fd3 : FuncData}
structure KeptOk (t : T) (rs : List (Str × Ru)) (ρ : Str → Ru) (draw : Rat) (owns : List (Rat × Rat)) : Prop where
  size : size t ≤ 1000
  len : owns.length = Tr.size t
  draw : Bd 60 draw
  owns : ∀ o ∈ owns, Bd 60 o.1 ∧ Bd 60 o.2
  names : Names rs
  rules : ∀ s ∈ subs t, PyData.strOk s.name = true ∧ (∃ i, RuleAt rs s.name i (ρ s.name)) ∧ (ρ s.name).Ok
def spKept (K : PySem.W.Frag) : Sp := spD K fun ds d => ∃ t rs ρ draw owns, KeptOk t rs ρ draw owns ∧ ds = [enc t, .tuple (rs.map rowD), frD draw, .tuple (owns.map mkD)] ∧ d = .tuple ((keptBy ρ t draw owns).map pathD)
end
end K18
/-! ### enumerate(t), a tuple -/
namespace DtE
open PySem PySem.Spec PyProof.Rows L2
theorem meets_enumerate_newT (l : Addr) (items : Array Value) :
    Meets (Builtin.«enumerate.__new__» ⟨[.type "enumerate", .ref l], []⟩) (fun _ R s => s.heap.IsTuple l items ∧
      R (.ok (.ret (.ref (s.heap.push { cls := .type "tuple_iterator", data := .fields #[.ref l, .int 0 0] }).objs.size)))
        { s with heap := (s.heap.push { cls := .type "tuple_iterator", data := .fields #[.ref l, .int 0 0] }).push { cls := .type "enumerate", data := .fields #[.none, .bool false, .ref s.heap.objs.size, rawInt 0, .none, .none] } }) :=
  .of_wp fun prog w A R s h => by
    obtain ⟨hp, g, d, tk, os⟩ := s; obtain ⟨hl, h⟩ := h
    have hsub := sub_enumerate
    have hL : Heap.IsTuple (Shared.heap ⟨hp, g, d, tk, os⟩) l items := hl
    wp_walk using wpAny_pyIter_tuple hL
    refine wpAny_stack_any fun st => wpAny_pure ?_
    split
    · rename_i c _ _ _ _ _
      cases (c == Value.type "enumerate")
      · wp_walk using wpAny_pyIter_tuple hL
        exact ⟨_, rfl, h⟩
      · wp_walk using wpAny_pyIter_tuple hL
        exact ⟨_, rfl, h⟩
    · wp_walk using wpAny_pyIter_tuple hL
      exact ⟨_, rfl, h⟩
section
variable {prog : Program} {w : World} {A : Around} {E : Value → Shared → Prop} {s : Shared}
theorem call_enumerate_tuple {l : Addr} {items : Array Value} {Q : Value → Shared → Prop} (hL : s.heap.IsTuple l items)
    (h : ∀ h', IsEnum h' (s.heap.objs.size + 1) s.heap.objs.size 0 .none → h'.IsTupleIter s.heap.objs.size l 0 → h'.objs.size = s.heap.objs.size + 2 →
      (∀ b o, s.heap.get? b = some o → h'.get? b = some o) → Q (.ref (s.heap.objs.size + 1)) { s with heap := h' }) :
    wpAny (model prog w) A (call (.type "enumerate") [.ref l]) Q E s := by
  refine callType_new F.called_enumerate (by decide) (F.typeCall_enumerate_1 _) (F.newCall_enumerate_1 _) (fun obj => F.args_object_init_2 obj _) F.entry_enumerate_new
    (meets_enumerate_newT l items) ⟨hL, ?_⟩
  have hz : (s.heap.push { cls := .type "tuple_iterator", data := .fields #[.ref l, .int 0 0] }).objs.size = s.heap.objs.size + 1 := Heap.size_push ..
  show _ ∧ _
  rw [hz]
  have he : IsEnum ((s.heap.push { cls := .type "tuple_iterator", data := .fields #[.ref l, .int 0 0] }).push
      { cls := .type "enumerate", data := .fields #[.none, .bool false, .ref s.heap.objs.size, rawInt 0, .none, .none] }) (s.heap.objs.size + 1) s.heap.objs.size 0 .none := by
    have := Heap.get?_push_size (s.heap.push { cls := .type "tuple_iterator", data := .fields #[.ref l, .int 0 0] })
      (o := { cls := .type "enumerate", data := .fields #[.none, .bool false, .ref s.heap.objs.size, rawInt 0, .none, .none] }) rfl
    rw [hz] at this; exact this
  exact ⟨⟨_, he, rfl⟩, h _ he ⟨_, Heap.get?_push_of_some _ (Heap.get?_push_size _ rfl), rfl, rfl⟩ (by rw [Heap.size_push, hz]) fun b o x => Heap.get?_push_of_some _ (Heap.get?_push_of_some _ x)⟩
end
/-- the tuple at a, the items with their places in new pairs -/
def IteT (K : PySem.W.Frag) (a : Addr) : It :=
  ⟨fun i H => ∃ (xs : List V) (x : V), SqT K H a xs ∧ xs[i]? = some x, fun i H v H' => ∃ T x, v = .ref T ∧ H T = none ∧ H' = upd H T (.tup [.int (i : Nat), x]) ∧ ∀ xs, SqT K H a xs → xs[i]? = some x, fun i H => ∃ xs : List V, SqT K H a xs ∧ xs.length = i⟩
theorem turn_enumT {P : Program} {w : World} {K : PySem.W.Frag} {elts : List Expr} {kk : Nat} {tpos : Pos} (a e it : Addr) (hat : a ≠ it) (hae : e ≠ a) :
    Turn P w K (.Tuple elts kk tpos) (IteT K a) [e, it] e (fun i h => (∃ old, IsEnum h e it ((i : Nat) : Int) old) ∧ h.IsTupleIter it a i ∧ e ≠ it) where
  mem := by simp
  obj := fun i h st b hb => by
    obtain ⟨⟨old, he⟩, ⟨o, ho, hc, hd⟩, _⟩ := st
    have e' : b = e ∨ b = it := by simpa using hb
    rcases e' with z | z
    · rw [z]; exact ⟨_, he, fun v q => nomatch q⟩
    · rw [z]; exact ⟨o, ho, fun v q => by rw [hd] at q; cases q⟩
  keep := fun i h h' st k => let ⟨⟨old, he⟩, hi, hne⟩ := st; ⟨⟨old, k e (by simp) _ he⟩, hi.at fun o q => k it (by simp) o q, hne⟩
  item := by
    intro X hP hw hK hc i pins s σ H E I hf st hg
    subst hP hw hK
    obtain ⟨⟨old, he⟩, hit, hne⟩ := st
    obtain ⟨xs, x, hq, hx⟩ := hg
    obtain ⟨its, rv, p, hz⟩ := I.tuple hq
    obtain ⟨u, hu, ru⟩ := rv.get hx
    have hel : e < s.heap.objs.size := Heap.lt_size he
    have hil : it < s.heap.objs.size := by obtain ⟨_, q, _⟩ := hit; exact Heap.lt_size q
    have hlt : i < its.toArray.size := by
      rw [List.size_toArray]
      exact (List.getElem?_eq_some_iff.mp hu).1
    refine wpAny_pyNext_enum_itemD (Draws.tuple (A := X.A.in1) (show X.A.in1.handled = none from I.ok.hd hc) it a hat its.toArray) he ⟨hit, p⟩ hlt hne (by simp [hne, hae]) fun y h' tk hy ho hit' hT hsz hk => ?_
    have hy' : y = u := by
      have hy2 : its.toArray[i]? = some y := hy
      rw [List.getElem?_toArray, hu] at hy2
      exact (Option.some.inj hy2).symm
    subst hy'
    refine ⟨_, rfl, wpAny_letOwnedTupleGo_enum (s := { s with heap := h', toks := tk + 1 }) ho fun h'' he' sb => ?_⟩
    have hT2 : h''.get? s.heap.objs.size = some { cls := .type "tuple", data := .seq #[.int i tk, y] } := (sb.2 _ (Nat.ne_of_gt hel)).trans hT
    have new : ObjOk X.prog X.w (upd H s.heap.objs.size (.tup [.int (i : Nat), x])) h'' s.heap.objs.size (.tup [.int (i : Nat), x]) :=
      ⟨by show 2 ≤ sizeLine; decide, [.int i tk, y], .cons ⟨_, rfl⟩ (.cons ru .nil), ⟨_, hT2, rfl, _, rfl⟩⟩
    have I1 : Inv X pins σ (upd H s.heap.objs.size (.tup [.int (i : Nat), x])) { s with heap := h'', toks := tk + 1 } :=
      I.turnedNew (ch := [e, it]) (fun b ob hb q => (sb.2 b (fun z => hb (by simp [z]))).trans (hk b ob (fun z => hb (by simp [z])) (fun z => hb (by simp [z])) q)) hf (Nat.le_refl _) new
    refine ⟨.ref s.heap.objs.size, _, I1, rfl, ⟨_, x, rfl, I.hok.fresh (Nat.le_refl _), rfl, fun ys hy => by rw [I.tuple_inj hy hq]; exact hx⟩, ⟨⟨y, ?_⟩, hit'.1.at fun o q => (sb.2 it (Ne.symm hne)).trans q, hne⟩, fun b hb => ?_⟩
    · have e1 : ((i + 1 : Nat) : Int) = (i : Int) + 1 := by omega
      rw [e1]; exact he'
    · have hb' : b < s.heap.objs.size := by
        have e' : b = e ∨ b = it := by simpa using hb
        rcases e' with z | z
        · rw [z]; exact hel
        · rw [z]; exact hil
      rw [upd_ne (Nat.ne_of_lt hb')]
      exact (hf b hb).1
  done := by
    intro X hP hw hK hc i pins s σ H E I hf st hg
    subst hP hw hK
    obtain ⟨⟨old, he⟩, hit, hne⟩ := st
    obtain ⟨xs, hq, hx⟩ := hg
    obtain ⟨its, rv, p, hz⟩ := I.tuple hq
    obtain ⟨f0, f1, f2, f3, f4, f5⟩ := hf it (by simp)
    have hl := rv.length
    have hn : i = its.toArray.size := by rw [List.size_toArray]; omega
    have D := Draws.tuple (prog := X.prog) (w := X.w) (A := X.A.in1) (show X.A.in1.handled = none from I.ok.hd hc) it a hat its.toArray
    exact wpAny_pyNext_enum_endD D he ⟨by rw [← hn]; exact hit, p⟩ fun h' eb => ⟨rfl, I.turned (t' := s.toks) (fun b o hb q => eb b o hb q) f0 f1 f3 f4 f5⟩
  self := fun A i s Q E st h => let ⟨⟨_, he⟩, _⟩ := st; wpAny_pyIter_enum he h
def iEnumT (K : PySem.W.Frag) (ta : TA) : TI := fun σ H R => ta σ H fun vs H1 => ∃ a xs, vs = [.ref a] ∧ SqT K H1 a xs ∧ R (IteT K a) H1
theorem pi_enumT {X : Cx} {e : Expr} {ta : TA} {p pos tpos : Pos} {elts : List Expr} {kk : Nat} (hg : Gl X "enumerate") (hm : X.mg "enumerate" = none) (ha : PA X [e] ta) (hs : starEach [e] X.env = [(false, eval e X.env)] := by rfl) :
    PI X (.Tuple elts kk tpos) (.Call (.Name "enumerate" p) [e] [] pos) (iEnumT X.K ta) := by
  refine ⟨fun pins s σ H R I h => ?_⟩
  refine Call_ (ld_blt I hg hm boot_enumerate (PyProof.Rows.callWith_type1 (thn (ha.run pos pins s σ H _ I h) fun us s1 ⟨vs, H1, I1, r1, q1⟩ => ?_) hs rfl))
  obtain ⟨a, xs, ex, hq, q⟩ := q1
  subst ex
  cases r1 with
  | cons r rr =>
    cases rr
    cases r
    obtain ⟨its, rv, p', hz⟩ := I1.tuple hq
    have hal : a < s1.heap.objs.size := by
      obtain ⟨_, q, _⟩ := p'
      exact Heap.lt_size q
    refine call_enumerate_tuple p' fun h' he hit hsz hk => wpAny_pyIter_enum he ?_
    have I2 : Inv X pins σ H1 { s1 with heap := h' } := I1.kept (t' := s1.toks) hk
    refine ⟨s1.heap.objs.size + 1, [s1.heap.objs.size + 1, s1.heap.objs.size], _, _, H1, rfl, I2, turn_enumT a (s1.heap.objs.size + 1) s1.heap.objs.size (Nat.ne_of_lt hal) (Nat.ne_of_gt (Nat.lt_succ_of_lt hal)), ⟨⟨.none, he⟩, hit, Nat.succ_ne_self _⟩, fun b hb => ?_, q⟩
    have e' : b = s1.heap.objs.size + 1 ∨ b = s1.heap.objs.size := by simpa using hb
    have hle : s1.heap.objs.size ≤ b := by
      rcases e' with z | z
      · rw [z]; exact Nat.le_add_right _ _
      · rw [z]; exact Nat.le_refl _
    exact I1.fpOk hle (I1.hok.fresh hle)
end DtE
namespace Dt
open PySem PySem.Spec PyProof.Rows L2 Evl Fx
theorem for_enumT {K : PySem.W.Frag} {a : Addr} {xs : List V} {g : TG} {tb : TS} {D : Ends} {σ : L2.St} {H : Hp} (Pv : Nat → L2.St → Hp → Prop) (h0 : Pv 0 σ H) (hq : ∀ i σ H, Pv i σ H → SqT K H a xs)
    (hs : ∀ (i : Nat) (x : V) (T : Addr) (σ : L2.St) (H : Hp), xs[i]? = some x → Pv i σ H → H T = none → g (.ref T) σ (upd H T (.tup [.int (i : Nat), x])) fun σ2 H2 => tb { D with nx := Pv (i + 1), ct := Pv (i + 1), bk := D.nx } σ2 H2) (hd : ∀ σ H, Pv xs.length σ H → D.nx σ H) :
    ∃ W : Nat → Nat → L2.St → Hp → Prop, (∃ m, W 0 m σ H) ∧ ∀ i m σ H, W i m σ H →
      ((DtE.IteT K a).stop i H ∧ D.nx σ H) ∨ ((DtE.IteT K a).go i H ∧ ∃ N : L2.St → Hp → Prop, (∀ σ' H', N σ' H' → ∃ m', m' < m ∧ W (i + 1) m' σ' H') ∧ ∀ v H', (DtE.IteT K a).yld i H v H' → g v σ H' fun σ2 H2 => tb { D with nx := N, ct := N, bk := D.nx } σ2 H2) := by
  refine ⟨fun i m σ H => m = xs.length - i ∧ i ≤ xs.length ∧ Pv i σ H, ⟨xs.length, rfl, Nat.zero_le _, h0⟩, ?_⟩
  rintro i m σ H ⟨rfl, hi, p⟩
  have qx := hq i σ H p
  by_cases hlt : i < xs.length
  · have hx : xs[i]? = some xs[i] := List.getElem?_eq_getElem hlt
    refine .inr ⟨⟨xs, _, qx, hx⟩, Pv (i + 1), fun σ' H' p' => ⟨xs.length - (i + 1), by omega, rfl, hlt, p'⟩, fun v H' y => ?_⟩
    obtain ⟨T, x', rfl, hT, rfl, f1⟩ := y
    exact hs i x' T σ H (f1 xs qx) p hT
  · have e : i = xs.length := by omega
    subst e
    exact .inl ⟨⟨xs, qx, rfl⟩, hd σ H p⟩
section
variable {F : Fd} {K : PySem.W.Frag} {te ta tb tl : TE} {tr : TA} {tt tu : TT} {g : TG} {σ : L2.St} {H H' H1 : Hp} {d d' : PyData} {ds es : List PyData} {n n0 k ka kb kt ke i : Nat} {v : V} {Dl : Addr}
/-- for .. in enumerate(t), a tuple -/
theorem q_forE {tb tz : TS} {D : Ends} (o : F.Ok) (h : EvR F tl σ H k (IsD K (.tuple ds))) (g0 : F.G n H) (hn : n + k ≤ F.N) (fd : flats ds = true) (Pv : Hp → Nat → L2.St → Hp → Prop)
    (h0 : ∀ H1, Kx F.S H H1 → F.G (n + k) H1 → Pv H1 0 σ H1) (hk : ∀ H1 i σ' H', Pv H1 i σ' H' → KT K H1 H')
    (hs : ∀ H1 i x T d σ' H', ds[i]? = some d → Pv H1 i σ' H' → H' T = none → Dp K (upd H' T (.tup [.int (i : Nat), x])) x d → g (.ref T) σ' (upd H' T (.tup [.int (i : Nat), x])) fun σ2 H2 => tb { D with nx := Pv H1 (i + 1), ct := Pv H1 (i + 1), bk := tz D } σ2 H2)
    (hd : ∀ H1 σ' H', Kx F.S H H1 → Pv H1 ds.length σ' H' → tz D σ' H') : tSeq (tFor (DtE.iEnumT K (tCons tl tNil)) g tb) tz D σ H := h n H hn g0 Kx.refl _ fun u H1 e1 g1 p1 => by
  cases p1 with
  | @tup a xs _ ha hx =>
  have lx := dps_len hx
  refine ⟨a, xs, rfl, ha, for_enumT (Pv H1) (h0 H1 e1 g1) (fun i σ' H' p => hk _ _ _ _ p _ _ ha) (fun i x T σ' H' hi p hT => ?_) fun σ' H' p => hd H1 σ' H' e1 (by rw [← lx]; exact p)⟩
  have h1 := (List.getElem?_eq_some_iff.mp hi).1
  have hdi : ds[i]? = some ds[i] := List.getElem?_eq_getElem (by omega)
  have kk : KT K H1 (upd H' T (.tup [.int (i : Nat), x])) := kt_trans (hk _ _ _ _ p) (kt_ex (Ex.new hT))
  obtain ⟨u, hu, hdu⟩ := dps_get (dps_kt kk _ _ fd hx) hdi
  rw [hi] at hu
  cases hu
  exact hs H1 i x T _ σ' H' hdi p hT hdu
/-- t + u -/
theorem rd_cat (o : F.Ok) (ha : EvR F ta σ H ka (IsD K (.tuple ds))) (hb : EvR F tb σ H kb (IsD K (.tuple es))) (fd : flats ds = true) (hl : ds.length + es.length ≤ 100000) : EvR F (tOp (rCatA K) ta tb) σ H (ka + kb) (IsD K (.tuple (ds ++ es))) :=
  r_op o (mono_d o (show flat (.tuple ds) = true by rw [flat_tup]; exact fd)) ha hb fun x y n H1 g e px py Q q => by
    cases px with
    | @tup a xs _ ha hx =>
    cases py with
    | @tup b ys _ hb hy =>
    have lx := dps_len hx
    have ly := dps_len hy
    refine ⟨a, b, xs, ys, rfl, rfl, ha, hb, sz_of (by omega), fun ex => ?_, fun _ ey => ?_, fun _ _ p hp => q _ _ (Ex.new hp) (.tup (st_of upd_same) (dps_ex (Ex.new hp) _ _ (dps_app hx hy)))⟩
    · subst ex
      cases ds with
      | nil => exact q _ H1 (Ex.refl _) (.tup hb hy)
      | cons _ _ => simp at lx
    · subst ey
      cases es with
      | nil =>
        refine q _ H1 (Ex.refl _) ?_
        show Dp K H1 _ (.tuple (ds ++ []))
        rw [List.append_nil]
        exact .tup ha hx
      | cons _ _ => simp at ly
/-- xs.extend(a new list) where the list may be any name -/
theorem evE_int {i : Int} (h : EvR F te σ H k (fun x _ => x = .int i)) : EvR F te σ H k (IsD K (.int i)) := rd_ofI h
theorem rv_op {r : R2} {x y z : V} (o : F.Ok) (ha : EvR F ta σ H ka (fun u _ => u = x)) (hb : EvR F tb σ H kb (fun u _ => u = y)) (hr : ∀ H1, RV r x y H1 z) : EvR F (tOp r ta tb) σ H (ka + kb) (fun u _ => u = z) :=
  r_op o mono_eq ha hb fun x' y' n H1 g e ex ey Q q => by
    subst ex ey
    exact hr H1 H1 (Ex.refl _) Q fun H2 e2 => q _ H2 e2 rfl
theorem dps_strs : ∀ {ws : List Str} {vs : List V}, DpAll K H vs (ws.map PyData.str) → vs = ws.map V.str
  | [], _, h => by cases h; rfl
  | b :: bs, _, h => by
    cases h with
    | cons h1 h2 =>
      cases h1
      rw [dps_strs h2]
      rfl
theorem flat_strs (ws : List Str) : (ws.map V.str).all flatV = true := by
  rw [List.all_map]
  exact List.all_eq_true.mpr fun _ _ => rfl
/-- a text in a tuple of texts -/
theorem rb_inT {w : Str} {ws : List Str} (o : F.Ok) (ha : EvR F ta σ H ka (fun u _ => u = .str w)) (hb : EvR F tb σ H kb (IsD K (.tuple (ws.map PyData.str)))) : EvR F (tOp (rIn K false) ta tb) σ H (ka + kb) (fun u _ => u = .bl (ws.any fun y => y == w)) :=
  r_op o mono_eq ha hb fun x y n H1 g e ex py Q q => by
    subst ex
    cases py with
    | @tup b ys _ hb hy =>
    have := dps_strs hy
    subst this
    refine ⟨b, _, rfl, .inr hb, rfl, flat_strs ws, q _ H1 (Ex.refl _) ?_⟩
    show V.bl (inV _ _) = _
    unfold inV
    rw [List.any_map]
    rfl
end
end Dt
namespace Tr
theorem placedA_len (p : List Nat) (i : Nat) (ts : List T) : (placedA p i ts).length = sizes ts := by rw [← subsA_len, ← placedA_snd p i ts, List.length_map]
theorem sizes_take : ∀ (i : Nat) (ts : List T), sizes (ts.take i) ≤ sizes ts
  | 0, ts => by rw [List.take_zero, sizes]; omega
  | i + 1, [] => Nat.le_refl _
  | i + 1, t :: ts => by
    have := sizes_take i ts
    rw [List.take_succ_cons, sizes, sizes]
    omega
theorem size_mem : ∀ {ts : List T} {i : Nat} {c : T}, ts[i]? = some c → size c ≤ sizes ts
  | [], _, _, h => by simp at h
  | t :: ts, 0, c, h => by
    rw [List.getElem?_cons_zero] at h
    cases h
    rw [sizes]
    omega
  | t :: ts, i + 1, c, h => by
    rw [List.getElem?_cons_succ] at h
    have := size_mem h
    rw [sizes]
    omega
theorem placedA_snoc (p : List Nat) : ∀ (j : Nat) (ts : List T) (c : T), placedA p j (ts ++ [c]) = placedA p j ts ++ placed (p ++ [j + ts.length]) c
  | j, [], c => by rw [List.nil_append, placedA, placedA, placedA, List.append_nil]; rfl
  | j, t :: ts, c => by rw [List.cons_append, placedA, placedA, placedA_snoc p (j + 1) ts c, List.append_assoc, List.length_cons, show j + 1 + ts.length = j + (ts.length + 1) by omega]
end Tr
namespace K18
open PySem PySem.Spec PyProof.Rows L2 Evl Fx Fr Dt Tr
theorem scLSpans : FnScope ["_law_root", "_law_way", "_law_found", "_law_k", "_law_call"] ["_law_root", "_law_way"] (defScope (topS 44)) := ⟨rfl, rfl, rfl, by decide +kernel, rfl, by decide +kernel, by decide +kernel⟩
theorem cal {P : Program} {w : World} {K : PySem.W.Frag} {mg : Str → Option Value} {base : Heap} {x : Str} {st : Stmt} {f : Addr} {fd : FuncData} {k : Nat} {ps : List Str} {sp : Sp} (F : Fun K x x st f fd) (G : FnOk P w K mg base CX0 k f fd ps sp) (g : mg x = some (.ref f)) (b : Binds K fd ps []) : C8.Cal P w K mg base k x sp [] := ⟨f, fd, ps, [], G, g, F.kp, b, .nil⟩
section
variable {P : Program} {w : World} {K : PySem.W.Frag} {mg : Str → Option Value} {base : Heap} {f f2 f3 : Addr} {fd fd2 fd3 : FuncData}
def spLSpans (K : PySem.W.Frag) (n : Nat) : Sp := spL K fun ds es => ∃ t p, size t ≤ n ∧ n ≤ 1000 ∧ p.length + n ≤ 1000 ∧ ds = [enc t, pathD p] ∧ es = (Tr.placed p t).map spanD
theorem ok_lspans (F : Fun K "_law_spans" "_law_spans" (topS 44) f fd) (gl : mg "_law_spans" = some (.ref f)) (B : Binds K fd ["_law_root", "_law_way"] []) (m_en : mg "enumerate" = none) : ∀ n, FnOk P w K mg base CX0 n f fd ["_law_root", "_law_way"] (spLSpans K n)
  | 0 => by
    refine ⟨fun vs H Q E h => ?_, fun A outer s H args us vs Q E hr he hb hv h => ?_⟩
    · obtain ⟨ds, es, hd, ⟨t, p, hs, _⟩, _⟩ := h
      rw [size_eq] at hs
      omega
    · obtain ⟨ds, es, hd, ⟨t, p, hs, _⟩, _⟩ := h
      rw [size_eq] at hs
      omega
  | n + 1 => by
    have cS := cal F (ok_lspans F gl B m_en n) gl B
    refine F.ok scLSpans (fun vs H Q E h => ?_) (fun cdv A outer s H vs Q E hr h => ?_)
    · obtain ⟨ds, es, hd, ⟨t, p, _, _, _, rfl, _⟩, _⟩ := h
      exact dps_len hd
    · obtain ⟨ds, es, hd, ⟨t, p, hs, hn, hp, rfl, rfl⟩, q⟩ := h
      obtain ⟨v1, vs, rfl, p1, hd⟩ := dps_uncons hd
      obtain ⟨v2, vs, rfl, p2, hd⟩ := dps_uncons hd
      obtain rfl := dps_none hd
      refine ⟨_, pss_cons (ps_set (i := 2) scLSpans.nd rfl (.inl rfl) (pe_lst (pa_cons (pe_tup (pa_cons (pv 1) (pa_cons (pe_ix ix_tup (pv 0) pe_int (fun _ _ => rfl)) (pa_cons (pe_ix ix_tup (pv 0) pe_int (fun _ _ => rfl)) pa_nil)))) pa_nil)))
        (pss_cons (ps_for PassesOwn.never rfl (DtE.pi_enumT (by rfl) m_en (pa_cons (pe_ix ix_tup (pv 0) pe_int (fun _ _ => rfl)) pa_nil)) (pg_tup (by rfl) (pgs_cons (pg_name (i := 3) scLSpans.nd rfl (.inl rfl)) (pgs_cons (pg_name (i := 4) scLSpans.nd rfl (.inl rfl)) pgs_nil)))
          (pss_one (ps_expr (pe_bm PySem.F.plainAttrs_list PySem.F.slot_list_extend PySem.F.type_list_extend mt_extend (pv 2) (pa_cons (C8.pe_c cS hr (Nat.le_refl _) (by rfl) (pa_cons (pv 4) (pa_cons (pe_op op_catA (pv 1) (pe_tup (pa_cons (pv 3) pa_nil))) pa_nil))) pa_nil)))))
        (pss_one (ps_ret (pv 2)))), ?_⟩
      have rr : EvR F0 (tVar 0) [some v1, some v2, none, none, none] H 0 (IsD K (enc t)) := rd_var F0.ok (n := 0) F0.g rfl p1 (enc_flat t)
      refine q_asgR (F := F0) (n := 0) (k := 0) (P := IsN H F0 K [spanD (p, t)]) (rn_lst F0.ok (ra_cons (ka := 0) (kb := 0) F0.ok (rd_tup F0.ok (ra_cons (ka := 0) (kb := 0) F0.ok (rd_var F0.ok (n := 0) F0.g rfl p2 (path_flat p)) (ra_cons (ka := 0) (kb := 0) F0.ok (rt_name F0.ok rr) (ra_cons (ka := 0) (kb := 0) F0.ok (rt_mark F0.ok rr) ra_nil)) (path_flat p)) (span_flat (p, t))) ra_nil (span_flat (p, t)))) F0.g (Nat.le_refl _) fun w2 H1 e1 _ ⟨A1, ws, ew, nA, _, hA, dA⟩ => ?_
      subst ew
      replace e1 := F0.ex e1
      have ht := size_eq t
      refine q_forE (F := F0) (n := 0) (k := 0) (ds := t.calls.map enc) F0.ok (rt_calls F0.ok (rd_var F0.ok (n := 0) F0.g rfl (dp_ex e1 _ _ p1) (enc_flat t))) F0.g (Nat.le_refl _) (maps_flat _) (fun H2 i σ' H' => ∃ xs u3 u4, σ' = [some v1, some v2, some (.ref A1), u3, u4] ∧ Ex H H' ∧ KT K H2 H' ∧ H' A1 = some (.lst xs) ∧ DpAll K H' xs (((p, t) :: placedA p 0 (t.calls.take i)).map spanD))
        (fun H2 e2 _ => ⟨ws, none, none, rfl, e1.trans (F0.ex e2), fun _ _ h => h, F0.ex e2 _ _ hA, by rw [List.take_zero, placedA]; exact dps_ex (F0.ex e2) _ _ dA⟩) (fun H2 i σ' H' ⟨_, _, _, _, _, k, _⟩ => k) (fun H2 i x T d σ' H' hi ⟨xs, u3, u4, es, e, k, hx, dx⟩ hT hd => ?_) fun H2 σ' H' _ ⟨xs, u3, u4, es, e, k, hx, dx⟩ => ?_
      · subst es
        have hlt : i < t.calls.length := by
          have := (List.getElem?_eq_some_iff.mp hi).1
          rwa [List.length_map] at this
        have hci : t.calls[i]? = some t.calls[i] := List.getElem?_eq_getElem hlt
        rw [List.getElem?_map, hci] at hi
        cases hi
        have eT : Ex H' (upd H' T (.tup [.int (i : Nat), x])) := Ex.new hT
        have hx4 := eT _ _ hx
        have dx4 := dps_ex eT _ _ dx
        have e04 := e.trans eT
        have k4 : KT K H2 (upd H' T (.tup [.int (i : Nat), x])) := kt_trans k (kt_ex eT)
        have kH4 : KT K H (upd H' T (.tup [.int (i : Nat), x])) := kt_ex e04
        refine ⟨T, _, rfl, st_of upd_same, rfl, _, _, rfl, _, _, rfl, rfl, ?_⟩
        generalize upd H' T (.tup [.int (i : Nat), x]) = H4 at hd hx4 dx4 e04 k4 kH4 ⊢
        have hsz := size_mem hci
        have lx := dps_len dx4
        rw [List.length_map, List.length_cons, placedA_len] at lx
        have hst := sizes_take i t.calls
        refine q_extL (F := F0) (n := 0) (k := 0) (ds := (Tr.placed (p ++ [i]) t.calls[i]).map spanD) rfl hx4 (fun z => z) (rl_call F0.ok (ra_cons (ka := 0) (kb := 0) F0.ok (rd_var F0.ok (n := 0) F0.g rfl hd (enc_flat _)) (ra_cons (ka := 0) (kb := 0) F0.ok
          (rd_cat (ka := 0) (kb := 0) (ds := p.map fun (i : Nat) => PyData.int (i : Int)) (es := [.int (i : Int)]) F0.ok (rd_var F0.ok (n := 0) F0.g rfl (dp_ex e04 _ _ p2) (path_flat p)) (rd_tup F0.ok (ra_cons (ka := 0) (kb := 0) F0.ok (rd_ofI (rv_var rfl)) ra_nil)) (path_flats p) (by rw [List.length_map, List.length_singleton]; omega)) ra_nil (by rw [← pathD_snoc]; exact path_flat _)) (enc_flat _))
          ⟨t.calls[i], p ++ [i], by omega, by omega, by rw [List.length_append, List.length_singleton]; omega, by rw [pathD_snoc], rfl⟩) F0.g (Nat.le_refl _) (by rw [List.length_map, placed_len]; omega) fun zs H5 e5 _ dz hx5 => ?_
        replace e5 := F0.ex e5
        have k6 : KT K H5 (upd H5 A1 (.lst (xs ++ zs))) := kt_lst hx5
        refine ⟨xs ++ zs, _, _, rfl, (e04.trans e5).mut nA, kt_trans k4 (kt_trans (kt_ex e5) k6), upd_same, ?_⟩
        have ht : t.calls.take (i + 1) = t.calls.take i ++ [t.calls[i]] := by rw [List.take_add_one, hci]; rfl
        rw [ht, placedA_snoc, List.length_take, show 0 + min i t.calls.length = i by omega, ← List.cons_append, List.map_append]
        exact dps_app (dps_kt k6 _ _ (spans_flat _) (dps_ex e5 _ _ dx4)) (dps_kt k6 _ _ (spans_flat _) dz)
      · subst es
        rw [List.length_map, List.take_length] at dx
        rw [placed_eq] at q
        exact s_ret (v := .ref A1) (ev_var rfl) fun H4 e4 => q A1 xs H4 nA (e.trans e4) (e4 _ _ hx) (dps_ex e4 _ _ dx)
end
end K18
namespace Tr
open PySem PySem.Spec PyProof.Rows L2 Evl Fx Fr Dt
theorem lt_div (x : Rat) {p q : Int} (hq : 0 < q) : decide (x.num * q < p * (x.den : Int)) = decide (x < Rat.divInt p q) := by
  rw [decide_eq_decide, Rat.lt_iff]
  have h1 : p * ((Rat.divInt p q).den : Int) = (Rat.divInt p q).num * q := by
    have := Rat.num_divInt_den (Rat.divInt p q)
    exact ((Rat.divInt_eq_divInt_iff (by omega) (den_ne _)).mp this.symm)
  generalize hn : (Rat.divInt p q).num = a at h1 ⊢
  have hd : (0 : Int) < ((Rat.divInt p q).den : Int) := by have := (Rat.divInt p q).den_pos; omega
  generalize ((Rat.divInt p q).den : Int) = b at h1 hd ⊢
  have e1 : x.num * q < p * (x.den : Int) ↔ x.num * q * b < p * (x.den : Int) * b := (Int.mul_lt_mul_right hd).symm
  have e2 : x.num * b < a * (x.den : Int) ↔ x.num * b * q < a * (x.den : Int) * q := (Int.mul_lt_mul_right hq).symm
  rw [e1, e2]
  have f1 : p * (x.den : Int) * b = a * (x.den : Int) * q := by grind
  have f2 : x.num * q * b = x.num * b * q := by grind
  rw [f1, f2]
theorem own_if {own : Rat} (h0 : 0 ≤ own) (h1 : own < 1) (c : Bool) : decide (own < if c = true then (1 : Rat) else 0) = c := by
  cases c with
  | true => exact decide_eq_true h1
  | false => exact decide_eq_false (fun h => by have h' : own < 0 := h; grind)
/-- a draw -/
def Lot (x : Rat) : Prop := Bd 60 x ∧ 0 ≤ x ∧ x < 1
theorem word_any (x : Pl) : ([("own" : Str), "shared"].any fun y => y == x.word) = true → (∃ p q, x = .own p q) ∨ ∃ p q, x = .shared p q := fun h => by
  cases x with
  | own p q => exact .inl ⟨p, q, rfl⟩
  | shared p q => exact .inr ⟨p, q, rfl⟩
  | caller => exact absurd h (by decide +kernel)
  | bad => exact absurd h (by decide +kernel)
  | late => exact absurd h (by decide +kernel)
  | never => exact absurd h (by decide +kernel)
theorem word_none (x : Pl) : ([("own" : Str), "shared"].any fun y => y == x.word) = false → (∀ p q, x ≠ .own p q) ∧ ∀ p q, x ≠ .shared p q := fun h => by
  cases x with
  | own p q => exact absurd h (by have : ([("own" : Str), "shared"].any fun y => y == ("own" : Str)) = true := by decide +kernel
                                  show ¬ ([("own" : Str), "shared"].any fun y => y == ("own" : Str)) = false
                                  rw [this]
                                  exact fun z => Bool.noConfusion z)
  | shared p q => exact absurd h (by have : ([("own" : Str), "shared"].any fun y => y == ("shared" : Str)) = true := by decide +kernel
                                     show ¬ ([("own" : Str), "shared"].any fun y => y == ("shared" : Str)) = false
                                     rw [this]
                                     exact fun z => Bool.noConfusion z)
  | _ => exact ⟨nofun, nofun⟩
theorem lsays_eq (x : Pl) (h : ∀ p q, x ≠ .own p q) (h2 : ∀ p q, x ≠ .shared p q) (bad late called : Bool) (draw : Rat) (hc : (x.word == ("caller" : Str)) = false) : (((x.word == ("bad" : Str)) && bad || ((x.word == ("late" : Str)) && late))) = x.says bad late called draw := by
  have e := says_eq x h bad late called draw
  have s : (x.word == ("shared" : Str)) = false := by
    cases hs : (x.word == ("shared" : Str)) with
    | false => rfl
    | true =>
      obtain ⟨p, q, rfl⟩ := word_shared hs
      exact absurd rfl (h2 p q)
  rw [s, hc, Bool.false_and, Bool.false_and, Bool.false_or, Bool.false_or] at e
  exact e
theorem lsays_caller {x : Pl} (hc : (x.word == ("caller" : Str)) = true) (bad late called : Bool) (draw : Rat) : x.says bad late called draw = called := by
  cases x with
  | caller => rfl
  | own p q => exact absurd hc (by have : (("own" : Str) == ("caller" : Str)) = false := by decide +kernel
                                   show ¬ (("own" : Str) == ("caller" : Str)) = true
                                   rw [this]
                                   exact Bool.false_ne_true)
  | shared p q => exact absurd hc (by have : (("shared" : Str) == ("caller" : Str)) = false := by decide +kernel
                                      show ¬ (("shared" : Str) == ("caller" : Str)) = true
                                      rw [this]
                                      exact Bool.false_ne_true)
  | bad => exact absurd hc (by decide +kernel)
  | late => exact absurd hc (by decide +kernel)
  | never => exact absurd hc (by decide +kernel)
end Tr
namespace K18
open PySem PySem.Spec PyProof.Rows L2 Evl Fx Fr Dt Tr
section
variable {P : Program} {w : World} {K : PySem.W.Frag} {mg : Str → Option Value} {base : Heap} {f f2 f3 : Addr} {fd fd2 fd3 : FuncData}
def spSays (K : PySem.W.Frag) : Sp := spD K fun ds d => ∃ (x : Pl) (mark : Int) (hb called : Bool) (lot own : Rat), x.Ok ∧ Lot lot ∧ Lot own ∧ ds = [x.D, .int mark, .bool hb, .bool called, frD lot, frD own] ∧ d = .bool (decide (own < x.chance (mark == 1) hb called lot))
end
end K18
/-! ### zip(a list, a tuple) -/
namespace DtZ
open PySem PySem.Spec PyProof.Rows L2
abbrev zh1 (h : Heap) (l1 : Addr) : Heap := h.push { cls := .type "list_iterator", data := .fields #[.ref l1, .int 0 0] }
abbrev zh2 (h : Heap) (l1 l2 : Addr) : Heap := (zh1 h l1).push { cls := .type "tuple_iterator", data := .fields #[.ref l2, .int 0 0] }
abbrev zh3 (h : Heap) (l1 l2 : Addr) : Heap := (zh2 h l1 l2).push { cls := .type "tuple", data := .seq #[.ref h.objs.size, .ref (zh1 h l1).objs.size] }
abbrev zh4 (h : Heap) (l1 l2 : Addr) : Heap := (zh3 h l1 l2).push { cls := .type "tuple", data := .seq #[.none, .none] }
abbrev zh5 (h : Heap) (l1 l2 : Addr) : Heap := (zh4 h l1 l2).push { cls := .type "zip", data := .fields #[.none, .bool false, .bool false, .ref (zh2 h l1 l2).objs.size, .ref (zh3 h l1 l2).objs.size] }
theorem meets_zipM_new (l1 l2 : Addr) (xs ys : Array Value) :
    Meets (Builtin.«zip.__new__» ⟨[.type "zip", .ref l1, .ref l2], []⟩) (fun _ R s => s.heap.IsList l1 xs ∧ s.heap.IsTuple l2 ys ∧
      R (.ok (.ret (.ref (zh4 s.heap l1 l2).objs.size))) { s with heap := zh5 s.heap l1 l2 }) :=
  .of_wp fun prog w A R s h => by
    obtain ⟨hp, g, d, tk, os⟩ := s; obtain ⟨hl1, hl2, h⟩ := h
    have hsub := sub_zip
    have hL1 : Heap.IsList (Shared.heap ⟨hp, g, d, tk, os⟩) l1 xs := hl1
    have hL2 : Heap.IsTuple (Shared.heap ⟨hp.push { cls := .type "list_iterator", data := .fields #[.ref l1, .int 0 0] }, g, d, tk, os⟩) l2 ys := Heap.IsTuple.push hl2 _
    wp_walk using wpAny_pyIter_list hL1, wpAny_pyIter_tuple hL2
    exact ⟨_, rfl, h⟩
section
variable {prog : Program} {w : World} {A : Around} {E : Value → Shared → Prop} {s : Shared}
theorem call_zipM {l1 l2 : Addr} {xs ys : Array Value} {Q : Value → Shared → Prop} (hl1 : s.heap.IsList l1 xs) (hl2 : s.heap.IsTuple l2 ys)
    (h : ∀ h', IsZip h' (s.heap.objs.size + 4) (s.heap.objs.size + 2) (s.heap.objs.size + 3) .none → IsPair h' (s.heap.objs.size + 2) (.ref s.heap.objs.size) (.ref (s.heap.objs.size + 1)) →
      IsPair h' (s.heap.objs.size + 3) .none .none → h'.IsListIter s.heap.objs.size l1 0 → h'.IsTupleIter (s.heap.objs.size + 1) l2 0 → h'.objs.size = s.heap.objs.size + 5 →
      (∀ c o, s.heap.get? c = some o → h'.get? c = some o) → Q (.ref (s.heap.objs.size + 4)) { s with heap := h' }) :
    wpAny (model prog w) A (call (.type "zip") [.ref l1, .ref l2]) Q E s := by
  refine callType_new F.called_zip (by decide) (F.typeCall_zip_2 _ _) (F.newCall_zip_2 _ _) (fun obj => F.args_object_init_3 obj _ _) F.entry_zip_new
    (meets_zipM_new l1 l2 xs ys) ⟨hl1, hl2, ?_⟩
  have z1 : (zh1 s.heap l1).objs.size = s.heap.objs.size + 1 := Heap.size_push ..
  have z2 : (zh2 s.heap l1 l2).objs.size = s.heap.objs.size + 2 := by rw [Heap.size_push, z1]
  have z3 : (zh3 s.heap l1 l2).objs.size = s.heap.objs.size + 3 := by rw [Heap.size_push, z2]
  have z4 : (zh4 s.heap l1 l2).objs.size = s.heap.objs.size + 4 := by rw [Heap.size_push, z3]
  have z5 : (zh5 s.heap l1 l2).objs.size = s.heap.objs.size + 5 := by rw [Heap.size_push, z4]
  have g5 : (zh5 s.heap l1 l2).get? (zh4 s.heap l1 l2).objs.size = some _ := Heap.get?_push_size _ rfl
  have g4 : (zh5 s.heap l1 l2).get? (zh3 s.heap l1 l2).objs.size = some _ := Heap.get?_push_of_some _ (Heap.get?_push_size _ rfl)
  have g3 : (zh5 s.heap l1 l2).get? (zh2 s.heap l1 l2).objs.size = some _ := Heap.get?_push_of_some _ (Heap.get?_push_of_some _ (Heap.get?_push_size _ rfl))
  have g2 : (zh5 s.heap l1 l2).get? (zh1 s.heap l1).objs.size = some _ := Heap.get?_push_of_some _ (Heap.get?_push_of_some _ (Heap.get?_push_of_some _ (Heap.get?_push_size _ rfl)))
  have g1 : (zh5 s.heap l1 l2).get? s.heap.objs.size = some _ := Heap.get?_push_of_some _ (Heap.get?_push_of_some _ (Heap.get?_push_of_some _ (Heap.get?_push_of_some _ (Heap.get?_push_size _ rfl))))
  show _ ∧ _
  rw [z2, z3, z4] at g5
  rw [z1, z2] at g3
  rw [z3] at g4
  rw [z1] at g2
  rw [z4]
  exact ⟨⟨_, g5, rfl⟩, h _ g5 g3 g4 ⟨_, g1, rfl, rfl⟩ ⟨_, g2, rfl, rfl⟩ z5 fun c o x =>
    Heap.get?_push_of_some _ (Heap.get?_push_of_some _ (Heap.get?_push_of_some _ (Heap.get?_push_of_some _ (Heap.get?_push_of_some _ x))))⟩
end
theorem nm (c x y : Addr) (h1 : c ≠ x) (h2 : c ≠ y) : c ∉ [x, y] := fun h => by
  rcases List.mem_cons.mp h with h | h
  · exact h1 h
  · rcases List.mem_cons.mp h with h | h
    · exact h2 h
    · cases h
theorem sepM (N a b : Nat) (la : a < N) (lb : b < N) : ZipSep2 (N + 4) (N + 2) (N + 3) N (N + 1) [N, a] [N + 1, b] where
  TIz := by refine PySem.W.neN ?_; omega
  TOz := by refine PySem.W.neN ?_; omega
  TITO := by refine PySem.W.neN ?_; omega
  TIi1 := by refine PySem.W.neN ?_; omega
  mem1 := List.mem_cons_self ..
  zf1 := nm _ _ _ (by refine PySem.W.neN ?_; omega) (by refine PySem.W.neN ?_; omega)
  Tf1 := nm _ _ _ (by refine PySem.W.neN ?_; omega) (by refine PySem.W.neN ?_; omega)
  TIi2 := by refine PySem.W.neN ?_; omega
  mem2 := List.mem_cons_self ..
  zf2 := nm _ _ _ (by refine PySem.W.neN ?_; omega) (by refine PySem.W.neN ?_; omega)
  Tf2 := nm _ _ _ (by refine PySem.W.neN ?_; omega) (by refine PySem.W.neN ?_; omega)
  sep1_2 := nm _ _ _ (by refine PySem.W.neN ?_; omega) (by refine PySem.W.neN ?_; omega)
  sep2_1 := nm _ _ _ (by refine PySem.W.neN ?_; omega) (by refine PySem.W.neN ?_; omega)
def ItzM (K : PySem.W.Frag) (a b : Addr) : It :=
  ⟨fun i H => ∃ (xs ys : List V) (x y : V), SqL K H a xs ∧ SqT K H b ys ∧ xs[i]? = some x ∧ ys[i]? = some y,
    fun i H v H' => ∃ T x y, v = .ref T ∧ H T = none ∧ H' = upd H T (.tup [x, y]) ∧ (∀ xs, SqL K H a xs → xs[i]? = some x) ∧ ∀ ys, SqT K H b ys → ys[i]? = some y,
    fun i H => ∃ xs ys : List V, SqL K H a xs ∧ SqT K H b ys ∧ xs.length = i ∧ ys.length = i⟩
theorem turn_zipM {P : Program} {w : World} {K : PySem.W.Frag} {elts : List Expr} {kk : Nat} {tpos : Pos} {a b z TI TO i1 i2 : Addr} (D : ZipApart z TI TO i1 i2 a b) (S : ZipSep2 z TI TO i1 i2 [i1, a] [i2, b]) (ha : a ≠ i1) (hb : b ≠ i2) :
    Turn P w K (.Tuple elts kk tpos) (ItzM K a b) [z, TI, TO, i1, i2] z (fun i h => IsZip h z TI TO .none ∧ IsPair h TI (.ref i1) (.ref i2) ∧ (∃ x y, IsPair h TO x y) ∧ h.IsListIter i1 a i ∧ h.IsTupleIter i2 b i) where
  mem := by simp
  obj := fun i h st c hc => by
    obtain ⟨hz, hTI, ⟨x, y, hTO⟩, ⟨o1, e1, _, d1⟩, ⟨o2, e2, _, d2⟩⟩ := st
    have e' : c = z ∨ c = TI ∨ c = TO ∨ c = i1 ∨ c = i2 := by simpa using hc
    rcases e' with q | q | q | q | q
    · rw [q]; exact ⟨_, hz, fun v q => nomatch q⟩
    · rw [q]; exact ⟨_, hTI, fun v q => nomatch q⟩
    · rw [q]; exact ⟨_, hTO, fun v q => nomatch q⟩
    · rw [q]; exact ⟨o1, e1, fun v q => by rw [d1] at q; cases q⟩
    · rw [q]; exact ⟨o2, e2, fun v q => by rw [d2] at q; cases q⟩
  keep := fun i h h' st k => by
    obtain ⟨hz, hTI, ⟨x, y, hTO⟩, h1, h2⟩ := st
    exact ⟨k z (by simp) _ hz, k TI (by simp) _ hTI, ⟨x, y, k TO (by simp) _ hTO⟩, h1.at fun o q => k i1 (by simp) o q, h2.at fun o q => k i2 (by simp) o q⟩
  item := by
    intro X hP hw hK hc i pins s σ H E I hf st hg
    subst hP hw hK
    obtain ⟨hz, hTI, ⟨x0, y0, hTO⟩, h1, h2⟩ := st
    obtain ⟨xs, ys, x, y, hqx, hqy, hx, hy⟩ := hg
    obtain ⟨its, rv, p, _⟩ := I.list hqx
    obtain ⟨its2, rv2, p2, _⟩ := I.tuple hqy
    obtain ⟨u, hu, ru⟩ := rv.get hx
    obtain ⟨u2, hu2, ru2⟩ := rv2.get hy
    have hzl : z < s.heap.objs.size := Heap.lt_size hz
    have hh : X.A.in1.handled = none := I.ok.hd hc
    have l1 : i < its.toArray.size := by rw [List.size_toArray]; exact (List.getElem?_eq_some_iff.mp hu).1
    have l2 : i < its2.toArray.size := by rw [List.size_toArray]; exact (List.getElem?_eq_some_iff.mp hu2).1
    refine wpAny_pyNext_zipD2_item S (Draws.list hh i1 a ha its.toArray) (Draws.tuple hh i2 b hb its2.toArray) hz hTI hTO ⟨h1, p.isList⟩ ⟨h2, p2⟩ l1 l2 fun y1 y2 h' tk hy1 hy2 z' TO' h1' h2' hT hsz hk => ?_
    have e1 : y1 = u := by
      have q : its.toArray[i]? = some y1 := hy1
      rw [List.getElem?_toArray, hu] at q
      exact (Option.some.inj q).symm
    have e2 : y2 = u2 := by
      have q : its2.toArray[i]? = some y2 := hy2
      rw [List.getElem?_toArray, hu2] at q
      exact (Option.some.inj q).symm
    subst e1 e2
    refine ⟨_, rfl, wpAny_letOwnedTupleGo_zip (s := { s with heap := h', toks := tk }) z' fun h'' z'' sb => ?_⟩
    have hT2 : h''.get? s.heap.objs.size = some { cls := .type "tuple", data := .seq #[y1, y2] } := (sb.2 _ (Nat.ne_of_gt hzl)).trans hT
    have new : ObjOk X.prog X.w (upd H s.heap.objs.size (.tup [x, y])) h'' s.heap.objs.size (.tup [x, y]) :=
      ⟨by show 2 ≤ sizeLine; decide, [y1, y2], .cons ru (.cons ru2 .nil), ⟨_, hT2, rfl, _, rfl⟩⟩
    have I1 : Inv X pins σ (upd H s.heap.objs.size (.tup [x, y])) { s with heap := h'', toks := tk } :=
      I.turnedNew (t' := tk) (ch := [z, TI, TO, i1, i2]) (fun c o hb q => (sb.2 c (fun q' => hb (by simp [q']))).trans (hk c o (fun q' => hb (by simp [q'])) (fun q' => hb (by simp [q'])) (fun q' => hb (by simp [q'])) (fun q' => hb (by simp [q'])) q)) hf (Nat.le_refl _) new
    refine ⟨.ref s.heap.objs.size, _, I1, rfl, ⟨_, x, y, rfl, I.hok.fresh (Nat.le_refl _), rfl, fun l hl => by rw [I.list_inj hl hqx]; exact hx, fun l hl => by rw [I.tuple_inj hl hqy]; exact hy⟩, ⟨z'', ?_, ⟨y1, y2, ?_⟩, ?_, ?_⟩, fun c hcm => ?_⟩
    · exact (sb.2 _ D.TIz).trans (hk _ _ D.TIz D.TITO D.TIi1 D.TIi2 hTI)
    · exact (sb.2 _ D.TOz).trans TO'
    · exact h1'.1.at fun o q => (sb.2 _ D.i1z).trans q
    · exact h2'.1.at fun o q => (sb.2 _ D.i2z).trans q
    · have hlt : c < s.heap.objs.size := by
        have e' : c = z ∨ c = TI ∨ c = TO ∨ c = i1 ∨ c = i2 := by simpa using hcm
        rcases e' with q | q | q | q | q
        · rw [q]; exact hzl
        · rw [q]; exact Heap.lt_size hTI
        · rw [q]; exact Heap.lt_size hTO
        · rw [q]; obtain ⟨_, e1, _⟩ := h1; exact Heap.lt_size e1
        · rw [q]; obtain ⟨_, e2, _⟩ := h2; exact Heap.lt_size e2
      rw [upd_ne (Nat.ne_of_lt hlt)]
      exact (hf c hcm).1
  done := by
    intro X hP hw hK hc i pins s σ H E I hf st hg
    subst hP hw hK
    obtain ⟨hz, hTI, ⟨x0, y0, hTO⟩, h1, h2⟩ := st
    obtain ⟨xs, ys, hqx, hqy, hend, hend2⟩ := hg
    obtain ⟨its, rv, p, _⟩ := I.list hqx
    obtain ⟨its2, rv2, p2, _⟩ := I.tuple hqy
    have l1 := rv.length
    have l2 := rv2.length
    have hh : X.A.in1.handled = none := I.ok.hd hc
    have n1 : i = its.toArray.size := by rw [List.size_toArray]; omega
    have n2 : i = its2.toArray.size := by rw [List.size_toArray]; omega
    exact wpAny_pyNext_zipD2_end S (Draws.list hh i1 a ha its.toArray) (Draws.tuple hh i2 b hb its2.toArray) hz hTI hTO ⟨h1, p.isList⟩ ⟨h2, p2⟩ (Nat.le_of_eq n1) (Nat.le_of_eq n2) (.inl n1) fun h' tk hk => ⟨rfl, I.turnedL (t' := tk) (ch := [z, TI, TO, i1, i2]) (fun c o hb q =>
      hk c o (fun q' => hb (by simp [q'])) (fun q' => hb (by simp [q'])) (fun q' => hb (by simp [q'])) (fun q' => hb (by simp [q'])) q) hf⟩
  self := fun A i s Q E st h => wpAny_pyIter_zip st.1 h
def iZipM (K : PySem.W.Frag) (ta : TA) : TI := fun σ H R => ta σ H fun vs H1 => ∃ a b xs ys, vs = [.ref a, .ref b] ∧ SqL K H1 a xs ∧ SqT K H1 b ys ∧ R (ItzM K a b) H1
theorem pi_zipM {X : Cx} {e e2 : Expr} {ta : TA} {p pos tpos : Pos} {elts : List Expr} {kk : Nat} (hg : Gl X "zip") (hm : X.mg "zip" = none) (ha : PA X [e, e2] ta)
    (hs : starEach [e, e2] X.env = (false, eval e X.env) :: starEach [e2] X.env := by rfl) (hpl : (backTo pos (starEach [e2] X.env)).any (·.1) = false := by rfl) :
    PI X (.Tuple elts kk tpos) (.Call (.Name "zip" p) [e, e2] [] pos) (iZipM X.K ta) := by
  refine ⟨fun pins s σ H R I h => ?_⟩
  refine Call_ (ld_blt I hg hm PyProof.Rows.boot_zip (PyProof.Rows.callWith_type1 (thn (ha.run pos pins s σ H _ I h) fun us s1 ⟨vs, H1, I1, r1, q1⟩ => ?_) hs hpl))
  obtain ⟨a, b, xs, ys, ex, hqx, hqy, q⟩ := q1
  subst ex
  cases r1 with
  | cons r rr =>
    cases rr with
    | cons r' rr =>
      cases rr
      cases r
      cases r'
      have fresh5 : ∀ c, c ∈ [s1.heap.objs.size + 4, s1.heap.objs.size + 2, s1.heap.objs.size + 3, s1.heap.objs.size, s1.heap.objs.size + 1] → FpOk X pins H1 c := fun c hcm => by
        have e' : c = s1.heap.objs.size + 4 ∨ c = s1.heap.objs.size + 2 ∨ c = s1.heap.objs.size + 3 ∨ c = s1.heap.objs.size ∨ c = s1.heap.objs.size + 1 := by simpa using hcm
        have hle : s1.heap.objs.size ≤ c := by
          rcases e' with z | z | z | z | z
          · rw [z]; exact Nat.le_add_right _ _
          · rw [z]; exact Nat.le_add_right _ _
          · rw [z]; exact Nat.le_add_right _ _
          · rw [z]; exact Nat.le_refl _
          · rw [z]; exact Nat.le_add_right _ _
        exact I1.fpOk hle (I1.hok.fresh hle)
      obtain ⟨its, rv, p1, _⟩ := I1.list hqx
      obtain ⟨its2, rv2, p2, _⟩ := I1.tuple hqy
      have la : a < s1.heap.objs.size := p1.lt
      have lb : b < s1.heap.objs.size := by
        obtain ⟨o2, ho2, _⟩ := id p2
        exact Heap.lt_size ho2
      generalize hN : s1.heap.objs.size = N at la lb fresh5
      have S := sepM N a b la lb
      refine call_zipM p1.isList p2 fun h' hz hTI hTO h1 h2 hsz hk => wpAny_pyIter_zip hz ?_
      rw [hN] at hz hTI hTO h1 h2 ⊢
      have I2 : Inv X pins σ H1 { s1 with heap := h' } := I1.kept (t' := s1.toks) hk
      exact ⟨N + 4, [N + 4, N + 2, N + 3, N, N + 1], _, _, H1, rfl, I2, turn_zipM (PySem.W.ktu_apart N a b la lb) S (Nat.ne_of_lt la) (Nat.ne_of_lt (Nat.lt_succ_of_lt lb)), ⟨hz, hTI, ⟨_, _, hTO⟩, h1, h2⟩, fresh5, q⟩
end DtZ
namespace Dt
open PySem PySem.Spec PyProof.Rows L2 Evl Fx Tr
section
variable {F : Fd} {K : PySem.W.Frag} {te ta tb tl : TE} {tr : TA} {tt tu : TT} {g : TG} {σ : L2.St} {H H' H1 : Hp} {d d' : PyData} {ds es : List PyData} {n n0 k ka kb kt ke i : Nat} {v : V} {Dl : Addr}
/-- list(t) -/
theorem rl_list (o : F.Ok) (h : EvR F te σ H k (IsD K (.tuple ds))) : EvR F (tCB (rListS K) (tCons te tNil)) σ H k (IsL F K ds) := fun n H1 hn g e Q q => h n H1 hn g e _ fun v H2 e2 g2 hd => by
  cases hd with
  | @tup a xs _ ha hx => exact ⟨a, xs, rfl, .inr ha, fun l hl => q _ _ (e2.trans (Kx.ex (Ex.new hl))) (o.ex g2 (Ex.new hl)) ⟨l, xs, rfl, o.new g2 hl, upd_same, dps_ex (Ex.new hl) _ _ hx⟩⟩
theorem call_listS {X : Cx} : CallR X (.type "list") (rListS X.K) := call_list_of
theorem valV_merge : ∀ (more kvs : List (Key × V)) (k : Key), (more.map Prod.fst).Nodup → valV (mergeK kvs more) k = (valV more k).or (valV kvs k)
  | [], kvs, k, _ => rfl
  | p :: r, kvs, k, h => by
    rw [List.map_cons, List.nodup_cons] at h
    show valV (mergeK (putK kvs p.1 p.2) r) k = _
    rw [valV_merge r _ k h.2, valV_put]
    by_cases e : p.1 = k
    · have hn : valV r k = none := by
        cases z : valV r k with
        | none => rfl
        | some u =>
          exfalso
          unfold valV at z
          obtain ⟨q, hq, _⟩ := Option.map_eq_some_iff.mp z
          have h1 := List.find?_some hq
          have h2 := List.mem_of_find?_eq_some hq
          exact h.1 (List.mem_map.mpr ⟨q, h2, by rw [e]; exact of_decide_eq_true h1⟩)
      rw [hn, valV_pos e, if_pos e.symm]
      rfl
    · rw [valV_neg e, if_neg (fun z => e z.symm)]
theorem rows_pairs {K : PySem.W.Frag} {H : Hp} : ∀ {rs : List (Str × Ru)} {xs : List V}, DpAll K H xs (rs.map rowD) → ∃ (ps : List Addr) (kvs : List (Key × V)), xs = ps.map V.ref ∧ Paired (fun p (kv : Key × V) => SqT K H p [kV kv.1, kv.2]) ps kvs ∧ kvs.map Prod.fst = rs.map (fun x => (Sum.inr x.1 : Key)) ∧
    ∀ s i r, RuleAt rs s i r → ∃ u, valV kvs (.inr s) = some u ∧ Dp K H u r.D
  | [], xs, h => by
    cases h
    exact ⟨[], [], rfl, .nil, rfl, fun s i r hr => by simp [RuleAt] at hr⟩
  | x :: rs, xs, h => by
    obtain ⟨v, r, rfl, h1, h2⟩ := dps_uncons h
    obtain ⟨ps, kvs, rfl, hp, hk, hv⟩ := rows_pairs h2
    obtain ⟨a, y1, y2, rfl, ha, d1, d2⟩ := dp_two h1
    cases d1
    refine ⟨a :: ps, (.inr x.1, y2) :: kvs, rfl, .cons ha hp, by rw [List.map_cons, List.map_cons, hk], fun s i r hr => ?_⟩
    obtain ⟨g1, g2⟩ := hr
    cases i with
    | zero =>
      rw [List.getElem?_cons_zero] at g1
      cases g1
      exact ⟨y2, valV_pos rfl, d2⟩
    | succ i =>
      rw [List.getElem?_cons_succ] at g1
      have hne : x.1 ≠ s := g2 0 x (Nat.succ_pos i) List.getElem?_cons_zero
      obtain ⟨u, hu, du⟩ := hv s i r ⟨g1, fun j y hj hy => g2 (j + 1) y (by omega) (by rw [List.getElem?_cons_succ]; exact hy)⟩
      exact ⟨u, by rw [valV_neg (fun z => hne (Sum.inr.inj z))]; exact hu, du⟩
def rDictP (K : PySem.W.Frag) : List V → Hp → VK → Prop := fun xs H Q => ∃ (a : Addr) (ps : List Addr) (kvs : List (Key × V)), xs = [.ref a] ∧ SqL K H a (ps.map V.ref) ∧ Paired (fun p kv => SqT K H p [kV kv.1, kv.2]) ps kvs ∧ ∀ p, H p = none → Q (.ref p) (upd H p (.dK (mergeK [] kvs)))
theorem call_dictPK {X : Cx} (hc : X.calm = true) : CallR X (.type "dict") (rDictP X.K) := call_dictP hc
/-- a dict of the rules -/
def IsTab (F : Fd) (K : PySem.W.Frag) (rs : List (Str × Ru)) : VP := fun v H => ∃ p kvs, v = .ref p ∧ ¬ F.T p ∧ H p = some (.dK kvs) ∧ ∀ s i r, RuleAt rs s i r → ∃ u, valV kvs (.inr s) = some u ∧ Dp K H u r.D
theorem mono_tab {F : Fd} {K : PySem.W.Frag} {rs : List (Str × Ru)} (o : F.Ok) : MonoF F (IsTab F K rs) := fun n v H H' g e ⟨p, kvs, e1, h1, h2, h3⟩ => ⟨p, kvs, e1, h1, e _ _ h2 fun s => h1 (o.sub s), fun s i r hr => by
  obtain ⟨u, hu, du⟩ := h3 s i r hr
  exact ⟨u, hu, mono_d o r.flat n _ _ _ g e du⟩⟩
theorem rt_dict {F : Fd} {K : PySem.W.Frag} {te : TE} {σ : L2.St} {H : Hp} {k : Nat} {rs : List (Str × Ru)} (o : F.Ok) (h : EvR F te σ H k (IsL F K (rs.map rowD))) (nd : (rs.map Prod.fst).Nodup) : EvR F (tCB (rDictP K) (tCons te tNil)) σ H k (IsTab F K rs) := fun n H1 hn g e Q q => h n H1 hn g e _ fun v H2 e2 g2 ⟨a, xs, ev, hT, ha, hx⟩ => by
  obtain ⟨ps, kvs, rfl, hp, hk, hv⟩ := rows_pairs hx
  refine ⟨a, ps, kvs, by rw [ev], sq_of ha, hp, fun p hpn => q _ _ (e2.trans (Kx.ex (Ex.new hpn))) (o.ex g2 (Ex.new hpn)) ⟨p, _, rfl, o.new g2 hpn, upd_same, fun s i r hr => ?_⟩⟩
  obtain ⟨u, hu, du⟩ := hv s i r hr
  refine ⟨u, ?_, dp_ex (Ex.new hpn) _ _ du⟩
  have ndk : (kvs.map Prod.fst).Nodup := by
    rw [hk]
    have : rs.map (fun x => (Sum.inr x.1 : Key)) = (rs.map Prod.fst).map Sum.inr := by rw [List.map_map]; rfl
    rw [this]
    exact List.pairwise_map.mpr (List.Pairwise.imp (fun h e => h (Sum.inr.inj e)) nd)
  rw [valV_merge kvs [] _ ndk, hu]
  rfl
theorem rd_tab {F : Fd} {K : PySem.W.Frag} {ta tb : TE} {σ : L2.St} {H : Hp} {ka kb : Nat} {rs : List (Str × Ru)} {s : Str} {i : Nat} {r : Ru} (o : F.Ok) (ha : EvR F ta σ H ka (IsTab F K rs)) (hb : EvR F tb σ H kb (fun x _ => x = .str s)) (hr : RuleAt rs s i r) : EvR F (tDGet ta tb) σ H (ka + kb) (IsD K r.D) :=
  fun n H1 hn g e Q q => ha n H1 (by omega) g e _ fun x H2 e2 g2 p => hb (n + ka) H2 (by omega) g2 (e.trans e2) _ fun y H3 e3 g3 p' => by
    obtain ⟨a, kvs, ex, hT, h2, h3⟩ := mono_tab o _ _ _ _ g2 e3 p
    obtain ⟨u, hu, du⟩ := h3 s i r hr
    exact ⟨a, u, ex, .inl ⟨kvs, .inr s, .inl h2, p', hu.symm⟩, q u H3 (e2.trans e3) (by rw [← Nat.add_assoc]; exact g3) du⟩
theorem for_zipM {K : PySem.W.Frag} {a b : Addr} {xs ys : List V} {g : TG} {tb : TS} {D : Ends} {σ : L2.St} {H : Hp} (hl : xs.length = ys.length) (Pv : Nat → L2.St → Hp → Prop) (h0 : Pv 0 σ H) (hq : ∀ i σ H, Pv i σ H → SqL K H a xs ∧ SqT K H b ys)
    (hs : ∀ (i : Nat) (x y : V) (T : Addr) (σ : L2.St) (H : Hp), xs[i]? = some x → ys[i]? = some y → Pv i σ H → H T = none → g (.ref T) σ (upd H T (.tup [x, y])) fun σ2 H2 => tb { D with nx := Pv (i + 1), ct := Pv (i + 1), bk := D.nx } σ2 H2) (hd : ∀ σ H, Pv xs.length σ H → D.nx σ H) :
    ∃ W : Nat → Nat → L2.St → Hp → Prop, (∃ m, W 0 m σ H) ∧ ∀ i m σ H, W i m σ H →
      ((DtZ.ItzM K a b).stop i H ∧ D.nx σ H) ∨ ((DtZ.ItzM K a b).go i H ∧ ∃ N : L2.St → Hp → Prop, (∀ σ' H', N σ' H' → ∃ m', m' < m ∧ W (i + 1) m' σ' H') ∧ ∀ v H', (DtZ.ItzM K a b).yld i H v H' → g v σ H' fun σ2 H2 => tb { D with nx := N, ct := N, bk := D.nx } σ2 H2) := by
  refine ⟨fun i m σ H => m = xs.length - i ∧ i ≤ xs.length ∧ Pv i σ H, ⟨xs.length, rfl, Nat.zero_le _, h0⟩, ?_⟩
  rintro i m σ H ⟨rfl, hi, p⟩
  obtain ⟨qx, qy⟩ := hq i σ H p
  by_cases hlt : i < xs.length
  · have hx : xs[i]? = some xs[i] := List.getElem?_eq_getElem hlt
    have hlt2 : i < ys.length := by omega
    have hy : ys[i]? = some ys[i] := List.getElem?_eq_getElem hlt2
    refine .inr ⟨⟨xs, ys, _, _, qx, qy, hx, hy⟩, Pv (i + 1), fun σ' H' p' => ⟨xs.length - (i + 1), by omega, rfl, hlt, p'⟩, fun v H' y => ?_⟩
    obtain ⟨T, x', y', rfl, hT, rfl, f1, f2⟩ := y
    exact hs i x' y' T σ H (f1 xs qx) (f2 ys qy) p hT
  · have e : i = xs.length := by omega
    subst e
    exact .inl ⟨⟨xs, ys, qx, qy, rfl, hl.symm⟩, hd σ H p⟩
section
variable {F : Fd} {K : PySem.W.Frag} {te ta tb tl : TE} {tr : TA} {tt tu : TT} {g : TG} {σ : L2.St} {H H' H1 : Hp} {d d' : PyData} {ds es : List PyData} {n n0 k ka kb kt ke i : Nat} {v : V} {Dl : Addr}
/-- for .. in zip(xs, t): a list under a name, that stays, and a tuple -/
theorem q_forM {tb tz : TS} {D : Ends} {j : Nat} {p : Addr} {xs : List V} (o : F.Ok) (hj : σ[j]? = some (some (.ref p))) (hp : H p = some (.lst xs)) (hT : ¬ F.T p) (hx : DpAll K H xs ds) (hb : EvR F tl σ H k (IsD K (.tuple es))) (g0 : F.G n H) (hn : n + k ≤ F.N) (fd : flats ds = true) (fe : flats es = true) (hl : ds.length = es.length)
    (Pv : Hp → Nat → L2.St → Hp → Prop) (h0 : ∀ H1, Kx F.S H H1 → F.G (n + k) H1 → Pv H1 0 σ H1) (hk : ∀ H1 i σ' H', Pv H1 i σ' H' → KT K H1 H') (hkl : ∀ H1 i σ' H', H1 p = some (.lst xs) → Pv H1 i σ' H' → H' p = some (.lst xs))
    (hs : ∀ H1 i x y T d d' σ' H', ds[i]? = some d → es[i]? = some d' → Pv H1 i σ' H' → H' T = none → Dp K (upd H' T (.tup [x, y])) x d → Dp K (upd H' T (.tup [x, y])) y d' → g (.ref T) σ' (upd H' T (.tup [x, y])) fun σ2 H2 => tb { D with nx := Pv H1 (i + 1), ct := Pv H1 (i + 1), bk := tz D } σ2 H2)
    (hd : ∀ H1 σ' H', Kx F.S H H1 → Pv H1 ds.length σ' H' → tz D σ' H') : tSeq (tFor (DtZ.iZipM K (tCons (tVar j) (tCons tl tNil))) g tb) tz D σ H := ⟨.ref p, hj, hb n H hn g0 Kx.refl _ fun w H1 e1 g1 p2 => by
  cases p2 with
  | @tup b ys _ hb' hy =>
  have hp1 : H1 p = some (.lst xs) := e1 _ _ hp fun s => hT (o.sub s)
  have hx1 := mono_ds o fd _ _ _ _ g0 e1 hx
  have lx := dps_len hx
  have ly := dps_len hy
  refine ⟨p, b, xs, ys, rfl, sq_of hp1, hb', for_zipM (by omega) (Pv H1) (h0 H1 e1 g1) (fun i σ' H' q => ⟨sq_of (hkl _ _ _ _ hp1 q), hk _ _ _ _ q _ _ hb'⟩) (fun i x y T σ' H' hi hj q hTn => ?_) fun σ' H' q => hd H1 σ' H' e1 (by rw [← lx]; exact q)⟩
  have h1 := (List.getElem?_eq_some_iff.mp hi).1
  have h2 := (List.getElem?_eq_some_iff.mp hj).1
  have hdi : ds[i]? = some ds[i] := List.getElem?_eq_getElem (by omega)
  have hei : es[i]? = some es[i] := List.getElem?_eq_getElem (by omega)
  have kk : KT K H1 (upd H' T (.tup [x, y])) := kt_trans (hk _ _ _ _ q) (kt_ex (Ex.new hTn))
  obtain ⟨u, hu, hdu⟩ := dps_get (dps_kt kk _ _ fd hx1) hdi
  rw [hi] at hu
  cases hu
  obtain ⟨u, hu, hdu'⟩ := dps_get (dps_kt kk _ _ fe hy) hei
  rw [hj] at hu
  cases hu
  exact hs H1 i x y T _ _ σ' H' hdi hei q hTn hdu hdu'⟩
/-- a comprehension over enumerate(t), a tuple -/
theorem lc_enumT {K : PySem.W.Frag} {a : Addr} {xs : List V} {g : TG} {tt : TT} {te : TE} {vs : List Nat} {σ : L2.St} {H1 : Hp} {D : Addr} {Qd : Hp → Prop} (Pv : Nat → Hp → Prop) (h0 : Pv 0 (upd H1 D (.lst []))) (hq : ∀ i H, Pv i H → SqT K H a xs)
    (hs : ∀ (i : Nat) (x : V) (T : Addr) (H : Hp), xs[i]? = some x → Pv i H → H T = none → g (.ref T) (wipe σ vs) (upd H T (.tup [.int (i : Nat), x])) fun σ2 H2 => wipe σ2 vs = wipe σ vs ∧ tt σ2 H2 fun b H3 =>
      if b = true then te σ2 H3 fun y H4 => ∃ acc, H4 D = some (.lst acc) ∧ acc.length < sizeLine ∧ Pv (i + 1) (upd H4 D (.lst (acc ++ [y]))) else Pv (i + 1) H3) (hd : ∀ H, Pv xs.length H → Qd H) :
    ∃ W : Nat → Nat → Hp → Prop, (∃ m, W 0 m (upd H1 D (.lst []))) ∧ ∀ i m H, W i m H →
      ((DtE.IteT K a).stop i H ∧ Qd H) ∨ ((DtE.IteT K a).go i H ∧ ∃ Nx : Hp → Prop, (∀ H', Nx H' → ∃ m', m' < m ∧ W (i + 1) m' H') ∧ ∀ x H', (DtE.IteT K a).yld i H x H' → g x (wipe σ vs) H' fun σ2 H2 => wipe σ2 vs = wipe σ vs ∧ tt σ2 H2 fun b H3 =>
        if b = true then te σ2 H3 fun y H4 => ∃ acc, H4 D = some (.lst acc) ∧ acc.length < sizeLine ∧ Nx (upd H4 D (.lst (acc ++ [y]))) else Nx H3) := by
  refine ⟨fun i m H => m = xs.length - i ∧ i ≤ xs.length ∧ Pv i H, ⟨xs.length, by simp, Nat.zero_le _, h0⟩, ?_⟩
  rintro i m H ⟨rfl, hi, p⟩
  have qx := hq i H p
  by_cases hlt : i < xs.length
  · have hx : xs[i]? = some xs[i] := List.getElem?_eq_getElem hlt
    refine .inr ⟨⟨xs, _, qx, hx⟩, Pv (i + 1), fun H' p' => ⟨xs.length - (i + 1), by omega, rfl, hlt, p'⟩, fun v H' y => ?_⟩
    obtain ⟨T, x', rfl, hT, rfl, f1⟩ := y
    exact hs i x' T H (f1 xs qx) p hT
  · have e : i = xs.length := by omega
    subst e
    exact .inl ⟨⟨xs, qx, rfl⟩, hd H p⟩
theorem r_lcE (o : F.Ok) {vs : List Nat} (f : Nat → Bool) (e : Nat → PyData) (h : EvR F tl σ H k (IsD K (.tuple ds))) (fd : flats ds = true) (hm : ds.length ≤ 40000) (fl : ∀ j, j < ds.length → f j = true → flat (e j) = true)
    (ht : ∀ i x T d n H', ds[i]? = some d → Dp K H' x d → SqT K H' T [.int (i : Nat), x] → F.G n H' → Kx F.S H H' → ∃ σ2, Gv g (.ref T) (wipe σ vs) H' σ2 ∧ wipe σ2 vs = wipe σ vs ∧ EvRT F tt σ2 H' kt (f i) ∧ (f i = true → EvR F te σ2 H' ke (IsD K (e i)))) :
    EvR F (tLc (DtE.iEnumT K (tCons tl tNil)) g tt te vs) σ H (k + ds.length * (kt + ke)) (IsL F K (outs f e ds.length)) := fun n H0 hn g0 e0 Q q => h n H0 (by omega) g0 e0 _ fun v H1 e1 g1 hd => by
  cases hd with
  | @tup a xs _ ha hx =>
  have hl := dps_len hx
  refine ⟨a, xs, rfl, ha, fun Dl hD => lc_enumT (xs := xs) (Cd F K H1 Dl (n + k) (kt + ke) f e) ?_ (fun i H' p => o.kt g1 p.1 _ _ ha) (fun i x T H' hi p hT => ?_) fun H' p => ?_⟩
  · exact ⟨Kx.ex (Ex.new hD), by rw [Nat.zero_mul]; exact o.put g1 hD g1, [], upd_same, .nil⟩
  · have hlt := (List.getElem?_eq_some_iff.mp hi).1
    have hdi : ds[i]? = some ds[i] := List.getElem?_eq_getElem (by omega)
    have p' : Cd F K H1 Dl (n + k) (kt + ke) f e i (upd H' T (.tup [.int (i : Nat), x])) := p.new o hT
    obtain ⟨u, hu, hdu⟩ := dps_get (mono_ds o fd _ _ _ _ g1 p'.1 hx) hdi
    rw [hi] at hu
    cases hu
    obtain ⟨σ2, q1, q2, q3, q4⟩ := ht i x T _ _ _ hdi hdu (st_of upd_same) p'.2.1 (e0.trans (e1.trans p'.1))
    exact q1 _ ⟨q2, cd_turn o g1 hD p' (by omega) hm (by rw [Nat.add_assoc]; exact hn) fl q3 q4⟩
  · rw [hl] at p
    obtain ⟨p1, p2, ws, p3, p4⟩ := p
    exact q (.ref Dl) H' (e1.trans p1) (by rw [← Nat.add_assoc]; exact p2) ⟨Dl, ws, rfl, o.new g1 hD, p3, p4⟩
end
end
end Dt
namespace Dt
open PySem PySem.Spec PyProof.Rows L2 Evl Fx Tr
section
variable {F : Fd} {K : PySem.W.Frag} {te ta tb tl : TE} {tr : TA} {tt tu : TT} {tz : TS} {D : Ends} {g : TG} {σ : L2.St} {H H' H1 : Hp} {d d' : PyData} {ds es : List PyData} {n n0 k ka kb kt ke i : Nat} {v : V}
theorem q_par3 {i j l : Nat} (h : tr σ H fun vs H1 => ∃ u v w, vs = [u, v, w] ∧ tz D (((σ.set i (some u)).set j (some v)).set l (some w)) H1) : tSeq (tPar3 i j l tr) tz D σ H := h
theorem q_cons {Q : List V → Hp → Prop} (h : te σ H fun x H1 => tr σ H1 fun ys H2 => Q (x :: ys) H2) : tCons te tr σ H Q := h
theorem dps_ints : ∀ {ns : List Int} {vs : List V}, DpAll K H vs (ns.map PyData.int) → vs = ns.map V.int
  | [], _, h => by cases h; rfl
  | b :: bs, _, h => by
    cases h with
    | cons h1 h2 =>
      cases h1
      rw [dps_ints h2]
      rfl
theorem flat_ints (ns : List Int) : flats (ns.map PyData.int) = true := flats_all.mpr fun d hd => by
  obtain ⟨b, _, rfl⟩ := List.mem_map.mp hd
  rfl
/-- an int in a list of ints -/
theorem rb_inI {a : Int} {ns : List Int} (o : F.Ok) (ha : EvR F ta σ H ka (fun u _ => u = .int a)) (hb : EvR F tb σ H kb (IsL F K (ns.map PyData.int))) : EvR F (tOp (rIn K false) ta tb) σ H (ka + kb) (fun u _ => u = .bl (ns.any fun y => y == a)) :=
  r_op o mono_eq ha hb fun x y n H1 g e ex ⟨p, xs, ey, hT, hp, hx⟩ Q q => by
    subst ex ey
    have := dps_ints hx
    subst this
    refine ⟨p, _, rfl, .inl (sq_of hp), rfl, by rw [List.all_map]; exact List.all_eq_true.mpr fun _ _ => rfl, q _ H1 (Ex.refl _) ?_⟩
    show V.bl (inV _ _) = _
    unfold inV
    rw [List.any_map]
    rfl
theorem tab_upd {rs : List (Str × Ru)} {A : Addr} {xs : List V} {u : HO} (h : IsTab F K rs v H) (hA : H A = some (.lst xs)) : IsTab F K rs v (upd H A u) := by
  obtain ⟨p, kvs, e, hT, hp, hv⟩ := h
  have hne : p ≠ A := by
    rintro rfl
    rw [hA] at hp
    cases hp
  refine ⟨p, kvs, e, hT, by rw [upd_ne hne]; exact hp, fun s i r hr => ?_⟩
  obtain ⟨w, hw, dw⟩ := hv s i r hr
  exact ⟨w, hw, dp_kt (kt_lst hA) _ _ r.flat dw⟩
theorem tab_ex {rs : List (Str × Ru)} (h : IsTab F0 K rs v H) (e : Ex H H') : IsTab F0 K rs v H' := mono_tab F0.ok 0 _ _ _ F0.g (Kx.ex e) h
theorem lay_intsI : ∀ p : List Int, PyData.canLayAll0 (p.map PyData.int) = true
  | [] => by simp [PyData.canLayAll0]
  | a :: p => by rw [List.map_cons, PyData.canLayAll0, lay_intsI p]; simp [PyData.canLay0]
theorem depth_intsI : ∀ p : List Int, PyData.depthAll (p.map PyData.int) = 0
  | [] => by simp [PyData.depthAll]
  | a :: p => by rw [List.map_cons, PyData.depthAll, depth_intsI p]; simp [PyData.depth]
theorem sh_ints (p : List Int) : SeqAt.shaped (.list (p.map PyData.int)) = true := by
  show ((PyData.list (p.map PyData.int)).canLay0 && decide ((PyData.list (p.map PyData.int)).depth ≤ 64)) = true
  rw [Bool.and_eq_true]
  exact ⟨by rw [PyData.canLay0]; exact lay_intsI p, decide_eq_true (by rw [PyData.depth, depth_intsI]; omega)⟩
/-- a list of ints != [] -/
theorem rb_neNil {ns : List Int} (o : F.Ok) (ha : EvR F ta σ H ka (IsL F K (ns.map PyData.int))) : EvR F (tOp (rNeD K) ta (tLst tNil)) σ H (ka + 0) (fun u _ => u = .bl (!ns.isEmpty)) :=
  r_op (P' := IsL F K []) o (mono_l o (flat_ints ns)) ha (rl_lst o ra_nil) fun x y n H1 g e px py Q q => ⟨_, _, px.dp, py.dp, sh_ints ns, rfl, q _ H1 (Ex.refl _) (by cases ns <;> simp [PyData.eqv, PyData.eqvAll])⟩
/-- the places where f says so, as ints -/
theorem outs_int (f : Nat → Bool) (m : Nat) : outs f (fun i => PyData.int (i : Int)) m = (((List.range m).filter f).map fun (i : Nat) => (i : Int)).map PyData.int := by
  unfold outs
  rw [List.map_map]
  rfl
theorem outs_some (bs : List Bool) : (!(((List.range bs.length).filter fun i => bs.getD i false).map fun (i : Nat) => (i : Int)).isEmpty) = bs.any id := by
  rw [Bool.eq_iff_iff]
  simp only [Bool.not_eq_true', List.isEmpty_eq_false_iff, ne_eq, List.map_eq_nil_iff, List.filter_eq_nil_iff, List.mem_range, List.any_eq_true, id]
  constructor
  · intro h
    apply Classical.byContradiction
    intro hn
    apply h
    intro i hi hb
    rw [List.getD_eq_getElem?_getD, List.getElem?_eq_getElem hi] at hb
    exact hn ⟨bs[i], List.getElem_mem _, hb⟩
  · rintro ⟨b, hb, h⟩ hn
    obtain ⟨i, hi, e⟩ := List.getElem_of_mem hb
    apply hn i hi
    rw [List.getD_eq_getElem?_getD, List.getElem?_eq_getElem hi, e, h]
    rfl
end
end Dt
namespace K18
open PySem PySem.Spec PyProof.Rows L2 Evl Fx Fr Dt Tr
def nKept : List Str := ["_law_root", "_law_acts", "_law_lot", "_law_owns", "_law_spans_here", "_law_found", "_law_table", "_law_has_bad", "_law_way", "_law_name", "_law_mark", "_law_own", "_law_act", "_law_is_called", "_law_parts", "_law_span", "_law_j", "_law_part"]
section
variable {P : Program} {w : World} {K : PySem.W.Frag} {mg : Str → Option Value} {base : Heap} {f f2 f3 : Addr} {fd fd2 fd3 : FuncData}
structure KeptOk2 (t : T) (rs : List (Str × Ru)) (ρ : Str → Ru) (dr : Rat) (ow : List (Rat × Rat)) : Prop where
  k : KeptOk t rs ρ dr ow
  six : Tr.size t ≤ 6
  lot : Lot dr
  lots : ∀ o ∈ ow, Lot o.1 ∧ Lot o.2
  nodup : (rs.map Prod.fst).Nodup
def spLKept (K : PySem.W.Frag) : Sp := spD K fun ds d => ∃ t rs ρ draw owns, KeptOk2 t rs ρ draw owns ∧ ds = [enc t, .tuple (rs.map rowD), frD draw, .tuple (owns.map mkD)] ∧ d = .tuple ((keptBy ρ t draw owns).map pathD)
end
end K18
namespace K18
open PySem PySem.Spec PyProof.Rows L2 Evl Fx Fr Dt Tr
theorem scDraw : FnScope ["_law_feed_here", "_law_many", "_law_digit_now", "_law_cell", "_law_turn", "_law_mixed"] ["_law_feed_here", "_law_many"] (defScope (topS 42)) := ⟨rfl, rfl, rfl, by decide +kernel, rfl, by decide +kernel, by decide +kernel⟩
section
variable {P : Program} {w : World} {K : PySem.W.Frag} {mg : Str → Option Value} {base : Heap} {f f2 f3 : Addr} {fd fd2 fd3 : FuncData}
def fl (l : Addr) (s r c : Int) : List V := [.ref l, .int s, .int r, .int c]
def FeedAt (H : Hp) (d l : Addr) (n : Nat) : Prop := ∃ (ns : List Int) (s r c : Int), H d = some (.lst (fl l s r c)) ∧ H l = some (.lst (ns.map V.int)) ∧ ns.length ≤ 63 ∧ 0 ≤ s ∧ 0 ≤ c ∧ c ≤ n ∧ l ≠ d
def spDraw : Sp := fun vs H Q _ => ∃ (d l : Addr) (many : Int) (n : Nat), vs = [.ref d, .int many] ∧ FeedAt H d l n ∧ n ≤ 1000000 ∧ 0 < many ∧ many < 2 ^ 60 ∧ ∀ H' r, Kp d H H' → FeedAt H' d l (n + 1) → 0 ≤ r → r < many → Q (.int r) H'
theorem ok_draw (F : Fun K "_law_draw" "_law_draw" (topS 42) f fd) (m_int : mg "int" = none) (m_len : mg "len" = none) : FnOk P w K mg base CX0 1 f fd ["_law_feed_here", "_law_many"] spDraw := by
  refine F.ok scDraw (fun vs H Q E h => ?_) (fun cdv A outer s H vs Q E hr h => ?_)
  · obtain ⟨d, l, many, n, rfl, _⟩ := h
    rfl
  · obtain ⟨d, l, many, n, rfl, ⟨ns, sp, rest, calls, hd, hl, hn, hs0, hc0, hcn, nl⟩, hn2, hm0, hm1, q⟩ := h
    have dv : ∀ i : Int, CDivW i many := fun i => wide_div (b := 60) hm0 (by omega) (by decide) (by decide)
    have hL : ∀ o, (upd H d o) l = some (.lst (ns.map V.int)) := fun o => by
      rw [upd_ne nl]
      exact hl
    have rd : ∀ (a b : Int), 0 ≤ a → FeedAt (upd H d (.lst (fl l a b (calls + 1)))) d l (n + 1) := fun a b ha => ⟨ns, a, b, calls + 1, upd_same, hL _, hn, ha, by omega, by omega, nl⟩
    have md : ∀ i : Int, 0 ≤ i % many ∧ i % many < many := fun i => ⟨Int.emod_nonneg i (by omega), Int.emod_lt_of_pos i hm0⟩
    refine ⟨_, (pss_cons (ps_asg (pe_op op_add (pe_ix ix_list (pv 0) pe_int (fun _ _ => rfl)) pe_int) (pg_sub (pv 0) pe_int set_list (fun _ => rfl)))
      (pss_cons (ps_if (pt_cmpR op_gt (pe_ix ix_list (pv 0) pe_int (fun _ _ => rfl)) pe_int (nomark _)) (pss_cons (ps_set (i := 2) scDraw.nd rfl (.inl rfl) (pe_op op_mod (pe_callTy call_int1 (by rfl) m_int (by decide +kernel) (pa_cons (pe_ix ix_list (pv 0) pe_int (fun _ _ => rfl)) pa_nil)) (pv 1)))
        (pss_cons (ps_asg (pe_op op_fdivW (pe_ix ix_list (pv 0) pe_int (fun _ _ => rfl)) (pv 1)) (pg_sub (pv 0) pe_int set_list (fun _ => rfl)))
        (pss_one (ps_ret (pv 2))))) pss_nil)
      (pss_cut (ps_set (i := 3) scDraw.nd rfl (.inl rfl) (pe_ifExp (pt_cmpR (op_neD hr.units) (pe_ix ix_list (pv 0) pe_int (fun _ _ => rfl)) (pe_lst pa_nil) (nomark _)) (pe_ix ix_list (pe_ix ix_list (pv 0) pe_int (fun _ _ => rfl)) (pe_op op_mod (pe_callTy call_int1 (by rfl) m_int (by decide +kernel) (pa_cons (pe_ix ix_list (pv 0) pe_int (fun _ _ => rfl)) pa_nil)) (pe_callB (r := rLenS K) call_lenS (by rfl) m_len PySem.boot_len (pa_cons (pe_ix ix_list (pv 0) pe_int (fun _ _ => rfl)) pa_nil))) (fun _ _ => rfl)) pe_int))
      (pss_cons (ps_asg (pe_op op_add (pe_ix ix_list (pv 0) pe_int (fun _ _ => rfl)) pe_int) (pg_sub (pv 0) pe_int set_list (fun _ => rfl)))
      (pss_cut (ps_if (PW.pt (pw_and (pt_cmpR op_ge (pv 3) (pe_op op_pow pe_int pe_int) (nomark _)) (pw_and1 (pt_cmpR op_le (pe_ix ix_list (pv 0) pe_int (fun _ _ => rfl)) (pe_callB (r := rLenS K) call_lenS (by rfl) m_len PySem.boot_len (pa_cons (pe_ix ix_list (pv 0) pe_int (fun _ _ => rfl)) pa_nil)) (nomark _))))) (pss_cons (ps_asg (pe_op op_fdivW (pv 3) (pv 1)) (pg_sub (pv 0) pe_int set_list (fun _ => rfl)))
        (pss_one (ps_ret (pe_op op_mod (pe_callTy call_int1 (by rfl) m_int (by decide +kernel) (pa_cons (pv 3) pa_nil)) (pv 1))))) pss_nil)
      (pss_cons (ps_set (i := 4) scDraw.nd rfl (.inl rfl) (pe_ix ix_list (pv 0) pe_int (fun _ _ => rfl)))
      (pss_cut (ps_set (i := 5) scDraw.nd rfl (.inl rfl) (pe_callTy call_int1 (by rfl) m_int (by decide +kernel) (pa_cons (pe_op op_pow (pe_op op_add (pe_op op_add (pe_op op_mod (pe_callTy call_int1 (by rfl) m_int (by decide +kernel) (pa_cons (pv 3) pa_nil)) pe_int) (pe_op op_mulW (pe_op op_mulW pe_int (pv 4)) (pe_op op_add (pv 4) pe_int))) pe_int) pe_int) pa_nil)))
      (pss_cut (ps_set (i := 5) scDraw.nd rfl (.inl rfl) (pe_callTy call_int1 (by rfl) m_int (by decide +kernel) (pa_cons (pe_op op_pow (pe_op op_add (pe_op op_mulW (pe_op op_mod (pe_callTy call_int1 (by rfl) m_int (by decide +kernel) (pa_cons (pv 5) pa_nil)) pe_int) (pe_op op_add (pe_op op_mulW pe_int (pv 4)) pe_int)) (pe_op op_mulW pe_int (pv 4))) pe_int) pa_nil)))
      (pss_one (ps_ret (pe_op op_mod (pe_callTy call_int1 (by rfl) m_int (by decide +kernel) (pa_cons (pe_op op_fdivW (pe_op op_mod (pe_callTy call_int1 (by rfl) m_int (by decide +kernel) (pa_cons (pv 5) pa_nil)) pe_int) pe_int) pa_nil)) (pv 1)))))))))))), ?_⟩
    have hlk : ∀ {H' : Hp}, Kp d H H' → H' l = some (.lst (ns.map V.int)) := fun k => k _ _ hl nl
    have fin : ∀ {H' : Hp} {a b r : Int}, Kp d H H' → H' d = some (.lst (fl l a b (calls + 1))) → 0 ≤ a → 0 ≤ r ∧ r < many → Q (.int r) H' := fun k h1 ha hr => q _ _ k ⟨ns, _, _, calls + 1, h1, hlk k, hn, ha, by omega, by omega, nl⟩ hr.1 hr.2
    refine ⟨_, rfl, d, _, 3, _, rfl, rfl, sq_of hd, rfl, _, _, rfl, rfl, _, rfl, d, _, 3, 3, rfl, rfl, hd, rfl, ?_⟩
    have k1 : Kp d H (upd H d (.lst (fl l sp rest (calls + 1)))) := Kp.upd
    have hd1 : upd H d (.lst (fl l sp rest (calls + 1))) d = some (.lst (fl l sp rest (calls + 1))) := upd_same
    change tSeq _ _ _ _ (upd H d (.lst (fl l sp rest (calls + 1))))
    generalize upd H d (.lst (fl l sp rest (calls + 1))) = H1 at k1 hd1 ⊢
    refine ⟨_, rfl, d, _, 2, _, rfl, rfl, sq_of hd1, rfl, _, _, rfl, rfl, _, rfl, ite2 (fun _ => ?_) (fun _ => ?_)⟩
    · refine ⟨_, rfl, d, _, 2, _, rfl, rfl, sq_of hd1, rfl, .inl ⟨_, rfl, _, rfl, _, _, rfl, rfl, hm0, ?_⟩⟩
      refine ⟨_, rfl, d, _, 2, _, rfl, rfl, sq_of hd1, rfl, _, rfl, _, _, rfl, rfl, dv _, _, rfl, d, _, 2, 2, rfl, rfl, hd1, rfl, ?_⟩
      exact ⟨_, rfl, fin (a := sp) (b := rest / many) (k1.trans Kp.upd) upd_same hs0 (md _)⟩
    · refine q_cut (M := fun σ' H' => ∃ c : Int, σ' = [some (.ref d), some (.int many), none, some (.int c), none, none] ∧ Kp d H H' ∧ H' d = some (.lst (fl l sp rest (calls + 1)))) ?_ ?_
      · refine ⟨_, rfl, d, _, 0, _, rfl, rfl, sq_of hd1, rfl, by decide, fun p hp => ⟨.list (ns.map PyData.int), .list [], .lst (sq_of (Ex.new hp _ _ (hlk k1))) ?_, .lst (sq_of upd_same) .nil, sh_ints ns, rfl, _, rfl, ?_⟩⟩
        · have go : ∀ xs : List Int, DpAll K (upd H1 p (.lst [])) (xs.map V.int) (xs.map PyData.int) := fun xs => by
            induction xs with
            | nil => exact .nil
            | cons a xs ih => exact .cons (.int _) ih
          exact go ns
        · have e2 := Ex.new (o := HO.lst []) hp
          have k2 := k1.trans (Kp.ex e2)
          have hd2 := e2 _ _ hd1
          generalize upd H1 p (.lst []) = H2 at k2 hd2 ⊢
          refine ite2 (fun h => ?_) (fun _ => ⟨73, rfl, k2, hd2⟩)
          have hnn : ns ≠ [] := by
            rintro rfl
            simp [PyData.eqv, PyData.eqvAll] at h
          have hpos : (0 : Int) < ((ns.map V.int).length : Int) := by
            rw [List.length_map]
            have := List.length_pos_iff.mpr hnn
            omega
          have b1 := Int.emod_nonneg sp (show ((ns.map V.int).length : Int) ≠ 0 by omega)
          have b2 := Int.emod_lt_of_pos sp hpos
          have hj : (sp % ((ns.map V.int).length : Int)).toNat < ns.length := by
            rw [List.length_map] at b1 b2 ⊢
            omega
          refine ⟨_, rfl, d, _, 0, _, rfl, rfl, sq_of hd2, rfl, _, rfl, d, _, 1, _, rfl, rfl, sq_of hd2, rfl, .inl ⟨_, rfl, _, rfl, d, _, 0, _, rfl, rfl, sq_of hd2, rfl, l, _, rfl, .inl (sq_of (hlk k2)), _, _, rfl, rfl, hpos, ?_⟩⟩
          refine ⟨l, _, _, .int (ns[(sp % ((ns.map V.int).length : Int)).toNat]), rfl, rfl, sq_of (hlk k2), at_of (j := (sp % ((ns.map V.int).length : Int)).toNat) (by omega) ?_, _, rfl, k2, hd2⟩
          rw [List.getElem?_map, List.getElem?_eq_getElem hj]
          rfl
      · rintro σ' H2 ⟨c, rfl, k2, hd2⟩
        refine ⟨_, rfl, d, _, 1, _, rfl, rfl, sq_of hd2, rfl, _, _, rfl, rfl, _, rfl, d, _, 1, 1, rfl, rfl, hd2, rfl, ?_⟩
        have k3 : Kp d H (upd H2 d (.lst (fl l (sp + 1) rest (calls + 1)))) := k2.trans Kp.upd
        have hd3 : upd H2 d (.lst (fl l (sp + 1) rest (calls + 1))) d = some (.lst (fl l (sp + 1) rest (calls + 1))) := upd_same
        change tCut _ _ _ _ (upd H2 d (.lst (fl l (sp + 1) rest (calls + 1))))
        generalize upd H2 d (.lst (fl l (sp + 1) rest (calls + 1))) = H3 at k3 hd3 ⊢
        refine q_cut (M := fun σ' H' => σ' = [some (.ref d), some (.int many), none, some (.int c), none, none] ∧ H' = H3) ?_ ?_
        · refine ⟨_, rfl, _, _, rfl, rfl, ⟨by decide, by decide, by decide⟩, _, _, rfl, rfl, _, rfl, ite2 (fun _ => ?_) (fun _ => iteF ⟨rfl, rfl⟩)⟩
          refine ⟨_, rfl, d, _, 1, _, rfl, rfl, sq_of hd3, rfl, _, rfl, d, _, 0, _, rfl, rfl, sq_of hd3, rfl, l, _, rfl, .inl (sq_of (hlk k3)), _, _, rfl, rfl, _, rfl, ite2 (fun _ => ?_) (fun _ => ⟨rfl, rfl⟩)⟩
          refine ⟨_, rfl, _, rfl, _, _, rfl, rfl, dv _, _, rfl, d, _, 2, 2, rfl, rfl, hd3, rfl, ?_⟩
          exact ⟨_, rfl, .inl ⟨_, rfl, _, rfl, _, _, rfl, rfl, hm0, fin (a := sp + 1) (b := c / many) (k3.trans Kp.upd) upd_same (by omega) (md _)⟩⟩
        · rintro σ' H4 ⟨rfl, rfl⟩
          refine ⟨_, rfl, d, _, 3, _, rfl, rfl, sq_of hd3, rfl, ?_⟩
          have q1 : 197 * (calls + 1) ≤ 2 ^ 40 := by omega
          have q2 : 197 * (calls + 1) * (calls + 1 + 14) ≤ 2 ^ 40 * 2 ^ 21 := Int.mul_le_mul q1 (by omega) (by omega) (by decide)
          have q3 : 0 ≤ 197 * (calls + 1) * (calls + 1 + 14) := Int.mul_nonneg (by omega) (by omega)
          have kk1 : ∀ x : Int, (x % 1000010911 + 197 * (calls + 1) * (calls + 1 + 14) + 61).natAbs < 2 ^ 64 := fun x => by
            have o1 := Int.emod_nonneg x (show (1000010911 : Int) ≠ 0 by decide)
            have o2 := Int.emod_lt_of_pos x (show (0 : Int) < 1000010911 by decide)
            generalize 197 * (calls + 1) * (calls + 1 + 14) = t at q2 q3
            omega
          refine q_cut (M := fun σ' H' => ∃ m : Int, σ' = [some (.ref d), some (.int many), none, some (.int c), some (.int (calls + 1)), some (.int m)] ∧ H' = H4) ?_ ?_
          · exact ⟨_, rfl, .inl ⟨_, rfl, _, _, rfl, rfl, (show (0 : Int) < 1000010911 by decide), _, rfl, _, _, rfl, rfl, mulW (n := 60) (m := 60) (by decide) (by omega) (by decide), _, rfl, _, _, rfl, rfl, _, _, rfl, rfl, mulW (n := 60) (m := 60) (by omega) (by omega) (by decide), _, _, rfl, rfl, _, _, rfl, rfl, _, _, rfl, rfl, ⟨by decide, by decide, kk1 _⟩, .inl ⟨_, rfl, _, rfl, rfl⟩⟩⟩
          · rintro σ' H5 ⟨m, rfl, rfl⟩
            have kk2 : ∀ x : Int, (x % 2147483249 * (2 * (calls + 1) + 13) + 50263 * (calls + 1)).natAbs < 2 ^ 64 := fun x => by
              have o1 := Int.emod_nonneg x (show (2147483249 : Int) ≠ 0 by decide)
              have o2 := Int.emod_lt_of_pos x (show (0 : Int) < 2147483249 by decide)
              have o3 : x % 2147483249 * (2 * (calls + 1) + 13) ≤ 2 ^ 31 * 2 ^ 22 := Int.mul_le_mul (by omega) (by omega) (by omega) (by decide)
              have o4 : 0 ≤ x % 2147483249 * (2 * (calls + 1) + 13) := Int.mul_nonneg o1 (by omega)
              generalize x % 2147483249 * (2 * (calls + 1) + 13) = t at o3 o4
              omega
            refine q_cut (M := fun σ' H' => ∃ m : Int, σ' = [some (.ref d), some (.int many), none, some (.int c), some (.int (calls + 1)), some (.int m)] ∧ H' = H5) ?_ ?_
            · have o1 := Int.emod_nonneg m (show (2147483249 : Int) ≠ 0 by decide)
              have o2 := Int.emod_lt_of_pos m (show (0 : Int) < 2147483249 by decide)
              exact ⟨_, rfl, .inl ⟨_, rfl, _, _, rfl, rfl, (show (0 : Int) < 2147483249 by decide), _, rfl, _, _, rfl, rfl, mulW (n := 60) (m := 60) (by decide) (by omega) (by decide), _, _, rfl, rfl, _, _, rfl, rfl, mulW (n := 60) (m := 60) (by omega) (by omega) (by decide), _, rfl, _, _, rfl, rfl, mulW (n := 60) (m := 60) (by decide) (by omega) (by decide), _, _, rfl, rfl, _, _, rfl, rfl, ⟨by decide, by decide, kk2 _⟩, .inl ⟨_, rfl, _, rfl, rfl⟩⟩⟩
            · rintro σ' H6 ⟨m2, rfl, rfl⟩
              exact ⟨_, rfl, .inl ⟨_, rfl, _, _, rfl, rfl, (show (0 : Int) < 2147483171 by decide), _, _, rfl, rfl, wide_div (b := 60) (by decide) (by decide) (by decide) (by decide), .inl ⟨_, rfl, _, rfl, _, _, rfl, rfl, hm0, fin k3 hd3 (by omega) (md _)⟩⟩⟩
end
end K18
namespace K18
open PySem PySem.Spec PyProof.Rows L2 Evl Fx Fr Dt Tr
def FeedF (d l : Addr) : Fd := ⟨fun a => a = d, fun a => a = d ∨ a = l, fun n H => FeedAt H d l n, 1000000⟩
theorem FeedAt.loc {H H' : Hp} {d l : Addr} {n : Nat} (g : FeedAt H d l n) (k : ∀ a o, (a = d ∨ a = l) → H a = some o → H' a = some o) : FeedAt H' d l n := by
  obtain ⟨ns, s, r, c, h1, h2, h3⟩ := g
  exact ⟨ns, s, r, c, k _ _ (.inl rfl) h1, k _ _ (.inr rfl) h2, h3⟩
theorem FeedAt.up {H : Hp} {d l : Addr} {n m : Nat} (g : FeedAt H d l n) (h : n ≤ m) : FeedAt H d l m := by
  obtain ⟨ns, s, r, c, h1, h2, h3, h4, h5, h6, h7⟩ := g
  exact ⟨ns, s, r, c, h1, h2, h3, h4, h5, by omega, h7⟩
theorem FeedF.ok {d l : Addr} : (FeedF d l).Ok where
  sub := fun h => .inl h
  at_ := fun g t => by
    obtain ⟨ns, s, r, c, h1, h2, _⟩ := g
    rcases t with rfl | rfl
    · exact ⟨_, h1, .inl ⟨_, rfl⟩⟩
    · exact ⟨_, h2, .inl ⟨_, rfl⟩⟩
  loc := fun g k => g.loc k
  up := fun g h => g.up h
section
variable {P : Program} {w : World} {K : PySem.W.Frag} {mg : Str → Option Value} {base : Heap} {f f2 f3 : Addr} {fd fd2 fd3 : FuncData} {d l : Addr} {te ta tb : TE} {σ : L2.St} {H : Hp} {k ka kb n : Nat}
theorem kp_kx {H H' : Hp} (h : Kp d H H') : Kx (FeedF d l).S H H' := fun b o hb hn => h b o hb hn
theorem kx_kp {H H' : Hp} (h : Kx (FeedF d l).S H H') : Kp d H H' := fun b o hb hn => h b o hb hn
/-- a draw below many -/
def Below (many : Int) : VP := fun v _ => ∃ r, v = .int r ∧ 0 ≤ r ∧ r < many
theorem r_draw {many : Int} {E : XK} {i : Nat} (hd : σ[i]? = some (some (.ref d))) (hb : EvR (FeedF d l) tb σ H kb (fun x _ => x = .int many)) (h0 : 0 < many) (h1 : many < 2 ^ 60) : EvR (FeedF d l) (tCall spDraw [] E (tCons (tVar i) (tCons tb tNil))) σ H (kb + 1) (Below many) :=
  fun n H1 hn g e Q q => ⟨.ref d, hd, hb n H1 (by have : (FeedF d l).N = 1000000 := rfl; omega) g e _ fun y H2 e2 g2 ey => ⟨d, l, many, n + kb, by rw [ey]; rfl, g2, by have : (FeedF d l).N = 1000000 := rfl; omega, h0, h1, fun H3 r k3 g3 a1 a2 => q _ _ (e2.trans (kp_kx k3)) (by rw [← Nat.add_assoc]; exact g3) ⟨r, rfl, a1, a2⟩⟩⟩
/-- one of these data -/
def OneOf (K : PySem.W.Frag) (ds : List PyData) : VP := fun v H => ∃ x ∈ ds, Dp K H v x
theorem mono_one {F : Fd} {ds : List PyData} (o : F.Ok) (f : flats ds = true) : MonoF F (OneOf K ds) := fun n v H H' g e ⟨x, hx, p⟩ => ⟨x, hx, mono_d o (flats_all.mp f x hx) n _ _ _ g e p⟩
def spChoice (K : PySem.W.Frag) : Sp := fun vs H Q _ => ∃ (d l a : Addr) (xs : List V) (ds : List PyData) (n : Nat), vs = [.ref d, .ref a] ∧ FeedAt H d l n ∧ n + 1 ≤ 1000000 ∧ a ≠ d ∧ H a = some (.lst xs) ∧ DpAll K H xs ds ∧ flats ds = true ∧ ds ≠ [] ∧ ds.length ≤ 1000 ∧
  ∀ H' v, Kp d H H' → FeedAt H' d l (n + 1) → OneOf K ds v H' → Q v H'
theorem scChoice : FnScope ["_law_feed_here", "_law_some"] ["_law_feed_here", "_law_some"] (defScope (topS 43)) := ⟨rfl, rfl, rfl, by decide +kernel, rfl, by decide +kernel, by decide +kernel⟩
theorem ok_choice (F : Fun K "_law_choice" "_law_choice" (topS 43) f fd) (cD : C8.Cal P w K mg base 1 "_law_draw" spDraw []) (m_len : mg "len" = none) : FnOk P w K mg base CX0 2 f fd ["_law_feed_here", "_law_some"] (spChoice K) := by
  refine F.ok scChoice (fun vs H Q E h => ?_) (fun cdv A outer s H vs Q E hr h => ?_)
  · obtain ⟨d, l, a, xs, ds, n, rfl, _⟩ := h
    rfl
  · obtain ⟨d, l, a, xs, ds, n, rfl, hF, hn, had, ha, hx, hf, hne, hl, q⟩ := h
    refine ⟨_, pss_one (ps_ret (pe_ix ix_list (pv 1) (C8.pe_c cD hr (by decide) (by rfl) (pa_cons (pv 0) (pa_cons (pe_callB (r := rLenS K) call_lenS (by rfl) m_len PySem.boot_len (pa_cons (pv 1) pa_nil)) pa_nil))) (fun _ _ => rfl))), ?_⟩
    have lx := dps_len hx
    have hpos : 0 < ds.length := List.length_pos_iff.mpr hne
    refine ⟨.ref a, rfl, .ref d, rfl, .ref a, rfl, a, xs, rfl, .inl (sq_of ha), d, l, (xs.length : Int), n, rfl, hF, by omega, by omega, by omega, fun H' r k g a1 a2 => ?_⟩
    have hj : r.toNat < xs.length := by omega
    have hj2 : r.toNat < ds.length := by omega
    have hx' := mono_ds (FeedF.ok (d := d) (l := l)) hf n _ _ _ hF (kp_kx k) hx
    obtain ⟨u, hu, du⟩ := dps_get hx' (List.getElem?_eq_getElem hj2)
    exact ⟨a, xs, r, u, rfl, rfl, sq_of (k _ _ ha had), at_of (j := r.toNat) (by omega) hu, q H' u k g ⟨_, List.getElem_mem hj2, du⟩⟩
theorem r_choice {E : XK} {i : Nat} {ds : List PyData} (hd : σ[i]? = some (some (.ref d))) (hb : EvR (FeedF d l) tb σ H kb (IsL (FeedF d l) K ds)) (hf : flats ds = true) (hne : ds ≠ []) (hl : ds.length ≤ 1000) : EvR (FeedF d l) (tCall (spChoice K) [] E (tCons (tVar i) (tCons tb tNil))) σ H (kb + 1) (OneOf K ds) :=
  fun n H1 hn g e Q q => ⟨.ref d, hd, hb n H1 (by have : (FeedF d l).N = 1000000 := rfl; omega) g e _ fun y H2 e2 g2 ⟨a, xs, ey, hT, ha, hx⟩ => ⟨d, l, a, xs, ds, n + kb, by rw [ey]; rfl, g2, by have : (FeedF d l).N = 1000000 := rfl; omega, fun z => hT (.inl z), ha, hx, hf, hne, hl, fun H3 v k3 g3 p => q _ _ (e2.trans (kp_kx k3)) (by rw [← Nat.add_assoc]; exact g3) p⟩⟩
end
end K18
namespace Tr
open PySem PySem.Spec PyProof.Rows L2 Evl Fx Fr Dt
theorem lot_of {x : Rat} (h0 : 0 ≤ x.num) (h1 : x.num < (x.den : Int)) (h2 : x.den < 2 ^ 60) : Lot x := by
  refine ⟨⟨by omega, h2⟩, Rat.num_nonneg.mp h0, ?_⟩
  rw [Rat.lt_iff]
  have e1 : (1 : Rat).den = 1 := rfl
  have e2 : (1 : Rat).num = 1 := rfl
  rw [e1, e2]
  omega
def lots : List Rat := [⟨0, 1, by decide, by decide⟩, ⟨1, 2, by decide, by decide⟩, ⟨1, 3, by decide, by decide⟩, ⟨11, 12, by decide, by decide⟩, ⟨1, 12, by decide, by decide⟩, ⟨5, 12, by decide, by decide⟩, ⟨3, 4, by decide, by decide⟩, ⟨1, 6, by decide, by decide⟩, ⟨2, 3, by decide, by decide⟩, ⟨1, 4, by decide, by decide⟩, ⟨99, 100, by decide, by decide⟩]
theorem lots_lot : ∀ x ∈ lots, Lot x := by
  intro x hx
  simp only [lots, List.mem_cons, List.not_mem_nil, or_false] at hx
  rcases hx with rfl | rfl | rfl | rfl | rfl | rfl | rfl | rfl | rfl | rfl | rfl <;> exact lot_of (by decide) (by decide) (by decide)
theorem lots_flat : flats (lots.map frD) = true := flats_all.mpr fun d hd => by
  obtain ⟨b, _, rfl⟩ := List.mem_map.mp hd
  rfl
def Pl.Sm (x : Pl) : Prop := ∀ i : Int, PyData.int i ∈ x.more → i.natAbs < 1000
theorem sm_two {x : Pl} {p q : Int} (e : x.more = [.int p, .int q]) (h1 : p.natAbs < 1000) (h2 : q.natAbs < 1000) : x.Sm := fun i hi => by
  rw [e] at hi
  simp only [List.mem_cons, List.not_mem_nil, or_false, PyData.int.injEq] at hi
  rcases hi with rfl | rfl <;> assumption
theorem sm_nil {x : Pl} (e : x.more = []) : x.Sm := fun i hi => by
  rw [e] at hi
  cases hi
def lows : List Int := [2, 3, 1, 4, 6, 12]
def wordsP : List Str := ["own", "own", "shared", "caller", "bad", "late", "never", "shared"]
end Tr
namespace K18
open PySem PySem.Spec PyProof.Rows L2 Evl Fx Fr Dt Tr
section
variable {P : Program} {w : World} {K : PySem.W.Frag} {mg : Str → Option Value} {base : Heap} {f f2 f3 : Addr} {fd fd2 fd3 : FuncData} {d l : Addr} {te ta tb : TE} {σ : L2.St} {H : Hp} {k ka kb n : Nat}
/-- a def of the feed alone: m draws, a value of which Pm holds -/
def spFeedM (m : Nat) (Pm : VP) : Sp := fun vs H Q _ => ∃ (d l : Addr) (n : Nat), vs = [.ref d] ∧ FeedAt H d l n ∧ n + m ≤ 1000000 ∧ ∀ H' v, Kp d H H' → FeedAt H' d l (n + m) → Pm v H' → Q v H'
def LotD (K : PySem.W.Frag) : VP := fun v H => ∃ x, x ∈ lots ∧ Dp K H v (frD x)
def PlD (K : PySem.W.Frag) : VP := fun v H => ∃ x : Pl, x.Ok ∧ x.Sm ∧ Dp K H v x.D
theorem r_feedM {m : Nat} {Pm : VP} {E : XK} {i : Nat} (hd : σ[i]? = some (some (.ref d))) : EvR (FeedF d l) (tCall (spFeedM m Pm) [] E (tCons (tVar i) tNil)) σ H m Pm :=
  fun n H1 hn g e Q q => ⟨.ref d, hd, d, l, n, rfl, g, by have : (FeedF d l).N = 1000000 := rfl; omega, fun H3 v k3 g3 p => q _ _ (kp_kx k3) g3 p⟩
theorem ra_nilP {F : Fd} : EvRA F tNil σ H 0 (fun vs _ => vs = []) := fun n1 H1 hn g e Q q => q _ H1 Kx.refl g rfl
theorem ra_consP {F : Fd} {tr : TA} {Px : VP} {Pr : List V → Hp → Prop} (m : MonoF F Px) (h : EvR F te σ H ka Px) (hr : EvRA F tr σ H kb Pr) : EvRA F (tCons te tr) σ H (ka + kb) (fun vs H => ∃ x r, vs = x :: r ∧ Px x H ∧ Pr r H) :=
  fun n H1 hn g e Q q => h n H1 (by omega) g e _ fun x H2 e2 g2 p => hr (n + ka) H2 (by omega) g2 (e.trans e2) _ fun vs H3 e3 g3 p' => q (x :: vs) H3 (e2.trans e3) (by rw [← Nat.add_assoc]; exact g3) ⟨x, vs, rfl, m _ _ _ _ g2 e3 p, p'⟩
theorem r_tupP {F : Fd} {tr : TA} {Pr : List V → Hp → Prop} (o : F.Ok) (m : MonoA F Pr) (h : EvRA F tr σ H ka Pr) (hl : ∀ vs H, Pr vs H → vs.length ≤ 100000) : EvR F (tTup tr) σ H ka (fun v H => ∃ p vs, v = .ref p ∧ H p = some (.tup vs) ∧ Pr vs H) :=
  fun n H1 hn g e Q q => h n H1 hn g e _ fun vs H2 e2 g2 p => ⟨sz_of (hl _ _ p), fun a ha => q (.ref a) _ (e2.trans (Kx.ex (Ex.new ha))) (o.ex g2 (Ex.new ha)) ⟨a, vs, rfl, upd_same, m _ _ _ _ g2 (Kx.ex (Ex.new ha)) p⟩⟩
theorem mono_below {F : Fd} {m : Int} : MonoF F (Below m) := fun _ _ _ _ _ _ p => p
theorem mono_nilP {F : Fd} : MonoA F (fun vs _ => vs = []) := fun _ _ _ _ _ _ p => p
theorem mono_consP {F : Fd} {Px : VP} {Pr : List V → Hp → Prop} (m : MonoF F Px) (m' : MonoA F Pr) : MonoA F (fun vs H => ∃ x r, vs = x :: r ∧ Px x H ∧ Pr r H) := fun n v H H' g e ⟨x, r, h1, h2, h3⟩ => ⟨x, r, h1, m n _ _ _ g e h2, m' n _ _ _ g e h3⟩
theorem ra_frs {F : Fd} (o : F.Ok) : EvRA F (tCons (tTup (tCons (tC (.int 0)) (tCons (tC (.int 1)) tNil))) (tCons (tTup (tCons (tC (.int 1)) (tCons (tC (.int 2)) tNil))) (tCons (tTup (tCons (tC (.int 1)) (tCons (tC (.int 3)) tNil))) (tCons (tTup (tCons (tC (.int 11)) (tCons (tC (.int 12)) tNil))) (tCons (tTup (tCons (tC (.int 1)) (tCons (tC (.int 12)) tNil))) (tCons (tTup (tCons (tC (.int 5)) (tCons (tC (.int 12)) tNil)))
    (tCons (tTup (tCons (tC (.int 3)) (tCons (tC (.int 4)) tNil))) (tCons (tTup (tCons (tC (.int 1)) (tCons (tC (.int 6)) tNil))) (tCons (tTup (tCons (tC (.int 2)) (tCons (tC (.int 3)) tNil))) (tCons (tTup (tCons (tC (.int 1)) (tCons (tC (.int 4)) tNil))) (tCons (tTup (tCons (tC (.int 99)) (tCons (tC (.int 100)) tNil))) tNil))))))))))) σ H 0 (fun vs H => DpAll K H vs (lots.map frD)) := by
  have pr : ∀ {p q : Int}, EvR F (tTup (tCons (tC (.int p)) (tCons (tC (.int q)) tNil))) σ H 0 (IsD K (.tuple [.int p, .int q])) := fun {p q} => rd_tup o (ra_cons (ka := 0) (kb := 0) o rd_int (ra_cons (ka := 0) (kb := 0) o rd_int ra_nil))
  exact ra_cons (ka := 0) (kb := 0) o pr (ra_cons (ka := 0) (kb := 0) o pr (ra_cons (ka := 0) (kb := 0) o pr (ra_cons (ka := 0) (kb := 0) o pr (ra_cons (ka := 0) (kb := 0) o pr (ra_cons (ka := 0) (kb := 0) o pr (ra_cons (ka := 0) (kb := 0) o pr (ra_cons (ka := 0) (kb := 0) o pr (ra_cons (ka := 0) (kb := 0) o pr (ra_cons (ka := 0) (kb := 0) o pr (ra_cons (ka := 0) (kb := 0) o pr ra_nil))))))))))
end
end K18
namespace Tr
open PySem PySem.Spec PyProof.Rows L2 Evl Fx Dt
open PySem.W (alike alikeAll AllAlike Sortable dataLe)
mutual
theorem enc_alike : ∀ a b : T, alike (enc a) (enc b) = true
  | .mk s m cs, .mk s' m' cs' => by
    rw [enc, enc]
    simp only [alike, alikeAll, Bool.true_and, Bool.and_true]
    exact encs_alike cs cs'
theorem encs_alike : ∀ a b : List T, alikeAll (encs a) (encs b) = true
  | [], _ => by rw [encs]; simp [alikeAll]
  | _ :: _, [] => by rw [encs, encs]; simp [alikeAll]
  | x :: xs, y :: ys => by rw [encs, encs, alikeAll, enc_alike x y, encs_alike xs ys]; rfl
end
mutual
theorem enc_depth : ∀ t : T, PyData.depth (enc t) ≤ 2 * size t
  | .mk s m cs => by
    have := encs_depth cs
    rw [enc, size]
    simp only [PyData.depth, PyData.depthAll]
    omega
theorem encs_depth : ∀ ts : List T, PyData.depthAll (encs ts) ≤ 2 * sizes ts
  | [] => by rw [encs]; simp [PyData.depthAll]
  | t :: ts => by
    have h1 := enc_depth t
    have h2 := encs_depth ts
    rw [encs, sizes, PyData.depthAll]
    omega
end
theorem all_alike (ts : List T) : AllAlike (ts.map enc) := fun d hd d' hd' => by
  obtain ⟨a, _, rfl⟩ := List.mem_map.mp hd
  obtain ⟨b, _, rfl⟩ := List.mem_map.mp hd'
  exact enc_alike a b
theorem all_sortable (ts : List T) : Sortable (ts.map enc) := .inl fun d hd => by
  obtain ⟨a, _, rfl⟩ := List.mem_map.mp hd
  exact ⟨_, _, enc_eq a⟩
def sortT (ts : List T) : List T := ts.mergeSort fun a b => dataLe false id (enc a) (enc b)
theorem sort_map (ts : List T) : (ts.map enc).mergeSort (dataLe false id) = (sortT ts).map enc :=
  (List.map_mergeSort (r := fun a b => dataLe false id (enc a) (enc b)) (s := dataLe false id) (f := enc) (l := ts) (fun _ _ _ _ => rfl)).symm
theorem sort_perm (ts : List T) : (sortT ts).Perm ts := List.mergeSort_perm _ _
theorem sizes_perm {a b : List T} (h : a.Perm b) : sizes a = sizes b := by
  induction h with
  | nil => rfl
  | cons x _ ih => rw [sizes, sizes, ih]
  | swap x y l => rw [sizes, sizes, sizes, sizes]; omega
  | trans _ _ h1 h2 => exact h1.trans h2
theorem mem_subsA : ∀ {ts : List T} {s : T}, s ∈ subsA ts → ∃ c ∈ ts, s ∈ subs c
  | [], s, h => by rw [subsA] at h; cases h
  | t :: ts, s, h => by
    rw [subsA, List.mem_append] at h
    rcases h with h | h
    · exact ⟨t, List.mem_cons_self .., h⟩
    · obtain ⟨c, hc, hs⟩ := mem_subsA h
      exact ⟨c, List.mem_cons_of_mem _ hc, hs⟩
theorem depth_mem {ts : List T} : ∀ d ∈ ts.map enc, PyData.depth d ≤ 2 * sizes ts := fun d hd => by
  obtain ⟨a, ha, rfl⟩ := List.mem_map.mp hd
  obtain ⟨i, hi, rfl⟩ := List.getElem_of_mem ha
  have h1 := enc_depth ts[i]
  have h2 : size ts[i] ≤ sizes ts := by
    have : ∀ {ts : List T} {i : Nat} {c : T}, ts[i]? = some c → size c ≤ sizes ts := fun h => size_mem h
    exact this (List.getElem?_eq_getElem hi)
  omega
end Tr
namespace Dt
open PySem PySem.Spec PyProof.Rows L2 Evl Fx
theorem q_forRg {F : Fd} {te : TE} {σ : L2.St} {H : Hp} {k n j : Nat} {P : VP} {tb tz : TS} {D : Ends} (h : EvR F te σ H k P) (g0 : F.G n H) (hn : n + k ≤ F.N)
    (kk : ∀ v H1, Kx F.S H H1 → F.G (n + k) H1 → P v H1 → ∃ (m : Nat) (Pv : Nat → L2.St → Hp → Prop), v = .int (m : Int) ∧ m ≤ 40000 ∧ Pv 0 σ H1 ∧ (∀ i σ' H', i < m → Pv i σ' H' → tb { D with nx := Pv (i + 1), ct := Pv (i + 1), bk := tz D } (σ'.set j (some (.int (i : Int)))) H') ∧ ∀ σ' H', Pv m σ' H' → tz D σ' H') :
    tSeq (tFor (iRng1 (tCons te tNil)) (gName j) tb) tz D σ H := h n H hn g0 Kx.refl _ fun v H1 e1 g1 p => by
  obtain ⟨m, Pv, rfl, hm, h0, hs, hd⟩ := kk v H1 e1 g1 p
  refine ⟨(m : Int), rfl, by omega, by omega, ?_⟩
  rw [Int.toNat_natCast]
  exact for_range (lo := 0) (n := m) Pv h0 (fun i σ' H' hi p => by
    have e0 : (0 : Int) + (i : Int) = (i : Int) := Int.zero_add _
    show tb { D with nx := Pv (i + 1), ct := Pv (i + 1), bk := tz D } (σ'.set j (some (.int ((0 : Int) + (i : Int))))) H'
    rw [e0]
    exact hs i σ' H' hi p) hd
end Dt
namespace K18
open PySem PySem.Spec PyProof.Rows L2 Evl Fx Fr Dt Tr
theorem scTree : FnScope ["_law_feed_here", "_law_left", "_law_deep", "_law_name", "_law_mark", "_law_calls", "_law_k"] ["_law_feed_here", "_law_left", "_law_deep"] (defScope (topS 49)) := ⟨rfl, rfl, rfl, by decide +kernel, rfl, by decide +kernel, by decide +kernel⟩
def LeftF (d l e : Addr) : Fd := ⟨fun a => a = d ∨ a = e, fun a => a = d ∨ a = l ∨ a = e, fun n H => FeedAt H d l n ∧ e ≠ d ∧ e ≠ l ∧ ∃ k : Nat, H e = some (.lst [.int (k : Int)]), 1000000⟩
theorem LeftF.ok {d l e : Addr} : (LeftF d l e).Ok where
  sub := fun h => h.elim (fun h => .inl h) fun h => .inr (.inr h)
  at_ := fun {n H a} g t => by
    obtain ⟨⟨ns, s, r, c, h1, h2, _⟩, _, _, k, h3⟩ := g
    rcases t with rfl | rfl | rfl
    · exact ⟨_, h1, .inl ⟨_, rfl⟩⟩
    · exact ⟨_, h2, .inl ⟨_, rfl⟩⟩
    · exact ⟨_, h3, .inl ⟨_, rfl⟩⟩
  loc := fun g k => ⟨g.1.loc fun a o t => k a o (t.elim (fun h => .inl h) fun h => .inr (.inl h)), g.2.1, g.2.2.1, by
    obtain ⟨_, _, _, m, h⟩ := g
    exact ⟨m, k _ _ (.inr (.inr rfl)) h⟩⟩
  up := fun g h => ⟨g.1.up h, g.2⟩
section
variable {P : Program} {w : World} {K : PySem.W.Frag} {mg : Str → Option Value} {base : Heap} {f f2 f3 : Addr} {fd fd2 fd3 : FuncData} {d l e : Addr} {te ta tb : TE} {σ : L2.St} {H : Hp} {k ka kb n : Nat}
def Nice (t : T) : Prop := ∀ s ∈ subs t, (s.name = "db" ∨ s.name = "front" ∨ s.name = "pay") ∧ (s.mark = 0 ∨ s.mark = 1)
/-- a tree, m calls left at the most: what it uses of them -/
def spTree (K : PySem.W.Frag) (m : Nat) : Sp := fun vs H Q _ => ∃ (d l e : Addr) (deep n k : Nat), vs = [.ref d, .ref e, .int (deep : Int)] ∧ deep < m ∧ FeedAt H d l n ∧ e ≠ d ∧ e ≠ l ∧ H e = some (.lst [.int (k : Int)]) ∧ k ≤ 10 ∧ n + 3 * (1 + k) ≤ 1000000 ∧
  ∀ H' v t k', Kx (LeftF d l e).S H H' → size t + k' ≤ 1 + k → FeedAt H' d l (n + 3 * size t) → H' e = some (.lst [.int ((k' : Nat) : Int)]) → Nice t → Dp K H' v (enc t) → Q v H'
theorem ok_tree (F : Fun K "_law_some_tree" "_law_some_tree" (topS 49) f fd) (gl : mg "_law_some_tree" = some (.ref f)) (B : Binds K fd ["_law_feed_here", "_law_left", "_law_deep"] []) (cC : C8.Cal P w K mg base 2 "_law_choice" (spChoice K) []) (cD : C8.Cal P w K mg base 1 "_law_draw" spDraw []) (m_int : mg "int" = none) (m_range : mg "range" = none) (m_tuple : mg "tuple" = none) (m_sorted : mg "sorted" = none) :
    ∀ m, FnOk P w K mg base CX0 (m + 2) f fd ["_law_feed_here", "_law_left", "_law_deep"] (spTree K m)
  | 0 => by
    refine ⟨fun vs H Q E h => ?_, fun A outer s H args us vs Q E hr he hb hv h => ?_⟩
    · obtain ⟨d, l, e, deep, n, k, _, h, _⟩ := h
      exact absurd h (Nat.not_lt_zero _)
    · obtain ⟨d, l, e, deep, n, k, _, h, _⟩ := h
      exact absurd h (Nat.not_lt_zero _)
  | m + 1 => by
    have cT := cal F (ok_tree F gl B cC cD m_int m_range m_tuple m_sorted m) gl B
    refine F.ok scTree (fun vs H Q E h => ?_) (fun cdv A outer s H vs Q E hr h => ?_)
    · obtain ⟨d, l, e, deep, n, k, rfl, _⟩ := h
      rfl
    · obtain ⟨d, l, e, deep, n, k, rfl, hm, hF, ned, nel, he, hk, hn, q⟩ := h
      refine ⟨_, pss_cons (ps_par3 (i := 3) (j := 4) (l := 5) rfl scTree.nd rfl rfl rfl (by decide) (by decide) (by decide) rfl rfl rfl (pa_cons (C8.pe_c cC hr (by omega) (by rfl) (pa_cons (pv 0) (pa_cons (pe_lst (pa_cons pe_str (pa_cons pe_str (pa_cons pe_str pa_nil)))) pa_nil))) (pa_cons (pe_callTy call_int1 (by rfl) m_int (by decide +kernel) (pa_cons (pe_cmpR op_eq (C8.pe_c cD hr (by omega) (by rfl) (pa_cons (pv 0) (pa_cons pe_int pa_nil))) pe_int (nomark _)) pa_nil)) (pa_cons (pe_lst pa_nil) pa_nil))) (by rfl))
        (pss_cons (ps_for PassesOwn.never rfl (pi_range1 (by rfl) m_range (pa_cons (pe_ifExp (pt_cmpR op_gt (pv 2) pe_int (nomark _)) (C8.pe_c cD hr (by omega) (by rfl) (pa_cons (pv 0) (pa_cons pe_int pa_nil))) pe_int) pa_nil)) (pg_name (i := 6) scTree.nd rfl (.inl rfl))
          (pss_one (ps_if (pt_cmpR op_gt (pe_ix ix_list (pv 1) pe_int (fun _ _ => rfl)) pe_int (nomark _))
            (pss_cons (ps_asg (pe_op op_sub (pe_ix ix_list (pv 1) pe_int (fun _ _ => rfl)) pe_int) (pg_sub (pv 1) pe_int set_list (fun _ => rfl)))
            (pss_one (ps_expr (pe_bm PySem.F.plainAttrs_list PySem.F.slot_list_append PySem.F.type_list_append mt_append (pv 5) (pa_cons (C8.pe_c cT hr (by omega) (by rfl) (pa_cons (pv 0) (pa_cons (pv 1) (pa_cons (pe_op op_sub (pv 2) pe_int) pa_nil)))) pa_nil))))) pss_nil)))
        (pss_one (ps_ret (pe_tup (pa_cons (pv 3) (pa_cons (pv 4) (pa_cons (pe_callTy (T := "tuple") (r := rTupOf K) call_tupleOf (by rfl) m_tuple (by decide +kernel) (pa_cons (pe_callB (r := rSortD K) (cr_sortedD hr.units) (by rfl) m_sorted (by decide +kernel) (pa_cons (pv 5) pa_nil)) pa_nil)) pa_nil))))))), ?_⟩
      have N0 : (FeedF d l).N = 1000000 := rfl
      have N1 : (LeftF d l e).N = 1000000 := rfl
      have strs3 : ∀ {σ : L2.St} {H : Hp}, EvRA (FeedF d l) (tCons (tC (.str "db")) (tCons (tC (.str "front")) (tCons (tC (.str "pay")) tNil))) σ H 0 (fun vs H => DpAll K H vs ([("db" : Str), "front", "pay"].map PyData.str)) := fun {σ H} =>
        ra_cons (ka := 0) (kb := 0) FeedF.ok rd_str (ra_cons (ka := 0) (kb := 0) FeedF.ok rd_str (ra_cons (ka := 0) (kb := 0) FeedF.ok rd_str ra_nil))
      have ch := r_choice (K := K) (d := d) (l := l) (σ := [some (.ref d), some (.ref e), some (.int (deep : Int)), none, none, none, none]) (H := H) (E := C8.E0) (i := 0) (kb := 0) (ds := [("db" : Str), "front", "pay"].map PyData.str) rfl (rl_lst FeedF.ok strs3 (hl := by decide)) rfl (by decide) (by decide)
      refine q_par3 (q_cons (ch n H (by omega) hF Kx.refl _ fun w1 H1 e1 g1 ⟨x1, hx1, p1⟩ => q_cons ?_))
      obtain ⟨nm, hnm, rfl⟩ := List.mem_map.mp hx1
      cases p1
      replace e1 := kx_kp e1
      refine ⟨.ref d, rfl, d, l, 3, n + (0 + 1), rfl, g1, by omega, by decide, by decide, fun H2 r k2 g2 a1 a2 => ⟨rfl, .inr ⟨_, rfl, by decide, fun A hA => ⟨_, _, _, rfl, ?_⟩⟩⟩⟩
      have e3 := Ex.new (o := HO.lst []) hA
      have k3 : Kp d H (upd H2 A (.lst [])) := (e1.trans k2).trans (Kp.ex e3)
      have g3 : FeedAt (upd H2 A (.lst [])) d l (n + 2) := FeedF.ok.ex g2 e3
      have hA3 : upd H2 A (.lst []) A = some (.lst []) := upd_same
      have nA : H A = none := kx_none (FeedF.ok (d := d) (l := l)) g2 (kp_kx (e1.trans k2)) hA
      generalize hmk : (if decide (V.int r = V.int 0) = true then (1 : Int) else 0) = mk
      change tSeq _ _ _ [some (.ref d), some (.ref e), some (.int (deep : Int)), some (.str nm), some (.int mk), some (.ref A), none] (upd H2 A (.lst []))
      generalize upd H2 A (.lst []) = H3 at k3 g3 hA3 ⊢
      have hdH : ∃ o, H d = some o := by
        obtain ⟨ns, s, r, c, h1, _⟩ := hF
        exact ⟨_, h1⟩
      have nAd : A ≠ d := by
        rintro rfl
        obtain ⟨o, h⟩ := hdH
        rw [nA] at h
        cases h
      have nAe : A ≠ e := by
        rintro rfl
        rw [nA] at he
        cases he
      have nAS : ¬ (LeftF d l e).S A := fun z => z.elim nAd nAe
      have rng : EvR (FeedF d l) (tIf (tTest (tOp (rI0 fun i j => .bl (decide (i > j))) (tVar 2) (tC (.int 0)))) (tCall spDraw [] C8.E0 (tCons (tVar 0) (tCons (tC (.int 3)) tNil))) (tC (.int 0))) [some (.ref d), some (.ref e), some (.int (deep : Int)), some (.str nm), some (.int mk), some (.ref A), none] H3 (0 + 1) (fun v _ => ∃ r : Nat, v = .int (r : Int) ∧ r ≤ 2 ∧ (0 < r → 0 < deep)) := by
        refine r_if (ka := 0) (kb := 1) (b := decide ((deep : Int) > 0)) FeedF.ok (rt_val (rv_op (ka := 0) (kb := 0) FeedF.ok (rv_var rfl) rv_c fun _ => rv_I0)) (fun hb => ?_) fun hb => ?_
        · exact EvR.imp (r_draw (kb := 0) rfl rv_c (by decide) (by decide)) fun _ v _ _ _ ⟨r, ev, r0, r1⟩ => ⟨r.toNat, by rw [ev, Int.toNat_of_nonneg r0], by omega, fun _ => by have := of_decide_eq_true hb; omega⟩
        · exact EvR.up FeedF.ok (EvR.imp rv_c fun _ v _ _ _ ev => ⟨0, ev, by decide, fun h => absurd h (by decide)⟩) (by decide)
      refine q_forRg (F := FeedF d l) (n := n + 2) (k := 0 + 1) rng g3 (by omega) fun v H4 e4 g4 ⟨r, ev, r2, rd0⟩ => ?_
      replace e4 := kx_kp e4
      have k4 : Kx (LeftF d l e).S H H4 := fun b o hb hn => (k3.trans e4) b o hb fun z => hn (.inl z)
      have he4 : H4 e = some (.lst [.int (k : Int)]) := (k3.trans e4) _ _ he ned
      refine ⟨r, fun i σ' H' => ∃ (cs : List T) (xs : List V) (u6 : Option V) (kk : Nat), σ' = [some (.ref d), some (.ref e), some (.int (deep : Int)), some (.str nm), some (.int mk), some (.ref A), u6] ∧ Kx (LeftF d l e).S H H' ∧ FeedAt H' d l (n + 3 + 3 * sizes cs) ∧ H' e = some (.lst [.int (kk : Int)]) ∧ sizes cs + kk ≤ k ∧ H' A = some (.lst xs) ∧ DpAll K H' xs (cs.map enc) ∧ ∀ c ∈ cs, Nice c, ev, by omega,
        ⟨[], [], none, k, rfl, k4, by rw [sizes]; exact g4, he4, by rw [sizes]; omega, e4 _ _ hA3 nAd, .nil, fun c h => by cases h⟩, fun i σ' H' hi ⟨cs, xs, u6, kk, es, kx, gF, hle, hsz, hA', dx, hc⟩ => ?_, fun σ' H' ⟨cs, xs, u6, kk, es, kx, gF, hle, hsz, hA', dx, hc⟩ => ?_⟩
      · subst es
        have hd0 := rd0 (by omega)
        refine ⟨_, rfl, e, _, 0, _, rfl, rfl, sq_of hle, rfl, _, _, rfl, rfl, _, rfl, ite2 (fun hb => ?_) (fun _ => ⟨cs, xs, _, kk, rfl, kx, gF, hle, hsz, hA', dx, hc⟩)⟩
        have hkk : 0 < kk := by have := of_decide_eq_true hb; omega
        refine ⟨_, rfl, e, _, 0, _, rfl, rfl, sq_of hle, rfl, _, _, rfl, rfl, _, rfl, e, _, 0, 0, rfl, rfl, hle, rfl, ?_⟩
        have ekk : (kk : Int) - 1 = ((kk - 1 : Nat) : Int) := by omega
        have k5 : Kx (LeftF d l e).S H (upd H' e (.lst [.int ((kk - 1 : Nat) : Int)])) := kx.at (.inr rfl)
        have g5 : FeedAt (upd H' e (.lst [.int ((kk - 1 : Nat) : Int)])) d l (n + 3 + 3 * sizes cs) := gF.loc fun a o t ha => by
          have : a ≠ e := t.elim (fun z y => ned (y.symm.trans z)) fun z y => nel (y.symm.trans z)
          rw [upd_ne this]
          exact ha
        have he5 : upd H' e (.lst [.int ((kk - 1 : Nat) : Int)]) e = some (.lst [.int ((kk - 1 : Nat) : Int)]) := upd_same
        have hA5 : upd H' e (.lst [.int ((kk - 1 : Nat) : Int)]) A = some (.lst xs) := by rw [upd_ne nAe]; exact hA'
        have dx5 : DpAll K (upd H' e (.lst [.int ((kk - 1 : Nat) : Int)])) xs (cs.map enc) := dps_kt (kt_lst hle) _ _ (maps_flat cs) dx
        dsimp only [List.set]
        rw [ekk]
        generalize upd H' e (.lst [.int ((kk - 1 : Nat) : Int)]) = H5 at k5 g5 he5 hA5 dx5 ⊢
        have ed : (deep : Int) - 1 = ((deep - 1 : Nat) : Int) := by omega
        refine ⟨.ref A, rfl, .inl ⟨rfl, xs, sq_of hA5⟩, .ref d, rfl, .ref e, rfl, _, rfl, _, _, rfl, rfl, d, l, e, deep - 1, n + 3 + 3 * sizes cs, kk - 1, by rw [← ed]; rfl, by omega, g5, ned, nel, he5, by omega, by omega, fun H6 v t k' k6 hst g6 he6 nt dt => ?_⟩
        have hA6 : H6 A = some (.lst xs) := k6 _ _ hA5 nAS
        have dx6 : DpAll K H6 xs (cs.map enc) := mono_ds (LeftF.ok (d := d) (l := l) (e := e)) (maps_flat cs) (n + 3 + 3 * sizes cs) _ _ _ ⟨g5, ned, nel, _, he5⟩ k6 dx5
        have lx := dps_len dx6
        have lcs := len_sizes cs
        rw [List.length_map] at lx
        have k7 : KT K H6 (upd H6 A (.lst (xs ++ [v]))) := kt_lst hA6
        have es1 : sizes (cs ++ [t]) = sizes cs + size t := by rw [sizes_app, sizes, sizes, Nat.add_zero]
        refine ⟨A, xs, v, rfl, rfl, hA6, sz_lt (by omega), cs ++ [t], xs ++ [v], _, k', rfl, (k5.trans k6).mut nA, ?_, by rw [upd_ne (Ne.symm nAe)]; exact he6, by rw [es1]; omega, upd_same, ?_, fun c hcm => ?_⟩
        · have g7 : FeedAt (upd H6 A (.lst (xs ++ [v]))) d l (n + 3 + 3 * sizes cs + 3 * size t) := g6.loc fun a o t' ha => by
            have : a ≠ A := by
              rintro rfl
              rcases t' with z | z
              · exact nAd z
              · subst z
                obtain ⟨ns, s, r, c, h1, h2, _⟩ := hF
                rw [nA] at h2
                cases h2
            rw [upd_ne this]
            exact ha
          rw [es1]
          have : n + 3 + 3 * (sizes cs + size t) = n + 3 + 3 * sizes cs + 3 * size t := by omega
          rw [this]
          exact g7
        · rw [List.map_append]
          exact dps_snoc (dps_kt k7 _ _ (maps_flat cs) dx6) (dp_kt k7 _ _ (enc_flat t) dt)
        · rcases List.mem_append.mp hcm with h | h
          · exact hc c h
          · cases List.mem_singleton.mp h
            exact nt
      · subst es
        have lcs := len_sizes cs
        have et : size (T.mk nm mk (sortT cs)) = 1 + sizes cs := by rw [size, sizes_perm (sort_perm cs)]; omega
        refine s_retR (F := F0) (n := 0) (k := 0) (P := IsD K (enc (T.mk nm mk (sortT cs)))) (EvR.cast (rd_tup F0.ok (ra_cons (ka := 0) (kb := 0) F0.ok (rd_ofS (rv_var rfl)) (ra_cons (ka := 0) (kb := 0) F0.ok (rd_ofI (rv_var rfl)) (ra_cons (ka := 0) (kb := 0) F0.ok (rd_tupOf F0.ok (rl_sorted F0.ok (rl_var F0.ok (n := 0) F0.g rfl ⟨A, xs, rfl, fun z => z, hA', dx⟩ (maps_flat cs)) (all_alike cs) (all_sortable cs) fun dd hdd => by have := depth_mem dd hdd; omega)) ra_nil (by rw [sort_map]; exact maps_flat _)))) (by rw [flats_cons, flats_cons, flats_cons, sort_map]; exact ⟨rfl, rfl, maps_flat _, rfl⟩)) (by rw [sort_map, enc_eq]; rfl)) F0.g (Nat.le_refl _) fun v H6 e6 _ p => ?_
        replace e6 := F0.ex e6
        refine q H6 v (T.mk nm mk (sortT cs)) kk (kx.trans (Kx.ex e6)) (by rw [et]; omega) ?_ (e6 _ _ hle) (fun s' hs' => ?_) p
        · rw [et]
          have : n + 3 * (1 + sizes cs) = n + 3 + 3 * sizes cs := by omega
          rw [this]
          exact gF.loc fun a o _ h => e6 _ _ h
        · rw [subs] at hs'
          rcases List.mem_cons.mp hs' with rfl | h
          · have hnm' : nm = "db" ∨ nm = "front" ∨ nm = "pay" := by
              simp only [List.mem_cons, List.not_mem_nil, or_false] at hnm
              exact hnm
            have hmk' : mk = 0 ∨ mk = 1 := by
              rw [← hmk]
              split
              · exact .inr rfl
              · exact .inl rfl
            exact ⟨hnm', hmk'⟩
          · obtain ⟨c, hcm, hs2⟩ := mem_subsA h
            exact hc c ((sort_perm cs).mem_iff.mp hcm) s' hs2
end
end K18
namespace Tr
open PySem PySem.Spec PyProof.Rows L2
def leaf (s : Str) (m : Int) : T := .mk s m []
def docT : List T := [leaf "front" 0, .mk "front" 0 [leaf "pay" 0], .mk "front" 0 [leaf "pay" 1]]
def docR : List (Str × Ru) := [("front", .one (.own 1 2)), ("pay", .one .bad)]
end Tr
namespace K18
open PySem PySem.Spec PyProof.Rows L2 Evl Fx Fr Dt Tr
theorem scDoc : FnScope ["_law_alone", "_law_fine", "_law_wrong"] [] (defScope (topS 50)) := ⟨rfl, rfl, rfl, by decide +kernel, rfl, by decide +kernel, by decide +kernel⟩
section
variable {P : Program} {w : World} {K : PySem.W.Frag} {mg : Str → Option Value} {base : Heap} {f f2 f3 : Addr} {fd fd2 fd3 : FuncData}
def spDoc (K : PySem.W.Frag) : Sp := spD K fun ds d => ds = [] ∧ d = .tuple [.tuple (docT.map enc), .tuple (docR.map rowD)]
theorem ok_doc (F : Fun K "_law_document" "_law_document" (topS 50) f fd) : FnOk P w K mg base CX0 1 f fd [] (spDoc K) := by
  refine F.ok scDoc (fun vs H Q E h => ?_) (fun cdv A outer s H vs Q E hr h => ?_)
  · obtain ⟨ds, es, hd, ⟨rfl, _⟩, _⟩ := h
    exact dps_len hd
  · obtain ⟨ds, es, hd, ⟨rfl, rfl⟩, q⟩ := h
    obtain rfl := dps_none hd
    refine ⟨_, pss_cons (ps_asg (pe_tup (pa_cons (pe_tup (pa_cons pe_str (pa_cons pe_int (pa_cons (pe_tup pa_nil) pa_nil)))) (pa_cons (pe_tup (pa_cons pe_str (pa_cons pe_int (pa_cons (pe_tup (pa_cons (pe_tup (pa_cons pe_str (pa_cons pe_int (pa_cons (pe_tup pa_nil) pa_nil)))) pa_nil)) pa_nil)))) (pa_cons (pe_tup (pa_cons pe_str (pa_cons pe_int (pa_cons (pe_tup (pa_cons (pe_tup (pa_cons pe_str (pa_cons pe_int (pa_cons (pe_tup pa_nil) pa_nil)))) pa_nil)) pa_nil)))) pa_nil)))) (pg_tup (by rfl) (pgs_cons (pg_name (i := 0) scDoc.nd rfl (.inl rfl)) (pgs_cons (pg_name (i := 1) scDoc.nd rfl (.inl rfl)) (pgs_cons (pg_name (i := 2) scDoc.nd rfl (.inl rfl)) pgs_nil)))))
      (pss_one (ps_ret (pe_tup (pa_cons (pe_tup (pa_cons (pv 0) (pa_cons (pv 1) (pa_cons (pv 2) pa_nil)))) (pa_cons (pe_tup (pa_cons (pe_tup (pa_cons pe_str (pa_cons (pe_tup (pa_cons pe_str (pa_cons pe_int (pa_cons pe_int pa_nil)))) pa_nil))) (pa_cons (pe_tup (pa_cons pe_str (pa_cons (pe_tup (pa_cons pe_str pa_nil)) pa_nil))) pa_nil))) pa_nil))))), ?_⟩
    have lf : ∀ {σ : L2.St} {H : Hp} {s : Str} {m : Int}, EvR F0 (tTup (tCons (tC (.str s)) (tCons (tC (.int m)) (tCons (tTup tNil) tNil)))) σ H 0 (IsD K (enc (leaf s m))) := fun {σ H s m} => (rd_tup F0.ok (ra_cons (ka := 0) (kb := 0) F0.ok rd_str (ra_cons (ka := 0) (kb := 0) F0.ok rd_int (ra_cons (ka := 0) (kb := 0) F0.ok (rd_tup F0.ok ra_nil) ra_nil)))).cast (by simp [leaf, enc, encs])
    have nd : ∀ {σ : L2.St} {H : Hp} {s s' : Str} {m m' : Int}, EvR F0 (tTup (tCons (tC (.str s)) (tCons (tC (.int m)) (tCons (tTup (tCons (tTup (tCons (tC (.str s')) (tCons (tC (.int m')) (tCons (tTup tNil) tNil)))) tNil)) tNil)))) σ H 0 (IsD K (enc (.mk s m [leaf s' m']))) := fun {σ H s s' m m'} =>
      (rd_tup F0.ok (ra_cons (ka := 0) (kb := 0) F0.ok rd_str (ra_cons (ka := 0) (kb := 0) F0.ok rd_int (ra_cons (ka := 0) (kb := 0) F0.ok (rd_tup (ds := [enc (leaf s' m')]) F0.ok (ra_cons (ka := 0) (kb := 0) F0.ok lf ra_nil (enc_flat _)) (maps_flat [leaf s' m'])) ra_nil (maps_flat [leaf s' m'])))) (flats_cons.mpr ⟨rfl, flats_cons.mpr ⟨rfl, flats_cons.mpr ⟨maps_flat [leaf s' m'], rfl⟩⟩⟩)).cast (by simp [enc, encs, leaf])
    refine q_asgG (F := F0) (n := 0) (k := 0) (P := IsD K (.tuple (docT.map enc))) (rd_tup (ds := docT.map enc) F0.ok (ra_cons (ka := 0) (kb := 0) F0.ok (lf (s := "front") (m := 0)) (ra_cons (ka := 0) (kb := 0) F0.ok (nd (s := "front") (m := 0) (s' := "pay") (m' := 0)) (ra_cons (ka := 0) (kb := 0) F0.ok (nd (s := "front") (m := 0) (s' := "pay") (m' := 1)) ra_nil (enc_flat _)) (enc_flat _)) (enc_flat _)) (maps_flat docT) (by decide)) F0.g (Nat.le_refl _) fun vt H1 e1 _ hd1 => ?_
    obtain ⟨a, v1, v2, v3, rfl, ha, p1, p2, p3⟩ := dp_three hd1
    refine ⟨a, _, rfl, ha, rfl, v1, _, rfl, v2, _, rfl, v3, _, rfl, rfl, ?_⟩
    change tRet _ _ [some v1, some v2, some v3] H1
    have r1 : EvR F0 (tVar 0) [some v1, some v2, some v3] H1 0 (IsD K (enc (leaf "front" 0))) := rd_var F0.ok (n := 0) F0.g rfl p1 (enc_flat _)
    have r2 : EvR F0 (tVar 1) [some v1, some v2, some v3] H1 0 (IsD K (enc (.mk "front" 0 [leaf "pay" 0]))) := rd_var F0.ok (n := 0) F0.g rfl p2 (enc_flat _)
    have r3 : EvR F0 (tVar 2) [some v1, some v2, some v3] H1 0 (IsD K (enc (.mk "front" 0 [leaf "pay" 1]))) := rd_var F0.ok (n := 0) F0.g rfl p3 (enc_flat _)
    refine s_retR (F := F0) (n := 0) (k := 0) (P := IsD K (.tuple [.tuple (docT.map enc), .tuple (docR.map rowD)])) (rd_tup F0.ok (ra_cons (ka := 0) (kb := 0) F0.ok (rd_tup (ds := docT.map enc) F0.ok (ra_cons (ka := 0) (kb := 0) F0.ok r1 (ra_cons (ka := 0) (kb := 0) F0.ok r2 (ra_cons (ka := 0) (kb := 0) F0.ok r3 ra_nil (enc_flat _)) (enc_flat _)) (enc_flat _)) (maps_flat docT) (by decide)) (ra_cons (ka := 0) (kb := 0) F0.ok
      (rd_tup (ds := docR.map rowD) F0.ok (ra_cons (ka := 0) (kb := 0) F0.ok (rd_tup F0.ok (ra_cons (ka := 0) (kb := 0) F0.ok rd_str (ra_cons (ka := 0) (kb := 0) F0.ok (rd_tup F0.ok (ra_cons (ka := 0) (kb := 0) F0.ok rd_str (ra_cons (ka := 0) (kb := 0) F0.ok rd_int (ra_cons (ka := 0) (kb := 0) F0.ok rd_int ra_nil))) (hl := by decide)) ra_nil))) (ra_cons (ka := 0) (kb := 0) F0.ok (rd_tup F0.ok (ra_cons (ka := 0) (kb := 0) F0.ok rd_str (ra_cons (ka := 0) (kb := 0) F0.ok (rd_tup F0.ok (ra_cons (ka := 0) (kb := 0) F0.ok rd_str ra_nil) (hl := by decide)) ra_nil))) ra_nil)) rfl (by decide)) ra_nil) (maps_flat docT)) (flats_cons.mpr ⟨maps_flat docT, rfl⟩) (by decide)) F0.g (Nat.le_refl _) fun v H2 e2 _ p => q v H2 ((F0.ex e1).trans (F0.ex e2)) p
end
end K18
namespace Tr
open PySem PySem.Spec PyProof.Rows L2
def sixT : List T := [.mk "front" 0 [.mk "db" 0 [leaf "pay" 0], .mk "db" 0 [leaf "pay" 0, leaf "pay" 1]], .mk "front" 0 [leaf "db" 0, leaf "db" 0, leaf "db" 0, leaf "pay" 0, leaf "pay" 1]]
end Tr
namespace Dt
open PySem PySem.Spec PyProof.Rows L2 Evl Fx
section
variable {F : Fd} {K : PySem.W.Frag} {ta : TE} {σ : L2.St} {H : Hp} {ka : Nat} {ds : List PyData}
theorem dps_rep {vs : List V} (h : DpAll K H vs ds) : ∀ k : Nat, DpAll K H (List.replicate k vs).flatten (List.replicate k ds).flatten
  | 0 => .nil
  | k + 1 => by
    rw [List.replicate_succ, List.replicate_succ, List.flatten_cons, List.flatten_cons]
    exact dps_app h (dps_rep h k)
/-- t * k, a written k -/
theorem rd_rep {k : Nat} (o : F.Ok) (h : EvR F ta σ H ka (IsD K (.tuple ds))) (hne : ds ≠ []) (h1 : 2 ≤ k) (h2 : k ≤ 1000) (hl : ds.length ≤ 1000) : EvR F (tOp (rRepT K) ta (tC (.int (k : Int)))) σ H ka (IsD K (.tuple (List.replicate k ds).flatten)) := fun n H1 hn g e Q q => h n H1 hn g e _ fun v H2 e2 g2 hd => by
  cases hd with
  | @tup a xs _ ha hx =>
  have lx := dps_len hx
  refine ⟨a, (k : Int), xs, rfl, rfl, ha, ?_, by omega, by omega, by omega, fun p hp => q _ _ (e2.trans (Kx.ex (Ex.new hp))) (o.ex g2 (Ex.new hp)) (.tup (st_of upd_same) (dps_ex (Ex.new hp) _ _ ?_))⟩
  · rintro rfl
    cases ds with
    | nil => exact hne rfl
    | cons _ _ => simp at lx
  · rw [Int.toNat_natCast]
    exact dps_rep hx k
end
end Dt
namespace K18
open PySem PySem.Spec PyProof.Rows L2 Evl Fx Fr Dt Tr
theorem scSix : FnScope ["_law_pay", "_law_bad", "_law_first"] [] (defScope (topS 52)) := ⟨rfl, rfl, rfl, by decide +kernel, rfl, by decide +kernel, by decide +kernel⟩
section
variable {P : Program} {w : World} {K : PySem.W.Frag} {mg : Str → Option Value} {base : Heap} {f f2 f3 : Addr} {fd fd2 fd3 : FuncData}
def spSix (K : PySem.W.Frag) : Sp := spL K fun ds es => ds = [] ∧ es = sixT.map enc
theorem rd_node {F : Fd} {ta : TE} {σ : L2.St} {H : Hp} {s : Str} {m : Int} {cs : List T} (o : F.Ok) (h : EvR F ta σ H 0 (IsD K (.tuple (cs.map enc)))) : EvR F (tTup (tCons (tC (.str s)) (tCons (tC (.int m)) (tCons ta tNil)))) σ H 0 (IsD K (enc (.mk s m cs))) :=
  (rd_tup o (ra_cons (ka := 0) (kb := 0) o rd_str (ra_cons (ka := 0) (kb := 0) o rd_int (ra_cons (ka := 0) (kb := 0) o h ra_nil (maps_flat cs)))) (flats_cons.mpr ⟨rfl, flats_cons.mpr ⟨rfl, flats_cons.mpr ⟨maps_flat cs, rfl⟩⟩⟩)).cast (enc_eq (.mk s m cs)).symm
theorem ok_six (F : Fun K "_law_six" "_law_six" (topS 52) f fd) : FnOk P w K mg base CX0 1 f fd [] (spSix K) := by
  refine F.ok scSix (fun vs H Q E h => ?_) (fun cdv A outer s H vs Q E hr h => ?_)
  · obtain ⟨ds, es, hd, ⟨rfl, _⟩, _⟩ := h
    exact dps_len hd
  · obtain ⟨ds, es, hd, ⟨rfl, rfl⟩, q⟩ := h
    obtain rfl := dps_none hd
    refine ⟨_, pss_cons (ps_asg (pe_tup (pa_cons (pe_tup (pa_cons pe_str (pa_cons pe_int (pa_cons (pe_tup pa_nil) pa_nil)))) (pa_cons (pe_tup (pa_cons pe_str (pa_cons pe_int (pa_cons (pe_tup pa_nil) pa_nil)))) pa_nil))) (pg_tup (by rfl) (pgs_cons (pg_name (i := 0) scSix.nd rfl (.inl rfl)) (pgs_cons (pg_name (i := 1) scSix.nd rfl (.inl rfl)) pgs_nil))))
      (pss_cons (ps_set (i := 2) scSix.nd rfl (.inl rfl) (pe_tup (pa_cons pe_str (pa_cons pe_int (pa_cons (pe_tup (pa_cons (pe_tup (pa_cons pe_str (pa_cons pe_int (pa_cons (pe_tup (pa_cons (pv 0) pa_nil)) pa_nil)))) (pa_cons (pe_tup (pa_cons pe_str (pa_cons pe_int (pa_cons (pe_tup (pa_cons (pv 0) (pa_cons (pv 1) pa_nil))) pa_nil)))) pa_nil))) pa_nil)))))
      (pss_one (ps_ret (pe_lst (pa_cons (pv 2) (pa_cons (pe_tup (pa_cons pe_str (pa_cons pe_int (pa_cons (pe_op op_catA (pe_op op_repT (pe_tup (pa_cons (pe_tup (pa_cons pe_str (pa_cons pe_int (pa_cons (pe_tup pa_nil) pa_nil)))) pa_nil)) pe_int) (pe_tup (pa_cons (pv 0) (pa_cons (pv 1) pa_nil)))) pa_nil)))) pa_nil)))))), ?_⟩
    have lf : ∀ {σ : L2.St} {H : Hp} {s : Str} {m : Int}, EvR F0 (tTup (tCons (tC (.str s)) (tCons (tC (.int m)) (tCons (tTup tNil) tNil)))) σ H 0 (IsD K (enc (leaf s m))) := fun {σ H s m} => rd_node (cs := []) F0.ok (rd_tup F0.ok ra_nil)
    refine q_asgG (F := F0) (n := 0) (k := 0) (P := IsD K (.tuple [enc (leaf "pay" 0), enc (leaf "pay" 1)])) (rd_tup F0.ok (ra_cons (ka := 0) (kb := 0) F0.ok lf (ra_cons (ka := 0) (kb := 0) F0.ok lf ra_nil (enc_flat _)) (enc_flat _)) (maps_flat [leaf "pay" 0, leaf "pay" 1])) F0.g (Nat.le_refl _) fun vt H1 e1 _ hd1 => ?_
    obtain ⟨a, v1, v2, rfl, ha, p1, p2⟩ := dp_two hd1
    refine ⟨a, _, rfl, ha, rfl, v1, _, rfl, v2, _, rfl, rfl, ?_⟩
    change tSeq _ _ _ [some v1, some v2, none] H1
    have r1 : ∀ {H2 : Hp} {s3 : Option V}, Ex H1 H2 → EvR F0 (tVar 0) [some v1, some v2, s3] H2 0 (IsD K (enc (leaf "pay" 0))) := fun e => rd_var F0.ok (n := 0) F0.g rfl (dp_ex e _ _ p1) (enc_flat _)
    have r2 : ∀ {H2 : Hp} {s3 : Option V}, Ex H1 H2 → EvR F0 (tVar 1) [some v1, some v2, s3] H2 0 (IsD K (enc (leaf "pay" 1))) := fun e => rd_var F0.ok (n := 0) F0.g rfl (dp_ex e _ _ p2) (enc_flat _)
    have one : ∀ {te : TE} {σ : L2.St} {H : Hp} {t : T}, EvR F0 te σ H 0 (IsD K (enc t)) → EvR F0 (tTup (tCons te tNil)) σ H 0 (IsD K (.tuple ([t].map enc))) := fun {te σ H t} h => rd_tup (ds := [t].map enc) F0.ok (ra_cons (ka := 0) (kb := 0) F0.ok h ra_nil (enc_flat _)) (maps_flat [t])
    have two : ∀ {te te' : TE} {σ : L2.St} {H : Hp} {t t' : T}, EvR F0 te σ H 0 (IsD K (enc t)) → EvR F0 te' σ H 0 (IsD K (enc t')) → EvR F0 (tTup (tCons te (tCons te' tNil))) σ H 0 (IsD K (.tuple ([t, t'].map enc))) := fun {te te' σ H t t'} h h' => rd_tup (ds := [t, t'].map enc) F0.ok (ra_cons (ka := 0) (kb := 0) F0.ok h (ra_cons (ka := 0) (kb := 0) F0.ok h' ra_nil (enc_flat _)) (enc_flat _)) (maps_flat [t, t'])
    refine q_asgR (F := F0) (n := 0) (k := 0) (P := IsD K (enc (.mk "front" 0 [.mk "db" 0 [leaf "pay" 0], .mk "db" 0 [leaf "pay" 0, leaf "pay" 1]]))) (rd_node F0.ok (two (rd_node F0.ok (one (r1 (Ex.refl _)))) (rd_node F0.ok (two (r1 (Ex.refl _)) (r2 (Ex.refl _)))))) F0.g (Nat.le_refl _) fun v3 H2 e2 _ p3 => ?_
    replace e2 := F0.ex e2
    have rb : EvR F0 (tOp (rRepT K) (tTup (tCons (tTup (tCons (tC (.str "db")) (tCons (tC (.int 0)) (tCons (tTup tNil) tNil)))) tNil)) (tC (.int 3))) [some v1, some v2, some v3] H2 0 (IsD K (.tuple ([leaf "db" 0, leaf "db" 0, leaf "db" 0].map enc))) := (rd_rep (k := 3) F0.ok (one lf) (by simp) (by decide) (by decide) (by simp)).cast rfl
    have rc : EvR F0 (tOp (rCatA K) (tOp (rRepT K) (tTup (tCons (tTup (tCons (tC (.str "db")) (tCons (tC (.int 0)) (tCons (tTup tNil) tNil)))) tNil)) (tC (.int 3))) (tTup (tCons (tVar 0) (tCons (tVar 1) tNil)))) [some v1, some v2, some v3] H2 0 (IsD K (.tuple ([leaf "db" 0, leaf "db" 0, leaf "db" 0, leaf "pay" 0, leaf "pay" 1].map enc))) :=
      (rd_cat (ka := 0) (kb := 0) F0.ok rb (two (r1 e2) (r2 e2)) (maps_flat _) (by simp)).cast rfl
    refine s_retR (F := F0) (n := 0) (k := 0) (P := IsN H2 F0 K (sixT.map enc)) (rn_lst F0.ok (ra_cons (ka := 0) (kb := 0) F0.ok (rd_var F0.ok (n := 0) F0.g rfl p3 (enc_flat _)) (ra_cons (ka := 0) (kb := 0) F0.ok (rd_node F0.ok rc) ra_nil (enc_flat _)) (enc_flat _)) (hl := by decide)) F0.g (Nat.le_refl _) fun v H3 e3 _ ⟨p, xs, ev, np, _, hp, hx⟩ => ?_
    subst ev
    exact q p xs H3 (fresh_back ((F0.ex e1).trans e2) np) (((F0.ex e1).trans e2).trans (F0.ex e3)) hp hx
end
end K18
namespace K18
open PySem PySem.Spec PyProof.Rows L2 Evl Fx Fr Dt Tr
theorem scFeed : FnScope ["_law_script"] ["_law_script"] (defScope (topS 41)) := ⟨rfl, rfl, rfl, by decide +kernel, rfl, by decide +kernel, by decide +kernel⟩
section
variable {P : Program} {w : World} {K : PySem.W.Frag} {mg : Str → Option Value} {base : Heap} {f f2 f3 : Addr} {fd fd2 fd3 : FuncData}
def spFeed (K : PySem.W.Frag) : Sp := fun vs H Q _ => ∃ (a : Addr) (ns : List Int), vs = [.ref a] ∧ SqL K H a (ns.map V.int) ∧ ∀ H' d l, Ex H H' → H d = none → FeedAt H' d l 0 → Q (.ref d) H'
theorem ok_feed (F : Fun K "_law_feed" "_law_feed" (topS 41) f fd) (m_list : mg "list" = none) : FnOk P w K mg base CX0 1 f fd ["_law_script"] (spFeed K) := by
  refine F.ok scFeed (fun vs H Q E h => ?_) (fun cdv A outer s H vs Q E hr h => ?_)
  · obtain ⟨a, ns, rfl, _⟩ := h
    rfl
  · obtain ⟨a, ns, rfl, hS, q⟩ := h
    refine ⟨_, pss_one (ps_ret (pe_lst (pa_cons (pe_callTy (T := "list") (r := rListS K) call_listS (by rfl) m_list (by decide +kernel) (pa_cons (pe_slice sl_list (pv 0) po_none (po_some pe_int)) pa_nil)) (pa_cons pe_int (pa_cons pe_int (pa_cons pe_int pa_nil)))))), ?_⟩
    refine ⟨.ref a, rfl, 63, rfl, a, ns.map V.int, rfl, hS, fun c hc => ?_⟩
    have s2 := Ex.new (o := HO.lst (cutV (ns.map V.int) none (some 63))) hc
    refine ⟨c, _, rfl, .inl (sq_of upd_same), fun l hl => ?_⟩
    have s3 := Ex.new (o := HO.lst (cutV (ns.map V.int) none (some 63))) hl
    refine ⟨by show 4 ≤ sizeLine; decide, fun d hd => ?_⟩
    have s4 := Ex.new (o := HO.lst [.ref l, .int 0, .int 0, .int 0]) hd
    have ec : cutV (ns.map V.int) none (some 63) = (ns.take 63).map V.int := by
      unfold cutV
      rw [HT.sIx_none, show HT.sIx (ns.map V.int).length (ns.map V.int).length (some 63) = min 63 (ns.map V.int).length from HT.sIx_nat _ _ 63, List.drop_zero, Nat.sub_zero, List.map_take]
      rw [List.take_eq_take_iff]
      omega
    have nl : l ≠ d := ne_addr hd upd_same
    refine q _ d l ((s2.trans s3).trans s4) (fresh_back (s2.trans s3) hd) ⟨ns.take 63, 0, 0, 0, upd_same, ?_, ?_, Int.le_refl 0, Int.le_refl 0, Int.le_refl 0, nl⟩
    · rw [upd_ne nl, upd_same, ec]
    · rw [List.length_take]
      omega
end
end K18
/-! ### defs whose activation is told to hold no guards; repr of data -/
namespace DtG
open PySem PySem.Spec PyProof.Rows L2
/-- as FnOk, where the caller holds no guards -/
structure FnG (P : Program) (w : World) (K : PySem.W.Frag) (mg : Str → Option Value) (base : Heap) (CX : CXT) (k : Nat) (f : Addr) (fd : FuncData) (ps : List Str) (sp : Sp) : Prop where
  len : ∀ vs H Q E, sp vs H Q E → vs.length = ps.length
  run : ∀ (A : Around) (outer : List Env) (s : Shared) (H : Hp) (args : Args) (us : List Value) (vs : List V) (Q : VK) (E : XK), A.guards = some [] → Room k A → Env0 P w K mg base A outer s H → BindsTo s fd args (ps.zip us) → Vals vs us → sp vs H Q E →
    codeAny (model P w) A (.call (.ref f) args) (CR CX outer P w H s Q E) s
theorem deeper_guards {A : Around} {env : Env} (h : A.guards = some []) : (A.deeper env).guards = some [] := h
section
variable {P : Program} {w : World} {K : PySem.W.Frag} {mg : Str → Option Value} {base : Heap}
/-- by its body -/
theorem okG {x qual : Str} {st : Stmt} {f : Addr} {fd : FuncData} {N ps : List Str} {k : Nat} {sp : Sp} (F : L2.Fun K x qual st f fd) (S : FnScope N ps (defScope st)) (len : ∀ vs H Q E, sp vs H Q E → vs.length = ps.length)
    (hbody : ∀ (cdv : Value) (A : Around) (outer : List Env) (s : Shared) (H : Hp) (vs : List V) (Q : VK) (E : XK), (A.deeper (envOfC qual (defScope st) s.heap.objs.size f cdv)).guards = some [] → Room k (A.deeper (envOfC qual (defScope st) s.heap.objs.size f cdv)) → sp vs H Q E →
      ∃ t, PSs (cxOf CX0 P w K mg base N qual (defScope st) f cdv A outer s H E).nox (defBody st) t ∧ t { nx := fun _ H' => Q .non H', rt := Q } (start N vs) H) : FnG P w K mg base CX0 (k + 1) f fd ps sp := by
  obtain ⟨oc, od, kV, doc, pm, an, cdv, ct, osl, rfl, lk, hcd⟩ := F.ex
  refine ⟨len, fun A outer s H args us vs Q E hg hr e0 hb r hsp => ?_⟩
  have keep : ∀ b o, base.get? b = some o → s.heap.get? b = some o := fun b o e => (e0.bs b o e).1
  have KX : K.In s.heap := e0.mod.kin.keeps keep
  have names : ∀ y ∈ ps.zip us, (defScope st).names.lookup y.1 = some .local ∨ ((defScope st).names.lookup y.1 = some .cell ∧ ((cellsFrom (s.heap.objs.size + 1) (defScope st).names []).lookup y.1).isSome = true) := by
    rintro ⟨x, v⟩ hy
    exact (S.par x (List.of_mem_zip hy).1).imp id fun q => ⟨q, PySem.W.cellsFrom_some _ _ _ (.inl q)⟩
  refine codeAny_call_function hr.depth (KX _ _ lk) rfl S.co S.gen rfl (PySem.W.codeRec_of KX hcd) (hb _ _ _ _ (wpAny_newFunctionEnv_cells S.kind names ?_))
  intro env he s1 x
  subst he
  obtain ⟨t, ht, hq⟩ := hbody cdv A outer s H vs Q E (deeper_guards hg) (hr.deeper _) hsp
  have I : Inv (cxOf CX0 P w K mg base N qual (defScope st) f cdv A outer s H E) [] (start N vs) H s1 := inv_start S hr.hd e0 (len _ _ _ _ hsp) r x
  refine ⟨(e0.mod.nolimit.keeps keep).keeps x.toInCall.keep, codeAny_func (wpAny_mono (ht.nox.run [] s1 (start N vs) H _ I hq) (fun fl s' hs => ?_) fun e s' hs => hs)⟩
  cases fl with
  | ret u =>
    obtain ⟨v, σ', H', J, rv, q⟩ := hs
    exact ⟨v, H', J.os, J.bare, J.base, J.hok, rv, q⟩
  | next =>
    obtain ⟨σ', H', J, q⟩ := hs
    exact ⟨V.non, H', J.os, J.bare, J.base, J.hok, rfl, q⟩
  | brk =>
    obtain ⟨_, _, _, q⟩ := hs
    exact False.elim q
  | cont =>
    obtain ⟨_, _, _, q⟩ := hs
    exact False.elim q
end
section
variable {X : Cx}
def rReprD (K : PySem.W.Frag) : List V → Hp → VK → Prop := fun xs H Q => ∃ (a : Addr) (d : PyData), xs = [.ref a] ∧ Dp K H (.ref a) d ∧ d.showable = true ∧ d.hasDict = false ∧ d.depth ≤ 60 ∧ d.shown.length ≤ sizeLine ∧ Q (.str d.shown) H
theorem cr_reprD (hg : X.A.guards = some []) (hu : X.A.units + 64 < cLine) : CallR X (.builtin "repr") (rReprD X.K) := by
  intro pins s σ H xs us Q I r h
  obtain ⟨a, d, rfl, hd, h1, h2, h3, h4, q⟩ := h
  obtain ⟨u, rfl, ru⟩ := vals1 r
  cases ru
  obtain ⟨as, rd⟩ := Dp.reads I d (.ref a) (.ref a) hd rfl
  exact repr_of_reads' rd h1 (fun h => by rw [h2] at h; cases h) hg (by omega) (fun _ _ e => e) (fun h' u tk k => ⟨.str d.shown, H, I.kept (t' := tk) k, ⟨_, rfl⟩, q⟩) h4
/-- a call of such a def by its name -/
theorem pe_callG {k : Nat} {f : Addr} {fd : FuncData} {ps : List Str} {sp : Sp} {x : Str} {p pos : Pos} {e : Expr} {es : List Expr} {t : TA} {E : XK} (G : FnG X.prog X.w X.K X.mg X.base CX0 k f fd ps sp) (hgd : X.A.guards = some []) (hr : Room k X.A) (hg : Gl X x) (hm : X.mg x = some (.ref f)) (hk : PySem.W.keepIn X.K (.ref f) = true) (hb : L2.Binds X.K fd ps []) (hx : Passes CX0 X E)
    (ha : PA X (e :: es) t) (hdb : (x == ("__debug__" : Str)) = false := by decide) (he : starEach (e :: es) X.env = (false, eval e X.env) :: starEach es X.env := by rfl) (hpl : (backTo pos (starEach es X.env)).any (·.1) = false := by rfl) :
    PE X (.Call (.Name x p) (e :: es) [] pos) (tCall sp [] E t) := by
  refine ⟨fun pins s σ H Q I h => ?_⟩
  refine wpAny_Call_Name_kw (ld_glob I hg hm ?_ hdb)
  refine PySem.W.callWith_K (h₀ := X.base) I.ok.mod.kin hk (thn (ha.run pos pins s σ H _ I h) fun us s1 ⟨vs, H1, I1, r, q⟩ => ⟨I1.kIn, ?_⟩) he hpl
  replace q : sp (vs ++ []) H1 Q E := q
  rw [List.append_nil] at q
  have hl : us.length = ps.length := by rw [← r.length]; exact G.len _ _ _ _ q
  have hb' : BindsTo s1 fd ⟨us, []⟩ (ps.zip us) := by
    have := hb s1 us I1.kIn (by rw [List.append_nil]; exact hl)
    rwa [List.append_nil] at this
  refine wpAny_call (codeAny_mono (G.run X.A X.stack s1 H1 ⟨us, []⟩ us vs Q E hgd hr I1.env0 hb' r q) fun r s' hq => ?_)
  cases r with
  | error e => exact hx pins σ H1 s1 e s' I1 hq
  | ok fl =>
    cases fl with
    | ret u => exact I1.after hq
    | next => exact False.elim hq
    | brk => exact False.elim hq
    | cont => exact False.elim hq
end
end DtG
/-! ### a law's call, where the caller holds no guards -/
namespace DtG
open PySem PySem.Spec PyProof.Rows L2
section
variable {P : Program} {w : World} {K : PySem.W.Frag} {mg mb : Str → Option Value} {s : Shared} {a : Addr} {vs : List Value} {H : Hp}
/-- the world of a call that tracks the script at the most -/
theorem env_script (KX : K.In s.heap) (hns : s.heap.Ns mainGlobals mg) (hb : s.heap.Ns builtinsNs mb) (hbb : ∀ x : Str, x ≠ "__name__" → mb x = bootBuiltins x) (hlim : s.heap.NoLimit) (hg : s.gens = #[])
    (ha : s.heap.get? a = some { cls := .type "list", data := .seq vs.toArray }) (hok : HOk P w H s.heap) (hA : ∀ b, H b ≠ none → b = a) (hK : H a ≠ none → K.lookup a = none) :
    K.In (hidT s.heap H) ∧ (hidT s.heap H).Ns mainGlobals mg ∧ Env0 P w K mg (hidT s.heap H) callerA [] s H := by
  have free : ∀ {b : Addr} {o : Obj}, s.heap.get? b = some o → (b = a → H b = none) → (hidT s.heap H).get? b = some o := fun {b o} e h => hidT_get e (by
    cases q : H b with
    | none => rfl
    | some u =>
      have e' : b = a := hA b (by rw [q]; exact Option.some_ne_none _)
      rw [h e'] at q
      cases q)
  have names : ∀ {b : Addr} {m : Str → Option Value}, s.heap.Ns b m → (hidT s.heap H).Ns b m := fun {b m} ⟨o, es, ep, e, d, r⟩ => ⟨o, es, ep, free e (fun z => by
    subst z
    rw [ha] at e
    cases e
    cases (show Data.seq vs.toArray _ = Data.dict es ep from d)), d, r⟩
  have kin : K.In (hidT s.heap H) := fun b o e => free (KX b o e) fun z => by
    subst z
    cases q : H b with
    | none => rfl
    | some u =>
      rw [hK (by rw [q]; exact Option.some_ne_none _)] at e
      cases e
  refine ⟨kin, names hns, ⟨rfl, ⟨kin, names hns, ⟨mb, names hb, hbb⟩, ?_⟩, fun b o e => of_hidT e, Nat.le_of_eq (hidT_size _ _), trivial, fun b hb => (by cases hb), hok, .of_eq hg⟩⟩
  obtain ⟨mc, h1, h2⟩ := hlim
  exact ⟨mc, names h1, h2⟩
/-- what the law's end is from -/
theorem end_script (hO : Only H) {r : Result} {s' : Shared} (h : CR CX0 [] P w H s (fun v _ => v = .bl true) (fun _ _ _ => False) r s') (hok : HOk P w H s.heap) : r = .ok (.ret (.bool true)) ∧ OldK s.heap s'.heap ∧ s'.os = s.os ∧ AllBare s'.gens := by
  cases r with
  | error e => exact False.elim h
  | ok fl =>
    cases fl with
    | next => exact False.elim h
    | brk => exact False.elim h
    | cont => exact False.elim h
    | ret u =>
      obtain ⟨v, H', os, bare, un, hok', r', q⟩ := h
      obtain rfl : v = .bl true := q
      obtain rfl : u = Value.bool true := r'
      refine ⟨rfl, OldK.of_keep fun b o e => ?_, os, bare⟩
      rcases hO b with z | ⟨ob, xs, z⟩
      · exact un.keep b o e z (fun y => by cases (show b ∈ ([] : List Addr) from y)) (by simp)
      · have e1 := (hok b _ z).1
        rw [e] at e1
        cases e1
        exact (hok' b _ (un.frzs b _ _ z)).1
theorem law_callG {k : Nat} {fa : Addr} {fd : FuncData} {x : Str} {sp : Sp} {ns : List Int} (KX : K.In s.heap) (hns : s.heap.Ns mainGlobals mg) (hb : s.heap.Ns builtinsNs mb) (hbb : ∀ x : Str, x ≠ "__name__" → mb x = bootBuiltins x) (hlim : s.heap.NoLimit) (hg : s.gens = #[])
    (ha : s.heap.get? a = some { cls := .type "list", data := .seq vs.toArray }) (hi : IntsAre vs ns) (hl : ns.length ≤ sizeLine) (hr : Room k callerA)
    (F : ∀ base : Heap, K.In base → base.Ns mainGlobals mg → FnG P w K mg base CX0 k fa fd [x] sp) (hbind : ∀ (s : Shared) (u : Value), BindsTo s fd ⟨[u], []⟩ [(x, u)])
    (hsp : ∀ H : Hp, Only H → SqL K H a (ns.map V.int) → sp [.ref a] H (fun v _ => v = .bl true) fun _ _ _ => False) :
    codeAny (model P w) callerA (.call (.ref fa) ⟨[.ref a], []⟩) (fun r s' => r = .ok (.ret (.bool true)) ∧ OldK s.heap s'.heap ∧ s'.os = s.os ∧ AllBare s'.gens) s := by
  have rv := vals_ints hi
  have lenV := hi.length
  have go : ∀ H : Hp, Only H → SqL K H a (ns.map V.int) → HOk P w H s.heap → (∀ b, H b ≠ none → b = a) → (H a ≠ none → K.lookup a = none) → codeAny (model P w) callerA (.call (.ref fa) ⟨[.ref a], []⟩) (fun r s' => r = .ok (.ret (.bool true)) ∧ OldK s.heap s'.heap ∧ s'.os = s.os ∧ AllBare s'.gens) s := fun H hO hS hok hA hK => by
    obtain ⟨kin, nm, e0⟩ := env_script KX hns hb hbb hlim hg ha hok hA hK
    exact codeAny_mono ((F _ kin nm).run callerA [] s H ⟨[.ref a], []⟩ [.ref a] [.ref a] _ _ rfl hr e0 (hbind s (.ref a)) (.cons rfl .nil) (hsp H hO hS)) fun r s' h => end_script hO h hok
  cases hk : K.lookup a with
  | some o =>
    have e := KX a o hk
    rw [ha] at e
    cases e
    exact go (fun _ => none) (fun _ => .inl rfl) (.inr ⟨_, vs.toArray, _, hk, rfl, rfl, rfl, by rw [List.size_toArray, lenV]; exact hl, by simpa using rv⟩) (fun b u z => nomatch z) (fun b z => absurd rfl z) fun z => absurd rfl z
  | none =>
    let ob : HO := .frz { cls := .type "list", data := .seq vs.toArray } (.lst (ns.map V.int))
    have yes : (fun b => if b = a then some ob else none : Hp) a = some ob := if_pos rfl
    have no : ∀ {b : Addr}, b ≠ a → (fun b => if b = a then some ob else none : Hp) b = none := fun h => if_neg h
    refine go (fun b => if b = a then some ob else none) (fun b => ?_) (.inl (.inr ⟨_, yes⟩)) (fun b u z => ?_) (fun b z => ?_) fun _ => hk
    · by_cases h : b = a
      · subst h
        exact .inr ⟨_, _, yes⟩
      · exact .inl (no h)
    · by_cases h : b = a
      · subst h
        rw [yes] at z
        cases z
        exact ⟨ha, by rw [List.length_map]; exact hl, vs, _, rv, ha⟩
      · rw [no h] at z
        cases z
    · exact Classical.byContradiction fun h => z (no h)
end
open He in
/-- a law's end over the facts of a head, the law's def by FnG -/
theorem walk_ofG {l : PySem.W.OpenLaw} {n k : Nat} {q : Program} {loose : List Str} {XP : (Str → Option Value) → Heap → Prop} {YP : World → Heap → Prop} {d : DefRec} {x : Str}
    (hn : l.most = some n) (hn2 : n ≤ sizeLine) (hdf : d.params.defaults = []) (hr : Room k callerA)
    (F : ∀ (w : World) (mg : Str → Option Value) (fa : Addr) (h : Heap), YP w h → h.Ns mainGlobals mg → mg d.name = some (.ref fa) →
      ∃ (K : PySem.W.Frag) (fd : FuncData) (sp : Sp), K.In h ∧ (∀ (s : Shared) (u : Value), BindsTo s fd ⟨[u], []⟩ [(x, u)]) ∧
        (∀ (H : Hp) (a : Addr) (ns : List Int), ns.length ≤ n → (∀ z ∈ ns, Builtin.Int.intBits z ≤ 1048576) → Only H → SqL K H a (ns.map V.int) → sp [.ref a] H (fun v _ => v = .bl true) fun _ _ _ => False) ∧
        ∀ base : Heap, K.In base → base.Ns mainGlobals mg → FnG l.prog w K mg base CX0 k fa fd [x] sp) :
    PySem.W.WalkO q loose XP YP l.row.toRowW d [] (fun f vs => PySem.call f vs) := by
  refine Att.attach_callB hn hdf fun w s₀ s₁ mg mb fa o pm cd doc a vs ns G Y ho hd hcd hmg hobj hints hlen hbits hg => ?_
  obtain ⟨K, fd, sp, KX, hb, hsp, hF⟩ := F w mg fa _ Y G.T.g hmg
  exact law_callG KX G.T.g G.T.b G.T.builtins G.T.nolimit hg hobj hints (Nat.le_trans hlen hn2) hr hF hb fun H hO hS => hsp H a ns hlen hbits hO hS
end DtG
/-! ### comprehensions of drawn data: each item is some data of which Pe holds -/
namespace Dt
open PySem PySem.Spec PyProof.Rows L2 Evl Fx
section
variable {F : Fd} {K : PySem.W.Frag} {te ta tb tl : TE} {tr : TA} {g : TG} {σ : L2.St} {H H' : Hp} {ds es : List PyData} {n k ke : Nat} {v : V} {Pe : PyData → Prop}
/-- data of which Pe holds -/
def SomeD (K : PySem.W.Frag) (Pe : PyData → Prop) : VP := fun v H => ∃ x, Pe x ∧ Dp K H v x
/-- a list of its own, m items of which Pe holds -/
def IsLP (F : Fd) (K : PySem.W.Frag) (Pe : PyData → Prop) (m : Nat) : VP := fun v H => ∃ es, es.length = m ∧ (∀ x ∈ es, Pe x) ∧ IsL F K es v H
def CdP (F : Fd) (K : PySem.W.Frag) (H1 : Hp) (Dl : Addr) (n0 k : Nat) (Pe : PyData → Prop) (i : Nat) (H' : Hp) : Prop :=
  Kx F.S H1 H' ∧ F.G (n0 + i * k) H' ∧ ∃ vs es, H' Dl = some (.lst vs) ∧ DpAll K H' vs es ∧ es.length = i ∧ ∀ x ∈ es, Pe x
theorem cdp_turn (o : F.Ok) {H1 H' : Hp} {Dl : Addr} {n0 m i : Nat} {σ2 : L2.St} (fP : ∀ x, Pe x → flat x = true) (g1 : F.G n0 H1) (hD : H1 Dl = none) (p : CdP F K H1 Dl n0 ke Pe i H') (hi : i < m) (hm : m ≤ 40000) (hN : n0 + m * ke ≤ F.N) (he : EvR F te σ2 H' ke (SomeD K Pe)) :
    te σ2 H' fun y H4 => ∃ acc, H4 Dl = some (.lst acc) ∧ acc.length < sizeLine ∧ CdP F K H1 Dl n0 ke Pe (i + 1) (upd H4 Dl (.lst (acc ++ [y]))) := by
  obtain ⟨p1, p2, vs, es, p3, p4, p5, p6⟩ := p
  have nS : ¬ F.S Dl := fun s => o.new g1 hD (o.sub s)
  have hk : n0 + (i + 1) * ke = n0 + i * ke + ke := by rw [Nat.succ_mul]; omega
  have hb : n0 + i * ke + ke ≤ F.N := by
    have : (i + 1) * ke ≤ m * ke := Nat.mul_le_mul_right _ hi
    rw [Nat.succ_mul] at this
    omega
  have fo : flats es = true := flats_all.mpr fun x hx => fP x (p6 x hx)
  refine he _ H' hb p2 Kx.refl _ fun y H4 e4 g4 ⟨x, hx, hy⟩ => ?_
  have h4D : H4 Dl = some (.lst vs) := e4 _ _ p3 nS
  have kl : KT K H4 (upd H4 Dl (.lst (vs ++ [y]))) := fun a xs h => by
    have hne : ∀ u, H4 a = some u → (∀ ys, u ≠ .lst ys) → a ≠ Dl := fun u q z => by
      rintro rfl
      rw [h4D] at q
      cases q
      exact z _ rfl
    rcases h with (h | ⟨u, h⟩) | h
    · exact .inl (.inl (by rw [upd_ne (hne _ h fun _ z => by cases z)]; exact h))
    · exact .inl (.inr ⟨u, by rw [upd_ne (hne _ h fun _ z => by cases z)]; exact h⟩)
    · exact .inr h
  have lv := dps_len p4
  refine ⟨vs, h4D, sz_lt (by omega), (p1.trans e4).mut hD, ?_, vs ++ [y], es ++ [x], upd_same, dps_snoc (dps_kt kl _ _ fo (mono_ds o fo _ _ _ _ p2 e4 p4)) (dp_kt kl _ _ (fP x hx) hy), by rw [List.length_append, List.length_singleton, p5], fun z hz => ?_⟩
  · rw [hk]
    exact o.put g1 hD g4
  · rcases List.mem_append.mp hz with h | h
    · exact p6 z h
    · cases List.mem_singleton.mp h
      exact hx
/-- [.. for .. in xs], xs a list of its own -/
theorem r_lcLP (o : F.Ok) {vs : List Nat} (fP : ∀ x, Pe x → flat x = true) (h : EvR F tl σ H k (IsL F K ds)) (fd : flats ds = true) (hm : ds.length ≤ 40000)
    (ht : ∀ (i : Nat) (x : V) (d : PyData) (n : Nat) (H' : Hp), ds[i]? = some d → Dp K H' x d → F.G n H' → Kx F.S H H' → ∃ σ2, Gv g x (wipe σ vs) H' σ2 ∧ wipe σ2 vs = wipe σ vs ∧ EvR F te σ2 H' ke (SomeD K Pe)) :
    EvR F (tLc (iList K tl) g tYes te vs) σ H (k + ds.length * ke) (IsLP F K Pe ds.length) := fun n H0 hn g0 e0 Q q => h n H0 (by omega) g0 e0 _ fun v H1 e1 g1 ⟨a, xs, ev, hT, ha, hx⟩ => by
  subst ev
  have hl := dps_len hx
  have nS : ¬ F.S a := fun s => hT (o.sub s)
  refine ⟨a, rfl, ⟨xs, sq_of ha⟩, fun Dl hD => lc_list (xs := xs) (CdP F K H1 Dl (n + k) ke Pe) ?_ (fun i H' _ p => sq_of (p.1 a _ ha nS)) (fun i x H' hi p => ?_) fun H' p => ?_⟩
  · exact ⟨Kx.ex (Ex.new hD), by rw [Nat.zero_mul]; exact o.put g1 hD g1, [], [], upd_same, .nil, rfl, fun x hx => by cases hx⟩
  · have hlt := (List.getElem?_eq_some_iff.mp hi).1
    have hdi : ds[i]? = some ds[i] := List.getElem?_eq_getElem (by omega)
    obtain ⟨u, hu, hdu⟩ := dps_get (mono_ds o fd _ _ _ _ g1 p.1 hx) hdi
    rw [hi] at hu
    cases hu
    obtain ⟨σ2, q1, q2, q3⟩ := ht i x _ _ H' hdi hdu p.2.1 (e0.trans (e1.trans p.1))
    exact q1 _ ⟨q2, cdp_turn (m := ds.length) o fP g1 hD p (by omega) hm (by rw [Nat.add_assoc]; exact hn) q3⟩
  · rw [hl] at p
    obtain ⟨p1, p2, ws, es, p3, p4, p5, p6⟩ := p
    exact q (.ref Dl) H' (e1.trans p1) (by rw [← Nat.add_assoc]; exact p2) ⟨es, p5, p6, Dl, ws, rfl, o.new g1 hD, p3, p4⟩
/-- .. over range(m) -/
theorem r_lcRP (o : F.Ok) {vs : List Nat} {m : Nat} (fP : ∀ x, Pe x → flat x = true) (h : EvRA F tr σ H k (fun us _ => us = [.int (m : Int)])) (hm : m ≤ 40000)
    (ht : ∀ i n H', i < m → F.G n H' → Kx F.S H H' → ∃ σ2, Gv g (.int (i : Int)) (wipe σ vs) H' σ2 ∧ wipe σ2 vs = wipe σ vs ∧ EvR F te σ2 H' ke (SomeD K Pe)) :
    EvR F (tLc (iRng1 tr) g tYes te vs) σ H (k + m * ke) (IsLP F K Pe m) := fun n H0 hn g0 e0 Q q => h n H0 (by omega) g0 e0 _ fun us H1 e1 g1 hd => by
  subst hd
  refine ⟨(m : Int), rfl, by omega, by omega, fun Dl hD => lc_range (lo := 0) (n := (m : Int).toNat) (CdP F K H1 Dl (n + k) ke Pe) ?_ (fun i H' hi p => ?_) fun H' p => ?_⟩
  · exact ⟨Kx.ex (Ex.new hD), by rw [Nat.zero_mul]; exact o.put g1 hD g1, [], [], upd_same, .nil, rfl, fun x hx => by cases hx⟩
  · have him : i < m := by omega
    have e00 : (0 : Int) + (i : Int) = (i : Int) := Int.zero_add _
    obtain ⟨σ2, q1, q2, q3⟩ := ht i _ H' him p.2.1 (e0.trans (e1.trans p.1))
    rw [e00]
    exact q1 _ ⟨q2, cdp_turn (m := m) o fP g1 hD p him hm (by rw [Nat.add_assoc]; exact hn) q3⟩
  · rw [show (m : Int).toNat = m from Int.toNat_natCast m] at p
    obtain ⟨p1, p2, ws, es, p3, p4, p5, p6⟩ := p
    exact q (.ref Dl) H' (e1.trans p1) (by rw [← Nat.add_assoc]; exact p2) ⟨es, p5, p6, Dl, ws, rfl, o.new g1 hD, p3, p4⟩
/-- tuple(xs) of such a list -/
theorem rd_tupOfP {m : Nat} (o : F.Ok) (h : EvR F te σ H k (IsLP F K Pe m)) : EvR F (tCB (rTupOf K) (tCons te tNil)) σ H k (SomeD K fun x => ∃ es, x = .tuple es ∧ es.length = m ∧ ∀ y ∈ es, Pe y) := fun n H1 hn g e Q q => h n H1 hn g e _ fun v H2 e2 g2 ⟨es, h1, h2, p, xs, ev, hT, ha, hx⟩ => by
  subst ev
  exact ⟨p, xs, rfl, .inl ⟨sq_of ha, fun l hl => q (.ref l) _ (e2.trans (Kx.ex (Ex.new hl))) (o.ex g2 (Ex.new hl)) ⟨_, ⟨es, rfl, h1, h2⟩, .tup (st_of upd_same) (dps_ex (Ex.new hl) _ _ hx)⟩⟩⟩
end
end Dt
/-! ### a def called with keywords alone -/
namespace Dt
open PySem PySem.Spec PyProof.Rows L2 Evl Fx
section
variable {X : Cx} {CX : CXT} {k : Nat} {f : Addr} {fd : FuncData} {ps ks : List Str} {sp : Sp} {E : XK} {x : Str} {p pos : Pos} {kws : List Keyword} {tk : TA} {g : List Value → List Value → List Value} {gV : List V → List V → List V}
theorem pe_callW0 (F : FnOk X.prog X.w X.K X.mg X.base CX k f fd ps sp) (hr : Room k X.A) (hg : Gl X x) (hm : X.mg x = some (.ref f)) (hk : PySem.W.keepIn X.K (.ref f) = true) (hb : KBn X.K fd ps 0 ks g gV) (hx : Passes CX X E) (hkw : PK X kws tk)
    (hall : (backToKw pos (keywordEach kws X.env)).all (·.1.isSome) = true := by rfl) (hks : (backToKw pos (keywordEach kws X.env)).filterMap (·.1) = ks := by rfl) (hdb : (x == ("__debug__" : Str)) = false := by decide)
    (hpl : ((backTo pos (starEach [] X.env)).any (·.1) || (backToKw pos (keywordEach kws X.env)).any (·.1.isNone)) = false := by rfl) :
    PE X (.Call (.Name x p) [] kws pos) (tCallN 0 ks.length sp gV E tNil tk) := by
  refine ⟨fun pins s σ H Q I h => ?_⟩
  refine wpAny_Call_Name_kw (ld_glob I hg hm ?_ hdb)
  refine PySem.W.callWith_KW0 (h₀ := X.base) I.ok.mod.kin hk hall ?_ hpl
  refine thn (hkw.run pos pins s σ H _ I h) fun ws s2 ⟨zs, H2, I2, rz, l1, l2, q2⟩ => ⟨I2.kIn, ?_⟩
  rw [hks]
  exact run_fnN (us := []) (vs := []) F hr hb hx I2 .nil rz rfl l2 q2
end
/-- how it binds: the values in another order -/
theorem kbn_of {K : PySem.W.Frag} {x qual : Str} {st : Stmt} {f : Addr} {fd : FuncData} {ps ks : List Str} {go : {α : Type} → List α → List α} (F : L2.Fun K x qual st f fd)
    (h : ∀ (kV doc pm : Value) (an : Option Addr) (cdv ct : Value) (ws : List Value), ws.length = ks.length → bindArgs (PySem.W.fnOf x qual (defArgs st) (defBody st) (defScope st) .none kV doc pm an cdv ct) ⟨[], ks.zip ws⟩ = pure (ps.zip (go ws)))
    (hv : ∀ {zs : List V} {ws : List Value}, Vals zs ws → Vals (go zs) (go ws)) : KBn K fd ps 0 ks (fun _ ws => go ws) (fun _ zs => go zs) := by
  obtain ⟨oc, od, kV, doc, pm, an, cdv, ct, osl, rfl, lk, hcd⟩ := F.ex
  exact ⟨fun s us ws _ h0 h1 => by
    obtain rfl := List.length_eq_zero_iff.mp h0
    exact .of_eq (h kV doc pm an cdv ct ws h1), fun _ rz => hv rz⟩
end Dt
namespace Dt
open PySem PySem.Spec PyProof.Rows L2 Evl Fx
section
variable {F : Fd} {K : PySem.W.Frag} {tk : TA} {σ : L2.St} {H : Hp} {k m : Nat} {ds : List PyData} {d : PyData}
/-- a call by keywords alone, the values turned round -/
theorem rd_callW {Rl : List PyData → PyData → Prop} {E : XK} (o : F.Ok) (h : EvRA F tk σ H k (fun vs H => DpAll K H vs ds)) (hm : ds.length = m) (hR : Rl ds.reverse d) : EvR F (tCallN 0 m (spD K Rl) (fun _ zs => zs.reverse) E tNil tk) σ H k (IsD K d) := fun n H1 hn g e Q q =>
  h n H1 hn g e _ fun zs H2 e2 g2 p => ⟨rfl, (dps_len p).trans hm, ds.reverse, d, dps_rev p, hR, fun v H3 e3 hv => q v H3 (e2.trans (Kx.ex e3)) (o.ex g2 e3) hv⟩
end
end Dt
/-! ### data whose written form is short enough -/
namespace Dt
open PySem PySem.Spec PyProof.Rows L2 Evl Fx
structure Sh (n w : Nat) (d : PyData) : Prop where
  lay : PyData.canLay0 d = true
  nums : PyData.intsShort 13 d = true
  shows : PyData.showable d = true
  nod : PyData.hasDict d = false
  dep : PyData.depth d ≤ n
  wt : PyData.weight d ≤ w
theorem Sh.mono {n m w v : Nat} {d : PyData} (h : Sh n w d) (h1 : n ≤ m) (h2 : w ≤ v) : Sh m v d := ⟨h.lay, h.nums, h.shows, h.nod, Nat.le_trans h.dep h1, Nat.le_trans h.wt h2⟩
theorem sh_int' {i : Int} (h : i.natAbs < 10 ^ 12) : Sh 0 41 (.int i) := by
  have h40 : i.natAbs < 2 ^ 40 := by omega
  have hl : i.natAbs.log2 < 40 := by
    by_cases h0 : i.natAbs = 0
    · rw [h0]; decide
    · exact (Nat.log2_lt h0).mpr h40
  refine ⟨by simp [PyData.canLay0], ?_, ?_, by simp [PyData.hasDict], by simp [PyData.depth], ?_⟩
  · have := int_text_length_le10 (a := i) (k := 12) (by decide) h
    simp only [PyData.intsShort, PyData.shown]
    exact decide_eq_true (by rw [PySem.ofString_length]; exact this)
  · simp only [PyData.showable]
    exact decide_eq_true (by omega)
  · simp only [PyData.weight]
    split <;> omega
theorem sh_str' {x : Str} {w : Nat} (h : PyData.strOk x = true) (hw : x.cps.size ≤ w) : Sh 0 w (.str x) :=
  ⟨by simp [PyData.canLay0, h], by simp [PyData.intsShort], by simp [PyData.showable], by simp [PyData.hasDict], by simp [PyData.depth], by simp only [PyData.weight]; exact hw⟩
theorem sh_all {n w : Nat} : ∀ {ds : List PyData}, (∀ x ∈ ds, Sh n w x) → PyData.canLayAll0 ds = true ∧ PyData.intsShortAll 13 ds = true ∧ PyData.showableAll ds = true ∧ PyData.hasDictAll ds = false ∧ PyData.depthAll ds ≤ n ∧ PyData.weightAll ds ≤ ds.length * (w + 1)
  | [], _ => by simp [PyData.canLayAll0, PyData.intsShortAll, PyData.showableAll, PyData.hasDictAll, PyData.depthAll, PyData.weightAll]
  | d :: ds, h => by
    obtain ⟨a1, a2, a3, a4, a5, a6⟩ := sh_all fun x hx => h x (List.mem_cons_of_mem _ hx)
    have b := h d (List.mem_cons_self ..)
    have b5 := b.dep
    have b6 := b.wt
    refine ⟨by rw [PyData.canLayAll0, b.lay, a1]; rfl, by rw [PyData.intsShortAll, b.nums, a2]; rfl, by rw [PyData.showableAll, b.shows, a3]; rfl, by rw [PyData.hasDictAll, b.nod, a4]; rfl, by rw [PyData.depthAll]; omega, ?_⟩
    rw [PyData.weightAll, List.length_cons, Nat.succ_mul]
    omega
theorem sh_tup {n w m : Nat} {ds : List PyData} (h : ∀ x ∈ ds, Sh n w x) (hm : ds.length ≤ m) : Sh (n + 1) (m * (w + 1)) (.tuple ds) := by
  obtain ⟨a1, a2, a3, a4, a5, a6⟩ := sh_all h
  refine ⟨by rw [PyData.canLay0]; exact a1, by rw [PyData.intsShort]; exact a2, by rw [PyData.showable]; exact a3, by rw [PyData.hasDict]; exact a4, by rw [PyData.depth]; omega, ?_⟩
  rw [PyData.weight]
  exact Nat.le_trans a6 (Nat.mul_le_mul_right _ hm)
theorem Sh.len {n w : Nat} {d : PyData} (h : Sh n w d) (hn : n ≤ 64) (hw : w ≤ 2 ^ 20) : d.shown.length ≤ sizeLine := by
  have h2 := PyData.shown_fits (B := 13) (by decide) (by decide) (PyData.leavesShort_of_canLay0 13 d h.lay h.nums) (Nat.le_trans h.wt hw)
  exact h2
theorem Sh.shaped {n w : Nat} {d : PyData} (h : Sh n w d) (hn : n ≤ 64) : SeqAt.shaped d = true := by
  show (d.canLay0 && decide (d.depth ≤ 64)) = true
  rw [h.lay, decide_eq_true (Nat.le_trans h.dep hn)]
  rfl
section
variable {F : Fd} {K : PySem.W.Frag} {te : TE} {σ : L2.St} {H : Hp} {k n w : Nat} {ds : List PyData}
/-- repr of a tuple of data -/
theorem rv_repr (h : EvR F te σ H k (IsD K (.tuple ds))) (s : Sh n w (.tuple ds)) (hn : n ≤ 60) (hw : w ≤ 2 ^ 20) : EvR F (tCB (DtG.rReprD K) (tCons te tNil)) σ H k (fun x _ => x = .str (PyData.shown (.tuple ds))) := fun n1 H1 h1 g e Q q => h n1 H1 h1 g e _ fun v H2 e2 g2 hd => by
  cases hd with
  | @tup a xs _ ha hx => exact ⟨a, .tuple ds, rfl, .tup ha hx, s.shows, s.nod, Nat.le_trans s.dep hn, s.len (by omega) hw, q _ H2 e2 g2 rfl⟩
end
end Dt
namespace Tr
open PySem PySem.Spec PyProof.Rows L2 Evl Fx Fr Dt
def NiceM (t : T) : Prop := ∀ s ∈ subs t, (s.name = "db" ∨ s.name = "front" ∨ s.name = "pay") ∧ (s.mark = 0 ∨ s.mark = 1)
def Nm (x : Str) : Prop := x = "db" ∨ x = "front" ∨ x = "pay"
theorem nm_ok {x : Str} (h : Nm x) : PyData.strOk x = true ∧ x.cps.size ≤ 5 := by
  rcases h with rfl | rfl | rfl <;> exact ⟨by decide +kernel, by decide +kernel⟩
theorem w_int {i : Int} (h : i = 0 ∨ i = 1) : PyData.weight (.int i) ≤ 1 := by
  rcases h with rfl | rfl <;> decide +kernel
mutual
theorem sh_tree : ∀ t : T, NiceM t → Sh (2 * size t) (10 * size t - 1) (enc t)
  | .mk s m cs, h => by
    have h0 := h (.mk s m cs) (by rw [subs]; exact List.mem_cons_self ..)
    have n0 := nm_ok (show Nm s from h0.1)
    have hm : m = 0 ∨ m = 1 := h0.2
    obtain ⟨a1, a2, a3, a4, a5, a6⟩ := sh_trees cs fun x hx => h x (by rw [subs]; exact List.mem_cons_of_mem _ hx)
    have hi := sh_int' (i := m) (by rcases hm with rfl | rfl <;> decide)
    have wi := w_int hm
    have ws : PyData.weight (.str s) ≤ 5 := n0.2
    rw [enc, size]
    have hs := sh_str' n0.1 n0.2
    refine ⟨by simp only [PyData.canLay0, PyData.canLayAll0, n0.1, a1, Bool.and_true], ?_, ?_, by simp only [PyData.hasDict, PyData.hasDictAll, a4, Bool.or_false], by simp only [PyData.depth, PyData.depthAll]; omega, ?_⟩
    · have e1 := hi.nums
      simp only [PyData.intsShort, PyData.intsShortAll, a2, Bool.true_and, Bool.and_true] at e1 ⊢
      exact e1
    · have e1 := hi.shows
      simp only [PyData.showable, PyData.showableAll, a3, Bool.true_and, Bool.and_true] at e1 ⊢
      exact e1
    · have : PyData.weight (.tuple [.str s, .int m, .tuple (encs cs)]) = PyData.weight (.str s) + 1 + (PyData.weight (.int m) + 1 + (PyData.weightAll (encs cs) + 1 + 0)) := by
        simp only [PyData.weight, PyData.weightAll]
      rw [this]
      omega
theorem sh_trees : ∀ ts : List T, (∀ s ∈ subsA ts, (s.name = "db" ∨ s.name = "front" ∨ s.name = "pay") ∧ (s.mark = 0 ∨ s.mark = 1)) → PyData.canLayAll0 (encs ts) = true ∧ PyData.intsShortAll 13 (encs ts) = true ∧ PyData.showableAll (encs ts) = true ∧ PyData.hasDictAll (encs ts) = false ∧ PyData.depthAll (encs ts) ≤ 2 * sizes ts ∧ PyData.weightAll (encs ts) ≤ 10 * sizes ts
  | [], _ => by rw [encs]; simp [PyData.canLayAll0, PyData.intsShortAll, PyData.showableAll, PyData.hasDictAll, PyData.depthAll, PyData.weightAll]
  | t :: ts, h => by
    have h1 := sh_tree t fun s hs => h s (by rw [subsA]; exact List.mem_append_left _ hs)
    obtain ⟨a1, a2, a3, a4, a5, a6⟩ := sh_trees ts fun s hs => h s (by rw [subsA]; exact List.mem_append_right _ hs)
    have b5 := h1.dep
    have b6 := h1.wt
    have hs := size_eq t
    rw [encs, sizes]
    refine ⟨by rw [PyData.canLayAll0, h1.lay, a1]; rfl, by rw [PyData.intsShortAll, h1.nums, a2]; rfl, by rw [PyData.showableAll, h1.shows, a3]; rfl, by rw [PyData.hasDictAll, h1.nod, a4]; rfl, by rw [PyData.depthAll]; omega, ?_⟩
    rw [PyData.weightAll]
    omega
end
end Tr
namespace Tr
open PySem PySem.Spec PyProof.Rows L2 Evl Fx Fr Dt
mutual
theorem placed_small : ∀ (q : List Nat) (t : T) (x : List Nat × T), x ∈ placed q t → ∀ i ∈ x.1, i ∈ q ∨ i < size t
  | q, .mk s m cs, x, h, i, hi => by
    rw [placed, List.mem_cons] at h
    rw [size]
    rcases h with rfl | h
    · exact .inl hi
    · rcases placedA_small q 0 cs x h i hi with z | z
      · exact .inl z
      · exact .inr (by omega)
theorem placedA_small : ∀ (q : List Nat) (j : Nat) (ts : List T) (x : List Nat × T), x ∈ placedA q j ts → ∀ i ∈ x.1, i ∈ q ∨ i < j + sizes ts
  | q, j, [], x, h, i, hi => by
    rw [placedA] at h
    cases h
  | q, j, t :: ts, x, h, i, hi => by
    rw [placedA, List.mem_append] at h
    rw [sizes]
    have hs := size_eq t
    rcases h with h | h
    · rcases placed_small (q ++ [j]) t x h i hi with z | z
      · rcases List.mem_append.mp z with z | z
        · exact .inl z
        · have := List.mem_singleton.mp z
          exact .inr (by omega)
      · exact .inr (by omega)
    · rcases placedA_small q (j + 1) ts x h i hi with z | z
      · exact .inl z
      · exact .inr (by omega)
end
theorem fold_mem (ρ : Str → Ru) (late : Bool) (draw : Rat) : ∀ (xs : List ((List Nat × T) × (Rat × Rat))) (acc : List (List Nat)) (p : List Nat), p ∈ xs.foldl (Tr.step ρ late draw) acc → p ∈ acc ∨ ∃ x ∈ xs, x.1.1 = p
  | [], acc, p, h => .inl h
  | x :: xs, acc, p, h => by
    rw [List.foldl_cons] at h
    rcases fold_mem ρ late draw xs _ p h with z | ⟨y, hy, e⟩
    · unfold Tr.step at z
      split at z
      · rcases List.mem_append.mp z with z | z
        · exact .inl z
        · exact .inr ⟨x, List.mem_cons_self .., (List.mem_singleton.mp z).symm⟩
      · exact .inl z
    · exact .inr ⟨y, List.mem_cons_of_mem _ hy, e⟩
theorem kept_mem {ρ : Str → Ru} {t : T} {draw : Rat} {owns : List (Rat × Rat)} {p : List Nat} (h : p ∈ keptBy ρ t draw owns) : ∃ x ∈ placed [] t, x.1 = p := by
  rcases fold_mem ρ (isBad t) draw _ _ p h with z | ⟨x, hx, e⟩
  · cases z
  · exact ⟨x.1, (List.of_mem_zip hx).1, e⟩
theorem kept_len {ρ : Str → Ru} {t : T} {draw : Rat} {owns : List (Rat × Rat)} : (keptBy ρ t draw owns).length ≤ size t := by
  have h := step_len ρ (isBad t) draw ((placed [] t).zip owns) []
  rw [List.length_zip, placed_len, List.length_nil] at h
  unfold keptBy
  omega
theorem sh_kept {ρ : Str → Ru} {t : T} {draw : Rat} {owns : List (Rat × Rat)} (hs : size t ≤ 6) : Sh 2 (6 * (6 * (41 + 1) + 1)) (.tuple ((keptBy ρ t draw owns).map pathD)) := by
  refine sh_tup (n := 1) (w := 6 * (41 + 1)) (m := 6) (fun d hd => ?_) (by rw [List.length_map]; exact Nat.le_trans kept_len hs)
  obtain ⟨p, hp, rfl⟩ := List.mem_map.mp hd
  obtain ⟨x, hx, rfl⟩ := kept_mem hp
  have h1 := placed_path [] t x hx
  have h2 := size_eq x.2
  simp only [List.length_nil] at h1
  refine sh_tup (n := 0) (w := 41) (m := 6) (fun d hd => ?_) (by rw [List.length_map]; omega)
  obtain ⟨i, hi, rfl⟩ := List.mem_map.mp hd
  rcases placed_small [] t x hx i hi with z | z
  · cases z
  · exact sh_int' (by omega)
theorem sh_lot {x : Rat} (h : x ∈ lots) : Sh 1 (2 * (41 + 1)) (frD x) := sh_tup (n := 0) (w := 41) (m := 2) (fun d hd => by
  have hb : x.num.natAbs < 1000 ∧ x.den < 1000 := by
    simp only [lots, List.mem_cons, List.not_mem_nil, or_false] at h
    rcases h with rfl | rfl | rfl | rfl | rfl | rfl | rfl | rfl | rfl | rfl | rfl <;> exact ⟨by decide, by decide⟩
  rcases List.mem_cons.mp hd with rfl | hd
  · exact sh_int' (by omega)
  · rcases List.mem_cons.mp hd with rfl | hd
    · exact sh_int' (by omega)
    · cases hd) (by simp)
theorem word_len (x : Pl) : x.word.cps.size ≤ 6 := by
  cases x with
  | own p q => exact (by decide +kernel : (("own" : Str).cps.size ≤ 6))
  | shared p q => exact (by decide +kernel : (("shared" : Str).cps.size ≤ 6))
  | caller => decide +kernel
  | bad => decide +kernel
  | late => decide +kernel
  | never => decide +kernel
theorem sh_pl {x : Pl} (h : x.Sm) : Sh 1 (3 * (41 + 1)) x.D := by
  have hm : ∀ d ∈ x.more, ∃ i : Int, d = .int i := fun d hd => by
    cases x with
    | own p q =>
      have : d = .int p ∨ d = .int q := by
        have z : d ∈ [PyData.int p, PyData.int q] := hd
        simpa using z
      rcases this with e | e
      · exact ⟨p, e⟩
      · exact ⟨q, e⟩
    | shared p q =>
      have : d = .int p ∨ d = .int q := by
        have z : d ∈ [PyData.int p, PyData.int q] := hd
        simpa using z
      rcases this with e | e
      · exact ⟨p, e⟩
      · exact ⟨q, e⟩
    | caller => cases hd
    | bad => cases hd
    | late => cases hd
    | never => cases hd
  refine sh_tup (n := 0) (w := 41) (m := 3) (fun d hd => ?_) (by cases x <;> simp [Pl.more])
  rcases List.mem_cons.mp hd with rfl | hd
  · exact (sh_str' (word_ok x) (word_len x)).mono (Nat.le_refl _) (by decide)
  · obtain ⟨i, rfl⟩ := hm d hd
    have := h i hd
    exact sh_int' (by omega)
theorem sh_ru {r : Ru} (h : ∀ p ∈ r.plains, p.Sm) : Sh 2 (3 * (3 * (41 + 1) + 1)) r.D := by
  cases r with
  | one a => exact (sh_pl (h a (List.mem_cons_self ..))).mono (by decide) (by decide)
  | or a b =>
    have ha := sh_pl (h a (List.mem_cons_self ..))
    have hb := sh_pl (h b (List.mem_cons_of_mem _ (List.mem_cons_self ..)))
    refine sh_tup (n := 1) (w := 3 * (41 + 1)) (m := 3) (fun d hd => ?_) (by simp)
    rcases List.mem_cons.mp hd with rfl | hd
    · exact (sh_str' (w := 2) (by decide +kernel) (by decide +kernel)).mono (by decide) (by decide)
    · rcases List.mem_cons.mp hd with rfl | hd
      · exact ha
      · rcases List.mem_cons.mp hd with rfl | hd
        · exact hb
        · cases hd
theorem sh_row {x : Str × Ru} (hn : Nm x.1) (h : ∀ p ∈ x.2.plains, p.Sm) : Sh 3 800 (rowD x) := by
  refine (sh_tup (n := 2) (w := 3 * (3 * (41 + 1) + 1)) (m := 2) (fun d hd => ?_) (by simp)).mono (by decide) (by decide)
  rcases List.mem_cons.mp hd with rfl | hd
  · exact (sh_str' (nm_ok hn).1 (nm_ok hn).2).mono (by decide) (by decide)
  · rcases List.mem_cons.mp hd with rfl | hd
    · exact sh_ru h
    · cases hd
end Tr
/-! ### sets of texts, of a list of any length; sorted(set(texts)) -/
namespace Sts
open PySem PySem.Spec PyProof.Rows L2
/-- an entry's text -/
def tx (e : Int × Value) : Str := match e.2 with | .str k _ => k | _ => Str.empty
/-- an entry is a text by its hash -/
def TxE (w : World) (e : Int × Value) : Prop := ∃ k tk, e.2 = Value.str k tk ∧ e.1 = hashStr w k
/-- the set at a has the texts l, and can be walked -/
def SetX (w : World) (h : Heap) (a : Addr) (l : List Str) : Prop :=
  ∃ o es ep t, h.get? a = some o ∧ o.ExactSet ∧ o.data = .set es ep t ∧ (∀ e ∈ es.toList, TxE w e) ∧ (es.toList.map tx).Perm l ∧ l.Nodup ∧ es.size < scanBound ∧ t.fits es.size = true ∧ Ris t.place.toList ∧ (w.params.followText "set-order" = true ∨ t.led = true)
/-- one text more -/
def one (l : List Str) (k : Str) : List Str := if k ∈ l then l else l ++ [k]
/-- the texts, each once -/
def dd (xs : List Str) : List Str := xs.foldl one []
theorem one_mem {l : List Str} {k x : Str} : x ∈ one l k ↔ x ∈ l ∨ x = k := by
  unfold one
  split
  · rename_i h
    exact ⟨.inl, fun z => z.elim id fun e => e ▸ h⟩
  · rw [List.mem_append, List.mem_singleton]
theorem one_len {l : List Str} {k : Str} : (one l k).length ≤ l.length + 1 := by
  unfold one
  split
  · omega
  · rw [List.length_append, List.length_singleton]
    exact Nat.le_refl _
theorem one_nodup {l : List Str} {k : Str} (h : l.Nodup) : (one l k).Nodup := by
  unfold one
  split
  · exact h
  · rename_i hk
    exact ((List.perm_append_singleton k l).nodup_iff).mpr (List.nodup_cons.mpr ⟨hk, h⟩)
theorem fold_mem {x : Str} : ∀ (xs l : List Str), x ∈ xs.foldl one l ↔ x ∈ l ∨ x ∈ xs
  | [], l => by simp
  | k :: xs, l => by
    rw [List.foldl_cons, fold_mem xs, one_mem, List.mem_cons]
    exact or_assoc
theorem fold_nodup : ∀ (xs l : List Str), l.Nodup → (xs.foldl one l).Nodup
  | [], l, h => h
  | k :: xs, l, h => by
    rw [List.foldl_cons]
    exact fold_nodup xs _ (one_nodup h)
theorem fold_len : ∀ (xs l : List Str), (xs.foldl one l).length ≤ l.length + xs.length
  | [], l => Nat.le_refl _
  | k :: xs, l => by
    have h1 := fold_len xs (one l k)
    have h2 := one_len (l := l) (k := k)
    rw [List.foldl_cons, List.length_cons]
    omega
theorem dd_mem {xs : List Str} {x : Str} : x ∈ dd xs ↔ x ∈ xs := by
  unfold dd
  rw [fold_mem]
  simp
theorem dd_nodup (xs : List Str) : (dd xs).Nodup := fold_nodup xs [] List.nodup_nil
theorem dd_len (xs : List Str) : (dd xs).length ≤ xs.length := by
  have := fold_len xs []
  rw [List.length_nil, Nat.zero_add] at this
  exact this
theorem dd_next {xs : List Str} {i : Nat} {k : Str} (h : xs[i]? = some k) : dd (xs.take (i + 1)) = one (dd (xs.take i)) k := by
  unfold dd
  rw [List.take_add_one, h, List.foldl_append]
  rfl
section
variable {P : Program} {w : World} {h h' : Heap} {a : Addr} {l : List Str}
theorem SetX.at (R : SetX w h a l) (k : ∀ o, h.get? a = some o → h'.get? a = some o) : SetX w h' a l := by
  obtain ⟨o, es, ep, t, ho, r⟩ := R
  exact ⟨o, es, ep, t, k o ho, r⟩
theorem el_of {es : List (Int × Value)} (g : ∀ e ∈ es, TxE w e) : ElemsOf (PySem.strKind P w) es := fun e he => by
  obtain ⟨k, tk, h1, h2⟩ := g e he
  exact ⟨⟨k, by rw [h1]; exact strKind_is P w k tk, h2⟩, by rw [h1]; rfl⟩
theorem is_tx {e : Int × Value} (g : TxE w e) (k : Str) : (PySem.strKind P w).is k e.2 = true ↔ tx e = k := by
  obtain ⟨k0, tk, h1, _⟩ := g
  unfold tx
  rw [h1]
  have his := strKind_is P w k0 tk
  exact ⟨fun z => ((PySem.strKind P w).inj _ _ _ z his).symm, fun z => z ▸ his⟩
theorem mem_tx {es : List (Int × Value)} (g : ∀ e ∈ es, TxE w e) (k : Str) : k ∈ es.map tx ↔ ∃ e ∈ es, (PySem.strKind P w).is k e.2 = true := by
  rw [List.mem_map]
  exact ⟨fun ⟨e, he, q⟩ => ⟨e, he, (is_tx (g e he) k).2 q⟩, fun ⟨e, he, q⟩ => ⟨e, he, (is_tx (g e he) k).1 q⟩⟩
theorem vals_tx : ∀ {es : List (Int × Value)}, (∀ e ∈ es, TxE w e) → StrsAre (es.map (·.2)) (es.map tx)
  | [], _ => .nil
  | e :: es, g => by
    obtain ⟨k, tk, h1, _⟩ := g e (List.mem_cons_self ..)
    have ht : tx e = k := by
      unfold tx
      rw [h1]
    rw [List.map_cons, List.map_cons, ht, h1]
    exact .cons k tk (vals_tx fun u hu => g u (List.mem_cons_of_mem _ hu))
end
section
variable {P : Program} {w : World} {A : Around} {E : Value → Shared → Prop} {s : Shared} {a : Addr} {l : List Str}
/-- the end of an addition, laid anew or not -/
theorem add_end {g : Bool → Sem Unit} (hg : ∀ (b : Bool) (s₁ : Shared) (Q' : Unit → Shared → Prop), Q' () s₁ → wpAny (model P w) A (g b) Q' E s₁)
    {o : Obj} {es : Array (Int × Value)} {ep : Nat} {t : SetTable} (ho : s.heap.get? a = some o) (hex : o.ExactSet) (hd : o.data = .set es ep t) {es1 : Array (Int × Value)} {t2 : SetTable} {l1 : List Str}
    (g1 : ∀ e ∈ es1.toList, TxE w e) (p1 : (es1.toList.map tx).Perm l1) (nd1 : l1.Nodup) (hb1 : es1.size < scanBound) (hf2 : t2.fits es1.size = true) (hr : Ris t2.place.toList) (hl : w.params.followText "set-order" = true ∨ t2.led = true) {dummy : Bool} {R : Option Bool → Shared → Prop}
    (hR : ∀ h', Heap.SameBut a s.heap h' → SetX w h' a l1 → R (some true) { s with heap := h' }) :
    wpAny (model P w) A (do
        storeSet a es1 t2
        if (!dummy && t2.tooFull) = true then do
            g (relayAll t2 es1 (SetTable.grown es1.size)).2.2
            storeSet a (relayAll t2 es1 (SetTable.grown es1.size)).1 (relayAll t2 es1 (SetTable.grown es1.size)).2.1
            pure (some true)
          else pure (some true)) R E s := by
  have at1 := store_at (es' := es1) (t' := t2) ho hd
  have but1 := Heap.SameBut.update s.heap a (Obj.putSet es1 t2)
  refine wpAny_bind (wpAny_storeSet_of ho hd ?_ (fits_of_scanBound hb1))
  split
  · have r1 := relayAll_perm t2 es1 (SetTable.grown es1.size)
    have r2 := relayAll_fits t2 es1 (SetTable.grown es1.size)
    have r3 := relayAll_ris t2 es1 (SetTable.grown es1.size)
    have r4 := relayAll_led t2 es1 (SetTable.grown es1.size)
    generalize relayAll t2 es1 (SetTable.grown es1.size) = Z at r1 r2 r3 r4 ⊢
    obtain ⟨es2, t3, gv⟩ := Z
    dsimp only at r1 r2 r3 r4 ⊢
    have n2 : es2.size = es1.size := by rw [← Array.length_toList, r1.length_eq, Array.length_toList]
    have b2 : es2.size < scanBound := n2 ▸ hb1
    refine wpAny_bind (hg _ _ _ (wpAny_bind (wpAny_storeSet_of at1 rfl ?_ (fits_of_scanBound b2))))
    have at2 := store_at (es' := es2) (t' := t3) at1 rfl
    exact wpAny_pure (hR _ (but1.trans (Heap.SameBut.update _ a _)) ⟨_, es2, _, t3, at2, hex, rfl, fun e he => g1 e (r1.mem_iff.mp he), (r1.map tx).trans p1, nd1, b2, r2, r3, hl.imp id fun z => r4.trans z⟩)
  · exact wpAny_pure (hR _ but1 ⟨_, es1, _, t2, at1, hex, rfl, g1, p1, nd1, hb1, hf2, hr, hl⟩)
theorem add_text {k : Str} {tk : Tok} {Q : Bool → Shared → Prop} (R : SetX w s.heap a l) (room : l.length + 1 < scanBound)
    (hQ : ∀ b h', Heap.SameBut a s.heap h' → SetX w h' a (one l k) → Q b { s with heap := h' }) :
    wpAny (model P w) A (setAddHashed a (.str k tk) ((PySem.strKind P w).hash k)) Q E s := by
  obtain ⟨o, es, ep, t, ho, hex, hd, g, pm, nd, hb, hf, hr, hl⟩ := R
  have ki : (PySem.strKind P w).is k (.str k tk) = true := strKind_is P w k tk
  have sc : (Value.str k tk).scannable = true := rfl
  have el : ElemsOf (PySem.strKind P w) es.toList := el_of g
  have ln : es.size = l.length := by rw [← pm.length_eq, List.length_map, Array.length_toList]
  unfold setAddHashed setAddHashedIn
  refine wpAny_holding (wpAny_bind (wpAny_setState_of ho hd hf ?_))
  dsimp only
  rw [byScan_of sc hb el]
  simp only [↓reduceIte]
  unfold setAddByScan
  refine wpAny_bind (wpAny_bind (wpAny_rule (wpAny_bind (wpAny_setScan_of ki ho hd hf el ?_))))
  cases hfi : List.findIdx? (fun e => (PySem.strKind P w).is k e.2) es.toList with
  | some j =>
    dsimp only
    obtain ⟨hj, pj, _⟩ := List.findIdx?_eq_some_iff_getElem.mp hfi
    have hk : k ∈ l := pm.mem_iff.mp ((mem_tx (P := P) (w := w) g k).2 ⟨es.toList[j], List.getElem_mem hj, pj⟩)
    have e1 : one l k = l := if_pos hk
    exact wpAny_pure (wpAny_pure (hQ _ s.heap (Heap.SameBut.refl a s.heap) (by rw [e1]; exact ⟨o, es, ep, t, ho, hex, hd, g, pm, nd, hb, hf, hr, hl⟩)))
  | none =>
    dsimp only
    have hk : k ∉ l := fun z => by
      obtain ⟨e, he, q⟩ := (mem_tx (P := P) (w := w) g k).1 (pm.mem_iff.mpr z)
      have c := List.findIdx?_eq_none_iff.mp hfi e he
      rw [q] at c
      cases c
    have e1 : one l k = l ++ [k] := if_neg hk
    have gw : ∀ (b : Bool) {s₁ : Shared} {Q' : Unit → Shared → Prop}, Q' () s₁ → wpAny (model P w) A (match b with | true => rule "set.scan.the-table-gave-way" | false => pure ()) Q' E s₁ :=
      fun b s₁ Q' q => by
        cases b with
        | true => exact wpAny_rule q
        | false => exact wpAny_pure q
    have n1 := layNew_perm t es ((PySem.strKind P w).hash k) (.str k tk)
    have n2 := layNew_fits t es ((PySem.strKind P w).hash k) (.str k tk)
    have n3 := layNew_ris t es ((PySem.strKind P w).hash k) (.str k tk) hr
    have n4 := layNew_led t es ((PySem.strKind P w).hash k) (.str k tk)
    generalize layNew t es ((PySem.strKind P w).hash k) (.str k tk) = Z at n1 n2 n3 n4 ⊢
    obtain ⟨es1, t1, dummy, gv⟩ := Z
    dsimp only at n1 n2 n3 n4 ⊢
    rw [Array.toList_push] at n1
    have pc : es1.toList.Perm (((PySem.strKind P w).hash k, Value.str k tk) :: es.toList) := n1.trans (List.perm_append_singleton _ _)
    have pk : (es1.toList.map tx).Perm (one l k) := by
      rw [e1]
      have q : (es1.toList.map tx).Perm (k :: es.toList.map tx) := pc.map tx
      exact q.trans ((pm.cons k).trans (List.perm_append_singleton k l).symm)
    have g1 : ∀ e ∈ es1.toList, TxE w e := fun e he => by
      rcases List.mem_cons.mp (pc.mem_iff.mp he) with z | z
      · rw [z]
        exact ⟨k, tk, rfl, rfl⟩
      · exact g e z
    have z1 : es1.size = l.length + 1 := by rw [← Array.length_toList, pc.length_eq, List.length_cons, Array.length_toList, ln]
    have b1 : es1.size < scanBound := z1 ▸ room
    have led1 : w.params.followText "set-order" = true ∨ t1.led = true := hl.imp id fun z => n4.trans z
    have nd1 : (one l k).Nodup := one_nodup nd
    refine wpAny_bind (gw _ ?_)
    split
    · refine wpAny_bind ?_
      rw [hashByValue_scannable 8 sc]
      refine wpAny_pure ?_
      refine add_end ?_ ho hex hd g1 pk nd1 b1 ?_ ?_ ?_ ?_
      · intro b s₁ Q' q
        cases b <;> first | exact wpAny_pure q | exact wpAny_rule q
      · first | (split <;> first | exact n2 | exact SetTable.fits_plain_off n2) | exact n2
      · first | (split <;> exact n3) | exact n3
      · first | (split <;> exact led1) | exact led1
      · intro h' sb r
        dsimp only
        exact wpAny_pure (hQ true h' sb r)
    · refine wpAny_bind (wpAny_pure ?_)
      simp only [↓reduceIte]
      refine add_end ?_ ho hex hd g1 pk nd1 b1 n2 n3 led1 ?_
      · intro b s₁ Q' q
        cases b <;> first | exact wpAny_pure q | exact wpAny_rule q
      · intro h' sb r
        dsimp only
        exact wpAny_pure (hQ true h' sb r)
/-- the loop of set(xs) -/
theorem fill_loop {I : Addr} {fp wr : List Addr} {G : Array GenState → Array GenState → Prop} {n : Nat} {Pv : Nat → Value → Prop} {St : Nat → Shared → Prop} {R : Result → Shared → Prop}
    (W : WalksS P w A.in1 I fp wr G n Pv St) (C : Addr) (hC : C ∉ fp) (xs : List Str) (hn : n = xs.length) (hb : xs.length + 1 < scanBound) (hv : ∀ i v, Pv i v → ∃ k t, xs[i]? = some k ∧ v = .str k t) :
    ∀ (m i : Nat) (s : Shared), n - i = m → i ≤ n → St i s → SetX w s.heap C (dd (xs.take i)) →
      (∀ s', Moved (C :: wr) G s s' → SetX w s'.heap C (dd xs) → R (.ok (.ret .none)) s') →
      codeAny (model P w) A (.builtin "set.update.loop" ⟨[.ref C, .ref I], []⟩) R s := by
  have hCw : C ∉ wr := fun h => hC (W.sub _ h)
  have up : ∀ b ∈ wr, b ∈ C :: wr := fun b hb => List.mem_cons_of_mem _ hb
  intro m
  induction m with
  | zero =>
    intro i s hm hi st X hR
    obtain rfl : i = n := by omega
    refine codeAny_builtin F.entry_set_update_loop ?_
    rw [Around.under_plainId F.plain_set_update_loop _]
    show wpAny _ A.in1 (pyNext (.ref I) >>= _) _ _ s
    refine wpAny_bind (W.done s _ _ st fun s1 mv => ?_)
    show wpAny _ A.in1 (ret Value.none) _ _ s1
    have e : xs.take i = xs := List.take_of_length_le (by omega)
    rw [e] at X
    exact wpAny_pure (hR s1 (mv.mono up) (X.at fun o e => mv.heap C o hCw e))
  | succ m ih =>
    intro i s hm hi st X hR
    have lt : i < n := by omega
    refine codeAny_builtin F.entry_set_update_loop ?_
    rw [Around.under_plainId F.plain_set_update_loop _]
    show wpAny _ A.in1 (pyNext (.ref I) >>= _) _ _ s
    refine wpAny_bind (W.item i s _ _ lt st fun v s1 hP st1 mv => ?_)
    obtain ⟨k, t, hk, rfl⟩ := hv i v hP
    have X1 : SetX w s1.heap C (dd (xs.take i)) := X.at fun o e => mv.heap C o hCw e
    show wpAny _ A.in1 (holding [Value.str k t] (setAdd C (.str k t)) >>= _) _ _ s1
    refine wpAny_bind (wpAny_holding ?_)
    unfold setAdd
    refine wpAny_holding (wpAny_bind ((PySem.strKind P w).pyHash (k := k) (strKind_is _ _ _ _) ?_))
    refine add_text (s := { s1 with toks := s1.toks + 1 }) X1 (by have := dd_len (xs.take i); rw [List.length_take] at this; omega) fun b h2 sb X2 => ?_
    rw [← dd_next hk] at X2
    refine wpAny_pure ⟨plainId_quiet F.plain_set_update_loop _, ih (i + 1) _ (by omega) lt (W.frame _ s1 _ _ st1 (Nat.le_succ _) fun b hb o e => ?_) X2 fun s3 mv3 X3 => ?_⟩
    · rw [sb.2 b (fun z : b = C => hC (z ▸ hb))]
      exact e
    · refine hR s3 (Moved.trans W.gtrans ((mv.mono up).then_heap (Nat.le_succ _) fun b o hb e => ?_) mv3) X3
      rw [sb.2 b (fun z : b = C => hb (z ▸ List.mem_cons_self))]
      exact e
theorem set_new {h : Heap} {a : Addr} (ho : h.get? a = some { cls := .type "set", dict := none, data := .set #[] 0 (.fresh 0 0 (!w.params.followText "set-order")) }) : SetX w h a [] :=
  ⟨_, #[], 0, _, ho, ⟨rfl, rfl, rfl⟩, rfl, (fun e he => by simp at he), List.Perm.refl _, List.nodup_nil, (by decide), (by rfl), List.Pairwise.nil, by
    show _ ∨ (!w.params.followText "set-order") = true
    cases w.params.followText "set-order"
    · exact .inr rfl
    · exact .inl rfl⟩
end
end Sts
namespace Sts
open PySem PySem.Spec PyProof.Rows L2
theorem at_texts : ∀ {us : List Value} {xs : List Str}, StrsAre us xs → ∀ {i : Nat} {v : Value}, us[i]? = some v → ∃ k t, xs[i]? = some k ∧ v = .str k t
  | _, _, .nil, i, v, h => by simp at h
  | _, _, .cons n t hr, 0, v, h => by
    simp at h
    exact ⟨n, t, rfl, h.symm⟩
  | _, _, .cons n t hr, i + 1, v, h => by
    simp only [List.getElem?_cons_succ] at h
    obtain ⟨k, t', e1, e2⟩ := at_texts hr h
    exact ⟨k, t', by rw [List.getElem?_cons_succ]; exact e1, e2⟩
section
variable {P : Program} {w : World} {A : Around} {E : Value → Shared → Prop} {s : Shared}
set_option maxHeartbeats 3200000 in
/-- set(xs), xs a list of texts -/
theorem set_of_texts {l : Addr} {items : Array Value} (xs : List Str) {Q : Value → Shared → Prop} (hh : A.handled = none) (hl : s.heap.IsList l items) (hit : StrsAre items.toList xs) (hb : xs.length + 1 < scanBound)
    (h : ∀ (h' : Heap) (tk : Nat), SetX w h' s.heap.objs.size (dd xs) → (∀ b o, s.heap.get? b = some o → h'.get? b = some o) → Q (.ref s.heap.objs.size) { s with heap := h', toks := tk }) :
    wpAny (model P w) A (call (.type "set") [.ref l]) Q E s := by
  have isz : items.size = xs.length := by rw [← StrsAre.len_eq hit, Array.length_toList]
  obtain ⟨c, tl, hmro⟩ := F.called_set.mro
  have made1 := F.called_set.made
  have sub1 := F.called_set.sub
  refine wpAny_call (codeAny_of_tree ?_)
  show wpAny _ _ (callAny (.type "set") _) _ _ _
  refine wpAny_pure ⟨Code.quiet_builtin _ (by decide +kernel), codeAny_builtin F.entry_type_call ?_⟩
  rw [Around.under_plain (weight_type_call_type "set" [.ref l] []) rfl]
  have not1 := F.called_set.notType
  have can1 := F.called_set.canCreate
  have call1 := F.typeCall_set_1 (.ref l)
  repeat (any_goals (first | assumption | wp_step))
  generalize ho0 : ({ cls := .type "set", dict := none, data := .set #[] 0 (.fresh 0 0 (!w.params.followText "set-order")) } : Obj) = O0
  refine codeAny_mono (code_set_led1 (.ref l) (E := E) (Q₁ := fun ob s₁ => ob = .ref s.heap.objs.size ∧ s₁ = { s with heap := s.heap.push O0 }) ⟨rfl, by rw [ho0]⟩) fun r s₁ hr => ?_
  cases r with
  | error e => exact hr
  | ok fl =>
    cases fl with
    | ret ob =>
      obtain ⟨rfl, rfl⟩ := hr
      have at0 : (s.heap.push O0).get? s.heap.objs.size = some O0 := Heap.get?_push_size _ (by subst ho0; rfl)
      have ty0 : Shared.TypeIs { s with heap := s.heap.push O0 } (.ref s.heap.objs.size) "set" := ⟨_, at0, by subst ho0; rfl⟩
      have lk0 := F.called_set.init.lookup
      have bd0 := F.called_set.init.bind (.ref s.heap.objs.size)
      repeat (any_goals (first | assumption | wp_step))
      refine codeAny_mono (codeAny_call_builtin (R := wants (fun r s₂ => r = .none ∧ ∃ h' tk, s₂ = { s with heap := h', toks := tk } ∧ SetX w h' s.heap.objs.size (dd xs) ∧ (∀ b o, s.heap.get? b = some o → h'.get? b = some o)) E) F.called_set.init.plain F.entry_set_init (check_set_init_1 ty0 ?_)) fun r₂ s₂ hr₂ => ?_
      · subst ho0
        obtain ⟨ol, hol, hcl, nl, hdl⟩ := hl
        obtain ⟨ocls, odict, odata, oslots⟩ := ol
        simp only at hcl hdl
        subst hcl hdl
        have hol' : (s.heap.push { cls := .type "set", dict := none, data := .set #[] 0 (.fresh 0 0 (!w.params.followText "set-order")) }).get? l = some { cls := .type "list", dict := odict, data := .seq items nl, slots := oslots } := Heap.get?_push_of_some _ hol
        have sl1 := F.sub_list_set
        have sl2 := F.sub_list_frozenset
        have ne1 : (Value.type "list" == Value.type "dict") = false := by decide
        have il : (s.heap.push { cls := .type "set", dict := none, data := .set #[] 0 (.fresh 0 0 (!w.params.followText "set-order")) }).IsList l items := ⟨_, hol', rfl, nl, rfl⟩
        unfold Builtin.«set.__init__» noKeywords Builtin.Frozenset.updateFrom
        generalize hPI : pyIter = PI
        wp_walk
        subst hPI
        refine wpAny_pyIter_list (s := { s with heap := s.heap.push { cls := .type "set", dict := none, data := .set #[] 0 (.fresh 0 0 (!w.params.followText "set-order")) } }) il ?_
        refine wpAny_bind (wpAny_runValue ?_)
        have lS : l < s.heap.objs.size := Heap.lt_size hol
        have h3 : A.in1.in1.in1.handled = none := by simp [hh]
        have z1 : (s.heap.push { cls := .type "set", dict := none, data := .set #[] 0 (.fresh 0 0 (!w.params.followText "set-order")) }).objs.size = s.heap.objs.size + 1 := Heap.size_push ..
        have neI : l ≠ (s.heap.push { cls := .type "set", dict := none, data := .set #[] 0 (.fresh 0 0 (!w.params.followText "set-order")) }).objs.size := by rw [z1]; exact Nat.ne_of_lt (Nat.lt_succ_of_lt lS)
        have nC : s.heap.objs.size ∉ [(s.heap.push { cls := .type "set", dict := none, data := .set #[] 0 (.fresh 0 0 (!w.params.followText "set-order")) }).objs.size, l] := by
          rw [z1]
          simp only [List.mem_cons, List.mem_singleton, List.not_mem_nil, or_false, not_or]
          exact ⟨Nat.ne_of_lt (Nat.lt_succ_self _), Nat.ne_of_gt lS⟩
        have hval : ∀ (i : Nat) (v : Value), items[i]? = some v → ∃ k t, xs[i]? = some k ∧ v = .str k t := fun i v hv => at_texts hit (by rw [Array.getElem?_toList]; exact hv)
        refine fill_loop ((Walks.list h3 _ l neI items).toS) s.heap.objs.size nC xs isz hb hval (items.size - 0) 0 _ (by omega) (Nat.zero_le _) ⟨⟨_, Heap.get?_push_size _ rfl, rfl, rfl⟩, (il.push _)⟩ ?hS0 ?hR
        case hS0 => exact set_new (w := w) (Heap.get?_push_of_some _ at0)
        case hR =>
          intro s' hm X'
          obtain ⟨h', g2, d', tk', os'⟩ := s'
          obtain rfl : g2 = s.gens := hm.gens
          obtain rfl : d' = s.drawn := hm.drawn
          obtain rfl : os' = s.os := hm.os
          show wpAny _ _ _ _ _ _
          refine wpAny_pure ?_
          show wpAny _ _ (ret Value.none) _ _ _
          refine wpAny_pure ⟨rfl, h', tk', rfl, X', fun b o e => ?_⟩
          have b0 : b < s.heap.objs.size := Heap.lt_size e
          have b1 : b ≠ s.heap.objs.size := Nat.ne_of_lt b0
          have b2 : b ≠ (s.heap.push { cls := .type "set", dict := none, data := .set #[] 0 (.fresh 0 0 (!w.params.followText "set-order")) }).objs.size := by rw [z1]; exact Nat.ne_of_lt (Nat.lt_succ_of_lt b0)
          exact hm.heap b o (by simp only [List.mem_cons, List.mem_singleton, List.not_mem_nil, or_false, not_or]; exact ⟨b1, b2⟩) (Heap.get?_push_of_some _ (Heap.get?_push_of_some _ e))
      · cases r₂ with
        | error e => exact hr₂
        | ok fl₂ =>
          cases fl₂ with
          | ret r =>
            obtain ⟨rfl, h', tk, rfl, X', hk'⟩ := hr₂
            repeat (any_goals (first | assumption | wp_step))
            exact h _ _ X' hk'
          | _ => exact hr₂.elim
    | _ => exact hr.elim
end
end Sts
namespace Sts
open PySem PySem.Spec PyProof.Rows L2
open PySem.W (EachIs)
/-- the order of texts -/
def upS (x y : Str) : Prop := x.cps.toList ≤ y.cps.toList
theorem vals_split (w : World) {l : List Str} : ∀ {us : List Value}, (∀ u ∈ us, ∃ k t, u = Value.str k t ∧ k ∈ l) → ∃ ks, EachIs (fun v (k : Str) => ∃ t, v = Value.str k t) us ks
  | [], _ => ⟨[], .nil⟩
  | u :: us, h => by
    obtain ⟨k, t, e, _⟩ := h u (List.mem_cons_self ..)
    obtain ⟨ks, hs⟩ := vals_split w fun v hv => h v (List.mem_cons_of_mem _ hv)
    exact ⟨k :: ks, .cons ⟨t, e⟩ hs⟩
theorem each_strs : ∀ {us : List Value} {ks : List Str}, EachIs (fun v (k : Str) => ∃ t, v = Value.str k t) us ks → StrsAre us ks
  | _, _, .nil => .nil
  | _, _, .cons ⟨t, e⟩ r => by
    subst e
    exact .cons _ t (each_strs r)
def kOf : Value → Str
  | .str k _ => k
  | _ => Str.empty
theorem each_kOf : ∀ {us : List Value} {ks : List Str}, EachIs (fun v (k : Str) => ∃ t, v = Value.str k t) us ks → us.map kOf = ks
  | _, _, .nil => rfl
  | _, _, .cons ⟨t, e⟩ r => by
    subst e
    rw [List.map_cons, each_kOf r]
    rfl
theorem kOf_tx {es : List (Int × Value)} : (es.map (·.2)).map kOf = es.map tx := by
  rw [List.map_map]
  rfl
section
variable {P : Program} {w : World} {A : Around} {E : Value → Shared → Prop} {s : Shared}
theorem sorted_texts {a : Addr} {l : List Str} {Q : Value → Shared → Prop} (R : SetX w s.heap a l) (hh : A.handled = none) (hu : A.units + 64 < cLine)
    (hQ : ∀ s' p (out : Array Value) (c : Nat) (ys : List Str), (∀ b o, s.heap.get? b = some o → s'.heap.get? b = some o) → s'.gens = s.gens → s'.os = s.os → s.heap.objs.size ≤ p →
      s'.heap.get? p = some (seqObj "list" out c) → StrsAre out.toList ys → ys.Perm l → ys.Pairwise upS → Q (.ref p) s') :
    wpAny (model P w) A (call (.builtin "sorted") [.ref a]) Q E s := by
  obtain ⟨o, es, ep, t, ho, hex, hd, g, pm, nd, hb, hf, hr, hl⟩ := R
  refine Calls.call_function_entry kind_sorted plain_sorted entry_sorted (args_sorted1 _) ?_
  unfold Builtin.«sorted»
  refine wpAny_bind (m := checkCount "sorted" 1 1 _) (wpAny_pure ?_)
  refine wpAny_bind (collect_set (A := A.in1) hh ⟨o, ho, hex.1, hd⟩ hf hb hr hl fun s1 vs k1 hz g1 o1 pv => ?_)
  have hvl : vs.length = es.size := by rw [pv.length_eq, List.length_map, Array.length_toList]
  have hsl : vs.length ≤ sizeLine := by rw [hvl]; exact fits_of_scanBound hb
  obtain ⟨ks, hks⟩ := vals_split w (l := l) (us := vs) fun u hu => by
    obtain ⟨e, he, q⟩ := List.mem_map.mp (pv.mem_iff.mp hu)
    obtain ⟨k, tk, h1, _⟩ := g e he
    refine ⟨k, tk, by rw [← q]; exact h1, pm.mem_iff.mp (List.mem_map.mpr ⟨e, he, ?_⟩)⟩
    unfold tx
    rw [h1]
  have pks : ks.Perm l := by
    have q := pv.map kOf
    rw [each_kOf hks, kOf_tx] at q
    exact q.trans pm
  refine wpAny_bind (wpAny_newList ?_ hsl)
  have hoL : (s1.heap.push (seqObj "list" vs.toArray 0)).get? s1.heap.objs.size = some (seqObj "list" vs.toArray 0) := Heap.get?_push_size _ rfl
  refine wpAny_bind (wpAny_holding (PySem.W.list_sort_data (s := { s1 with heap := s1.heap.push (seqObj "list" vs.toArray 0) }) (enc := PyData.str) hoL hks (hks.mono fun u k ⟨t, e⟩ => ⟨[], by rw [e]; exact .str k t, by simp⟩) (PySem.W.AllAlike.of fun b b' => by simp only [PySem.W.alike])
    (PySem.W.Sortable.others fun b => ⟨by simp, by simp⟩) (by rw [← hks.length]; exact hsl) (fun b _ => by show A.units + 1 + 1 + (PyData.str b).depth < cLine; simp only [PyData.depth]; omega) fun out h1 h2 => ?_))
  obtain ⟨c, hc⟩ := sortedHeap_at (vs := vs) (out := out.toArray) hoL
  refine wpAny_pure ⟨_, rfl, hQ _ s1.heap.objs.size out.toArray c _ (fun b u e => ?_) g1 o1 hz hc (by simpa using each_strs h2) ((List.mergeSort_perm _ _).trans pks) ?_⟩
  · have q := k1 b u e
    have lt := Heap.lt_size q
    show (sortedHeap (s1.heap.push (seqObj "list" vs.toArray 0)) s1.heap.objs.size vs out.toArray).get? b = some u
    rw [sortedHeap_old (Nat.ne_of_lt lt) (by rw [size_push']; exact Nat.lt_succ_of_lt lt)]
    exact Heap.get?_push_of_some _ q
  · have q : PySem.W.dataLe false PyData.str = fun a b : Str => decide (a.cps.toList ≤ b.cps.toList) := PySem.W.dataLe_str (fun b : Str => b)
    rw [q]
    have pw := List.pairwise_mergeSort (le := fun a b : Str => decide (a.cps.toList ≤ b.cps.toList)) (fun a b c h1 h2 => decide_eq_true (List.le_trans (of_decide_eq_true h1) (of_decide_eq_true h2))) (fun a b => by
      rcases List.le_total a.cps.toList b.cps.toList with h | h
      · simp [h]
      · simp [h]) ks
    exact pw.imp fun {a b} h => of_decide_eq_true h
end
end Sts
namespace L2
open PySem PySem.Spec PyProof.Rows Sts
section
variable {X : Cx}
/-- sorted(set(xs)), xs a list of texts -/
def tSortSet (K : PySem.W.Frag) (ta : TE) : TE := fun σ H Q => ta σ H fun x H1 => ∃ (l : Addr) (xs : List Str), x = .ref l ∧ SqL K H1 l (xs.map V.str) ∧ xs.length + 1 < scanBound ∧
  ∀ (p : Addr) (ys : List Str), H1 p = none → ys.Perm (dd xs) → ys.Pairwise upS → Q (.ref p) (upd H1 p (.lst (ys.map V.str)))
theorem texts_of : ∀ {ys : List Str} {us : List Value}, Vals (ys.map V.str) us → StrsAre us ys
  | [], _, .nil => .nil
  | y :: ys, _, .cons r t => by
    obtain ⟨k, rfl⟩ := r
    exact .cons y k (texts_of t)
theorem texts_back : ∀ {ys : List Str} {us : List Value}, StrsAre us ys → Vals (ys.map V.str) us
  | _, _, .nil => .nil
  | _, _, .cons y k r => .cons ⟨k, rfl⟩ (texts_back r)
theorem pe_sortSet {a : Expr} {ta : TE} {p p2 q pos : Pos} (hc : X.calm = true) (hu : X.A.units + 64 < cLine) (hg : Gl X "sorted") (hm : X.mg "sorted" = none) (hg2 : Gl X "set") (hm2 : X.mg "set" = none) (ha : PE X a ta)
    (na : starEach [a] X.env = (false, eval a X.env) :: starEach [] X.env := by rfl) : PE X (.Call (.Name "sorted" p) [.Call (.Name "set" p2) [a] [] q] [] pos) (tSortSet X.K ta) := by
  refine ⟨fun pins s σ H Q I h => ?_⟩
  refine Call_ (ld_blt I hg hm (u := .builtin "sorted") (by decide +kernel) ?_)
  refine PyProof.Rows.callWith_builtin1 (PyProof.Rows.args_cons ?_ rfl) rfl rfl
  refine Call_ (ld_blt I hg2 hm2 (u := .type "set") (by decide +kernel) ?_)
  refine PyProof.Rows.callWith_type1 (PyProof.Rows.args_cons (thn (ha.run pins s σ H _ I h) fun v s1 ⟨x, H1, I1, r1, q1⟩ => PyProof.Rows.args_nil ?_) na) na rfl
  obtain ⟨l, xs, rfl, hq, h1, q1⟩ := q1
  cases r1
  obtain ⟨its, r, pl, hz⟩ := I1.list hq
  refine set_of_texts xs (I1.ok.hd hc) pl.isList (by simpa using texts_of r) h1 fun h' tk X' hk => PyProof.Rows.args_nil ?_
  have I2 : Inv X pins σ H1 { s1 with heap := h', toks := tk } := I1.kept hk
  refine sorted_texts (s := { s1 with heap := h', toks := tk }) X' (I2.ok.hd hc) hu fun s' p out c ys k g o hp hgt hi pm pw => ?_
  have hl : ys.length = its.length → True := fun _ => trivial
  have hlen : (ys.map V.str).length ≤ sizeLine := by
    rw [List.length_map, pm.length_eq]
    have := dd_len xs
    rw [sizeLine_eq]
    have e : scanBound = 4096 := rfl
    omega
  have hn : H1 p = none := I2.hok.fresh hp
  have e : s' = { ({ s1 with heap := h', toks := tk } : Shared) with heap := s'.heap, gens := s'.gens, drawn := s'.drawn, toks := s'.toks } := by
    cases s'
    cases s1
    cases o
    rfl
  rw [e]
  refine ⟨.ref p, _, I2.call (ch := []) (Un.laid (o := .lst (ys.map V.str)) k hp hn) (I2.hok.laid (o := .lst (ys.map V.str)) k hp ⟨hlen, out.toList, c, texts_back hi, hgt⟩) (by rw [g]; exact I2.bare) (fun _ z => nomatch z), rfl, q1 p ys hn pm pw⟩
end
end L2
/-! ### != of two lists of the same plain items -/
namespace L2
open PySem PySem.Spec PyProof.Rows
theorem same_items {A : Around} {s : Shared} : ∀ {xs : List V} {us ws : List Value}, (∀ v ∈ xs, flatB v = true) → Vals xs us → Vals xs ws → ∀ j (h1 : j < us.length) (h2 : j < ws.length), SeqAt.EqAt A s us[j] ws[j] true
  | _, _, _, f, .nil, .nil, j, h1, _ => absurd h1 (Nat.not_lt_zero j)
  | _, _, _, f, .cons a1 b1, .cons a2 b2, 0, _, _ => eqAt_same a1 a2 (f _ (List.mem_cons_self ..))
  | _, _, _, f, .cons a1 b1, .cons a2 b2, j + 1, h1, h2 => same_items (fun v hv => f v (List.mem_cons_of_mem _ hv)) b1 b2 j (Nat.lt_of_succ_lt_succ h1) (Nat.lt_of_succ_lt_succ h2)
section
variable {X : Cx}
def rNeL (K : PySem.W.Frag) : R2 := fun x y H Q => ∃ a b xs, x = .ref a ∧ y = .ref b ∧ SqL K H a xs ∧ SqL K H b xs ∧ (∀ v ∈ xs, flatB v = true) ∧ Q (.bl false) H
theorem op_neL (hu : X.A.units + 64 < cLine) : OpR X (compareOp .NotEq) (rNeL X.K) := by
  intro pins s σ H x y v u Q I rx ry h
  obtain ⟨a, b, xs, rfl, rfl, ha, hb, f, q⟩ := h
  cases (show v = Value.ref a from rx)
  cases (show u = Value.ref b from ry)
  obtain ⟨us, r1, p1, _⟩ := I.list ha
  obtain ⟨ws, r2, p2, _⟩ := I.list hb
  show wpAny _ _ (richCompare .NotEq _ _) _ _ _
  refine SeqAt.RcNeAt.lists (e := fun _ => true) p1.isList p2.isList (by rw [List.size_toArray, List.size_toArray, ← r1.length, ← r2.length]) (by omega) (fun j h1 h2 => ?_) _ _ _ _ ?_
  · have k := same_items (A := X.A.in1) (s := s) f r1 r2 j (by simpa using h1) (by simpa using h2)
    simpa using k
  · have e : (!((List.range us.toArray.size).all fun _ => true)) = false := by rw [List.all_eq_true.mpr fun _ _ => rfl]; rfl
    rw [e]
    exact ⟨.bl false, H, I, rfl, q⟩
end
end L2
namespace Dt
open PySem PySem.Spec PyProof.Rows L2 Evl Fx
section
variable {F : Fd} {K : PySem.W.Frag} {te ta tb : TE} {tr : TA} {tz : TS} {D : Ends} {σ : L2.St} {H : Hp} {ds : List PyData} {k ka kb : Nat} {ns : List Str}
/-- two lists of the same texts -/
theorem rb_neTxt (o : F.Ok) (ha : EvR F ta σ H ka (IsL F K (ns.map PyData.str))) (hb : EvR F tb σ H kb (IsL F K (ns.map PyData.str))) : EvR F (tOp (rNeL K) ta tb) σ H (ka + kb) (fun x _ => x = .bl false) :=
  r_op o (mono_l o (flats_all.mpr fun d hd => by
    obtain ⟨b, _, rfl⟩ := List.mem_map.mp hd
    rfl)) ha hb fun x y n H1 g e ⟨p, xs, ex, _, hp, hx⟩ ⟨p', xs', ey, _, hp', hx'⟩ Q q => by
    have e1 := dps_strs hx
    have e2 := dps_strs hx'
    subst ex ey e1 e2
    exact ⟨p, p', _, rfl, rfl, sq_of hp, sq_of hp', fun v hv => by
      obtain ⟨b, _, rfl⟩ := List.mem_map.mp hv
      rfl, q _ H1 (Ex.refl _) rfl⟩
/-- a text != itself -/
theorem rb_neOne {x : Str} (o : F.Ok) (ha : EvR F ta σ H ka (fun u _ => u = .str x)) (hb : EvR F tb σ H kb (fun u _ => u = .str x)) : EvR F (tOp rNe ta tb) σ H (ka + kb) (fun u _ => u = .bl false) :=
  r_op o mono_eq ha hb fun u v n H1 g e e1 e2 Q q => by
    subst e1 e2
    exact ⟨rfl, q _ H1 (Ex.refl _) (by simp)⟩
theorem q_par2 {i j : Nat} (h : tr σ H fun vs H1 => ∃ u v, vs = [u, v] ∧ tz D ((σ.set i (some u)).set j (some v)) H1) : tSeq (tPar i j tr) tz D σ H := h
theorem q_nil {Q : List V → Hp → Prop} (h : Q [] H) : tNil σ H Q := h
end
end Dt
/-! ### sorted of pieces: tuples that begin with a word; two are alike, or their words differ -/
namespace So
open PySem PySem.W PySem.Calls PyProof.Rows
/-- they begin with words that differ -/
def HeadsNe (d d' : PyData) : Prop := ∃ (a b : PySem.Str) (r r' : List PyData), d = .tuple (.str a :: r) ∧ d' = .tuple (.str b :: r') ∧ a ≠ b
def Worded (d : PyData) : Prop := ∃ (a : PySem.Str) (r : List PyData), d = .tuple (.str a :: r)
structure Near (ds : List PyData) : Prop where
  word : ∀ d ∈ ds, Worded d
  two : ∀ d ∈ ds, ∀ d' ∈ ds, alike d d' = true ∨ HeadsNe d d'
section
variable {h : Heap} {ds : List PyData} {v : Value} {d d' : PyData} {as as' : List Addr}
theorem heads_not (r : Reads h v d as) (r' : Reads h v d' as') (n : HeadsNe d d') : False := by
  obtain ⟨a, b, q, q', rfl, rfl, hne⟩ := n
  cases r with
  | @tuple l o xs n1 _ _ h1 h2 h3 h4 =>
    cases r' with
    | @tuple _ o' xs' n2 _ _ k1 k2 k3 k4 =>
      have eo : o = o' := Option.some.inj (h1.symm.trans k1)
      subst eo
      have ex : Data.seq xs n1 = Data.seq xs' n2 := h3.symm.trans k3
      cases ex
      generalize xs.toList = us at h4 k4
      cases h4 with
      | cons g1 _ =>
        cases k4 with
        | cons g2 _ =>
          cases g1
          cases g2
          exact hne rfl
theorem near_one (N : Near ds) (hd : d ∈ ds) (hd' : d' ∈ ds) (r : Reads h v d as) (r' : Reads h v d' as') : d = d' := by
  rcases N.two d hd d' hd' with q | q
  · exact alike_unique _ _ _ _ _ q r r'
  · exact (heads_not r r' q).elim
theorem key_of (N : Near ds) (hd : d ∈ ds) (r : Reads h v d as) : (dataKind h ds).keyOf v = some (keyToks d) := by
  have ex : ∃ z, z ∈ ds ∧ ∃ zs, Reads h v z zs := ⟨d, hd, as, r⟩
  obtain ⟨m, zs, rz⟩ := ex.choose_spec
  have := near_one N m hd rz r
  show (open Classical in if q : ∃ d, d ∈ ds ∧ ∃ as, Reads h v d as then some (keyToks q.choose) else none) = _
  rw [dif_pos ex, this]
end
theorem toks_heads {a b : PySem.Str} {r r' : List PyData} (hne : a ≠ b) : dataLt (.tuple (.str a :: r)) (.tuple (.str b :: r')) = dataLt (.str a) (.str b) := by
  rw [dataLt_tuple]
  exact dataLt_all_no rfl (by rw [PyData.eqv]; exact beq_false_of_ne hne)
section
variable {prog : Program} {w : World} {A : Around} {s : Shared}
theorem lex_heads {b fin : Bool} {Q : Bool → Shared → Prop} {x y : PySem.Str} {xs ys : List PyData} {vs ws : List Value} {as bs : List Addr} (hne : x ≠ y) (ra : ReadsAll s.heap vs (.str x :: xs) as) (rb : ReadsAll s.heap ws (.str y :: ys) bs) (hu : A.units < cLine)
    (q : Q (dataLt (.str x) (.str y)) s) : KatLex prog w A b fin Q (vs.zip ws) 0 s := by
  cases ra with
  | cons r1 _ =>
    cases rb with
    | cons r2 _ =>
      rw [List.zip_cons_cons]
      have room : A.units + min (PyData.depth (.str x)) (PyData.depth (.str y)) < cLine := by
        show A.units + min 0 0 < cLine
        simpa using hu
      refine kat_cons (eqAt_alike (.str x) (.str y) A s _ _ _ _ r1 r2 rfl room prog w _ _ ?_)
      rw [show PyData.eqv (.str x) (.str y) = false by rw [PyData.eqv]; exact beq_false_of_ne hne]
      exact kat_no (oneLt_alike (fun _ t e => by cases e) r1 r2 rfl (fun e => by cases e) room q)
theorem sorts_near {vs : List Value} {ds : List PyData} (e : EachIs (fun v d => ∃ as, Reads s.heap v d as) vs ds) (N : Near ds) (hu : ∀ d ∈ ds, A.units + d.depth < cLine) : SortsAt prog w A s (dataKind s.heap ds) vs := by
  refine ⟨fun v hv => ?_, tuples' true, fun E x y a b Q ha hb q => ?_, fun h2 E Q hq => ?_⟩
  · obtain ⟨d, hd, as, r⟩ := e.left v hv
    exact ⟨_, key_of N hd r⟩
  · obtain ⟨d, as, hd, ra, rfl⟩ := dataKind_inv ha
    obtain ⟨d', as', hd', rb, rfl⟩ := dataKind_inv hb
    have q' : Q (dataLt d d') s := q
    have u1 := hu d hd
    have u2 := hu d' hd'
    have two := N.two d hd d' hd'
    obtain ⟨x1, r1, rfl⟩ := N.word d hd
    obtain ⟨x2, r2, rfl⟩ := N.word d' hd'
    cases ra with
    | @tuple l o xs n _ _ h1 h2 h3 h4 =>
      cases rb with
      | @tuple l' o' xs' n' _ _ k1 k2 k3 k4 =>
        refine kat_lt h1 h3 k1 k3 ?_
        by_cases hx : x1 = x2
        · subst hx
          have al : alike (.tuple (.str x1 :: r1)) (.tuple (.str x1 :: r2)) = true := by
            rcases two with z | ⟨_, _, _, _, z1, z2, z⟩
            · exact z
            · cases z1
              cases z2
              exact (z rfl).elim
          rw [dataLt_tuple] at q'
          have l1 := SeqAt.ReadsAll.length _ _ _ h4
          have l2 := SeqAt.ReadsAll.length _ _ _ k4
          rw [Array.length_toList] at l1 l2
          have d1 : PyData.depth (.tuple (.str x1 :: r1)) = PyData.depthAll (.str x1 :: r1) + 1 := by rw [PyData.depth]
          refine katLex_alike (.str x1 :: r1) (.str x1 :: r2) 0 _ _ _ _ h4 k4 (by simpa [alike] using al) ?_ (fun _ _ x r t ex et => ?_) (by rw [l1, l2]) q'
          · have := Nat.min_le_left (PyData.depthAll (.str x1 :: r1)) (PyData.depthAll (.str x1 :: r2))
            omega
          · subst et
            cases ex
        · rw [toks_heads hx] at q'
          exact lex_heads hx h4 k4 (by omega) q'
  · cases ds with
    | nil =>
      cases e
      simp at h2
    | cons d₀ ds₀ =>
      obtain ⟨fs, t1, t2, t3⟩ := each_katTups e fun d hd => let ⟨a, r, q⟩ := N.word d hd; ⟨.str a, r, q⟩
      have hT : (Value.type "str" != Value.type "tuple") = true := by decide
      refine kat_kind (T := Value.type "str") t1 (by omega) (fun f hf => ?_) (beq_self_eq_true _) (by rw [hT]; exact hq)
      obtain ⟨x, r, as, m1, m2⟩ := t3 f hf
      obtain ⟨a, r', q⟩ := N.word _ m1
      cases q
      exact looks_reads m2
theorem vals_near {h' : Heap} {β : Type} {R : Value → β → Prop} {f : β → PyData} {vs : List Value} {bs : List β} (e : EachIs R vs bs) (er : EachIs (fun v b => ∃ as, Reads h' v (f b) as) vs bs) (N : Near (bs.map f)) :
    EachIs R (sortVals (dataKind h' (bs.map f)) false vs vs) (bs.mergeSort (dataLe false f)) := by
  have e2 := each_map (R := fun v d => ∃ as, Reads h' v d as) f er
  exact sortVals_each (κ := dataKind h' (bs.map f)) (fun b => keyToks (f b)) e (each_of_map f ((each_mem e2).mono fun v d ⟨⟨as, r⟩, hd⟩ => key_of N hd r))
end
end So
namespace L2
open PySem PySem.Spec PyProof.Rows
section
variable {X : Cx}
/-- sorted(xs), xs as in So.Near -/
def rSortN (K : PySem.W.Frag) : List V → Hp → VK → Prop := fun us H Q => ∃ (a : Addr) (xs : List V) (ds : List PyData), us = [.ref a] ∧ SqL K H a xs ∧ DpAll K H xs ds ∧ So.Near ds ∧ (∀ d ∈ ds, PyData.depth d ≤ 40) ∧
  ∀ l ws, H l = none → DpAll K H ws (ds.mergeSort (PySem.W.dataLe false id)) → Q (.ref l) (upd H l (.lst ws))
theorem cr_sortedN (hu : X.A.units + 64 < cLine) : CallR X (.builtin "sorted") (rSortN X.K) := by
  intro pins s σ H vs us Q I r h
  obtain ⟨a, xs, ds, rfl, hs, hd, hN, hdp, q⟩ := h
  obtain ⟨its, rv, hl, hz⟩ := I.list hs
  rw [Vals.ref1 r]
  have e := each_zip rv hd
  have ez := zip_snd hd
  have lenI := rv.length
  have lenZ := e.length
  have pre : ∀ b o, s.heap.get? b = some o → (PySem.W.sortingHeap (PySem.W.copyHeap s.heap its) (s.heap.objs.size + 1) its).get? b = some o := fun b o q => PySem.W.sorting_copy_old q
  have er : PySem.W.EachIs (fun v (b : V × PyData) => ∃ as, Reads (PySem.W.sortingHeap (PySem.W.copyHeap s.heap its) (s.heap.objs.size + 1) its) v b.2 as) its (xs.zip ds) := e.mono fun u b ⟨h1, h2⟩ => by
    obtain ⟨as, z⟩ := Dp.reads I b.2 b.1 u h2 h1
    exact ⟨as, PyProof.Rows.Reads.keeps pre z⟩
  have N' : So.Near ((xs.zip ds).map Prod.snd) := by rw [ez]; exact hN
  have S := So.sorts_near (prog := X.prog) (w := X.w) (A := X.A.in1.in1) (s := { s with heap := PySem.W.sortingHeap (PySem.W.copyHeap s.heap its) (s.heap.objs.size + 1) its }) (PySem.W.each_map (R := fun v d => ∃ as, Reads (PySem.W.sortingHeap (PySem.W.copyHeap s.heap its) (s.heap.objs.size + 1) its) v d as) Prod.snd er) N' (fun d m => by
    rw [ez] at m
    have := hdp d m
    show X.A.units + 2 + _ < _
    omega)
  refine PySem.W.sorted_vals hl.isList S (by omega) ?_
  obtain ⟨ep, he'⟩ := PyProof.Rows.sortedAll_at s.heap its (PySem.W.sortVals (PySem.W.dataKind (PySem.W.sortingHeap (PySem.W.copyHeap s.heap its) (s.heap.objs.size + 1) its) ((xs.zip ds).map Prod.snd)) false its its).toArray
  obtain ⟨b1, b2⟩ := each_back (So.vals_near e er N')
  have hm : ((xs.zip ds).mergeSort (PySem.W.dataLe false Prod.snd)).map Prod.snd = ds.mergeSort (PySem.W.dataLe false id) :=
    (List.map_mergeSort (r := PySem.W.dataLe false Prod.snd) (s := PySem.W.dataLe false id) (f := Prod.snd) (l := xs.zip ds) (fun _ _ _ _ => rfl)).trans (by rw [ez])
  rw [hm] at b2
  have hlen : (((xs.zip ds).mergeSort (PySem.W.dataLe false Prod.snd)).map Prod.fst).length ≤ sizeLine := by rw [List.length_map, List.length_mergeSort]; omega
  exact ⟨.ref _, upd H (s.heap.objs.size + 1) (.lst _), I.laid (t' := s.toks) (fun _ _ => PyProof.Rows.sortedAll_old) (Nat.le_succ _) ⟨hlen, _, ep, b1, he'⟩, rfl, q _ _ (I.hok.fresh (Nat.le_succ _)) b2⟩
end
end L2
/-! ### isinstance of a caught error that has a dict -/
namespace So
open PySem PySem.Spec PyProof.Rows L2
/-- what is asked of the error's class -/
structure ExcD (K : PySem.W.Frag) (C : Addr) : Prop where
  cl : (PySem.W.clsIn K C).isSome = true
  ga : PySem.W.findIn K (.ref C) "__getattribute__" = some (some (.builtin "BaseException.__getattribute__"))
  gt : PySem.W.findIn K (.ref C) "__getattr__" = some none
  bx : PySem.W.subIn K (.ref C) (.type "BaseException") = some true
  ca : PySem.W.findIn K (.ref C) "__class__" = some (some (.builtin "object.__class__"))
  sg : PySem.W.specialIn K (.builtin "object.__class__") "__get__" = some (some (.builtin "getset_descriptor.__get__"))
  tk : PySem.W.takesIn K (.builtin "object.__class__") = some true
  mo : PySem.W.mroIn K C (.type "object") = some true
/-- a the error, of the class C, its dict at dd -/
def rIsX (K : PySem.W.Frag) (a : Addr) (cls : Value) (d : Option Addr) : List V → Hp → VK → Prop := fun xs H Q => ∃ (C dd : Addr) (fs : List (Str × V)) (b : Bool), cls = .ref C ∧ d = some dd ∧ H dd = some (.xd fs) ∧ ExcD K C ∧ Q (.bl b) H ∧
  ((∃ c u, xs = [.ref a, c] ∧ ClsV c u ∧ PySem.W.kitOne K (.ref C) u = some b) ∨ (∃ tp cs us, xs = [.ref a, .ref tp] ∧ H tp = some (.tup cs) ∧ Paired ClsV cs us ∧ PySem.W.kitAny K (.ref C) us = some b))
theorem call_isX {X : Cx} {a : Addr} {oe : Obj} {cls : Value} {d : Option Addr} {pn : List (Addr × Obj)} (hz : Zc cls d oe) (hf : ∃ vs, oe.data = .fields vs) : CallR (X.suite a ((a, oe) :: pn)) (.builtin "isinstance") (rIsX X.K a cls d) := by
  intro pins s σ H xs us Q I r h
  obtain ⟨C, dd, fs, b, rfl, rfl, hdd, T, q, h⟩ := h
  have hget := (I.pin (a, oe) (List.mem_append_left _ List.mem_cons_self)).1
  obtain ⟨vs, hv⟩ := hf
  obtain ⟨mA, hns, _⟩ : ObjOk X.prog X.w H s.heap dd (.xd fs) := I.hok dd _ hdd
  obtain ⟨od, ho, _⟩ := lookIn_ns hns
  have J : PySem.W.InstAt s.heap a oe C (some od) := ⟨hget, hz.1, by unfold PySem.W.notCls; rw [hv] <;> rfl, by rw [hz.2]; exact ho⟩
  have Z := PySem.W.kitx_exc (x := a) (ox := oe) (od := some od) T.cl T.ga T.gt T.bx T.ca T.sg T.tk T.mo
  rcases h with ⟨c, u, rfl, k, e⟩ | ⟨tp, cs, ws, rfl, hT, k, e⟩
  · obtain ⟨u1, u2, rfl, r1, r2⟩ := vals2 r
    have e2 := k.eq r2
    subst e2
    cases (show u1 = Value.ref a from r1)
    exact PySem.W.kia_one Z I.kIn J e (fun z => nomatch z) fun tk => ⟨.bl b, H, I.tok tk, rfl, q⟩
  · obtain ⟨u1, u2, rfl, r1, r2⟩ := vals2 r
    cases (show u1 = Value.ref a from r1)
    cases (show u2 = Value.ref tp from r2)
    obtain ⟨_, its, rv, o, h1, h2, n, h3⟩ := (show ObjOk X.prog X.w H s.heap tp (.tup cs) from I.hok tp _ hT)
    have e3 := ClsV.all k rv
    subst e3
    obtain ⟨oc, od', dt, sl⟩ := o
    simp only at h2 h3
    subst h2 h3
    exact PySem.W.kia_tup Z I.kIn J h1 e (fun z => nomatch z) fun tk => ⟨.bl b, H, I.tok tk, rfl, q⟩
end So
/-! ### sorted of a tuple -/
namespace So
open PySem PySem.W PySem.Calls PyProof.Rows
section
variable {prog : Program} {w : World} {A : Around} {E : Value → Shared → Prop} {s : Shared}
theorem collect_tup {t : Addr} {o : Obj} {vs : List Value} {n : Nat} {Q : List Value → Shared → Prop} (ho : s.heap.get? t = some o) (hc : o.cls = .type "tuple") (hd : o.data = .seq vs.toArray n) (hz : vs.length ≤ sizeLine)
    (q : Q vs { s with heap := (s.heap.push (seqObj "list" #[] 0)).update s.heap.objs.size (Obj.mapSeq (· ++ vs.toArray)) }) : wpAny (model prog w) A (collect (.ref t)) Q E s := by
  have at' : (s.heap.push (seqObj "list" #[] 0)).get? t = some o := Heap.get?_push_of_some _ ho
  have new' : (s.heap.push (seqObj "list" #[] 0)).get? s.heap.objs.size = some (seqObj "list" #[] 0) := Heap.get?_push_size _ rfl
  have tyT : Shared.TypeIs { s with heap := s.heap.push (seqObj "list" #[] 0) } (.ref t) "tuple" := ⟨o, at', hc⟩
  have fits : ((#[] : Array Value) ++ vs.toArray).size ≤ sizeLine + 1 := by
    rw [Array.size_append, List.size_toArray]
    simp only [List.size_toArray, List.length_nil]
    omega
  have same : ((#[] : Array Value) ++ vs.toArray).toList = vs := by simp
  unfold collect
  refine wpAny_bind (wpAny_runValue (codeAny_builtin entry_proto_collect' ?_))
  refine wpAny_bind (wpAny_newList (wpAny_pure ⟨Code.quiet_builtin _ (by decide +kernel), codeAny_builtin entry_list_iadd' ?_⟩))
  show wpAny _ _ (Builtin.List.listExtendWith (.ref s.heap.objs.size) (.ref t) (.ref s.heap.objs.size)) _ _ { s with heap := s.heap.push (seqObj "list" #[] 0) }
  refine wpAny_bind (wpAny_typeOf (T := "tuple") tyT ?_)
  rw [if_pos (by rw [show (Value.type "tuple" == Value.type "tuple") = true from by decide, Bool.or_true])]
  refine wpAny_bind (listItems_at at' hd (wpAny_bind (listItems_at (xs := #[]) (n := 0) new' rfl ?_)))
  rw [if_neg (by simp)]
  refine wpAny_bind (listUpdate_at (xs := #[]) (n := 0) new' rfl (wpAny_pure ?_) (Nat.zero_le _) fits)
  refine wpAny_bind (m := load s.heap.objs.size) (wpAny_load (get?_update_seq new' _) ?_)
  show wpAny _ _ (pure ((#[] : Array Value) ++ vs.toArray).toList) Q E _
  rw [same]
  exact wpAny_pure q
/-- sorted(t), t a tuple -/
theorem sorted_tup {t : Addr} {o : Obj} {vs : List Value} {n : Nat} {κ : PyProof.Rows.KeyKind} {Q : Value → Shared → Prop} (ho : s.heap.get? t = some o) (hc : o.cls = .type "tuple") (hd : o.data = .seq vs.toArray n) (hz : vs.length ≤ sizeLine)
    (S : SortsAt prog w A.in1.in1 { s with heap := sortingHeap (copyHeap s.heap vs) (s.heap.objs.size + 1) vs } κ vs)
    (q : Q (.ref (s.heap.objs.size + 1)) { s with heap := sortedAll s.heap vs (sortVals κ false vs vs).toArray }) : wpAny (model prog w) A (call (.builtin "sorted") [.ref t]) Q E s := by
  have hsz : ((s.heap.push (seqObj "list" #[] 0)).update s.heap.objs.size (Obj.mapSeq (· ++ vs.toArray))).objs.size = s.heap.objs.size + 1 := by rw [Heap.size_update, size_push']
  have inner : ∀ E' : Value → Shared → Prop, wpAny (model prog w) A.in1.in1 (Builtin.«list.sort» ⟨[.ref (s.heap.objs.size + 1)], []⟩) (fun f s' => f = .done (.ret .none) ∧ Q (.ref (s.heap.objs.size + 1)) s') E' { s with heap := copyHeap s.heap vs } := fun E' =>
    list_sort_vals (s := { s with heap := copyHeap s.heap vs }) (copyHeap_at s.heap vs) S hz ⟨rfl, q⟩
  refine Calls.call_function_entry kind_sorted plain_sorted entry_sorted (args_sorted1 _) ?_
  unfold Builtin.«sorted»
  refine wpAny_bind (m := checkCount "sorted" 1 1 _) (wpAny_pure (wpAny_bind (collect_tup ho hc hd hz (wpAny_bind (wpAny_newList ?_ hz)))))
  show wpAny _ _ _ _ _ { s with heap := copyHeap s.heap vs }
  rw [hsz]
  refine wpAny_bind (wpAny_holding (wpAny_call_entry slot_list_sort ⟨_, copyHeap_at s.heap vs, rfl⟩ entry_list_sort (wpAny_mono (inner _) (fun f s' h => ?_) fun _ _ x => x) (args_list_sort _)))
  obtain ⟨rfl, h⟩ := h
  exact ⟨_, rfl, wpAny_pure ⟨_, rfl, h⟩⟩
/-- what can be sorted -/
def Srt (ds : List PyData) : Prop := (AllAlike ds ∧ Sortable ds) ∨ Near ds
theorem sorts_any {vs : List Value} {ds : List PyData} (e : EachIs (fun v d => ∃ as, Reads s.heap v d as) vs ds) (S : Srt ds) (hu : ∀ d ∈ ds, A.units + d.depth < cLine) : SortsAt prog w A s (dataKind s.heap ds) vs := by
  rcases S with ⟨h1, h2⟩ | N
  · exact SortsAt.data e h1 h2 hu
  · exact sorts_near e N hu
theorem vals_any {h' : Heap} {β : Type} {R : Value → β → Prop} {f : β → PyData} {vs : List Value} {bs : List β} (e : EachIs R vs bs) (er : EachIs (fun v b => ∃ as, Reads h' v (f b) as) vs bs) (S : Srt (bs.map f)) :
    EachIs R (sortVals (dataKind h' (bs.map f)) false vs vs) (bs.mergeSort (dataLe false f)) := by
  rcases S with ⟨h1, _⟩ | N
  · exact sortVals_data false e er h1
  · exact vals_near e er N
end
end So
namespace L2
open PySem PySem.Spec PyProof.Rows
section
variable {X : Cx}
/-- sorted(xs), a list or a tuple -/
def rSortX (K : PySem.W.Frag) : List V → Hp → VK → Prop := fun us H Q => ∃ (a : Addr) (xs : List V) (ds : List PyData), us = [.ref a] ∧ (SqL K H a xs ∨ SqT K H a xs) ∧ DpAll K H xs ds ∧ So.Srt ds ∧ (∀ d ∈ ds, PyData.depth d ≤ 40) ∧
  ∀ l ws, H l = none → DpAll K H ws (ds.mergeSort (PySem.W.dataLe false id)) → Q (.ref l) (upd H l (.lst ws))
theorem cr_sortedX (hu : X.A.units + 64 < cLine) : CallR X (.builtin "sorted") (rSortX X.K) := by
  intro pins s σ H vs us Q I r h
  obtain ⟨a, xs, ds, rfl, hs, hd, hN, hdp, q⟩ := h
  rw [Vals.ref1 r]
  have key : ∀ {its : List Value}, Vals xs its → its.length ≤ sizeLine → (PySem.W.SortsAt X.prog X.w X.A.in1.in1 { s with heap := PySem.W.sortingHeap (PySem.W.copyHeap s.heap its) (s.heap.objs.size + 1) its } (PySem.W.dataKind (PySem.W.sortingHeap (PySem.W.copyHeap s.heap its) (s.heap.objs.size + 1) its) ((xs.zip ds).map Prod.snd)) its) ∧
      EP X pins σ Q (.ref (s.heap.objs.size + 1)) { s with heap := sortedAll s.heap its (PySem.W.sortVals (PySem.W.dataKind (PySem.W.sortingHeap (PySem.W.copyHeap s.heap its) (s.heap.objs.size + 1) its) ((xs.zip ds).map Prod.snd)) false its its).toArray } := fun {its} rv hz => by
    have e := each_zip rv hd
    have ez := zip_snd hd
    have lenI := rv.length
    have lenZ := e.length
    have pre : ∀ b o, s.heap.get? b = some o → (PySem.W.sortingHeap (PySem.W.copyHeap s.heap its) (s.heap.objs.size + 1) its).get? b = some o := fun b o q => PySem.W.sorting_copy_old q
    have er : PySem.W.EachIs (fun v (b : V × PyData) => ∃ as, Reads (PySem.W.sortingHeap (PySem.W.copyHeap s.heap its) (s.heap.objs.size + 1) its) v b.2 as) its (xs.zip ds) := e.mono fun u b ⟨h1, h2⟩ => by
      obtain ⟨as, z⟩ := Dp.reads I b.2 b.1 u h2 h1
      exact ⟨as, PyProof.Rows.Reads.keeps pre z⟩
    have N' : So.Srt ((xs.zip ds).map Prod.snd) := by rw [ez]; exact hN
    refine ⟨So.sorts_any (s := { s with heap := PySem.W.sortingHeap (PySem.W.copyHeap s.heap its) (s.heap.objs.size + 1) its }) (PySem.W.each_map (R := fun v d => ∃ as, Reads (PySem.W.sortingHeap (PySem.W.copyHeap s.heap its) (s.heap.objs.size + 1) its) v d as) Prod.snd er) N' (fun d m => by
      rw [ez] at m
      have := hdp d m
      show X.A.units + 2 + _ < _
      omega), ?_⟩
    obtain ⟨ep, he'⟩ := PyProof.Rows.sortedAll_at s.heap its (PySem.W.sortVals (PySem.W.dataKind (PySem.W.sortingHeap (PySem.W.copyHeap s.heap its) (s.heap.objs.size + 1) its) ((xs.zip ds).map Prod.snd)) false its its).toArray
    obtain ⟨b1, b2⟩ := each_back (So.vals_any e er N')
    have hm : ((xs.zip ds).mergeSort (PySem.W.dataLe false Prod.snd)).map Prod.snd = ds.mergeSort (PySem.W.dataLe false id) :=
      (List.map_mergeSort (r := PySem.W.dataLe false Prod.snd) (s := PySem.W.dataLe false id) (f := Prod.snd) (l := xs.zip ds) (fun _ _ _ _ => rfl)).trans (by rw [ez])
    rw [hm] at b2
    have hlen : (((xs.zip ds).mergeSort (PySem.W.dataLe false Prod.snd)).map Prod.fst).length ≤ sizeLine := by rw [List.length_map, List.length_mergeSort]; omega
    exact ⟨.ref _, upd H (s.heap.objs.size + 1) (.lst _), I.laid (t' := s.toks) (fun _ _ => PyProof.Rows.sortedAll_old) (Nat.le_succ _) ⟨hlen, _, ep, b1, he'⟩, rfl, q _ _ (I.hok.fresh (Nat.le_succ _)) b2⟩
  rcases hs with hs | hs
  · obtain ⟨its, rv, hl, hz⟩ := I.list hs
    have lenI := rv.length
    obtain ⟨k1, k2⟩ := key rv (by omega)
    exact PySem.W.sorted_vals hl.isList k1 (by omega) k2
  · obtain ⟨its, rv, ⟨o, e1, e2, n, e3⟩, hz⟩ := I.tuple hs
    have lenI := rv.length
    obtain ⟨k1, k2⟩ := key rv (by omega)
    exact So.sorted_tup e1 e2 e3 (by omega) k1 k2
end
end L2
/-! ### what a lambda's call comes to: ('told', ..) or ('usable', word, at) -/
namespace K17
open PySem PySem.Spec PyProof.Rows L2 Evl Fx Dt So
def topS (i : Nat) : Stmt := PySem.Challenge.pw_thinspans_k17_sights_told.main.body.getD i (.Pass ⟨0, 0, 0, 0⟩)
section
variable {F : Fd} {K : PySem.W.Frag} {ta tb : TE} {σ : L2.St} {H : Hp} {ds es : List PyData} {k ka kb : Nat} {a C dd : Addr} {fs : List (Str × V)} {v w : V}
theorem rb_eqL (o : F.Ok) (ha : EvR F ta σ H ka (IsL F K ds)) (hb : EvR F tb σ H kb (IsL F K es)) (f : flats ds = true) (s1 : SeqAt.shaped (.list ds) = true) (s2 : SeqAt.shaped (.list es) = true) : EvR F (tOp (rEqD K) ta tb) σ H (ka + kb) (fun x _ => x = .bl (PyData.eqv (.list ds) (.list es))) :=
  r_op (P' := IsL F K es) o (mono_l o f) ha hb fun x y n H1 g e px py Q q => ⟨_, _, px.dp, py.dp, s1, s2, q _ H1 (Ex.refl _) rfl⟩
theorem r_isX1 {u : Value} {b : Bool} {i : Nat} (T : ExcD K C) (hv : σ[i]? = some (some (.ref a))) (hd : H dd = some (.xd fs)) (k : ClsV v u) (e : PySem.W.kitOne K (.ref C) u = some b) : EvR F0 (tCB (rIsX K a (.ref C) (some dd)) (tCons (tVar i) (tCons (tC v) tNil))) σ H 0 (fun x _ => x = .bl b) :=
  fun n H1 hn g ex Q q => ⟨.ref a, hv, C, dd, fs, b, rfl, rfl, F0.ex ex _ _ hd, T, q _ H1 Kx.refl g rfl, .inl ⟨v, u, rfl, k, e⟩⟩
theorem r_isX3 {b : Bool} {i : Nat} {c1 c2 c3 : Addr} (T : ExcD K C) (hv : σ[i]? = some (some (.ref a))) (hd : H dd = some (.xd fs)) (e : PySem.W.kitAny K (.ref C) [.ref c1, .ref c2, .ref c3] = some b) :
    EvR F0 (tCB (rIsX K a (.ref C) (some dd)) (tCons (tVar i) (tCons (tTup (tCons (tC (.ref c1)) (tCons (tC (.ref c2)) (tCons (tC (.ref c3)) tNil)))) tNil))) σ H 0 (fun x _ => x = .bl b) :=
  fun n H1 hn g ex Q q => ⟨.ref a, hv, (by show 3 ≤ sizeLine; decide), fun p hp => ⟨C, dd, fs, b, rfl, rfl, Ex.new hp _ _ (F0.ex ex _ _ hd), T, q _ _ (Kx.ex (Ex.new hp)) g rfl, .inr ⟨p, _, _, rfl, upd_same, .cons (.own c1) (.cons (.own c2) (.cons (.own c3) .nil)), e⟩⟩⟩
theorem r_xf {i : Nat} {n : Str} (hv : σ[i]? = some (some (.ref a))) (hd : H dd = some (.xd fs)) (hl : fs.lookup n = some w) : EvR F0 (tXf a (.ref C) (some dd) C n (tVar i)) σ H 0 (fun x _ => x = w) :=
  fun n1 H1 hn g ex Q q => ⟨.ref a, hv, rfl, rfl, dd, fs, w, rfl, F0.ex ex _ _ hd, hl, q _ H1 Kx.refl g rfl⟩
theorem ra_nilV {F : Fd} : EvRA F tNil σ H 0 (fun vs _ => vs = []) := fun n1 H1 hn g e Q q => q _ H1 Kx.refl g rfl
theorem ra_consV {F : Fd} {te : TE} {tr : TA} {ws : List V} (h : EvR F te σ H ka (fun x _ => x = v)) (hr : EvRA F tr σ H kb (fun vs _ => vs = ws)) : EvRA F (tCons te tr) σ H (ka + kb) (fun vs _ => vs = v :: ws) :=
  fun n H1 hn g e Q q => h n H1 (by omega) g e _ fun x H2 e2 g2 p => hr (n + ka) H2 (by omega) g2 (e.trans e2) _ fun vs H3 e3 g3 p' => q (x :: vs) H3 (e2.trans e3) (by rw [← Nat.add_assoc]; exact g3) (by rw [p, p'])
theorem s_setT {tr : TA} {i : Nat} {PA : List V → Hp → Prop} {D : Ends} (h : EvRA F0 tr σ H 0 PA) (kk : ∀ vs H1, Ex H H1 → PA vs H1 → vs.length ≤ sizeLine ∧ ∀ p, H1 p = none → D.nx (σ.set i (some (.ref p))) (upd H1 p (.tup vs))) : tAsg (tTup tr) (gName i) D σ H :=
  h 0 H (Nat.le_refl _) F0.g Kx.refl _ fun vs H1 k _ p => kk vs H1 (F0.ex k) p
theorem sh_two (x y : Bool) : SeqAt.shaped (.list [.bool x, .bool y]) = true := by cases x <;> cases y <;> decide +kernel
end
def nOut : List Str := ["_law_ask", "_law_found", "e", "_law_kinds_now", "_law_homes", "_law_is_other"]
theorem scOut : FnScope nOut ["_law_ask"] (defScope (topS 51)) := ⟨rfl, rfl, rfl, by decide +kernel, rfl, by decide +kernel, by decide +kernel⟩
/-- the classes that the suite names, asked of C -/
structure OutK (K : PySem.W.Frag) (mg : Str → Option Value) (C CT CI CP CR CB CX CN : Addr) : Prop where
  ex : ExcD K C
  xf : XfC K C
  w0 : PySem.W.findIn K (.ref C) "word" = some none
  a0 : PySem.W.findIn K (.ref C) "at" = some none
  gT : mg "ThinError" = some (.ref CT)
  eT : PySem.W.exmOne K (.ref C) (.ref CT) = some true
  gI : mg "InvalidPaper" = some (.ref CI)
  eI : PySem.W.kitOne K (.ref C) (.ref CI) = some false
  gU : mg "NotUsable" = some (.ref C)
  eU : PySem.W.kitOne K (.ref C) (.ref C) = some true
  gP : mg "PaperError" = some (.ref CP)
  eP : PySem.W.kitOne K (.ref C) (.ref CP) = some false
  gR : mg "TraceError" = some (.ref CR)
  eR : PySem.W.kitOne K (.ref C) (.ref CR) = some true
  gB : mg "BookError" = some (.ref CB)
  gX : mg "TextError" = some (.ref CX)
  gN : mg "NotTold" = some (.ref CN)
  eO : PySem.W.kitAny K (.ref C) [.ref CB, .ref CX, .ref CN] = some false
  eV : PySem.W.kitOne K (.ref C) (.type "ValueError") = some true
  mV : mg "ValueError" = none
  mI : mg "isinstance" = none
/-- the error that is told of -/
def exOut (C : Addr) (Q : VK) : XK := fun cls d H => cls = .ref C ∧ ∃ (dd : Addr) (fs : List (Str × V)) (w a : V), d = some dd ∧ H dd = some (.xd fs) ∧ fs.lookup ("word" : Str) = some w ∧ fs.lookup ("at" : Str) = some a ∧
  ∀ H' p, Ex H H' → H' p = some (.tup [.str "usable", w, a]) → Q (.ref p) H'
def TOut (C : Addr) : (XK → Hp → VK → Prop) → Hp → VK → Prop := fun tl H Q => ∀ H1, Ex H H1 → tl (exOut C Q) H1 fun v H2 => ∀ p, H2 p = none → Q (.ref p) (upd H2 p (.tup [.str "told", v]))
theorem takes_len {X : Cx} {W : WX} {n : Nat} (tk : Takes X W) (hn : X.N.length = n) : Takes X (fun cls d σ H => σ.length = n → W cls d σ H) := fun u s' ⟨a, B, sI, pins, σ, H, cls, d, e, I, nb, up, sky, na, os, ag, w⟩ =>
  tk u s' ⟨a, B, sI, pins, σ, H, cls, d, e, I, nb, up, sky, na, os, ag, w (I.len.trans hn)⟩
theorem out_gives {X : Cx} {C CT CI CP CR CB CX CN g : Addr} {cdg : Value} {q : Str} (T : OutK X.K X.mg C CT CI CP CR CB CX CN) (hu : X.A.units + 300 < cLine) : LamX.GivesTo X nOut "_law_outcome" (defScope (topS 51)) g cdg (defBody (topS 51)) "_law_ask" q (TOut C) := by
  intro f c' s H Q tl act hc h
  have gl : ∀ x : Str, (defScope (topS 51)).names.lookup x = some .globalImplicit → Gl (cxOf C8.CX0 X.prog X.w X.K X.mg X.base nOut "_law_outcome" (defScope (topS 51)) g cdg X.A X.stack s H C8.E0).nox x := fun x e => e
  have units : ∀ {a : Addr} {pn : List (Addr × Obj)}, ((cxOf C8.CX0 X.prog X.w X.K X.mg X.base nOut "_law_outcome" (defScope (topS 51)) g cdg X.A X.stack s H C8.E0).nox.suite a pn).A.units + 64 < cLine := fun {a pn} => by
    show X.A.units + 3 + 64 < cLine
    omega
  refine ⟨_, pss_cons (ps_set (i := 1) scOut.nd rfl (.inl rfl) (pe_tup (pa_cons pe_str pa_nil)))
    (pss_cons (ps_try_as (i := 2) (c := .ref CT) (tb := fun W D σ H => ∃ Ech : XK, (∀ cls d σ' H', Ech cls d H' → σ'.length = 6 → W cls d σ' H') ∧ σ[0]? = some (some (.ref f)) ∧ H c' = some (LamX.CodeO c' q) ∧
          tl Ech H fun v H' => [V.str "told", v].length ≤ sizeLine ∧ ∀ p, H' p = none → D.nx (σ.set 1 (some (.ref p))) (upd H' p (.tup [.str "told", v])))
      rfl rfl scOut.nd rfl rfl ⟨gl _ rfl, by decide, .inl T.gT⟩ LamX.takes0 (fun W pn xe tk _ => ?_) (fun a oe cls d pn hz hf =>
        pss_cons (ps_set (i := 3) scOut.nd rfl (.inl rfl) (pe_lst (pa_cons (pe_callB (call_isX hz hf) (gl _ rfl) T.mI (by decide +kernel) (pa_cons (pv 2) (pa_cons (pe_glob (v := .ref CI) (gl _ rfl) T.gI rfl) pa_nil))) (pa_cons (pe_callB (call_isX hz hf) (gl _ rfl) T.mI (by decide +kernel) (pa_cons (pv 2) (pa_cons (pe_glob (v := .ref C) (gl _ rfl) T.gU rfl) pa_nil))) pa_nil))))
        (pss_cons (ps_set (i := 4) scOut.nd rfl (.inl rfl) (pe_lst (pa_cons (pe_callB (call_isX hz hf) (gl _ rfl) T.mI (by decide +kernel) (pa_cons (pv 2) (pa_cons (pe_glob (v := .ref CP) (gl _ rfl) T.gP rfl) pa_nil))) (pa_cons (pe_callB (call_isX hz hf) (gl _ rfl) T.mI (by decide +kernel) (pa_cons (pv 2) (pa_cons (pe_glob (v := .ref CR) (gl _ rfl) T.gR rfl) pa_nil))) pa_nil))))
        (pss_cons (ps_set (i := 5) scOut.nd rfl (.inl rfl) (pe_callB (call_isX hz hf) (gl _ rfl) T.mI (by decide +kernel) (pa_cons (pv 2) (pa_cons (pe_tup (pa_cons (pe_glob (v := .ref CB) (gl _ rfl) T.gB rfl) (pa_cons (pe_glob (v := .ref CX) (gl _ rfl) T.gX rfl) (pa_cons (pe_glob (v := .ref CN) (gl _ rfl) T.gN rfl) pa_nil)))) pa_nil))))
        (pss_one (ps_if (PW.pt (pw_and (pt_val (pe_callB (call_isX hz hf) (gl _ rfl) T.mI (by decide +kernel) (pa_cons (pv 2) (pa_cons (pe_bltn (v := .ty "ValueError") (gl _ rfl) T.mV (by decide +kernel) rfl) pa_nil)))) (pw_and (pt_not (pt_val (pv 5))) (pw_and1 (pt_cmpR (r := rEqD X.K) (op_eqD units) (pv 4) (pv 3) (nomark _))))))
          (pss_one (ps_if (pt_cmpR (r := rEqD X.K) (op_eqD units) (pv 3) (pe_lst (pa_cons pe_bl (pa_cons pe_bl pa_nil))) (nomark _))
            (pss_one (ps_set (i := 1) scOut.nd rfl (.inl rfl) (pe_tup (pa_cons pe_str (pa_cons (pe_xf T.xf T.w0 hz hf (pv 2)) (pa_cons (pe_xf T.xf T.a0 hz hf (pv 2)) pa_nil))))))
            (pss_one (ps_if (pt_cmpR (r := rEqD X.K) (op_eqD units) (pv 3) (pe_lst (pa_cons pe_bl (pa_cons pe_bl pa_nil))) (nomark _))
              (pss_one (ps_set (i := 1) scOut.nd rfl (.inl rfl) (pe_tup (pa_cons pe_str (pa_cons (pe_xf T.xf T.w0 hz hf (pv 2)) (pa_cons (pe_xf T.xf T.a0 hz hf (pv 2)) pa_nil))))))
              pss_nil))))
          pss_nil))))))
    (pss_one (ps_ret (pv 1)))), ?_⟩
  · refine ⟨fun pins s' σ H' D I h' => ?_⟩
    obtain ⟨Ech, hW, h1, h2, h3⟩ := h'
    exact (pss_one (ps_set (i := 1) scOut.nd rfl (.inl rfl) (pe_tup (pa_cons pe_str (pa_cons (act _ pn xe Ech _ _ (takes_len tk rfl) hW) pa_nil))))).run pins s' σ H' D I ⟨h1, h2, h3⟩
  · show tSeq (tAsg (tTup (tCons (tC (.str "odd")) tNil)) (gName 1)) _ _ [some (.ref f), none, none, none, none, none] H
    refine ⟨(by decide : [V.str "odd"].length ≤ sizeLine), fun p0 hp0 => ?_⟩
    have e0 := Ex.new (o := .tup [V.str "odd"]) hp0
    refine ⟨exOut C Q, fun cls d σ' H' hx hl => ?_, rfl, e0 _ _ hc, ?_⟩
    · obtain ⟨rfl, dd, fs, w, b, rfl, hdd, lw, la, q⟩ := hx
      match σ', hl with
      | [x0, x1, x2, x3, x4, x5], _ =>
      refine ⟨true, T.eT, fun _ a ha => ?_, fun z => by cases z⟩
      show tSeq (tAsg (tLst (tCons (tCB (rIsX X.K a (.ref C) (some dd)) (tCons (tVar 2) (tCons (tC (.ref CI)) tNil))) (tCons (tCB (rIsX X.K a (.ref C) (some dd)) (tCons (tVar 2) (tCons (tC (.ref C)) tNil))) tNil))) (gName 3)) _ _ [x0, x1, some (.ref a), x3, x4, x5] H'
      refine q_asgR (F := F0) (n := 0) (k := 0 + 0) (P := IsL F0 X.K [.bool false, .bool true]) (rl_lst F0.ok (ra_cons (ka := 0) (kb := 0 + 0) F0.ok (rd_ofB (r_isX1 T.ex rfl hdd (.own CI) T.eI)) (ra_cons (ka := 0) (kb := 0) F0.ok (rd_ofB (r_isX1 T.ex rfl hdd (.own C) T.eU)) ra_nil))) F0.g (Nat.le_refl _) fun v3 H3 k3 _ p3 => ?_
      have d3 := F0.ex k3 _ _ hdd
      change tSeq (tAsg (tLst (tCons (tCB (rIsX X.K a (.ref C) (some dd)) (tCons (tVar 2) (tCons (tC (.ref CP)) tNil))) (tCons (tCB (rIsX X.K a (.ref C) (some dd)) (tCons (tVar 2) (tCons (tC (.ref CR)) tNil))) tNil))) (gName 4)) _ _ [x0, x1, some (.ref a), some v3, x4, x5] H3
      refine q_asgR (F := F0) (n := 0) (k := 0 + 0) (P := IsL F0 X.K [.bool false, .bool true]) (rl_lst F0.ok (ra_cons (ka := 0) (kb := 0 + 0) F0.ok (rd_ofB (r_isX1 T.ex rfl d3 (.own CP) T.eP)) (ra_cons (ka := 0) (kb := 0) F0.ok (rd_ofB (r_isX1 T.ex rfl d3 (.own CR) T.eR)) ra_nil))) F0.g (Nat.le_refl _) fun v4 H4 k4 _ p4 => ?_
      have d4 := F0.ex k4 _ _ d3
      have p3' : IsL F0 X.K [.bool false, .bool true] v3 H4 := mono_l F0.ok rfl 0 _ _ _ F0.g k4 p3
      change tSeq (tAsg _ (gName 5)) _ _ [x0, x1, some (.ref a), some v3, some v4, x5] H4
      refine q_asgR (F := F0) (n := 0) (k := 0) (P := fun x _ => x = .bl false) (r_isX3 T.ex rfl d4 T.eO) F0.g (Nat.le_refl _) fun v5 H5 k5 _ p5 => ?_
      subst p5
      have d5 := F0.ex k5 _ _ d4
      have q3 : IsL F0 X.K [.bool false, .bool true] v3 H5 := mono_l F0.ok rfl 0 _ _ _ F0.g k5 p3'
      have q4 : IsL F0 X.K [.bool false, .bool true] v4 H5 := mono_l F0.ok rfl 0 _ _ _ F0.g k5 p4
      change tIfS _ _ _ _ [x0, x1, some (.ref a), some v3, some v4, some (.bl false)] H5
      refine s_ifR (F := F0) (n := 0) (k := 0 + (0 + (0 + 0))) (b := true && (!false && PyData.eqv (.list [.bool false, .bool true]) (.list [.bool false, .bool true]))) (rt_and F0.ok (rt_val (r_isX1 T.ex rfl d5 (.ty "ValueError") T.eV)) fun _ => rt_and F0.ok (rt_not (rt_val (rv_var rfl))) fun _ => rt_B (rb_eqL (ds := [.bool false, .bool true]) F0.ok (r_var (mono_l F0.ok rfl) (n := 0) F0.g rfl q4) (r_var (mono_l F0.ok rfl) (n := 0) F0.g rfl q3) rfl (sh_two _ _) (sh_two _ _))) F0.g (Nat.le_refl _) (fun _ H6 k6 _ => ?_) fun z => by
        exact absurd z (by decide +kernel)
      have d6 := F0.ex k6 _ _ d5
      have r3 : IsL F0 X.K [.bool false, .bool true] v3 H6 := mono_l F0.ok rfl 0 _ _ _ F0.g k6 q3
      have lit : ∀ {x y : Bool} {σ : L2.St} {H : Hp}, EvR F0 (tLst (tCons (tC (.bl x)) (tCons (tC (.bl y)) tNil))) σ H (0 + 0) (IsL F0 X.K [.bool x, .bool y]) := fun {x y σ H} => rl_lst F0.ok (ra_cons (ka := 0) (kb := 0) F0.ok rd_bl (ra_cons (ka := 0) (kb := 0) F0.ok rd_bl ra_nil))
      refine s_ifR (F := F0) (n := 0) (k := 0 + (0 + 0)) (b := PyData.eqv (.list [.bool false, .bool true]) (.list [.bool true, .bool false])) (rt_B (rb_eqL F0.ok (r_var (mono_l F0.ok rfl) (n := 0) F0.g rfl r3) lit rfl (sh_two _ _) (sh_two _ _))) F0.g (Nat.le_refl _) (fun z => absurd z (by decide +kernel)) fun _ H7 k7 _ => ?_
      have d7 := F0.ex k7 _ _ d6
      have s3 : IsL F0 X.K [.bool false, .bool true] v3 H7 := mono_l F0.ok rfl 0 _ _ _ F0.g k7 r3
      refine s_ifR (F := F0) (n := 0) (k := 0 + (0 + 0)) (b := PyData.eqv (.list [.bool false, .bool true]) (.list [.bool false, .bool true])) (rt_B (rb_eqL F0.ok (r_var (mono_l F0.ok rfl) (n := 0) F0.g rfl s3) lit rfl (sh_two _ _) (sh_two _ _))) F0.g (Nat.le_refl _) (fun _ H8 k8 _ => ?_) fun z => absurd z (by decide +kernel)
      have d8 := F0.ex k8 _ _ d7
      refine s_setT (ra_consV (ka := 0) (kb := 0 + (0 + 0)) (v := .str "usable") rv_c (ra_consV (ka := 0) (kb := 0 + 0) (r_xf (i := 2) rfl d8 lw) (ra_consV (ka := 0) (kb := 0) (r_xf (i := 2) rfl d8 la) ra_nilV))) fun vs H9 e9 ev => ?_
      subst ev
      exact ⟨(by show 3 ≤ sizeLine; decide), fun p hp => ⟨.ref p, rfl, q _ p (((((((F0.ex k3).trans (F0.ex k4)).trans (F0.ex k5)).trans (F0.ex k6)).trans (F0.ex k7)).trans (F0.ex k8)).trans (e9.trans (Ex.new hp))) upd_same⟩⟩
    · have e1 := h _ e0
      refine (congrArg (fun z => tl (exOut C Q) _ z) ?_).mp e1
      funext v H2
      exact propext ⟨fun q => ⟨(by show 2 ≤ sizeLine; decide), fun p hp => ⟨.ref p, rfl, q p hp⟩⟩, fun q p hp => by
        obtain ⟨u, e, q⟩ := q.2 p hp
        cases e
        exact q⟩
end K17
/-! ### sorted trees and pieces: one list for all orders -/
namespace Tr
open PySem PySem.Spec PyProof.Rows L2 Evl Fx Dt
open PySem.W (alike alikeAll AllAlike Sortable dataLe dataLt keyToks keyToksAll)
mutual
theorem toks_tree : ∀ (t t' : T) (l l' : List (Int ⊕ List Nat)), keyToks (enc t) ++ l = keyToks (enc t') ++ l' → t = t' ∧ l = l'
  | .mk s m cs, .mk s' m' cs', l, l', h => by
    rw [enc, enc] at h
    simp only [keyToks, keyToksAll, List.cons_append, List.nil_append, List.append_assoc, List.singleton_append] at h
    injection h with _ h
    injection h with h1 h
    injection h with _ h
    injection h with h2 h
    injection h with _ h
    obtain ⟨e1, e2⟩ := toks_trees cs cs' _ _ h
    injection e2 with _ e2
    have e3 : s = s' := PySem.W.str_of_cps (Sum.inr.inj h1)
    have e4 : m = m' := Sum.inl.inj h2
    subst e1 e3 e4
    exact ⟨rfl, e2⟩
theorem toks_trees : ∀ (ts ts' : List T) (l l' : List (Int ⊕ List Nat)), keyToksAll (encs ts) ++ l = keyToksAll (encs ts') ++ l' → ts = ts' ∧ l = l'
  | [], [], l, l', h => ⟨rfl, by simpa [encs, keyToksAll] using h⟩
  | [], t :: ts, l, l', h => by
    rw [encs, encs] at h
    simp [keyToksAll] at h
  | t :: ts, [], l, l', h => by
    rw [encs, encs] at h
    simp [keyToksAll] at h
  | t :: ts, t' :: ts', l, l', h => by
    rw [encs, encs] at h
    simp only [keyToksAll, List.cons_append, List.append_assoc] at h
    injection h with _ h
    obtain ⟨e1, h⟩ := toks_tree t t' _ _ h
    obtain ⟨e2, h⟩ := toks_trees ts ts' _ _ h
    exact ⟨by rw [e1, e2], h⟩
end
/-- a piece of a sight -/
inductive Pc where
  | top (t : T)
  | lost (ts : List T)
def Pc.D : Pc → PyData
  | .top t => .tuple [.str "top", enc t]
  | .lost ts => .tuple [.str "lost", .tuple (ts.map enc)]
theorem words_ne : ("top" : Str) ≠ "lost" := by decide +kernel
theorem toks_piece : ∀ p q : Pc, keyToks p.D = keyToks q.D → p = q
  | .top t, .top t', h => by
    simp only [Pc.D, keyToks, keyToksAll, List.cons_append, List.nil_append] at h
    injection h with _ h
    injection h with _ h
    injection h with _ h
    rw [(toks_tree t t' _ _ h).1]
  | .lost ts, .lost ts', h => by
    simp only [Pc.D, keyToks, keyToksAll, List.cons_append, List.nil_append] at h
    injection h with _ h
    injection h with _ h
    injection h with _ h
    rw [← encs_map, ← encs_map] at h
    rw [(toks_trees ts ts' _ _ h).1]
  | .top t, .lost ts, h => by
    simp only [Pc.D, keyToks, keyToksAll, List.cons_append, List.nil_append] at h
    injection h with _ h
    injection h with h _
    exact (words_ne (PySem.W.str_of_cps (Sum.inr.inj h))).elim
  | .lost ts, .top t, h => by
    simp only [Pc.D, keyToks, keyToksAll, List.cons_append, List.nil_append] at h
    injection h with _ h
    injection h with h _
    exact (words_ne (PySem.W.str_of_cps (Sum.inr.inj h)).symm).elim
/-- what is in order has one order -/
theorem one_order {α : Type} {le : α → α → Bool} (anti : ∀ a b, le a b = true → le b a = true → a = b) : ∀ {l m : List α}, l.Pairwise (fun a b => le a b = true) → m.Pairwise (fun a b => le a b = true) → l.Perm m → l = m
  | [], m, _, _, p => by rw [List.nil_perm.mp p]
  | a :: l, [], _, _, p => by
    have := p.length_eq
    simp at this
  | a :: l, b :: m, h1, h2, p => by
    obtain ⟨a1, a2⟩ := List.pairwise_cons.mp h1
    obtain ⟨b1, b2⟩ := List.pairwise_cons.mp h2
    have e : a = b := by
      rcases List.mem_cons.mp (p.mem_iff.mp (List.mem_cons_self ..)) with q | q
      · exact q
      · rcases List.mem_cons.mp (p.mem_iff.mpr (List.mem_cons_self ..)) with r | r
        · exact r.symm
        · exact anti _ _ (a1 _ r) (b1 _ q)
    subst e
    rw [one_order anti a2 b2 p.cons_inv]
theorem le_anti {α : Type} {k : α → PyData} (inj : ∀ a b, keyToks (k a) = keyToks (k b) → a = b) (a b : α) (h1 : dataLe false id (k a) (k b) = true) (h2 : dataLe false id (k b) (k a) = true) : a = b := by
  refine inj a b ((listOrd itemOrd).total _ _ ?_ ?_)
  · exact Bool.not_eq_true' _ |>.mp (show (!(listOrd itemOrd).blt (keyToks (k a)) (keyToks (k b))) = true from h2)
  · exact Bool.not_eq_true' _ |>.mp (show (!(listOrd itemOrd).blt (keyToks (k b)) (keyToks (k a))) = true from h1)
theorem sort_pw {α : Type} (k : α → PyData) (l : List α) : (l.mergeSort fun a b => dataLe false id (k a) (k b)).Pairwise (fun a b => dataLe false id (k a) (k b) = true) :=
  PySem.W.sort_pairwise (PySem.W.sortLe_total (listOrd itemOrd) false fun a : α => keyToks (k a)) l
/-- what is a rearrangement of l and in order is l sorted -/
theorem sort_is {α : Type} {k : α → PyData} (inj : ∀ a b, keyToks (k a) = keyToks (k b) → a = b) {l m : List α} (p : l.Perm m) : (l.mergeSort fun a b => dataLe false id (k a) (k b)) = m.mergeSort fun a b => dataLe false id (k a) (k b) :=
  one_order (le_anti inj) (sort_pw k l) (sort_pw k m) ((List.mergeSort_perm _ _).trans (p.trans (List.mergeSort_perm _ _).symm))
theorem enc_inj (a b : T) (h : keyToks (enc a) = keyToks (enc b)) : a = b := (toks_tree a b [] [] (by rw [h])).1
theorem sortT_perm {a b : List T} (p : a.Perm b) : sortT a = sortT b := sort_is enc_inj p
def sortP (ps : List Pc) : List Pc := ps.mergeSort fun a b => dataLe false id a.D b.D
theorem sortP_map (ps : List Pc) : (ps.map Pc.D).mergeSort (dataLe false id) = (sortP ps).map Pc.D :=
  (List.map_mergeSort (r := fun a b => dataLe false id (Pc.D a) (Pc.D b)) (s := dataLe false id) (f := Pc.D) (l := ps) (fun _ _ _ _ => rfl)).symm
theorem sortP_mem (ps : List Pc) : (sortP ps).Perm ps := List.mergeSort_perm _ _
theorem sortP_perm {a b : List Pc} (p : a.Perm b) : sortP a = sortP b := sort_is toks_piece p
theorem sortT_app (a b : List T) : sortT (sortT a ++ b) = sortT (a ++ b) := sortT_perm ((sort_perm a).append_right b)
theorem sortP_app (a b : List Pc) : sortP (sortP a ++ b) = sortP (a ++ b) := sortP_perm ((sortP_mem a).append_right b)
theorem Pc.flat (p : Pc) : Dt.flat p.D = true := by
  cases p with
  | top t => show Dt.flat (PyData.tuple [.str "top", enc t]) = true; rw [flat_tup, flats, flats, flats, enc_flat]; rfl
  | lost ts => show Dt.flat (PyData.tuple [.str "lost", .tuple (ts.map enc)]) = true; rw [flat_tup, flats, flats, flats, flat_tup, maps_flat]; rfl
theorem pcs_flat (ps : List Pc) : flats (ps.map Pc.D) = true := flats_all.mpr fun d hd => by
  obtain ⟨p, _, rfl⟩ := List.mem_map.mp hd
  exact p.flat
theorem near_pcs (ps : List Pc) : So.Near (ps.map Pc.D) where
  word := fun d hd => by
    obtain ⟨p, _, rfl⟩ := List.mem_map.mp hd
    cases p with
    | top t => exact ⟨_, _, rfl⟩
    | lost ts => exact ⟨_, _, rfl⟩
  two := fun d hd d' hd' => by
    obtain ⟨p, _, rfl⟩ := List.mem_map.mp hd
    obtain ⟨q, _, rfl⟩ := List.mem_map.mp hd'
    cases p with
    | top t =>
      cases q with
      | top t' => exact .inl (by simp only [Pc.D, alike, alikeAll, enc_alike, Bool.true_and, Bool.and_true])
      | lost ts => exact .inr ⟨_, _, _, _, rfl, rfl, words_ne⟩
    | lost ts =>
      cases q with
      | top t' => exact .inr ⟨_, _, _, _, rfl, rfl, words_ne.symm⟩
      | lost us =>
        refine .inl ?_
        have := encs_alike ts us
        rw [encs_map, encs_map] at this
        simp only [Pc.D, alike, alikeAll, this, Bool.true_and, Bool.and_true]
def Pc.size : Pc → Nat
  | .top t => Tr.size t
  | .lost ts => sizes ts
def psizes (ps : List Pc) : Nat := (ps.map Pc.size).sum
theorem Pc.depth (p : Pc) : PyData.depth p.D ≤ 2 * p.size + 2 := by
  cases p with
  | top t =>
    have := enc_depth t
    simp only [Pc.D, Pc.size, PyData.depth, PyData.depthAll]
    omega
  | lost ts =>
    have := encs_depth ts
    rw [encs_map] at this
    simp only [Pc.D, Pc.size, PyData.depth, PyData.depthAll]
    omega
theorem psizes_perm {a b : List Pc} (h : a.Perm b) : psizes a = psizes b := (h.map _).sum_nat
theorem psizes_cons (p : Pc) (ps : List Pc) : psizes (p :: ps) = p.size + psizes ps := by simp [psizes]
theorem psizes_app (a b : List Pc) : psizes (a ++ b) = psizes a + psizes b := by simp [psizes]
theorem psize_mem {p : Pc} : ∀ {ps : List Pc}, p ∈ ps → p.size ≤ psizes ps
  | q :: ps, h => by
    rw [psizes_cons]
    rcases List.mem_cons.mp h with rfl | h
    · omega
    · have := psize_mem h
      omega
end Tr
/-! ### outcomes of which there is one: mixed -/
namespace K17
open PySem PySem.Spec PyProof.Rows L2 Evl Fx Fr Dt Tr K18 So
theorem pt_never {X : Cx} {e : Expr} : PT X e (fun _ _ _ => False) := ⟨fun _ _ _ _ _ _ h => h.elim⟩
def nMixed : List Str := ["pairs", "merged", "thing", "chance"]
theorem scMixed : FnScope nMixed ["pairs"] (defScope (K18.topS 27)) := ⟨rfl, rfl, rfl, by decide +kernel, rfl, by decide +kernel, by decide +kernel⟩
mutual
theorem alike_refl : ∀ d : PyData, flat d = true → PySem.W.alike d d = true
  | .none, _ => by simp [PySem.W.alike]
  | .bool _, _ => by simp [PySem.W.alike]
  | .int _, _ => by simp [PySem.W.alike]
  | .str _, _ => by simp [PySem.W.alike]
  | .list _, h => by simp [flat] at h
  | .tuple ds, h => by
    rw [PySem.W.alike]
    exact alikes_refl ds (by rwa [flat_tup] at h)
  | .dict _, h => by simp [flat] at h
theorem alikes_refl : ∀ ds : List PyData, flats ds = true → PySem.W.alikeAll ds ds = true
  | [], _ => by simp [PySem.W.alikeAll]
  | d :: ds, h => by
    obtain ⟨h1, h2⟩ := flats_cons.mp h
    rw [PySem.W.alikeAll, alike_refl d h1, alikes_refl ds h2]
    rfl
end
theorem srt_one {u v : PyData} (fu : flat u = true) (fv : flat v = true) : Srt [.tuple [u, v]] := by
  refine .inl ⟨fun d hd d' hd' => ?_, .inl fun d hd => ?_⟩
  · rw [List.mem_singleton.mp hd, List.mem_singleton.mp hd']
    exact alike_refl _ (by rw [flat_tup, flats_cons, flats_cons]; exact ⟨fu, fv, rfl⟩)
  · rw [List.mem_singleton.mp hd]
    exact ⟨_, _, rfl⟩
theorem one_sort (d : PyData) : [d].mergeSort (PySem.W.dataLe false id) = [d] := List.mergeSort_singleton d
section
variable {P : Program} {w : World} {K : PySem.W.Frag} {mg : Str → Option Value} {base : Heap} {f f2 f3 : Addr} {fd fd2 fd3 : FuncData} {F : Fd} {te ta tb : TE} {σ : L2.St} {H : Hp} {k ka kb n : Nat} {d : PyData} {ds : List PyData}
theorem rl_sortX (o : F.Ok) (h : EvR F te σ H k (IsL F K ds)) (hs : Srt ds) (hd : ∀ d ∈ ds, PyData.depth d ≤ 40) : EvR F (tCB (rSortX K) (tCons te tNil)) σ H k (IsL F K (ds.mergeSort (PySem.W.dataLe false id))) := fun n H1 hn g e Q q =>
  h n H1 hn g e _ fun v H2 e2 g2 ⟨a, xs, ev, hT, ha, hx⟩ => ⟨a, xs, ds, by rw [ev], .inl (sq_of ha), hx, hs, hd, fun p ws hp hw => q _ _ (e2.trans (Kx.ex (Ex.new hp))) (o.ex g2 (Ex.new hp)) ⟨p, ws, rfl, o.new g2 hp, upd_same, dps_ex (Ex.new hp) _ _ hw⟩⟩
theorem rl_sortXT (o : F.Ok) (h : EvR F te σ H k (IsD K (.tuple ds))) (hs : Srt ds) (hd : ∀ d ∈ ds, PyData.depth d ≤ 40) : EvR F (tCB (rSortX K) (tCons te tNil)) σ H k (IsL F K (ds.mergeSort (PySem.W.dataLe false id))) := fun n H1 hn g e Q q =>
  h n H1 hn g e _ fun v H2 e2 g2 hd' => by
    cases hd' with
    | @tup a xs _ ha hx => exact ⟨a, xs, ds, rfl, .inr ha, hx, hs, hd, fun p ws hp hw => q _ _ (e2.trans (Kx.ex (Ex.new hp))) (o.ex g2 (Ex.new hp)) ⟨p, ws, rfl, o.new g2 hp, upd_same, dps_ex (Ex.new hp) _ _ hw⟩⟩
/-- one pair alone -/
def spMixed (K : PySem.W.Frag) : Sp := spL K fun ds es => ∃ u v : PyData, flat u = true ∧ flat v = true ∧ PyData.depth u ≤ 38 ∧ PyData.depth v ≤ 38 ∧ ds = [.list [.tuple [u, v]]] ∧ es = [.tuple [u, v]]
theorem ok_mixed (F : Fun K "mixed" "mixed" (K18.topS 27) f fd) (m_sorted : mg "sorted" = none) : FnOk P w K mg base CX0 1 f fd ["pairs"] (spMixed K) := by
  refine F.ok scMixed (fun vs H Q E h => ?_) (fun cdv A outer s H vs Q E hr h => ?_)
  · obtain ⟨ds, es, hd, ⟨u, v, _, _, _, _, rfl, _⟩, _⟩ := h
    exact dps_len hd
  · obtain ⟨ds, es, hd, ⟨u, v, fu, fv, du, dv, rfl, rfl⟩, q⟩ := h
    refine ⟨_, pss_cons (ps_set (i := 1) scMixed.nd rfl (.inl rfl) (pe_lst pa_nil))
      (pss_cons (ps_for PassesOwn.never rfl (pi_list (pe_callB (r := rSortX K) (cr_sortedX hr.units) (by rfl) m_sorted (by decide +kernel) (pa_cons (pv 0) pa_nil))) (pg_tup (by rfl) (pgs_cons (pg_name (i := 2) scMixed.nd rfl (.inl rfl)) (pgs_cons (pg_name (i := 3) scMixed.nd rfl (.inl rfl)) pgs_nil)))
        (pss_one (ps_if (PW.pt (pw_and (pt_truth (pv 1) (fun _ => rfl)) (pw_and1 pt_never))) pss_never
          (pss_one (ps_expr (pe_bm PySem.F.plainAttrs_list PySem.F.slot_list_append PySem.F.type_list_append mt_append (pv 1) (pa_cons (pe_tup (pa_cons (pv 2) (pa_cons (pv 3) pa_nil))) pa_nil)))))))
      (pss_one (ps_ret (pv 1)))), ?_⟩
    match vs, hd with
    | [v0], .cons hv0 .nil =>
    cases hv0 with
    | @lst a0 xs _ ha0 hx0 =>
    show tSeq (tAsg (tLst tNil) (gName 1)) (tSeq (tFor (iList K (tCB (rSortX K) (tCons (tVar 0) tNil))) (gTup K 2 _) _) _) _ _ H
    refine q_asgL (el_lst ea_nil (by simp)) fun A1 H1 n1 e1 h1 => ?_
    have h1' : H1 A1 = some (.lst []) := h1
    refine ⟨.ref a0, rfl, a0, xs, [.tuple [u, v]], rfl, .inl (ex_l e1 ha0), dps_ex e1 _ _ hx0, srt_one fu fv, fun d hd => ?_, fun l ws hl hw => ?_⟩
    · rw [List.mem_singleton.mp hd]
      simp only [PyData.depth, PyData.depthAll]
      omega
    rw [one_sort] at hw
    cases hw with
    | @cons y zs _ _ hy hz =>
    cases hz
    have el := Ex.new (o := HO.lst [y]) hl
    have neA : A1 ≠ l := ne_addr hl h1'
    have hy' := dp_ex el _ _ hy
    obtain ⟨c, y1, y2, ey, hc, p1, p2⟩ := dp_two hy'
    subst ey
    refine ⟨l, rfl, ⟨_, sq_of upd_same⟩, for_list (xs := [.ref c]) (fun m σ' H' => (m = 0 ∧ σ' = [some (.ref a0), some (.ref A1), none, none] ∧ H' = upd H1 l (.lst [.ref c])) ∨ (m = 1 ∧ ∃ z, σ' = [some (.ref a0), some (.ref A1), some y1, some y2] ∧ Ex H H' ∧ H' l = some (.lst [.ref c]) ∧ H' A1 = some (.lst [z]) ∧ Dp K H' z (.tuple [u, v]))) (.inl ⟨rfl, rfl, rfl⟩) (fun m σ' H' _ p => ?_) (fun m x σ' H' hm p => ?_) fun σ' H' p => ?_⟩
    · rcases p with ⟨_, _, rfl⟩ | ⟨_, z, _, _, p, _⟩
      · exact sq_of upd_same
      · exact sq_of p
    · match m, hm with
      | 0, hm =>
      cases hm
      rcases p with ⟨_, rfl, rfl⟩ | ⟨h, _⟩
      · refine ⟨c, [y1, y2], rfl, hc, rfl, y1, _, rfl, y2, _, rfl, rfl, ?_⟩
        have hA : upd H1 l (.lst [.ref c]) A1 = some (.lst []) := by rw [upd_ne neA]; exact h1'
        refine ⟨.ref A1, rfl, false, .inl ⟨[], sq_of hA, rfl⟩, iteF ?_⟩
        refine ⟨.ref A1, rfl, .inl ⟨rfl, [], sq_of hA⟩, y1, rfl, y2, rfl, (by show 2 ≤ sizeLine; decide), fun p hp => ⟨A1, [], .ref p, rfl, rfl, ?_, ?_, ?_⟩⟩
        · rw [upd_ne (ne_addr hp hA)]
          exact hA
        · show 0 < sizeLine
          decide
        · have ep := Ex.new (o := HO.tup [y1, y2]) hp
          refine .inr ⟨rfl, .ref p, rfl, ((e1.trans el).trans ep).mut n1, ?_, upd_same, ?_⟩
          · rw [upd_ne neA.symm]
            exact ep _ _ upd_same
          · refine .tup (st_of (by rw [upd_ne (ne_addr hp hA).symm]; exact upd_same)) (.cons ?_ (.cons ?_ .nil))
            · exact dp_kt (kt_lst (ep _ _ hA)) u y1 fu (dp_ex ep _ _ p1)
            · exact dp_kt (kt_lst (ep _ _ hA)) v y2 fv (dp_ex ep _ _ p2)
      · cases h
    · rcases p with ⟨h, _⟩ | ⟨_, z, rfl, e, _, hA, hz⟩
      · cases h
      · exact ⟨.ref A1, rfl, q A1 [z] H' n1 e hA (.cons hz .nil)⟩
end
end K17
/-! ### fractions: times, minus -/
namespace K17
open PySem PySem.Spec PyProof.Rows L2 Evl Fx Fr Dt Tr K18 So
theorem scTimes : FnScope ["one", "other"] ["one", "other"] (defScope (K18.topS 24)) := ⟨rfl, rfl, rfl, by decide +kernel, rfl, by decide +kernel, by decide +kernel⟩
theorem scMinus : FnScope ["one", "other"] ["one", "other"] (defScope (K18.topS 23)) := ⟨rfl, rfl, rfl, by decide +kernel, rfl, by decide +kernel, by decide +kernel⟩
section
variable {P : Program} {w : World} {K : PySem.W.Frag} {mg : Str → Option Value} {base : Heap} {f f2 f3 : Addr} {fd fd2 fd3 : FuncData} {te ta tb : TE} {σ : L2.St} {H : Hp} {k ka kb n : Nat} {d : PyData} {ds : List PyData}
theorem made_d {k : Nat} (G : FnOk P w K mg base CX0 k f fd ["p", "q"] (spI2F okR Rat.divInt)) : FnOk P w K mg base CX0 k f fd ["p", "q"] (spMade K) := G.imp fun vs H Q E h => by
  obtain ⟨ds, d, hd, ⟨i, j, hk, rfl, rfl⟩, q⟩ := h
  match vs, hd with
  | [v1, v2], .cons p1 (.cons p2 .nil) =>
  cases p1
  cases p2
  exact ⟨i, j, rfl, hk, fun H' p e hp => q _ H' e (.tup (st_of hp) (.cons (.int _) (.cons (.int _) .nil)))⟩
theorem rv_num {i : Nat} {v : V} {r : Rat} (h : σ[i]? = some (some v)) (hv : Dp K H v (frD r)) : EvR F0 (tOp (rIxT K) (tVar i) (tC (.int 0))) σ H 0 (fun x _ => x = .int r.num) :=
  rv_int (K := K) (rd_ix (ka := 0) (kb := 0) F0.ok (rd_var F0.ok (n := 0) F0.g h hv rfl) rv_c 0 rfl rfl rfl)
theorem rv_den {i : Nat} {v : V} {r : Rat} (h : σ[i]? = some (some v)) (hv : Dp K H v (frD r)) : EvR F0 (tOp (rIxT K) (tVar i) (tC (.int 1))) σ H 0 (fun x _ => x = .int (r.den : Int)) :=
  rv_int (K := K) (rd_ix (ka := 0) (kb := 0) F0.ok (rd_var F0.ok (n := 0) F0.g h hv rfl) rv_c 1 rfl rfl rfl)
theorem rv_mul {i j : Int} {n m : Nat} (ha : EvR F0 ta σ H 0 (fun x _ => x = .int i)) (hb : EvR F0 tb σ H 0 (fun x _ => x = .int j)) (h1 : i.natAbs < 2 ^ n) (h2 : j.natAbs < 2 ^ m) (h : n + m ≤ 4000) : EvR F0 (tOp (rI CMulW fun i j => .int (i * j)) ta tb) σ H 0 (fun x _ => x = .int (i * j)) :=
  rv_op (ka := 0) (kb := 0) F0.ok ha hb fun _ => rv_I (g := fun i j => .int (i * j)) (mulW h1 h2 h)
theorem rv_sub {i j : Int} (ha : EvR F0 ta σ H 0 (fun x _ => x = .int i)) (hb : EvR F0 tb σ H 0 (fun x _ => x = .int j)) : EvR F0 (tOp (rI0 fun i j => .int (i - j)) ta tb) σ H 0 (fun x _ => x = .int (i - j)) :=
  rv_op (ka := 0) (kb := 0) F0.ok ha hb fun _ => rv_I0 (g := fun i j => .int (i - j))
def spOpF (K : PySem.W.Frag) (g : Rat → Rat → Rat) : Sp := spD K fun ds d => ∃ x y, okB 1 x y ∧ ds = [frD x, frD y] ∧ d = frD (g x y)
theorem ok_times (F : Fun K "times" "times" (K18.topS 24) f fd) (cR : C8.Cal P w K mg base 1 "reduced_pair" (spMade K) []) : FnOk P w K mg base CX0 2 f fd ["one", "other"] (spOpF K (· * ·)) := by
  refine F.ok scTimes (fun vs H Q E h => ?_) (fun cdv A outer s H vs Q E hr h => ?_)
  · obtain ⟨ds, es, hd, ⟨x, y, _, rfl, _⟩, _⟩ := h
    exact dps_len hd
  · obtain ⟨ds, es, hd, ⟨x, y, ⟨n, m, h1, h2, hs⟩, rfl, rfl⟩, q⟩ := h
    match vs, hd with
    | [v1, v2], .cons p1 (.cons p2 .nil) =>
    refine ⟨_, pss_one (ps_ret (C8.pe_c cR hr (by decide) (by rfl) (pa_cons (pe_op op_mulW (pe_ix ix_tup (pv 0) pe_int (fun _ _ => rfl)) (pe_ix ix_tup (pv 1) pe_int (fun _ _ => rfl))) (pa_cons (pe_op op_mulW (pe_ix ix_tup (pv 0) pe_int (fun _ _ => rfl)) (pe_ix ix_tup (pv 1) pe_int (fun _ _ => rfl))) pa_nil)))), ?_⟩
    have d1 : (x.den : Int).natAbs < 2 ^ n := h1.2
    have d2 : (y.den : Int).natAbs < 2 ^ m := h2.2
    refine s_retR (F := F0) (n := 0) (k := 0) (P := IsD K (frD (x * y))) ?_ F0.g (Nat.le_refl _) fun v H1 e _ hv => q v H1 (F0.ex e) hv
    refine EvR.cast (rd_call F0.ok (ra_cons (ka := 0) (kb := 0) F0.ok (rd_ofI (rv_mul (rv_num (i := 0) rfl p1) (rv_num (i := 1) rfl p2) h1.1 h2.1 (by omega))) (ra_cons (ka := 0) (kb := 0) F0.ok (rd_ofI (rv_mul (rv_den (i := 0) rfl p1) (rv_den (i := 1) rfl p2) d1 d2 (by omega))) ra_nil)) ⟨_, _, ⟨Int.mul_ne_zero (den_ne x) (den_ne y), lt_up (im_lt h1.1 h2.1) (by omega), lt_up (im_lt d1 d2) (by omega)⟩, rfl, rfl⟩) (congrArg frD (mul_eq x y))
theorem ok_minus (F : Fun K "minus" "minus" (K18.topS 23) f fd) (cR : C8.Cal P w K mg base 1 "reduced_pair" (spMade K) []) : FnOk P w K mg base CX0 2 f fd ["one", "other"] (spOpF K (· - ·)) := by
  refine F.ok scMinus (fun vs H Q E h => ?_) (fun cdv A outer s H vs Q E hr h => ?_)
  · obtain ⟨ds, es, hd, ⟨x, y, _, rfl, _⟩, _⟩ := h
    exact dps_len hd
  · obtain ⟨ds, es, hd, ⟨x, y, ⟨n, m, h1, h2, hs⟩, rfl, rfl⟩, q⟩ := h
    match vs, hd with
    | [v1, v2], .cons p1 (.cons p2 .nil) =>
    refine ⟨_, pss_one (ps_ret (C8.pe_c cR hr (by decide) (by rfl) (pa_cons (pe_op op_sub (pe_op op_mulW (pe_ix ix_tup (pv 0) pe_int (fun _ _ => rfl)) (pe_ix ix_tup (pv 1) pe_int (fun _ _ => rfl))) (pe_op op_mulW (pe_ix ix_tup (pv 1) pe_int (fun _ _ => rfl)) (pe_ix ix_tup (pv 0) pe_int (fun _ _ => rfl)))) (pa_cons (pe_op op_mulW (pe_ix ix_tup (pv 0) pe_int (fun _ _ => rfl)) (pe_ix ix_tup (pv 1) pe_int (fun _ _ => rfl))) pa_nil)))), ?_⟩
    have d1 : (x.den : Int).natAbs < 2 ^ n := h1.2
    have d2 : (y.den : Int).natAbs < 2 ^ m := h2.2
    refine s_retR (F := F0) (n := 0) (k := 0) (P := IsD K (frD (x - y))) ?_ F0.g (Nat.le_refl _) fun v H1 e _ hv => q v H1 (F0.ex e) hv
    have t2 := im_lt h2.1 d1
    rw [Nat.add_comm m n] at t2
    refine EvR.cast (rd_call F0.ok (ra_cons (ka := 0) (kb := 0) F0.ok (rd_ofI (rv_sub (rv_mul (rv_num (i := 0) rfl p1) (rv_den (i := 1) rfl p2) h1.1 d2 (by omega)) (rv_mul (rv_num (i := 1) rfl p2) (rv_den (i := 0) rfl p1) h2.1 d1 (by omega)))) (ra_cons (ka := 0) (kb := 0) F0.ok (rd_ofI (rv_mul (rv_den (i := 0) rfl p1) (rv_den (i := 1) rfl p2) d1 d2 (by omega))) ra_nil)) ⟨_, _, ⟨Int.mul_ne_zero (den_ne x) (den_ne y), lt_up (is_lt (im_lt h1.1 d2) t2) (by omega), lt_up (im_lt d1 d2) (by omega)⟩, rfl, rfl⟩) (congrArg frD (sub_eq x y))
end
end K17
/-! ### a piece more; two outcomes joined -/
namespace K17
open PySem PySem.Spec PyProof.Rows L2 Evl Fx Fr Dt Tr K18 So
abbrev R2 : Type := List T × List Pc
def resD (r : R2) : PyData := .tuple [.tuple (r.1.map enc), .tuple (r.2.map Pc.D)]
def outD (r : R2) : PyData := .tuple [resD r, frD 1]
theorem res_flat (r : R2) : flat (resD r) = true := by
  rw [resD, flat_tup, flats_cons, flats_cons, flat_tup, flat_tup]
  exact ⟨maps_flat _, pcs_flat _, rfl⟩
theorem out_flat (r : R2) : flat (outD r) = true := by
  rw [outD, flat_tup, flats_cons, flats_cons]
  exact ⟨res_flat r, rfl, rfl⟩
/-- of so many spans at the most -/
def Few (n : Nat) (r : R2) : Prop := sizes r.1 + psizes r.2 ≤ n ∧ r.1.length ≤ n ∧ r.2.length ≤ n
def pieceOf (wd : Str) (ts : List T) : Pc := if wd = "top" then (match ts with | t :: _ => .top t | [] => .lost []) else .lost ts
def withP (wd : Str) (ts : List T) (ps : List Pc) : List Pc := match ts with
  | [] => ps
  | _ :: _ => sortP (ps ++ [pieceOf wd ts])
def nWP : List Str := ["trees", "pieces", "word", "piece"]
theorem scWP : FnScope nWP ["trees", "pieces", "word"] (defScope (K18.topS 31)) := ⟨rfl, rfl, rfl, by decide +kernel, rfl, by decide +kernel, by decide +kernel⟩
def nBoth : List Str := ["one", "other", "trees", "pieces", "chance", "more_trees", "more_pieces", "second", "held"]
theorem scBoth : FnScope nBoth ["one", "other"] (defScope (K18.topS 29)) := ⟨rfl, rfl, rfl, by decide +kernel, rfl, by decide +kernel, by decide +kernel⟩
section
variable {P : Program} {w : World} {K : PySem.W.Frag} {mg : Str → Option Value} {base : Heap} {f f2 f3 : Addr} {fd fd2 fd3 : FuncData} {te ta tb : TE} {σ : L2.St} {H : Hp} {k ka kb n : Nat} {d : PyData} {ds : List PyData}
theorem rt_truT {i : Nat} {v : V} (h : σ[i]? = some (some v)) (hv : Dp K H v (.tuple ds)) : EvRT F0 (tTru K i) σ H 0 (!ds.isEmpty) := fun n H1 hn g e Q q => by
  cases hv with
  | @tup a xs _ ha hx =>
    have hl := dps_len hx
    refine ⟨.ref a, h, !xs.isEmpty, .inr (.inl ⟨xs, ex_t (F0.ex e) ha, rfl⟩), ?_⟩
    have : (!xs.isEmpty) = !ds.isEmpty := by
      cases xs <;> cases ds <;> first | rfl | (simp at hl)
    rw [this]
    exact q H1 Kx.refl g
theorem rv_eqS {a b : Str} (ha : EvR F0 ta σ H 0 (fun x _ => x = .str a)) (hb : EvR F0 tb σ H 0 (fun x _ => x = .str b)) : EvR F0 (tOp rEq ta tb) σ H 0 (fun x _ => x = .bl (decide (a = b))) := by
  have h := rv_op (ka := 0) (kb := 0) (z := .bl (decide (V.str a = V.str b))) F0.ok ha hb (fun _ => rv_eq rfl)
  have e : decide (V.str a = V.str b) = decide (a = b) := decide_eq_decide.mpr ⟨fun h => V.str.inj h, fun h => by rw [h]⟩
  rw [e] at h
  exact h
theorem pieceOf_size (wd : Str) (ts : List T) : (pieceOf wd ts).size ≤ sizes ts := by
  unfold pieceOf
  split
  · cases ts with
    | nil => exact Nat.le_refl _
    | cons t ts => rw [sizes]; exact Nat.le_add_right _ _
  · exact Nat.le_refl _
theorem depth_pcs {ps : List Pc} {n : Nat} (h : ∀ p ∈ ps, p.size ≤ n) (hn : n ≤ 19) : ∀ d ∈ ps.map Pc.D, PyData.depth d ≤ 40 := fun d hd => by
  obtain ⟨p, hp, rfl⟩ := List.mem_map.mp hd
  have := p.depth
  have := h p hp
  omega
def spWP (K : PySem.W.Frag) : Sp := spD K fun ds d => ∃ (ts : List T) (ps : List Pc) (wd : Str), (wd = "top" ∨ wd = "lost") ∧ Few 15 (ts, ps) ∧ ds = [.tuple (ts.map enc), .tuple (ps.map Pc.D), .str wd] ∧ d = .tuple ((withP wd ts ps).map Pc.D)
theorem ok_wp (F : Fun K "with_piece" "with_piece" (K18.topS 31) f fd) (m_tuple : mg "tuple" = none) (m_sorted : mg "sorted" = none) : FnOk P w K mg base CX0 1 f fd ["trees", "pieces", "word"] (spWP K) := by
  refine F.ok scWP (fun vs H Q E h => ?_) (fun cdv A outer s H vs Q E hr h => ?_)
  · obtain ⟨ds, es, hd, ⟨ts, ps, wd, _, _, rfl, _⟩, _⟩ := h
    exact dps_len hd
  · obtain ⟨ds, es, hd, ⟨ts, ps, wd, hw, hf, rfl, rfl⟩, q⟩ := h
    match vs, hd with
    | [v1, v2, v3], .cons p1 (.cons p2 (.cons p3 .nil)) =>
    refine ⟨_, pss_cons (ps_if (pt_not (pt_truth (pv 0) (fun _ => rfl))) (pss_one (ps_ret (pv 1))) pss_nil)
      (pss_cons (ps_set (i := 3) scWP.nd rfl (.inl rfl) (pe_ifExp (pt_cmpR op_eq (pv 2) pe_str (nomark _)) (pe_tup (pa_cons pe_str (pa_cons (pe_ix ix_tup (pv 0) pe_int (fun _ _ => rfl)) pa_nil))) (pe_tup (pa_cons pe_str (pa_cons (pv 0) pa_nil)))))
      (pss_one (ps_ret (pe_callTy (T := "tuple") (r := rTupOf K) call_tupleOf (by rfl) m_tuple (by decide +kernel) (pa_cons (pe_callB (r := rSortX K) (cr_sortedX hr.units) (by rfl) m_sorted (by decide +kernel) (pa_cons (pe_op op_catA (pv 1) (pe_tup (pa_cons (pv 3) pa_nil))) pa_nil)) pa_nil))))), ?_⟩
    cases p3
    show tSeq (tIfS (tNot (tTru K 0)) (tRet (tVar 1)) tNext) (tSeq (tAsg (tIf (tB (tOp rEq (tVar 2) (tC (.str "top")))) (tTup (tCons (tC (.str "top")) (tCons (tOp (rIxT K) (tVar 0) (tC (.int 0))) tNil))) (tTup (tCons (tC (.str "lost")) (tCons (tVar 0) tNil)))) (gName 3)) (tRet _)) _ [some v1, some v2, some (.str wd), none] H
    refine q_whenR (F := F0) (n := 0) (k := 0) (b := !(!(ts.map enc).isEmpty)) (rt_not (rt_truT rfl p1)) F0.g (Nat.le_refl _) (fun hb H1 e1 _ => ?_) fun hb H1 e1 _ => ?_
    · replace e1 := F0.ex e1
      cases ts with
      | nil => exact ⟨v2, rfl, q v2 H1 e1 (dp_ex e1 _ _ p2)⟩
      | cons t r => simp at hb
    · replace e1 := F0.ex e1
      cases ts with
      | nil => simp at hb
      | cons t r =>
      have p1' := dp_ex e1 _ _ p1
      have p2' := dp_ex e1 _ _ p2
      have fl1 : flat (.tuple ((t :: r).map enc)) = true := by rw [flat_tup]; exact maps_flat _
      refine q_asgR (F := F0) (n := 0) (k := 0 + 0) (P := IsD K (pieceOf wd (t :: r)).D) (r_if (ka := 0) (kb := 0) (b := decide (wd = "top")) F0.ok (rt_B (rv_eqS (rv_var rfl) rv_c)) (fun hb => ?_) fun hb => ?_) F0.g (Nat.le_refl _) fun v4 H2 e2 _ p4 => ?_
      · have hw' : wd = "top" := of_decide_eq_true hb
        subst hw'
        exact rd_tup (ds := [.str "top", enc t]) F0.ok (ra_cons (ka := 0) (kb := 0) F0.ok rd_str (ra_cons (ka := 0) (kb := 0) F0.ok (rd_ix (ka := 0) (kb := 0) F0.ok (rd_var F0.ok (n := 0) F0.g rfl p1' fl1) rv_c 0 (by simp [ixN]) rfl fl1) ra_nil (enc_flat t))) (Pc.flat (.top t))
      · have hw' : ¬ wd = "top" := of_decide_eq_false hb
        have ep : pieceOf wd (t :: r) = .lost (t :: r) := by unfold pieceOf; rw [if_neg hw']
        rw [ep]
        exact rd_tup (ds := [.str "lost", .tuple ((t :: r).map enc)]) F0.ok (ra_cons (ka := 0) (kb := 0) F0.ok rd_str (ra_cons (ka := 0) (kb := 0) F0.ok (rd_var F0.ok (n := 0) F0.g rfl p1' fl1) ra_nil fl1)) (Pc.flat (.lost (t :: r)))
      · replace e2 := F0.ex e2
        have p2'' := dp_ex e2 _ _ p2'
        have hsz : ∀ p ∈ ps ++ [pieceOf wd (t :: r)], p.size ≤ 15 := fun p hp => by
          obtain ⟨h1, _, _⟩ := hf
          have h1 : sizes (t :: r) + psizes ps ≤ 15 := h1
          rcases List.mem_append.mp hp with hp | hp
          · have := psize_mem hp
            omega
          · rw [List.mem_singleton.mp hp]
            have := pieceOf_size wd (t :: r)
            omega
        have hl : ps.length ≤ 15 := hf.2.2
        have cat : EvR F0 (tOp (rCatA K) (tVar 1) (tTup (tCons (tVar 3) tNil))) [some v1, some v2, some (.str wd), some v4] H2 (0 + 0) (IsD K (.tuple ((ps ++ [pieceOf wd (t :: r)]).map Pc.D))) := by
          rw [List.map_append]
          exact rd_cat (ka := 0) (kb := 0) F0.ok (rd_var F0.ok (n := 0) F0.g rfl p2'' (by rw [flat_tup]; exact pcs_flat _)) (rd_tup F0.ok (ra_cons (ka := 0) (kb := 0) F0.ok (rd_var F0.ok (n := 0) F0.g rfl p4 (Pc.flat _)) ra_nil (Pc.flat _)) (pcs_flat [_])) (pcs_flat ps) (by simp; omega)
        refine s_retR (F := F0) (n := 0) (k := 0 + 0) (P := IsD K (.tuple ((sortP (ps ++ [pieceOf wd (t :: r)])).map Pc.D))) (EvR.cast (rd_tupOf F0.ok (rl_sortXT F0.ok cat (.inr (near_pcs _)) (depth_pcs hsz (by decide)))) (by rw [sortP_map])) F0.g (Nat.le_refl _) fun v H3 e3 _ hv => q v H3 (e1.trans (e2.trans (F0.ex e3))) hv
def spBoth (K : PySem.W.Frag) : Sp := spD K fun ds d => ∃ (r r' : R2), Few 15 (r.1 ++ r'.1, r.2 ++ r'.2) ∧ ds = [outD r, outD r'] ∧ d = outD (sortT (r.1 ++ r'.1), sortP (r.2 ++ r'.2))
theorem ok_both (F : Fun K "both" "both" (K18.topS 29) f fd) (cT : C8.Cal P w K mg base 2 "times" (spOpF K (· * ·)) []) (m_tuple : mg "tuple" = none) (m_sorted : mg "sorted" = none) : FnOk P w K mg base CX0 3 f fd ["one", "other"] (spBoth K) := by
  refine F.ok scBoth (fun vs H Q E h => ?_) (fun cdv A outer s H vs Q E hr h => ?_)
  · obtain ⟨ds, es, hd, ⟨r, r', _, rfl, _⟩, _⟩ := h
    exact dps_len hd
  · obtain ⟨ds, es, hd, ⟨r, r', hf, rfl, rfl⟩, q⟩ := h
    obtain ⟨v1, vs, rfl, p1, hd⟩ := dps_uncons hd
    obtain ⟨v2, vs, rfl, p2, hd⟩ := dps_uncons hd
    obtain rfl := dps_none hd
    refine ⟨_, pss_cons (ps_asg (pv 0) (pg_tup (by rfl) (pgs_cons (pg_tup (by rfl) (pgs_cons (pg_name (i := 2) scBoth.nd rfl (.inl rfl)) (pgs_cons (pg_name (i := 3) scBoth.nd rfl (.inl rfl)) pgs_nil))) (pgs_cons (pg_name (i := 4) scBoth.nd rfl (.inl rfl)) pgs_nil))))
      (pss_cons (ps_asg (pv 1) (pg_tup (by rfl) (pgs_cons (pg_tup (by rfl) (pgs_cons (pg_name (i := 5) scBoth.nd rfl (.inl rfl)) (pgs_cons (pg_name (i := 6) scBoth.nd rfl (.inl rfl)) pgs_nil))) (pgs_cons (pg_name (i := 7) scBoth.nd rfl (.inl rfl)) pgs_nil))))
      (pss_cons (ps_set (i := 8) scBoth.nd rfl (.inl rfl) (pe_tup (pa_cons (pe_callTy (T := "tuple") (r := rTupOf K) call_tupleOf (by rfl) m_tuple (by decide +kernel) (pa_cons (pe_callB (r := rSortX K) (cr_sortedX hr.units) (by rfl) m_sorted (by decide +kernel) (pa_cons (pe_op op_catA (pv 2) (pv 5)) pa_nil)) pa_nil))
          (pa_cons (pe_callTy (T := "tuple") (r := rTupOf K) call_tupleOf (by rfl) m_tuple (by decide +kernel) (pa_cons (pe_callB (r := rSortX K) (cr_sortedX hr.units) (by rfl) m_sorted (by decide +kernel) (pa_cons (pe_op op_catA (pv 3) (pv 6)) pa_nil)) pa_nil)) pa_nil))))
      (pss_one (ps_ret (pe_tup (pa_cons (pv 8) (pa_cons (C8.pe_c cT hr (by decide) (by rfl) (pa_cons (pv 4) (pa_cons (pv 7) pa_nil))) pa_nil))))))), ?_⟩
    obtain ⟨a1, x1, y1, rfl, ha1, hx1, hy1⟩ := dp_two p1
    obtain ⟨b1, t1, s1, rfl, hb1, ht1, hs1⟩ := dp_two hx1
    obtain ⟨a2, x2, y2, rfl, ha2, hx2, hy2⟩ := dp_two p2
    obtain ⟨b2, t2, s2, rfl, hb2, ht2, hs2⟩ := dp_two hx2
    refine ⟨.ref a1, rfl, a1, [.ref b1, y1], rfl, ha1, rfl, .ref b1, _, rfl, ⟨b1, [t1, s1], rfl, hb1, rfl, t1, _, rfl, s1, _, rfl, rfl, y1, _, rfl, rfl, ?_⟩⟩
    refine ⟨.ref a2, rfl, a2, [.ref b2, y2], rfl, ha2, rfl, .ref b2, _, rfl, ⟨b2, [t2, s2], rfl, hb2, rfl, t2, _, rfl, s2, _, rfl, rfl, y2, _, rfl, rfl, ?_⟩⟩
    change tSeq (tAsg (tTup (tCons (tCB (rTupOf K) (tCons (tCB (rSortX K) (tCons (tOp (rCatA K) (tVar 2) (tVar 5)) tNil)) tNil)) (tCons (tCB (rTupOf K) (tCons (tCB (rSortX K) (tCons (tOp (rCatA K) (tVar 3) (tVar 6)) tNil)) tNil)) tNil))) (gName 8)) _ _ [some (.ref a1), some (.ref a2), some t1, some s1, some y1, some t2, some s2, some y2, none] H
    obtain ⟨h1, h2, h3⟩ := hf
    have h1 : sizes (r.1 ++ r'.1) + psizes (r.2 ++ r'.2) ≤ 15 := h1
    have h2 : (r.1 ++ r'.1).length ≤ 15 := h2
    have h3 : (r.2 ++ r'.2).length ≤ 15 := h3
    have ft : ∀ ts : List T, flat (.tuple (ts.map enc)) = true := fun ts => by rw [flat_tup]; exact maps_flat _
    have fp : ∀ ps : List Pc, flat (.tuple (ps.map Pc.D)) = true := fun ts => by rw [flat_tup]; exact pcs_flat _
    have catT : EvR F0 (tOp (rCatA K) (tVar 2) (tVar 5)) [some (.ref a1), some (.ref a2), some t1, some s1, some y1, some t2, some s2, some y2, none] H (0 + 0) (IsD K (.tuple ((r.1 ++ r'.1).map enc))) := by
      rw [List.map_append]
      exact rd_cat (ka := 0) (kb := 0) F0.ok (rd_var F0.ok (n := 0) F0.g rfl ht1 (ft _)) (rd_var F0.ok (n := 0) F0.g rfl ht2 (ft _)) (maps_flat _) (by simp at h2 ⊢; omega)
    have catP : EvR F0 (tOp (rCatA K) (tVar 3) (tVar 6)) [some (.ref a1), some (.ref a2), some t1, some s1, some y1, some t2, some s2, some y2, none] H (0 + 0) (IsD K (.tuple ((r.2 ++ r'.2).map Pc.D))) := by
      rw [List.map_append]
      exact rd_cat (ka := 0) (kb := 0) F0.ok (rd_var F0.ok (n := 0) F0.g rfl hs1 (fp _)) (rd_var F0.ok (n := 0) F0.g rfl hs2 (fp _)) (pcs_flat _) (by simp at h3 ⊢; omega)
    have dT : ∀ d ∈ (r.1 ++ r'.1).map enc, PyData.depth d ≤ 40 := fun d hd => by
      have := depth_mem d hd
      omega
    have dP : ∀ d ∈ (r.2 ++ r'.2).map Pc.D, PyData.depth d ≤ 40 := depth_pcs (n := 15) (fun p hp => by
      have := psize_mem hp
      omega) (by decide)
    refine q_asgR (F := F0) (n := 0) (k := (0 + 0) + ((0 + 0) + 0)) (P := IsD K (resD (sortT (r.1 ++ r'.1), sortP (r.2 ++ r'.2)))) (rd_tup F0.ok (ra_cons (ka := 0 + 0) (kb := (0 + 0) + 0) F0.ok (EvR.cast (rd_tupOf F0.ok (rl_sortXT F0.ok catT (.inl ⟨all_alike _, all_sortable _⟩) dT)) (by rw [sort_map])) (ra_cons (ka := 0 + 0) (kb := 0) F0.ok (EvR.cast (rd_tupOf F0.ok (rl_sortXT F0.ok catP (.inr (near_pcs _)) dP)) (by rw [sortP_map])) ra_nil (fp _)) (ft _)) (by
      rw [flats_cons, flats_cons]
      exact ⟨ft _, fp _, rfl⟩)) F0.g (Nat.le_refl _) fun v8 H2 e2 _ p8 => ?_
    replace e2 := F0.ex e2
    refine s_retR (F := F0) (n := 0) (k := 0 + (0 + 0)) (P := IsD K (outD (sortT (r.1 ++ r'.1), sortP (r.2 ++ r'.2)))) (rd_tup F0.ok (ra_cons (ka := 0) (kb := 0 + 0) F0.ok (rd_var F0.ok (n := 0) F0.g rfl p8 (res_flat _)) (ra_cons (ka := 0) (kb := 0) F0.ok (rd_call F0.ok (ra_cons (ka := 0) (kb := 0) (d := frD 1) F0.ok (rd_var F0.ok (n := 0) F0.g rfl (dp_ex e2 _ _ hy1) rfl) (ra_cons (ka := 0) (kb := 0) (d := frD 1) F0.ok (rd_var F0.ok (n := 0) F0.g rfl (dp_ex e2 _ _ hy2) rfl) ra_nil)) ⟨1, 1, ⟨1, 1, bd1, bd1, by decide⟩, rfl, (congrArg frD (Rat.mul_one 1)).symm⟩) ra_nil) (res_flat _)) (out_flat _)) F0.g (Nat.le_refl _) fun v H3 e3 _ hv => q v H3 (e2.trans (F0.ex e3)) hv
end
end K17
/-! ### several outcomes joined -/
namespace K17
open PySem PySem.Spec PyProof.Rows L2 Evl Fx Fr Dt Tr K18 So
section
variable {P : Program} {w : World} {K : PySem.W.Frag} {mg : Str → Option Value} {base : Heap} {f f2 f3 : Addr} {fd fd2 fd3 : FuncData} {te ta tb : TE} {σ : L2.St} {H : Hp} {k ka kb n : Nat} {d : PyData} {ds : List PyData}
/-- one item out of a list of one and another list of one -/
theorem r_lc2one {i j i2 j2 : Nat} {vs vs1 : List Nat} {a b : Addr} {x y : V} (ha : σ[i]? = some (some (.ref a))) (hb : ((wipe σ vs).set j (some x))[i2]? = some (some (.ref b))) (la : SqL K H a [x]) (lb : SqL K H b [y])
    (w1 : wipe ((wipe σ vs).set j (some x)) vs = wipe σ vs) (w2 : wipe ((wipe ((wipe σ vs).set j (some x)) vs1).set j2 (some y)) vs1 = wipe ((wipe σ vs).set j (some x)) vs1)
    (he : ∀ H', Ex H H' → EvR F0 te ((wipe ((wipe σ vs).set j (some x)) vs1).set j2 (some y)) H' 0 (IsD K d)) (hf : flat d = true) :
    EvR F0 (tLc2 (iList K (tVar i)) (gName j) tYes (iList K (tVar i2)) (gName j2) tYes te vs vs1) σ H 0 (IsL F0 K [d]) := fun n H1 hn g e Q q => by
  replace e := F0.ex e
  have la1 := ex_l e la
  have lb1 := ex_l e lb
  refine ⟨.ref a, ha, a, rfl, ⟨[x], la1⟩, fun D hD => ?_⟩
  let P0 : Hp → Prop := fun H' => Ex H1 H' ∧ H' D = some (.lst [])
  let P1 : Hp → Prop := fun H' => Ex H1 H' ∧ ∃ z, H' D = some (.lst [z]) ∧ Dp K H' z d
  have e0 := Ex.new (o := HO.lst []) hD
  refine ⟨fun i m H' => (i = 0 ∧ m = 1 ∧ P0 H') ∨ (i = 1 ∧ m = 0 ∧ P1 H'), ⟨1, .inl ⟨rfl, rfl, e0, upd_same⟩⟩, fun i m H2 hW => ?_⟩
  rcases hW with ⟨rfl, rfl, e2, h2⟩ | ⟨rfl, rfl, e2, z, h2, hz⟩
  · refine .inr ⟨⟨[x], x, ex_l e2 la1, rfl⟩, P1, fun H' p => ⟨0, by decide, .inr ⟨rfl, rfl, p⟩⟩, fun x' H' y' => ?_⟩
    obtain ⟨rfl, y'⟩ := y'
    have ex := y' [x] (ex_l e2 la1)
    cases ex
    refine ⟨w1, .ref b, hb, b, rfl, ⟨[y], ex_l e2 lb1⟩, fun j k H' => (j = 0 ∧ k = 1 ∧ P0 H') ∨ (j = 1 ∧ k = 0 ∧ P1 H'), ⟨1, .inl ⟨rfl, rfl, e2, h2⟩⟩, fun j k H3 hV => ?_⟩
    rcases hV with ⟨rfl, rfl, e3, h3⟩ | ⟨rfl, rfl, p⟩
    · refine .inr ⟨⟨[y], y, ex_l e3 lb1, rfl⟩, P1, fun H' p => ⟨0, by decide, .inr ⟨rfl, rfl, p⟩⟩, fun y2 H' y3 => ?_⟩
      obtain ⟨rfl, y3⟩ := y3
      have ey := y3 [y] (ex_l e3 lb1)
      cases ey
      refine ⟨w2, he _ (e.trans e3) 0 _ (Nat.le_refl _) F0.g Kx.refl _ fun v H4 e4 _ hv => ⟨[], F0.ex e4 _ _ h3, (by show 0 < sizeLine; decide), ?_⟩⟩
      have h4 := F0.ex e4 _ _ h3
      refine ⟨(e3.trans (F0.ex e4)).mut hD, v, upd_same, dp_kt (kt_lst h4) d v hf hv⟩
    · exact .inl ⟨⟨[y], ex_l p.1 lb1, Nat.le_refl _⟩, p⟩
  · exact .inl ⟨⟨[x], ex_l e2 la1, Nat.le_refl _⟩, q (.ref D) H2 (Kx.ex e2) g ⟨D, [z], rfl, fun z => z, h2, .cons hz .nil⟩⟩
/-- the outcomes together -/
def catR (rs : List R2) : R2 := (rs.flatMap Prod.fst, rs.flatMap Prod.snd)
def joinR (rs : List R2) : R2 := (sortT (catR rs).1, sortP (catR rs).2)
def oneD (r : R2) : PyData := .list [outD r]
theorem join_step (rs : List R2) (r : R2) : (sortT ((joinR rs).1 ++ r.1), sortP ((joinR rs).2 ++ r.2)) = joinR (rs ++ [r]) := by
  simp only [joinR, catR, sortT_app, sortP_app, List.flatMap_append, List.flatMap_cons, List.flatMap_nil, List.append_nil]
theorem few_of {n : Nat} {rs : List R2} {r : R2} (h : Few n (catR (rs ++ [r]))) : Few n ((joinR rs).1 ++ r.1, (joinR rs).2 ++ r.2) := by
  obtain ⟨h1, h2, h3⟩ := h
  simp only [catR, List.flatMap_append, List.flatMap_cons, List.flatMap_nil, List.append_nil] at h1 h2 h3
  have p1 := (sort_perm (rs.flatMap Prod.fst)).append_right r.1
  have p2 := (sortP_mem (rs.flatMap Prod.snd)).append_right r.2
  exact ⟨by show sizes _ + psizes _ ≤ n; rw [show sizes ((joinR rs).1 ++ r.1) = _ from sizes_perm p1, show psizes ((joinR rs).2 ++ r.2) = _ from psizes_perm p2]; exact h1,
    by show List.length _ ≤ n; rw [show ((joinR rs).1 ++ r.1).length = _ from p1.length_eq]; exact h2, by show List.length _ ≤ n; rw [show ((joinR rs).2 ++ r.2).length = _ from p2.length_eq]; exact h3⟩
theorem few_join {n : Nat} {rs : List R2} (h : Few n (catR rs)) : Few n (joinR rs) := by
  obtain ⟨h1, h2, h3⟩ := h
  have p1 := sort_perm (catR rs).1
  have p2 := sortP_mem (catR rs).2
  exact ⟨by show sizes (sortT _) + psizes (sortP _) ≤ n; rw [sizes_perm p1, psizes_perm p2]; exact h1, by show List.length (sortT _) ≤ n; rw [p1.length_eq]; exact h2, by show List.length (sortP _) ≤ n; rw [p2.length_eq]; exact h3⟩
theorem few_take {n m : Nat} {rs : List R2} (h : Few n (catR rs)) : Few n (catR (rs.take m)) := by
  obtain ⟨h1, h2, h3⟩ := h
  have e : rs = rs.take m ++ rs.drop m := (List.take_append_drop m rs).symm
  rw [e] at h1 h2 h3
  simp only [catR, List.flatMap_append, sizes_app, psizes_app, List.length_append] at h1 h2 h3
  exact ⟨by show sizes _ + psizes _ ≤ n; simp only [catR]; omega, by show List.length _ ≤ n; simp only [catR]; omega, by show List.length _ ≤ n; simp only [catR]; omega⟩
theorem depth_all {ps : List Pc} {n : Nat} (h : ∀ p ∈ ps, p.size ≤ n) : PyData.depthAll (ps.map Pc.D) ≤ 2 * n + 2 := by
  induction ps with
  | nil => simp [PyData.depthAll]
  | cons p ps ih =>
    have h1 := p.depth
    have h2 := h p (List.mem_cons_self ..)
    have h3 := ih fun q hq => h q (List.mem_cons_of_mem _ hq)
    rw [List.map_cons, PyData.depthAll]
    omega
theorem res_depth {r : R2} (h : Few 15 r) : PyData.depth (resD r) ≤ 38 := by
  obtain ⟨h1, _, _⟩ := h
  have a := encs_depth r.1
  rw [encs_map] at a
  have b := depth_all (ps := r.2) (n := 15) fun p hp => by
    have := psize_mem hp
    omega
  simp only [resD, PyData.depth, PyData.depthAll]
  omega
theorem ra_one {F : Fd} {te : TE} {σ : L2.St} {H : Hp} {k : Nat} {d : PyData} (h : EvR F te σ H k (IsD K d)) : EvRA F (tCons te tNil) σ H k (fun vs H => DpAll K H vs [d]) := fun n H1 hn g e Q q =>
  h n H1 hn g e _ fun v H2 e2 g2 p => q [v] H2 e2 g2 (.cons p .nil)
theorem rd_ofL {F : Fd} {te : TE} {σ : L2.St} {H : Hp} {k : Nat} {ds : List PyData} (h : EvR F te σ H k (IsL F K ds)) : EvR F te σ H k (IsD K (.list ds)) := h.imp fun _ _ _ _ _ p => p.dp
theorem s_asgR {F : Fd} {te : TE} {σ : L2.St} {H : Hp} {k n i : Nat} {P : VP} {D : Ends} (h : EvR F te σ H k P) (g0 : F.G n H) (hn : n + k ≤ F.N) (kk : ∀ v H1, Kx F.S H H1 → F.G (n + k) H1 → P v H1 → D.nx (σ.set i (some v)) H1) : tAsg te (gName i) D σ H := h n H hn g0 Kx.refl _ kk
theorem rd_wr {F : Fd} {a : Addr} {d : PyData} {σ : L2.St} {H : Hp} (h : ∀ H, Dp K H (.ref a) d) : EvR F (tC (.ref a)) σ H 0 (IsD K d) := fun n H1 hn g e Q q => q _ H1 Kx.refl g (h H1)
theorem join_nil : joinR [] = ([], []) := by simp [joinR, catR, sortT, sortP]
theorem rn_call {F : Fd} {tr : TA} {σ : L2.St} {H : Hp} {k : Nat} {ds es : List PyData} {Rl : List PyData → List PyData → Prop} {E : XK} (o : F.Ok) (h : EvRA F tr σ H k (fun vs H => DpAll K H vs ds)) (hR : Rl ds es) : EvR F (tCall (spL K Rl) [] E tr) σ H k (IsN H F K es) := fun n H1 hn g e Q q => h n H1 hn g e _ fun vs H2 e2 g2 p =>
  ⟨ds, es, by rw [List.append_nil]; exact p, hR, fun a xs H3 ha e3 hv hx => q (.ref a) H3 (e2.trans (Kx.ex e3)) (o.ex g2 e3) ⟨a, xs, rfl, kx_none o g e (kx_none o g2 e2 ha), o.new g2 ha, hv, hx⟩⟩
theorem q_forLs {K : PySem.W.Frag} {σ : L2.St} {H : Hp} {i j : Nat} {a : Addr} {xs : List V} {tb tz : TS} {D : Ends} (hv : σ[i]? = some (some (.ref a))) (Pv : Nat → L2.St → Hp → Prop) (h0 : Pv 0 σ H) (hl : ∀ m σ' H', Pv m σ' H' → SqL K H' a xs)
    (hs : ∀ m x σ' H', xs[m]? = some x → Pv m σ' H' → tb { D with nx := Pv (m + 1), ct := Pv (m + 1), bk := tz D } (σ'.set j (some x)) H') (hd : ∀ σ' H', Pv xs.length σ' H' → tz D σ' H') : tSeq (tFor (iList K (tVar i)) (gName j) tb) tz D σ H :=
  ⟨.ref a, hv, a, rfl, ⟨xs, hl 0 σ H h0⟩, for_list Pv h0 (fun m σ' H' _ p => hl m σ' H' p) hs hd⟩
def nJoined : List Str := ["parts", "together", "part", "one", "other"]
theorem scJoined : FnScope nJoined ["parts"] (defScope (K18.topS 28)) := ⟨rfl, rfl, rfl, by decide +kernel, rfl, by decide +kernel, by decide +kernel⟩
def spJoined (K : PySem.W.Frag) : Sp := spL K fun ds es => ∃ rs : List R2, Few 15 (catR rs) ∧ rs.length ≤ 15 ∧ ds = [.list (rs.map oneD)] ∧ es = [outD (joinR rs)]
theorem ok_joined (F : Fun K "joined" "joined" (K18.topS 28) f fd) (cM : C8.Cal P w K mg base 1 "mixed" (spMixed K) []) (cB : C8.Cal P w K mg base 3 "both" (spBoth K) []) (W1 : Wr K mg "ONE" (frD 1)) (W0 : Wr K mg "NOTHING" (.tuple [.tuple [], .tuple []])) : FnOk P w K mg base CX0 4 f fd ["parts"] (spJoined K) := by
  refine F.ok scJoined (fun vs H Q E h => ?_) (fun cdv A outer s H vs Q E hr h => ?_)
  · obtain ⟨ds, es, hd, ⟨rs, _, _, rfl, _⟩, _⟩ := h
    exact dps_len hd
  · obtain ⟨ds, es, hd, ⟨rs, hf, hl, rfl, rfl⟩, q⟩ := h
    obtain ⟨v1, vs, rfl, p1, hd⟩ := dps_uncons hd
    obtain rfl := dps_none hd
    obtain ⟨a1, g1, w1⟩ := W1
    obtain ⟨a0, g0, w0⟩ := W0
    refine ⟨_, pss_cons (ps_set (i := 1) scJoined.nd rfl (.inl rfl) (pe_lst (pa_cons (pe_tup (pa_cons (pe_glob (v := .ref a0) (by rfl) g0 rfl) (pa_cons (pe_glob (v := .ref a1) (by rfl) g1 rfl) pa_nil))) pa_nil)))
      (pss_cons (ps_for PassesOwn.never rfl (pi_list (pv 0)) (pg_name (i := 2) scJoined.nd rfl (.inr rfl))
        (pss_one (ps_set (i := 1) scJoined.nd rfl (.inl rfl) (C8.pe_c cM hr (by decide) (by rfl) (pa_cons (pe_lc2 (own := [("one", 3), ("other", 4)]) (vs1 := [4]) (wi1 := iList K (tVar 2)) rfl scJoined.nd (pi_list (pv 1)) (blkOk_by (N := nJoined) (sc := defScope (K18.topS 28)) (by decide +kernel)) (by decide)
          (fun _ _ _ _ _ => pg_name (i := 3) scJoined.nd rfl (.inl rfl)) (fun _ _ _ _ _ => pts_nil) (fun _ _ _ _ _ => pi_list (pv 2)) (fun _ _ _ _ _ => pg_name (i := 4) scJoined.nd rfl (.inl rfl)) (fun _ _ _ _ _ => pts_nil)
          (fun _ _ _ _ _ => C8.pe_c cB hr (by decide) (by rfl) (pa_cons (pv 3) (pa_cons (pv 4) pa_nil)))) pa_nil)))))
      (pss_one (ps_ret (pv 1)))), ?_⟩
    cases p1 with
    | @lst a xs _ ha hx =>
    have lx := dps_len hx
    rw [List.length_map] at lx
    have first : EvR F0 (tLst (tCons (tTup (tCons (tC (.ref a0)) (tCons (tC (.ref a1)) tNil))) tNil)) [some (.ref a), none, none, none, none] H (0 + (0 + 0) + 0) (IsN H F0 K [outD (joinR [])]) := by
      rw [join_nil]
      exact rn_lst F0.ok (ra_cons (ka := 0 + (0 + 0)) (kb := 0) F0.ok (rd_tup F0.ok (ra_cons (ka := 0) (kb := 0 + 0) (d := resD ([], [])) F0.ok (rd_wr w0) (ra_cons (ka := 0) (kb := 0) (d := frD 1) F0.ok (rd_wr w1) ra_nil))) ra_nil (out_flat _))
    show tSeq (tAsg _ (gName 1)) (tSeq (tFor (iList K (tVar 0)) (gName 2) _) (tRet (tVar 1))) _ [some (.ref a), none, none, none, none] H
    refine q_asgR (F := F0) (n := 0) first F0.g (Nat.le_refl _) fun v0 H1 e1 _ hv0 => ?_
    replace e1 := F0.ex e1
    refine q_forLs (a := a) (xs := xs) rfl (fun m σ' H' => ∃ v u, σ' = [some (.ref a), some v, u, none, none] ∧ Ex H1 H' ∧ ∃ B zs, v = .ref B ∧ H B = none ∧ H' B = some (.lst zs) ∧ DpAll K H' zs [outD (joinR (rs.take m))]) ?_ (fun m σ' H' ⟨v, u, es, e, _⟩ => ex_l (e1.trans e) ha) (fun m x σ' H' hxm ⟨v, u, es, e, B, zs, ev, nB, hB, dz⟩ => ?_) fun σ' H' ⟨v, u, es, e, B, zs, ev, nB, hB, dz⟩ => ?_
    · obtain ⟨B, zs, ev, nB, _, hB, dz⟩ := hv0
      exact ⟨v0, none, rfl, Ex.refl _, B, zs, ev, nB, hB, dz⟩
    · subst es ev
      have hm : m < rs.length := by
        have := (List.getElem?_eq_some_iff.mp hxm).1
        omega
      have hrm : rs[m]? = some rs[m] := List.getElem?_eq_getElem hm
      have htk : rs.take (m + 1) = rs.take m ++ [rs[m]] := by rw [List.take_add_one, hrm]; rfl
      have hft := few_take (m := m + 1) hf
      rw [htk] at hft
      generalize rs[m] = r at hrm htk hft
      have dx : Dp K H' x (oneD r) := by
        obtain ⟨u', hu, du⟩ := dps_get (dps_ex (e1.trans e) _ _ hx) (show (rs.map oneD)[m]? = some (oneD r) by rw [List.getElem?_map, hrm]; rfl)
        rw [hxm] at hu
        cases hu
        exact du
      cases dx with
      | @lst b ys _ hb hy =>
      cases hy with
      | @cons y yr _ _ dy hyr =>
      cases hyr
      cases dz with
      | @cons z zr _ _ dzz hzr =>
      cases hzr
      have hc := rn_call (K := K) (σ := [some (.ref a), some (.ref B), some (.ref b), none, none]) (H := H') (E := C8.E0) (F := F0) F0.ok (ra_one (rd_ofL (r_lc2one (i := 1) (j := 3) (i2 := 2) (j2 := 4) (vs := [3, 4]) (vs1 := [4]) (te := tCall (spBoth K) [] C8.E0 (tCons (tVar 3) (tCons (tVar 4) tNil))) (d := outD (joinR (rs.take (m + 1)))) rfl rfl (sq_of hB) hb rfl rfl (fun H2 e2 => rd_call F0.ok (ra_cons (ka := 0) (kb := 0) F0.ok (rd_var F0.ok (n := 0) F0.g rfl (dp_ex e2 _ _ dzz) (out_flat _)) (ra_cons (ka := 0) (kb := 0) F0.ok (rd_var F0.ok (n := 0) F0.g rfl (dp_ex e2 _ _ dy) (out_flat _)) ra_nil (out_flat _)) (out_flat _)) ⟨_, _, few_of hft, rfl, by rw [join_step, htk]⟩) (out_flat _))))
        (Rl := fun ds es => ∃ u v : PyData, flat u = true ∧ flat v = true ∧ PyData.depth u ≤ 38 ∧ PyData.depth v ≤ 38 ∧ ds = [.list [.tuple [u, v]]] ∧ es = [.tuple [u, v]]) (es := [outD (joinR (rs.take (m + 1)))]) ⟨resD (joinR (rs.take (m + 1))), frD 1, res_flat _, rfl, res_depth (few_join (few_take hf)), by decide +kernel, rfl, rfl⟩
      exact s_asgR hc F0.g (Nat.le_refl _) fun v2 H2 e2 _ ⟨B2, zs2, ev2, nB2, _, hB2, dz2⟩ => ⟨v2, some (.ref b), rfl, e.trans (F0.ex e2), B2, zs2, ev2, kx_none F0.ok (n := 0) F0.g (Kx.ex (e1.trans e)) nB2, hB2, dz2⟩
    · subst es ev
      rw [lx, List.take_length] at dz
      exact ⟨.ref B, rfl, q B zs H' nB (e1.trans e) hB dz⟩
end
end K17
/-! ### closed, as_sights, kept_or_gone -/
namespace K17
open PySem PySem.Spec PyProof.Rows L2 Evl Fx Fr Dt Tr K18 So
section
variable {P : Program} {w : World} {K : PySem.W.Frag} {mg : Str → Option Value} {base : Heap} {f f2 f3 : Addr} {fd fd2 fd3 : FuncData} {te tl ta tb : TE} {σ σ2 : L2.St} {H : Hp} {k ka kb n : Nat} {d d0 : PyData} {ds : List PyData} {g : TG} {vs : List Nat}
/-- a comprehension over a list of one -/
theorem r_lc1 (hl : EvR F0 tl σ H 0 (IsD K (.list [d0]))) (hg : ∀ x H', Ex H H' → Dp K H' x d0 → ∃ σ2, Gv g x (wipe σ vs) H' σ2 ∧ wipe σ2 vs = wipe σ vs ∧ EvR F0 te σ2 H' 0 (IsD K d)) (hf : flat d = true) :
    EvR F0 (tLc (iList K tl) g tYes te vs) σ H 0 (IsN H F0 K [d]) := fun n H1 hn gg e Q q => hl n H1 hn gg e _ fun v H2 e2 _ hv => by
  replace e := F0.ex e
  replace e2 := F0.ex e2
  cases hv with
  | @lst a xs _ ha hx =>
  cases hx with
  | @cons x xr _ _ hx hr =>
  cases hr
  refine ⟨a, rfl, ⟨[x], ha⟩, fun D hD => ?_⟩
  have e0 := Ex.new (o := HO.lst []) hD
  refine lc_list (xs := [x]) (fun i H' => Ex H2 H' ∧ ((i = 0 ∧ H' D = some (.lst [])) ∨ (i = 1 ∧ ∃ z, H' D = some (.lst [z]) ∧ Dp K H' z d))) ⟨e0, .inl ⟨rfl, upd_same⟩⟩ (fun i H' _ p => ex_l p.1 ha) (fun i y H' hy p => ?_) fun H' p => ?_
  · match i, hy with
    | 0, hy =>
    cases hy
    obtain ⟨e3, p⟩ := p
    rcases p with ⟨_, hDD⟩ | ⟨z, _⟩
    · obtain ⟨σ2, h1, h2, h3⟩ := hg x H' (e.trans (e2.trans e3)) (dp_ex e3 _ _ hx)
      refine h1 _ ⟨h2, h3 0 H' (Nat.le_refl _) F0.g Kx.refl _ fun y H4 e4 _ hy => ⟨[], F0.ex e4 _ _ hDD, (by show 0 < sizeLine; decide), (e3.trans (F0.ex e4)).mut hD, .inr ⟨rfl, y, upd_same, dp_kt (kt_lst (F0.ex e4 _ _ hDD)) d y hf hy⟩⟩⟩
    · cases z
  · obtain ⟨e3, p⟩ := p
    rcases p with ⟨z, _⟩ | ⟨_, z, hDD, hz⟩
    · cases z
    · exact q (.ref D) H' (Kx.ex (e2.trans e3)) gg ⟨D, [z], rfl, fresh_back (e.trans e2) hD, fun z => z, hDD, .cons hz .nil⟩
theorem withP_size (wd : Str) (ts : List T) (ps : List Pc) : psizes (withP wd ts ps) ≤ sizes ts + psizes ps := by
  unfold withP
  cases ts with
  | nil => show psizes ps ≤ _; omega
  | cons t ts =>
    have := pieceOf_size wd (t :: ts)
    show psizes (sortP _) ≤ _
    rw [psizes_perm (sortP_mem _), psizes_app, psizes_cons, show psizes [] = 0 from rfl]
    omega
theorem res_depth' {r : R2} (h1 : sizes r.1 + psizes r.2 ≤ 15) : PyData.depth (resD r) ≤ 38 := by
  have a := encs_depth r.1
  rw [encs_map] at a
  have b := depth_all (ps := r.2) (n := 15) fun p hp => by
    have := psize_mem hp
    omega
  simp only [resD, PyData.depth, PyData.depthAll]
  omega
/-- a name, of any data, where nothing changes -/
theorem rd_var0 {i : Nat} {v : V} {d : PyData} {σ : L2.St} {H : Hp} (h : σ[i]? = some (some v)) (hv : Dp K H v d) : EvR F0 (tVar i) σ H 0 (IsD K d) := fun n H1 hn g e Q q => ⟨v, h, q v H1 Kx.refl g (dp_ex (F0.ex e) _ _ hv)⟩
theorem rd_ofN {F : Fd} {H0 : Hp} {te : TE} {σ : L2.St} {H : Hp} {k : Nat} {ds : List PyData} (h : EvR F te σ H k (IsN H0 F K ds)) : EvR F te σ H k (IsD K (.list ds)) := h.imp fun _ _ _ _ _ ⟨p, xs, e, _, hT, hp, hx⟩ => IsL.dp ⟨p, xs, e, hT, hp, hx⟩
theorem rl_ofN {F : Fd} {H0 : Hp} {te : TE} {σ : L2.St} {H : Hp} {k : Nat} {ds : List PyData} (h : EvR F te σ H k (IsN H0 F K ds)) : EvR F te σ H k (IsL F K ds) := h.imp fun _ _ _ _ _ ⟨p, xs, e, _, hT, hp, hx⟩ => ⟨p, xs, e, hT, hp, hx⟩
/-- a pair of a pair and a value, taken apart -/
theorem gv_out {i j l : Nat} {x : V} {H' : Hp} {σ0 : L2.St} {d1 d2 d3 : PyData} (hx : Dp K H' x (.tuple [.tuple [d1, d2], d3])) : ∃ u1 u2 u3, Gv (gTup K 2 (gCons (gTup K 2 (gCons (gName i) (gCons (gName j) gNil))) (gCons (gName l) gNil))) x σ0 H' (((σ0.set i (some u1)).set j (some u2)).set l (some u3)) ∧ Dp K H' u1 d1 ∧ Dp K H' u2 d2 ∧ Dp K H' u3 d3 := by
  obtain ⟨a, x1, y, rfl, ha, hx1, hy⟩ := dp_two hx
  obtain ⟨b, t, s, rfl, hb, ht, hs⟩ := dp_two hx1
  exact ⟨t, s, y, fun Q q => ⟨a, _, rfl, ha, rfl, .ref b, _, rfl, b, _, rfl, hb, rfl, t, _, rfl, s, _, rfl, rfl, y, _, rfl, rfl, q⟩, ht, hs, hy⟩
/-- mixed, of one outcome -/
theorem rn_mixed {te : TE} {σ : L2.St} {H : Hp} {u v : PyData} {E : XK} (h : EvR F0 te σ H 0 (IsD K (.list [.tuple [u, v]]))) (fu : flat u = true) (fv : flat v = true) (du : PyData.depth u ≤ 38) (dv : PyData.depth v ≤ 38) : EvR F0 (tCall (spMixed K) [] E (tCons te tNil)) σ H 0 (IsN H F0 K [.tuple [u, v]]) :=
  rn_call F0.ok (ra_one h) ⟨u, v, fu, fv, du, dv, rfl, rfl⟩
/-- what a def hands back, a new list -/
theorem s_retN {te : TE} {σ : L2.St} {H : Hp} {ds : List PyData} {D : Ends} (h : EvR F0 te σ H 0 (IsN H F0 K ds)) (q : ∀ p xs H', H p = none → Ex H H' → H' p = some (.lst xs) → DpAll K H' xs ds → D.rt (.ref p) H') : tRet te D σ H :=
  s_retR (F := F0) (n := 0) h F0.g (Nat.le_refl _) fun v H1 e _ ⟨p, xs, ev, nB, _, hp, hx⟩ => by
    subst ev
    exact q p xs H1 nB (F0.ex e) hp hx
def nClosed : List Str := ["outcomes", "word", "trees", "pieces", "chance"]
theorem scClosed : FnScope nClosed ["outcomes", "word"] (defScope (K18.topS 30)) := ⟨rfl, rfl, rfl, by decide +kernel, rfl, by decide +kernel, by decide +kernel⟩
def spClosed (K : PySem.W.Frag) : Sp := spL K fun ds es => ∃ (r : R2) (wd : Str), (wd = "top" ∨ wd = "lost") ∧ Few 15 r ∧ ds = [oneD r, .str wd] ∧ es = [outD ([], withP wd r.1 r.2)]
theorem ok_closed (F : Fun K "closed" "closed" (K18.topS 30) f fd) (cM : C8.Cal P w K mg base 1 "mixed" (spMixed K) []) (cW : C8.Cal P w K mg base 1 "with_piece" (spWP K) []) : FnOk P w K mg base CX0 2 f fd ["outcomes", "word"] (spClosed K) := by
  refine F.ok scClosed (fun vs H Q E h => ?_) (fun cdv A outer s H vs Q E hr h => ?_)
  · obtain ⟨ds, es, hd, ⟨r, wd, _, _, rfl, _⟩, _⟩ := h
    exact dps_len hd
  · obtain ⟨ds, es, hd, ⟨r, wd, hw, hf, rfl, rfl⟩, q⟩ := h
    obtain ⟨v1, vs, rfl, p1, hd⟩ := dps_uncons hd
    obtain ⟨v2, vs, rfl, p2, hd⟩ := dps_uncons hd
    obtain rfl := dps_none hd
    cases p2
    refine ⟨_, pss_one (ps_ret (C8.pe_c cM hr (by decide) (by rfl) (pa_cons (pe_lc (own := [("trees", 2), ("pieces", 3), ("chance", 4)]) (g := gTup K 2 (gCons (gTup K 2 (gCons (gName 2) (gCons (gName 3) gNil))) (gCons (gName 4) gNil))) (by rfl) scClosed.nd (pi_list (pv 0)) (blkOk_by (N := nClosed) (sc := defScope (K18.topS 30)) (by decide +kernel))
      (fun _ _ _ _ _ => pg_tup (by rfl) (pgs_cons (pg_tup (by rfl) (pgs_cons (pg_name (i := 2) scClosed.nd rfl (.inl rfl)) (pgs_cons (pg_name (i := 3) scClosed.nd rfl (.inl rfl)) pgs_nil))) (pgs_cons (pg_name (i := 4) scClosed.nd rfl (.inl rfl)) pgs_nil))) (fun _ _ _ _ _ => pts_nil)
      (fun _ _ _ _ _ => pe_tup (pa_cons (pe_tup (pa_cons (pe_tup pa_nil) (pa_cons (C8.pe_c cW hr (by decide) (by rfl) (pa_cons (pv 2) (pa_cons (pv 3) (pa_cons (pv 1) pa_nil)))) pa_nil))) (pa_cons (pv 4) pa_nil)))) pa_nil))), ?_⟩
    refine s_retN (ds := [outD ([], withP wd r.1 r.2)]) (rn_mixed (u := resD ([], withP wd r.1 r.2)) (v := frD 1) (rd_ofN (r_lc1 (d0 := outD r) (d := outD ([], withP wd r.1 r.2)) (rd_var0 rfl p1) (fun x H' e dx => ?_) (out_flat _))) (res_flat _) rfl (res_depth' (by have := withP_size wd r.1 r.2; have := hf.1; show sizes [] + psizes (withP wd r.1 r.2) ≤ 15; rw [show sizes [] = 0 from by rw [sizes]]; omega)) (by decide +kernel)) q
    obtain ⟨u1, u2, u3, hg, h1, h2, h3⟩ := gv_out (K := K) (i := 2) (j := 3) (l := 4) (σ0 := [some v1, some (.str wd), none, none, none]) dx
    refine ⟨_, hg, rfl, ?_⟩
    have ft : flat (.tuple (r.1.map enc)) = true := by rw [flat_tup]; exact maps_flat _
    have fp : ∀ ps : List Pc, flat (.tuple (ps.map Pc.D)) = true := fun ps => by rw [flat_tup]; exact pcs_flat _
    exact rd_tup (ds := [resD ([], withP wd r.1 r.2), frD 1]) F0.ok (ra_cons (ka := 0) (kb := 0) F0.ok (rd_tup (ds := [.tuple [], .tuple ((withP wd r.1 r.2).map Pc.D)]) F0.ok (ra_cons (ka := 0) (kb := 0) F0.ok (rd_tup F0.ok ra_nil) (ra_cons (ka := 0) (kb := 0) F0.ok (rd_call F0.ok (ra_cons (ka := 0) (kb := 0) F0.ok (rd_var F0.ok (n := 0) F0.g rfl h1 ft) (ra_cons (ka := 0) (kb := 0) F0.ok (rd_var F0.ok (n := 0) F0.g rfl h2 (fp _)) (ra_cons (ka := 0) (kb := 0) F0.ok (rd_ofS (rv_var rfl)) ra_nil) (fp _)) ft) ⟨r.1, r.2, wd, hw, hf, rfl, rfl⟩) ra_nil (fp _))) (by rw [flats_cons, flats_cons]; exact ⟨rfl, fp _, rfl⟩)) (ra_cons (ka := 0) (kb := 0) F0.ok (rd_var F0.ok (n := 0) F0.g rfl h3 rfl) ra_nil) (res_flat _)) (out_flat _)
end
end K17
/-! ### as_sights, kept_or_gone -/
namespace K17
open PySem PySem.Spec PyProof.Rows L2 Evl Fx Fr Dt Tr K18 So
def nAsS : List Str := ["outcomes", "held", "chance"]
theorem scAsS : FnScope nAsS ["outcomes"] (defScope (K18.topS 34)) := ⟨rfl, rfl, rfl, by decide +kernel, rfl, by decide +kernel, by decide +kernel⟩
def nKG : List Str := ["chance", "kept", "gone", "found", "trees", "pieces", "part", "held"]
theorem scKG : FnScope nKG ["chance", "kept", "gone"] (defScope (K18.topS 33)) := ⟨rfl, rfl, rfl, by decide +kernel, rfl, by decide +kernel, by decide +kernel⟩
section
variable {P : Program} {w : World} {K : PySem.W.Frag} {mg : Str → Option Value} {base : Heap} {f f2 f3 : Addr} {fd fd2 fd3 : FuncData} {te tl ta tb : TE} {σ σ2 : L2.St} {H : Hp} {k ka kb n : Nat} {d d0 : PyData} {ds es : List PyData} {g : TG} {vs : List Nat}
theorem rn_cat (ha : EvR F0 ta σ H 0 (IsL F0 K ds)) (hb : EvR F0 tb σ H 0 (IsL F0 K es)) (fd : flats ds = true) (hl : ds.length + es.length ≤ 100000) : EvR F0 (tOp rCat ta tb) σ H 0 (IsN H F0 K (ds ++ es)) := fun n H1 hn g e Q q =>
  ha n H1 hn g e _ fun x H2 e2 _ p => hb n H2 hn F0.g (e.trans e2) _ fun y H3 e3 _ p' => by
    obtain ⟨a, xs, rfl, hT, ha, hx⟩ := mono_l F0.ok fd 0 _ _ _ F0.g e3 p
    obtain ⟨b, ys, rfl, hT', hb, hy⟩ := p'
    have l1 := dps_len hx
    have l2 := dps_len hy
    refine ⟨a, b, xs, ys, rfl, rfl, ha, hb, sz_of (by omega), fun l hl => ?_⟩
    have el := Ex.new (o := HO.lst (xs ++ ys)) hl
    exact q (.ref l) _ (e2.trans (e3.trans (Kx.ex el))) F0.g ⟨l, _, rfl, kx_none F0.ok (n := 0) F0.g (e.trans (e2.trans e3)) hl, fun z => z, upd_same, dps_ex el _ _ (dps_app hx hy)⟩
/-- a pair, taken apart -/
theorem gv_two {i j : Nat} {x : V} {H' : Hp} {σ0 : L2.St} {d1 d2 : PyData} (hx : Dp K H' x (.tuple [d1, d2])) : ∃ u1 u2, Gv (gTup K 2 (gCons (gName i) (gCons (gName j) gNil))) x σ0 H' ((σ0.set i (some u1)).set j (some u2)) ∧ Dp K H' u1 d1 ∧ Dp K H' u2 d2 := by
  obtain ⟨a, x1, y, rfl, ha, hx1, hy⟩ := dp_two hx
  exact ⟨x1, y, fun Q q => ⟨a, _, rfl, ha, rfl, x1, _, rfl, y, _, rfl, rfl, q⟩, hx1, hy⟩
theorem gv_three {i j l : Nat} {x : V} {H' : Hp} {σ0 : L2.St} {d1 d2 d3 : PyData} (hx : Dp K H' x (.tuple [d1, d2, d3])) : ∃ u1 u2 u3, Gv (gTup K 3 (gCons (gName i) (gCons (gName j) (gCons (gName l) gNil)))) x σ0 H' (((σ0.set i (some u1)).set j (some u2)).set l (some u3)) ∧ Dp K H' u1 d1 ∧ Dp K H' u2 d2 ∧ Dp K H' u3 d3 := by
  obtain ⟨a, x1, x2, x3, rfl, ha, h1, h2, h3⟩ := dp_three hx
  exact ⟨x1, x2, x3, fun Q q => ⟨a, _, rfl, ha, rfl, x1, _, rfl, x2, _, rfl, x3, _, rfl, rfl, q⟩, h1, h2, h3⟩
def sightD (ps : List Pc) : PyData := .tuple [.tuple (ps.map Pc.D), frD 1]
theorem sight_flat (ps : List Pc) : flat (sightD ps) = true := by
  rw [sightD, flat_tup, flats_cons, flats_cons, flat_tup]
  exact ⟨pcs_flat _, rfl, rfl⟩
def spAsS (K : PySem.W.Frag) : Sp := spL K fun ds es => ∃ r : R2, ds = [oneD r] ∧ es = [sightD r.2]
theorem ok_asS (F : Fun K "as_sights" "as_sights" (K18.topS 34) f fd) : FnOk P w K mg base CX0 1 f fd ["outcomes"] (spAsS K) := by
  refine F.ok scAsS (fun vs H Q E h => ?_) (fun cdv A outer s H vs Q E hr h => ?_)
  · obtain ⟨ds, es, hd, ⟨r, rfl, _⟩, _⟩ := h
    exact dps_len hd
  · obtain ⟨ds, es, hd, ⟨r, rfl, rfl⟩, q⟩ := h
    obtain ⟨v1, vs, rfl, p1, hd⟩ := dps_uncons hd
    obtain rfl := dps_none hd
    refine ⟨_, pss_one (ps_ret (pe_lc (own := [("held", 1), ("chance", 2)]) (g := gTup K 2 (gCons (gName 1) (gCons (gName 2) gNil))) (by rfl) scAsS.nd (pi_list (pv 0)) (blkOk_by (N := nAsS) (sc := defScope (K18.topS 34)) (by decide +kernel))
      (fun _ _ _ _ _ => pg_tup (by rfl) (pgs_cons (pg_name (i := 1) scAsS.nd rfl (.inl rfl)) (pgs_cons (pg_name (i := 2) scAsS.nd rfl (.inl rfl)) pgs_nil))) (fun _ _ _ _ _ => pts_nil)
      (te := tTup (tCons (tOp (rIxT K) (tVar 1) (tC (.int 1))) (tCons (tVar 2) tNil))) (fun _ _ _ _ _ => pe_tup (pa_cons (pe_ix ix_tup (pv 1) pe_int (fun _ _ => rfl)) (pa_cons (pv 2) pa_nil))))), ?_⟩
    refine s_retN (ds := [sightD r.2]) (r_lc1 (d0 := outD r) (d := sightD r.2) (rd_var0 rfl p1) (fun x H' e dx => ?_) (sight_flat _)) q
    obtain ⟨u1, u2, hg, h1, h2⟩ := gv_two (K := K) (i := 1) (j := 2) (σ0 := [some v1, none, none]) dx
    refine ⟨_, hg, rfl, ?_⟩
    have fp : flat (.tuple (r.2.map Pc.D)) = true := by rw [flat_tup]; exact pcs_flat _
    exact rd_tup (ds := [.tuple (r.2.map Pc.D), frD 1]) F0.ok (ra_cons (ka := 0) (kb := 0) F0.ok (rd_ix (ka := 0) (kb := 0) F0.ok (rd_var F0.ok (n := 0) F0.g rfl h1 (res_flat r)) rv_c 1 rfl rfl (res_flat r)) (ra_cons (ka := 0) (kb := 0) F0.ok (rd_var F0.ok (n := 0) F0.g rfl h2 rfl) ra_nil) fp) (sight_flat _)
def keptD (r : R2) : PyData := .tuple [.tuple (r.1.map enc), .tuple (r.2.map Pc.D), frD 1]
theorem kept_flat (r : R2) : flat (keptD r) = true := by
  rw [keptD, flat_tup, flats_cons, flats_cons, flats_cons, flat_tup, flat_tup]
  exact ⟨maps_flat _, pcs_flat _, rfl, rfl⟩
def chD (b : Bool) : PyData := frD (if b then 1 else 0)
def spKG (K : PySem.W.Frag) : Sp := spL K fun ds es => ∃ (b : Bool) (r r' : R2), Few 15 r ∧ Few 15 r' ∧ ds = [chD b, .list [keptD r], oneD r'] ∧ es = [outD (if b then r else r')]
theorem ok_kg (F : Fun K "kept_or_gone" "kept_or_gone" (K18.topS 33) f fd) (cM : C8.Cal P w K mg base 1 "mixed" (spMixed K) []) (cT : C8.Cal P w K mg base 2 "times" (spOpF K (· * ·)) []) (cN : C8.Cal P w K mg base 2 "minus" (spOpF K (· - ·)) []) (W1 : Wr K mg "ONE" (frD 1)) (W0 : Wr K mg "ZERO" (frD 0)) :
    FnOk P w K mg base CX0 3 f fd ["chance", "kept", "gone"] (spKG K) := by
  refine F.ok scKG (fun vs H Q E h => ?_) (fun cdv A outer s H vs Q E hr h => ?_)
  · obtain ⟨ds, es, hd, ⟨b, r, r', _, _, rfl, _⟩, _⟩ := h
    exact dps_len hd
  · obtain ⟨ds, es, hd, ⟨b, r, r', hf, hf', rfl, rfl⟩, q⟩ := h
    obtain ⟨v1, vs, rfl, p1, hd⟩ := dps_uncons hd
    obtain ⟨v2, vs, rfl, p2, hd⟩ := dps_uncons hd
    obtain ⟨v3, vs, rfl, p3, hd⟩ := dps_uncons hd
    obtain rfl := dps_none hd
    obtain ⟨a1, g1, w1⟩ := W1
    obtain ⟨a0, g0, w0⟩ := W0
    refine ⟨_, pss_cons (ps_set (i := 3) scKG.nd rfl (.inl rfl) (pe_lst pa_nil))
      (pss_cons (ps_if (pt_cmpR (op_neD hr.units) (pv 0) (pe_glob (v := .ref a0) (by rfl) g0 rfl) (nomark _)) (pss_one (ps_set (i := 3) scKG.nd rfl (.inl rfl) (pe_op op_cat (pv 3) (pe_lc (own := [("trees", 4), ("pieces", 5), ("part", 6)]) (g := gTup K 3 (gCons (gName 4) (gCons (gName 5) (gCons (gName 6) gNil)))) (by rfl) scKG.nd (pi_list (pv 1)) (blkOk_by (N := nKG) (sc := defScope (K18.topS 33)) (by decide +kernel))
          (fun _ _ _ _ _ => pg_tup (by rfl) (pgs_cons (pg_name (i := 4) scKG.nd rfl (.inl rfl)) (pgs_cons (pg_name (i := 5) scKG.nd rfl (.inl rfl)) (pgs_cons (pg_name (i := 6) scKG.nd rfl (.inl rfl)) pgs_nil)))) (fun _ _ _ _ _ => pts_nil)
          (fun _ _ _ _ _ => pe_tup (pa_cons (pe_tup (pa_cons (pv 4) (pa_cons (pv 5) pa_nil))) (pa_cons (C8.pe_c cT hr (by decide) (by rfl) (pa_cons (pv 0) (pa_cons (pv 6) pa_nil))) pa_nil))))))) pss_nil)
      (pss_cons (ps_if (pt_cmpR (op_neD hr.units) (pv 0) (pe_glob (v := .ref a1) (by rfl) g1 rfl) (nomark _)) (pss_one (ps_set (i := 3) scKG.nd rfl (.inl rfl) (pe_op op_cat (pv 3) (pe_lc (own := [("held", 7), ("part", 6)]) (g := gTup K 2 (gCons (gName 7) (gCons (gName 6) gNil))) (by rfl) scKG.nd (pi_list (pv 2)) (blkOk_by (N := nKG) (sc := defScope (K18.topS 33)) (by decide +kernel))
          (fun _ _ _ _ _ => pg_tup (by rfl) (pgs_cons (pg_name (i := 7) scKG.nd rfl (.inl rfl)) (pgs_cons (pg_name (i := 6) scKG.nd rfl (.inl rfl)) pgs_nil))) (fun _ _ _ _ _ => pts_nil)
          (fun _ _ _ _ _ => pe_tup (pa_cons (pv 7) (pa_cons (C8.pe_c cT hr (by decide) (by rfl) (pa_cons (C8.pe_c cN hr (by decide) (by rfl) (pa_cons (pe_glob (v := .ref a1) (by rfl) g1 rfl) (pa_cons (pv 0) pa_nil))) (pa_cons (pv 6) pa_nil))) pa_nil))))))) pss_nil)
      (pss_one (ps_ret (C8.pe_c cM hr (by decide) (by rfl) (pa_cons (pv 3) pa_nil)))))), ?_⟩
    have e10 : PyData.eqv (frD 1) (frD 0) = false := by decide +kernel
    have e11 : PyData.eqv (frD 1) (frD 1) = true := by decide +kernel
    have e00 : PyData.eqv (frD 0) (frD 0) = true := by decide +kernel
    have e01 : PyData.eqv (frD 0) (frD 1) = false := by decide +kernel
    have s0 : SeqAt.shaped (frD 0) = true := by decide +kernel
    have s1 : SeqAt.shaped (frD 1) = true := by decide +kernel
    have ft : ∀ r : R2, flat (.tuple (r.1.map enc)) = true := fun r => by rw [flat_tup]; exact maps_flat _
    have fp : ∀ r : R2, flat (.tuple (r.2.map Pc.D)) = true := fun r => by rw [flat_tup]; exact pcs_flat _
    refine q_asgR (F := F0) (n := 0) (k := 0) (P := IsL F0 K []) (rl_lst F0.ok ra_nil) F0.g (Nat.le_refl _) fun v4 H1 e1 _ p4 => ?_
    replace e1 := F0.ex e1
    have q1 := dp_ex e1 _ _ p1
    have q2 := dp_ex e1 _ _ p2
    have q3 := dp_ex e1 _ _ p3
    cases b with
    | true =>
      change Dp K H1 v1 (frD 1) at q1
      refine q_whenR (F := F0) (n := 0) (k := 0 + 0) (b := true) (rt_is (rt_B (rb_ne (σ := [some v1, some v2, some v3, some v4, none, none, none, none]) F0.ok (rd_var F0.ok (n := 0) F0.g rfl q1 rfl) (rd_wr w0) s1 s0)) (by rw [e10]; rfl)) F0.g (Nat.le_refl _) (fun _ H2 e2 _ => ?_) fun z => by cases z
      replace e2 := F0.ex e2
      refine s_asgR (F := F0) (n := 0) (rn_cat (K := K) (σ := [some v1, some v2, some v3, some v4, none, none, none, none]) (H := H2) (ds := []) (es := [outD r]) (rl_var F0.ok (n := 0) F0.g rfl (mono_l F0.ok rfl 0 _ _ _ F0.g (Kx.ex e2) p4) rfl) (rl_ofN (r_lc1 (d0 := keptD r) (d := outD r) (rd_var0 rfl (dp_ex e2 _ _ q2)) (fun x H' e dx => ?_) (out_flat _))) rfl (by show 1 ≤ 100000; decide)) F0.g (Nat.le_refl _) fun v5 H3 e3 _ p5 => ?_
      · obtain ⟨u1, u2, u3, hg, h1, h2, h3⟩ := gv_three (K := K) (i := 4) (j := 5) (l := 6) (σ0 := [some v1, some v2, some v3, some v4, none, none, none, none]) dx
        refine ⟨_, hg, rfl, ?_⟩
        exact rd_tup (ds := [resD r, frD 1]) F0.ok (ra_cons (ka := 0) (kb := 0) F0.ok (rd_tup (ds := [.tuple (r.1.map enc), .tuple (r.2.map Pc.D)]) F0.ok (ra_cons (ka := 0) (kb := 0) F0.ok (rd_var F0.ok (n := 0) F0.g rfl h1 (ft r)) (ra_cons (ka := 0) (kb := 0) F0.ok (rd_var F0.ok (n := 0) F0.g rfl h2 (fp r)) ra_nil (fp r)) (ft r)) (by rw [flats_cons, flats_cons]; exact ⟨ft r, fp r, rfl⟩))
          (ra_cons (ka := 0) (kb := 0) F0.ok (rd_call F0.ok (ra_cons (ka := 0) (kb := 0) (d := frD 1) F0.ok (rd_var F0.ok (n := 0) F0.g rfl (dp_ex (e2.trans e) _ _ q1) rfl) (ra_cons (ka := 0) (kb := 0) (d := frD 1) F0.ok (rd_var F0.ok (n := 0) F0.g rfl h3 rfl) ra_nil)) ⟨1, 1, ⟨1, 1, bd1, bd1, by decide⟩, rfl, (congrArg frD (Rat.mul_one 1)).symm⟩) ra_nil) (res_flat r)) (out_flat r)
      · replace e3 := F0.ex e3
        obtain ⟨B, zs, ev, nB, _, hB, dz⟩ := p5
        subst ev
        refine q_whenR (F := F0) (n := 0) (k := 0 + 0) (b := false) (rt_is (rt_B (rb_ne (σ := [some v1, some v2, some v3, some (.ref B), none, none, none, none]) F0.ok (rd_var F0.ok (n := 0) F0.g rfl (dp_ex (e2.trans e3) _ _ q1) rfl) (rd_wr w1) s1 s1)) (by rw [e11]; rfl)) F0.g (Nat.le_refl _) (fun z => by cases z) fun _ H4 e4 _ => ?_
        replace e4 := F0.ex e4
        exact s_retN (ds := [outD r]) (rn_mixed (u := resD r) (v := frD 1) (rd_var0 rfl (.lst (sq_of (e4 _ _ hB)) (dps_ex e4 _ _ dz))) (res_flat r) rfl (res_depth hf) (by decide +kernel)) fun p xs H' n e => q p xs H' (kx_none F0.ok (n := 0) F0.g (Kx.ex (e1.trans (e2.trans (e3.trans e4)))) n) ((e1.trans (e2.trans (e3.trans e4))).trans e)
    | false =>
      change Dp K H1 v1 (frD 0) at q1
      refine q_whenR (F := F0) (n := 0) (k := 0 + 0) (b := false) (rt_is (rt_B (rb_ne (σ := [some v1, some v2, some v3, some v4, none, none, none, none]) F0.ok (rd_var F0.ok (n := 0) F0.g rfl q1 rfl) (rd_wr w0) s0 s0)) (by rw [e00]; rfl)) F0.g (Nat.le_refl _) (fun z => by cases z) fun _ H2 e2 _ => ?_
      replace e2 := F0.ex e2
      refine q_whenR (F := F0) (n := 0) (k := 0 + 0) (b := true) (rt_is (rt_B (rb_ne (σ := [some v1, some v2, some v3, some v4, none, none, none, none]) F0.ok (rd_var F0.ok (n := 0) F0.g rfl (dp_ex e2 _ _ q1) rfl) (rd_wr w1) s0 s1)) (by rw [e01]; rfl)) F0.g (Nat.le_refl _) (fun _ H3 e3 _ => ?_) fun z => by cases z
      replace e3 := F0.ex e3
      refine s_asgR (F := F0) (n := 0) (rn_cat (K := K) (σ := [some v1, some v2, some v3, some v4, none, none, none, none]) (H := H3) (ds := []) (es := [outD r']) (rl_var F0.ok (n := 0) F0.g rfl (mono_l F0.ok rfl 0 _ _ _ F0.g (Kx.ex (e2.trans e3)) p4) rfl) (rl_ofN (r_lc1 (d0 := outD r') (d := outD r') (rd_var0 rfl (dp_ex (e2.trans e3) _ _ q3)) (fun x H' e dx => ?_) (out_flat _))) rfl (by show 1 ≤ 100000; decide)) F0.g (Nat.le_refl _) fun v5 H4 e4 _ p5 => ?_
      · obtain ⟨u1, u2, hg, h1, h2⟩ := gv_two (K := K) (i := 7) (j := 6) (σ0 := [some v1, some v2, some v3, some v4, none, none, none, none]) dx
        refine ⟨_, hg, rfl, ?_⟩
        exact rd_tup (ds := [resD r', frD 1]) F0.ok (ra_cons (ka := 0) (kb := 0) F0.ok (rd_var F0.ok (n := 0) F0.g rfl h1 (res_flat r'))
          (ra_cons (ka := 0) (kb := 0) F0.ok (rd_call F0.ok (ra_cons (ka := 0) (kb := 0) (d := frD 1) F0.ok (rd_call F0.ok (ra_cons (ka := 0) (kb := 0) (d := frD 1) F0.ok (rd_wr w1) (ra_cons (ka := 0) (kb := 0) (d := frD 0) F0.ok (rd_var F0.ok (n := 0) F0.g rfl (dp_ex (e2.trans (e3.trans e)) _ _ q1) rfl) ra_nil)) ⟨1, 0, ⟨1, 1, bd1, bd0, by decide⟩, rfl, congrArg frD (by decide +kernel)⟩) (ra_cons (ka := 0) (kb := 0) (d := frD 1) F0.ok (rd_var F0.ok (n := 0) F0.g rfl h2 rfl) ra_nil)) ⟨1, 1, ⟨1, 1, bd1, bd1, by decide⟩, rfl, (congrArg frD (Rat.mul_one 1)).symm⟩) ra_nil) (res_flat r')) (out_flat r')
      · replace e4 := F0.ex e4
        obtain ⟨B, zs, ev, nB, _, hB, dz⟩ := p5
        subst ev
        exact s_retN (ds := [outD r']) (rn_mixed (u := resD r') (v := frD 1) (rd_var0 rfl (.lst (sq_of hB) dz)) (res_flat r') rfl (res_depth hf') (by decide +kernel)) fun p xs H' n e => q p xs H' (kx_none F0.ok (n := 0) F0.g (Kx.ex (e1.trans (e2.trans (e3.trans e4)))) n) ((e1.trans (e2.trans (e3.trans e4))).trans e)
end
end K17
/-! ### a tree's outcome, its spans kept or not (flags in the order of the spans) -/
namespace K17
open PySem PySem.Spec PyProof.Rows L2 Evl Fx Fr Dt Tr K18 So
def nodeR (s : Str) (m : Int) (b : Bool) (j : R2) : R2 := if b then ([.mk s m j.1], j.2) else ([], withP "lost" j.1 j.2)
mutual
def resT : T → List Bool → R2
  | .mk s m cs, bs => nodeR s m (bs.headD false) (joinR (resL cs bs.tail))
def resL : List T → List Bool → List R2
  | [], _ => []
  | t :: ts, bs => resT t (bs.take (size t)) :: resL ts (bs.drop (size t))
end
theorem resT_eq (t : T) (bs : List Bool) : resT t bs = nodeR t.name t.mark (bs.headD false) (joinR (resL t.calls bs.tail)) := by cases t; rw [resT]; rfl
theorem resL_app : ∀ (us ts : List T) (bs : List Bool), resL (us ++ ts) bs = resL us bs ++ resL ts (bs.drop (sizes us))
  | [], ts, bs => by rw [List.nil_append, resL, sizes, List.drop_zero, List.nil_append]
  | u :: us, ts, bs => by rw [List.cons_append, resL, resL, resL_app us ts, sizes, List.drop_drop, List.cons_append]
theorem resL_take : ∀ (ts : List T) (bs : List Bool) (n : Nat), sizes ts ≤ n → resL ts (bs.take n) = resL ts bs
  | [], _, _, _ => by rw [resL, resL]
  | t :: ts, bs, n, h => by
    rw [sizes] at h
    rw [resL, resL, List.take_take, Nat.min_eq_left (by omega), List.drop_take, resL_take ts _ _ (by omega)]
theorem resL_len : ∀ (ts : List T) (bs : List Bool), (resL ts bs).length = ts.length
  | [], _ => by rw [resL]; rfl
  | t :: ts, bs => by rw [resL, List.length_cons, List.length_cons, resL_len ts]
/-- the trees that are left behind so many spans -/
def stepF : List T → List T
  | [] => []
  | t :: us => t.calls ++ us
def roots (t : T) : Nat → List T
  | 0 => [t]
  | k + 1 => stepF (roots t k)
theorem roots_drop (t : T) : ∀ k, (subs t).drop k = subsA (roots t k)
  | 0 => by simp [roots, subsA]
  | k + 1 => by
    have h := roots_drop t k
    rw [← List.drop_drop, h, roots]
    cases roots t k with
    | nil => rw [stepF, subsA]; rfl
    | cons u us => rw [stepF, subsA, subs_eq, subsA_app]; rfl
theorem roots_at {t : T} {k : Nat} (hk : k < size t) : ∃ s us, (subs t)[k]? = some s ∧ roots t k = s :: us ∧ roots t (k + 1) = s.calls ++ us := by
  have h := roots_drop t k
  have hl : k < (subs t).length := by rw [subs_len]; exact hk
  cases hr : roots t k with
  | nil =>
    rw [hr, subsA] at h
    have := congrArg List.length h
    rw [List.length_drop] at this
    simp at this
    omega
  | cons s us =>
    refine ⟨s, us, ?_, rfl, by rw [roots, hr, stepF]⟩
    rw [hr, subsA, subs_eq s, List.cons_append, List.drop_eq_getElem_cons hl] at h
    rw [List.getElem?_eq_getElem hl]
    rw [(List.cons.inj h).1]
theorem roots_size (t : T) (k : Nat) : sizes (roots t k) = size t - k := by
  rw [← subsA_len, ← roots_drop, List.length_drop, subs_len]
/-- one span more -/
theorem res_step {s : T} {us : List T} {b : Bool} {bs : List Bool} : resL (s :: us) (b :: bs) = nodeR s.name s.mark b (joinR (resL s.calls bs)) :: resL us (bs.drop (sizes s.calls)) := by
  rw [resL, resT_eq, size_eq, List.take_succ_cons, List.drop_succ_cons, List.headD_cons, List.tail_cons, resL_take _ _ _ (Nat.le_refl _)]
/-- so many spans at the most, no piece without one -/
def Fw (n : Nat) (r : R2) : Prop := sizes r.1 + psizes r.2 ≤ n ∧ ∀ p ∈ r.2, 1 ≤ p.size
theorem len_psizes : ∀ {ps : List Pc}, (∀ p ∈ ps, 1 ≤ p.size) → ps.length ≤ psizes ps
  | [], _ => Nat.zero_le _
  | p :: ps, h => by
    have h1 := h p (List.mem_cons_self ..)
    have h2 := len_psizes fun q hq => h q (List.mem_cons_of_mem _ hq)
    rw [psizes_cons, List.length_cons]
    omega
theorem Fw.few {n : Nat} {r : R2} (h : Fw n r) : Few n r := by
  have h1 := len_sizes r.1
  have h2 := len_psizes h.2
  have h3 := h.1
  exact ⟨h3, by omega, by omega⟩
theorem Fw.up {n m : Nat} {r : R2} (h : Fw n r) (hm : n ≤ m) : Fw m r := ⟨by have := h.1; omega, h.2⟩
theorem Fw.join {n : Nat} {rs : List R2} (h : Fw n (catR rs)) : Fw n (joinR rs) :=
  ⟨by show sizes (sortT _) + psizes (sortP _) ≤ n; rw [sizes_perm (sort_perm _), psizes_perm (sortP_mem _)]; exact h.1, fun p hp => h.2 p ((sortP_mem _).mem_iff.mp hp)⟩
theorem withP_ne {wd : Str} {ts : List T} {ps : List Pc} (h : ∀ p ∈ ps, 1 ≤ p.size) : ∀ p ∈ withP wd ts ps, 1 ≤ p.size := by
  unfold withP
  cases ts with
  | nil => exact h
  | cons t ts =>
    intro p hp
    rcases List.mem_append.mp ((sortP_mem _).mem_iff.mp hp) with hp | hp
    · exact h p hp
    · rw [List.mem_singleton.mp hp]
      have := size_eq t
      unfold pieceOf
      split
      · show 1 ≤ Tr.size t
        omega
      · show 1 ≤ sizes (t :: ts)
        rw [sizes]
        omega
theorem Fw.node {s : Str} {m : Int} {b : Bool} {j : R2} {n : Nat} (h : Fw n j) : Fw (n + 1) (nodeR s m b j) := by
  obtain ⟨h1, h2⟩ := h
  unfold nodeR
  cases b with
  | true =>
    refine ⟨?_, h2⟩
    show sizes [T.mk s m j.1] + psizes j.2 ≤ n + 1
    rw [sizes, sizes, size]
    omega
  | false =>
    have := withP_size "lost" j.1 j.2
    refine ⟨?_, withP_ne h2⟩
    show sizes [] + psizes (withP "lost" j.1 j.2) ≤ n + 1
    rw [show sizes [] = 0 from by rw [sizes]]
    omega
mutual
theorem resT_few : ∀ (t : T) (bs : List Bool), Fw (size t) (resT t bs)
  | .mk s m cs, bs => by
    rw [resT, size]
    exact (resL_few cs bs.tail).join.node
theorem resL_few : ∀ (ts : List T) (bs : List Bool), Fw (sizes ts) (catR (resL ts bs))
  | [], bs => by
    rw [resL]
    exact ⟨by show sizes [] + psizes [] ≤ sizes []; rw [sizes]; exact Nat.le_refl 0, fun p hp => by cases hp⟩
  | t :: ts, bs => by
    have h1 := resT_few t (bs.take (size t))
    have h2 := resL_few ts (bs.drop (size t))
    rw [resL, sizes]
    refine ⟨?_, fun p hp => ?_⟩
    · have a := h1.1
      have b := h2.1
      simp only [catR, List.flatMap_cons, sizes_app, psizes_app] at a b ⊢
      omega
    · simp only [catR, List.flatMap_cons, List.mem_append] at hp
      exact hp.elim (h1.2 p) (h2.2 p)
end
end K17
namespace K17
open PySem PySem.Spec PyProof.Rows L2 Evl Fx Fr Dt Tr K18 So
def nTO : List Str := ["tree", "chances", "done", "trees", "k", "service", "mark", "calls", "parts", "gone", "kept", "_", "part", "inner", "pieces", "chance"]
theorem scTO : FnScope nTO ["tree", "chances"] (defScope (K18.topS 32)) := ⟨rfl, rfl, rfl, by decide +kernel, rfl, by decide +kernel, by decide +kernel⟩
section
variable {P : Program} {w : World} {K : PySem.W.Frag} {mg : Str → Option Value} {base : Heap} {f f2 f3 : Addr} {fd fd2 fd3 : FuncData} {te tl ta tb : TE} {σ σ2 : L2.St} {H : Hp} {k ka kb n : Nat} {d d0 : PyData} {ds es : List PyData} {g : TG} {vs : List Nat}
theorem del_ex {A : Addr} {H H' : Hp} (e : ∀ b o, b ≠ A → H b = some o → H' b = some o) : Ex (del H A) (del H' A) := fun b o h => by
  have hb : b ≠ A := fun z => by rw [z, del_same] at h; cases h
  rw [del_ne hb] at h ⊢
  exact e b o hb h
theorem ex_del {A : Addr} {H : Hp} : Ex (del H A) H := fun b o h => by
  have hb : b ≠ A := fun z => by rw [z, del_same] at h; cases h
  rwa [del_ne hb] at h
theorem kt_del {A : Addr} {H : Hp} {xs : List V} (h : H A = some (.lst xs)) : KT K H (del H A) := fun a zs q => by
  have ne : ∀ {o : HO}, (∀ ys, o ≠ .lst ys) → H a = some o → a ≠ A := fun ho e z => by
    rw [z, h] at e
    exact ho xs (Option.some.inj e).symm
  rcases q with (q | ⟨u, q⟩) | q
  · exact .inl (.inl (by rw [del_ne (ne (fun ys z => by cases z) q)]; exact q))
  · exact .inl (.inr ⟨u, by rw [del_ne (ne (fun ys z => by cases z) q)]; exact q⟩)
  · exact .inr q
theorem del_upd {A : Addr} {H : Hp} {o : HO} : del (upd H A o) A = del H A := by
  funext b
  by_cases hb : b = A
  · rw [hb, del_same, del_same]
  · rw [del_ne hb, del_ne hb, upd_ne hb]
/-- for over range(m - 1, -1, -1) -/
theorem q_forDown {m j : Nat} {ta : TA} {tb tz : TS} {D : Ends} (h : EvRA F0 ta σ H 0 (fun vs _ => vs = [.int ((m : Int) - 1), .int (-1), .int (-1)])) (hm : m ≤ 1000) (Pv : Nat → L2.St → Hp → Prop) (h0 : ∀ H1, Ex H H1 → Pv 0 σ H1)
    (hs : ∀ i σ' H', i < m → Pv i σ' H' → tb { D with nx := Pv (i + 1), ct := Pv (i + 1), bk := tz D } (σ'.set j (some (.int ((m - 1 - i : Nat) : Int)))) H') (hd : ∀ σ' H', Pv m σ' H' → tz D σ' H') : tSeq (tFor (iRng3 ta) (gName j) tb) tz D σ H :=
  h 0 H (Nat.le_refl _) F0.g Kx.refl _ fun vs H1 e1 _ ev => by
    subst ev
    have hn : ((m : Int) - 1 - -1).toNat = m := by omega
    refine ⟨(m : Int) - 1, -1, -1, m, rfl, ?_, ?_⟩
    · have := RgC.neg (i := (m : Int) - 1) (j := -1) (by omega) (by omega) (by omega) (by omega)
      rwa [hn] at this
    · refine for_rangeC (lo := (m : Int) - 1) (c := -1) (n := m) Pv (h0 H1 (F0.ex e1)) (fun i σ' H' hi p => ?_) hd
      have e : (m : Int) - 1 + (i : Int) * -1 = ((m - 1 - i : Nat) : Int) := by omega
      show tb { D with nx := Pv (i + 1), ct := Pv (i + 1), bk := tz D } (σ'.set j (some (.int ((m : Int) - 1 + (i : Int) * -1)))) H'
      rw [e]
      exact hs i σ' H' hi p
/-- [xs.pop() for _ in t]: so many of the end, the last first -/
theorem lc_pops {i j l : Nat} {vs : List Nat} {A c : Addr} {cs xs ys : List V} {Q : VK} (hc : σ[i]? = some (some (.ref c))) (hT : SqT K H c cs) (hA : H A = some (.lst (xs ++ ys.reverse))) (hl : cs.length = ys.length)
    (hv : ∀ x : V, ((wipe σ vs).set j (some x))[l]? = some (some (.ref A))) (hw : ∀ x : V, wipe ((wipe σ vs).set j (some x)) vs = wipe σ vs) (hz : ys.length ≤ 1000)
    (q : ∀ D H', H D = none → (∀ b, b ≠ A → b ≠ D → H' b = H b) → H' A = some (.lst xs) → H' D = some (.lst ys) → Q (.ref D) H') : tLc (iTup K (tVar i)) (gName j) tYes (tBM0 K "list" rPop (tVar l)) vs σ H Q := by
  refine ⟨.ref c, hc, c, rfl, ⟨cs, hT⟩, fun D hD => ?_⟩
  have nAD : A ≠ D := ne_addr hD hA
  refine lc_tup (xs := cs) (fun n H' => (∀ b, b ≠ A → b ≠ D → H' b = H b) ∧ H' A = some (.lst (xs ++ (ys.drop n).reverse)) ∧ H' D = some (.lst (ys.take n))) ⟨fun b h1 h2 => upd_ne h2, by rw [upd_ne nAD]; exact hA, upd_same⟩ (fun n H' _ ⟨p1, p2, p3⟩ => ?_) (fun n x H' hx ⟨p1, p2, p3⟩ => ?_) fun H' ⟨p1, p2, p3⟩ => ?_
  · rcases hT with (hT | ⟨u, hT⟩) | hT
    · have n1 : c ≠ A := fun z => by rw [z, hA] at hT; cases hT
      exact .inl (.inl (by rw [p1 c n1 (ne_addr hD hT)]; exact hT))
    · have n1 : c ≠ A := fun z => by rw [z, hA] at hT; cases hT
      exact .inl (.inr ⟨u, by rw [p1 c n1 (ne_addr hD hT)]; exact hT⟩)
    · exact .inr hT
  · have hn : n < ys.length := by
      have := (List.getElem?_eq_some_iff.mp hx).1
      omega
    have hd : (ys.drop n).reverse = (ys.drop (n + 1)).reverse ++ [ys[n]] := by rw [List.drop_eq_getElem_cons hn, List.reverse_cons]
    rw [hd, ← List.append_assoc] at p2
    refine ⟨hw x, .ref A, hv x, .inl ⟨rfl, _, sq_of p2⟩, A, _, ys[n], rfl, rfl, p2, by simp, ?_⟩
    rw [List.dropLast_concat]
    refine ⟨ys.take n, by rw [upd_ne nAD.symm]; exact p3, sz_lt (by rw [List.length_take]; omega), fun b h1 h2 => ?_, ?_, ?_⟩
    · rw [upd_ne h2, upd_ne h1]
      exact p1 b h1 h2
    · rw [upd_ne nAD]
      exact upd_same
    · rw [upd_same, List.take_add_one, List.getElem?_eq_getElem hn]
      rfl
  · rw [hl, List.drop_length, List.reverse_nil, List.append_nil] at p2
    rw [hl, List.take_length] at p3
    exact q D H' hD p1 p2 p3
/-- outcomes of a caller that is kept or not -/
def twoD (r : R2) : PyData := .tuple [oneD r, oneD r]
def flagD (b : Bool) : PyData := .tuple [chD b, chD b]
theorem two_flat : True := trivial
theorem r_lcPick {i j : Nat} {vs : List Nat} {rs : List R2} {c : Int} {v : V} (hc : c = 0 ∨ c = 1) (hv : σ[i]? = some (some v)) (hd : Dp K H v (.list (rs.map twoD))) (hj : ∀ x : V, ((wipe σ vs).set j (some x))[j]? = some (some x)) (hw : ∀ x : V, wipe ((wipe σ vs).set j (some x)) vs = wipe σ vs) (hz : rs.length ≤ 1000) :
    EvR F0 (tLc (iList K (tVar i)) (gName j) tYes (tOp (rIxT K) (tVar j) (tC (.int c))) vs) σ H 0 (IsD K (.list (rs.map oneD))) := fun n H1 hn g e Q q => by
  replace e := F0.ex e
  replace hd := dp_ex e _ _ hd
  cases hd with
  | @lst a xs _ ha hx =>
  have lx := dps_len hx
  rw [List.length_map] at lx
  refine ⟨.ref a, hv, a, rfl, ⟨xs, ha⟩, fun D hD => ?_⟩
  have e0 := Ex.new (o := HO.lst []) hD
  refine lc_list (xs := xs) (fun n H' => Ex H1 H' ∧ ∃ us, H' D = some (.lst us) ∧ DpAll K H1 us ((rs.take n).map oneD)) ⟨e0, [], upd_same, by rw [List.take_zero]; exact .nil⟩ (fun n H' _ p => ex_l p.1 ha) (fun n x H' hxn ⟨p, us, hDD, du⟩ => ?_) fun H' ⟨p, us, hDD, du⟩ => ?_
  · have hm : n < rs.length := by
      have := (List.getElem?_eq_some_iff.mp hxn).1
      omega
    have dx : Dp K H1 x (twoD rs[n]) := by
      obtain ⟨u', hu, du'⟩ := dps_get hx (show (rs.map twoD)[n]? = some (twoD rs[n]) by rw [List.getElem?_map, List.getElem?_eq_getElem hm]; rfl)
      rw [hxn] at hu
      cases hu
      exact du'
    obtain ⟨b, u1, u2, rfl, hb, h1, h2⟩ := dp_two dx
    have lu := dps_len du
    have key : ∀ u, Dp K H1 u (oneD rs[n]) → ∃ acc, H' D = some (.lst acc) ∧ acc.length < sizeLine ∧ Ex H1 (upd H' D (.lst (acc ++ [u]))) ∧ ∃ us, upd H' D (.lst (acc ++ [u])) D = some (.lst us) ∧ DpAll K H1 us ((rs.take (n + 1)).map oneD) := fun u hu => by
      refine ⟨us, hDD, sz_lt (by rw [lu, List.length_map, List.length_take]; omega), p.mut hD, _, upd_same, ?_⟩
      rw [List.take_add_one, List.getElem?_eq_getElem hm, List.map_append]
      exact dps_app du (.cons hu .nil)
    refine ⟨hw _, .ref b, hj _, b, [u1, u2], c, ?_⟩
    rcases hc with rfl | rfl
    · exact ⟨u1, rfl, rfl, ex_t p hb, rfl, key u1 h1⟩
    · exact ⟨u2, rfl, rfl, ex_t p hb, rfl, key u2 h2⟩
  · rw [lx, List.take_length] at du
    exact q (.ref D) H' (Kx.ex p) g (.lst (sq_of hDD) (dps_ex p _ _ du))
theorem r_lcTwo {j : Nat} {vs : List Nat} {b : Bool} {r : R2} {A : Addr} {zs : List V} (hT : EvR F0 tl σ H 0 (IsD K (flagD b))) (hte : ∀ x H', Ex H H' → Dp K H' x (chD b) → EvR F0 te ((wipe σ vs).set j (some x)) H' 0 (IsN H' F0 K [outD r])) (hA : H A = some (.lst zs)) (hw : ∀ x : V, wipe ((wipe σ vs).set j (some x)) vs = wipe σ vs) :
    EvR F0 (tLc (iTup K tl) (gName j) tYes te vs) σ H 0 (fun v H' => ∃ D us, v = .ref D ∧ H' D = some (.lst us) ∧ DpAll K (del H' A) us [oneD r, oneD r]) := fun n H1 hn g e Q q => hT n H1 hn g e _ fun v H2 e2 _ hv => by
  have e12 := (F0.ex e).trans (F0.ex e2)
  obtain ⟨a, c1, c2, rfl, ha, h1, h2⟩ := dp_two hv
  have hA2 := e12 _ _ hA
  refine ⟨a, rfl, ⟨_, ha⟩, fun D hD => ?_⟩
  have nAD : A ≠ D := ne_addr hD hA2
  have e0 := Ex.new (o := HO.lst []) hD
  refine lc_tup (xs := [c1, c2]) (fun n H' => Ex H2 H' ∧ ∃ us, H' D = some (.lst us) ∧ DpAll K (del (del H' D) A) us (List.replicate n (oneD r))) ⟨e0, [], upd_same, .nil⟩ (fun n H' _ p => ex_t p.1 ha) (fun n x H' hxn ⟨p, us, hDD, du⟩ => ?_) fun H' ⟨p, us, hDD, du⟩ => ?_
  · have hx : Dp K H' x (chD b) := by
      match n, hxn with
      | 0, hxn => cases hxn; exact dp_ex p _ _ h1
      | 1, hxn => cases hxn; exact dp_ex p _ _ h2
    have hn2 : n < 2 := (List.getElem?_eq_some_iff.mp hxn).1
    refine ⟨hw x, hte x H' (e12.trans p) hx 0 H' (Nat.le_refl _) F0.g Kx.refl _ fun y H3 e3 _ ⟨l, ws, ey, nl, _, hl, dw⟩ => ?_⟩
    subst ey
    replace e3 := F0.ex e3
    have hD3 := e3 _ _ hDD
    have hA3 := e3 _ _ (p _ _ hA2)
    have lu := dps_len du
    have nlD : l ≠ D := fun z => by rw [z, hDD] at nl; cases nl
    have nlA : l ≠ A := fun z => by rw [z, p _ _ hA2] at nl; cases nl
    have hAd : del H3 D A = some (.lst zs) := by rw [del_ne nAD]; exact hA3
    refine ⟨us, hD3, sz_lt (by rw [lu, List.length_replicate]; omega), (p.trans e3).mut hD, _, upd_same, ?_⟩
    rw [del_upd, List.replicate_succ']
    refine dps_app (dps_ex (del_ex fun b o hb h => ?_) _ _ du) (.cons (.lst (sq_of (by rw [del_ne nlA, del_ne nlD]; exact hl)) ?_) .nil)
    · have hbD : b ≠ D := fun z => by rw [z, del_same] at h; cases h
      rw [del_ne hbD] at h ⊢
      exact e3 _ _ h
    · cases dw with
      | @cons w1 wr _ _ dw1 dwr =>
      cases dwr
      exact .cons (dp_kt (kt_del hAd) _ _ (out_flat r) (dp_kt (kt_del hD3) _ _ (out_flat r) dw1)) .nil
  · refine q (.ref D) H' (Kx.ex ((F0.ex e2).trans p)) g ⟨D, us, rfl, hDD, dps_ex (fun b o h => ?_) _ _ du⟩
    have hbA : b ≠ A := fun z => by rw [z, del_same] at h; cases h
    rw [del_ne hbA] at h ⊢
    exact ex_del _ _ h
theorem q_asgX {i : Nat} {tz : TS} {D : Ends} (h : te σ H fun v H1 => tz D (σ.set i (some v)) H1) : tSeq (tAsg te (gName i)) tz D σ H := h
theorem ra_cons0 {tr : TA} (h : EvR F0 te σ H 0 (IsD K d)) (hr : EvRA F0 tr σ H 0 (fun vs H => DpAll K H vs ds)) : EvRA F0 (tCons te tr) σ H 0 (fun vs H => DpAll K H vs (d :: ds)) :=
  fun n H1 hn g e Q q => h n H1 hn g e _ fun x H2 e2 g2 p => hr n H2 hn F0.g (e.trans e2) _ fun vs H3 e3 g3 p' => q (x :: vs) H3 (e2.trans e3) g3 (.cons (dp_ex (F0.ex e3) _ _ p) p')
theorem rd_ixD {i : Int} (ha : EvR F0 ta σ H 0 (IsD K (.list ds))) (hb : EvR F0 tb σ H 0 (fun x _ => x = .int i)) (j : Nat) (hj : ixN ds.length i = some j) (hd : ds[j]? = some d) : EvR F0 (tOp (rIxL K) ta tb) σ H 0 (IsD K d) := fun n H1 hn g e Q q =>
  ha n H1 hn g e _ fun x H2 e2 g2 p => hb n H2 hn F0.g (e.trans e2) _ fun y H3 e3 g3 ey => by
    subst ey
    cases p with
    | @lst a xs _ ha hx =>
    obtain ⟨u, hu, du⟩ := dps_get hx hd
    exact ⟨a, xs, i, u, rfl, rfl, ex_l (F0.ex e3) ha, by unfold atI; rw [dps_len hx, hj]; exact hu, q u H3 (e2.trans e3) F0.g (dp_ex (F0.ex e3) _ _ du)⟩
theorem rv_neg1 : EvR F0 (tUn (rU fun i => .int (-i)) (tC (.int 1))) σ H 0 (fun x _ => x = .int (-1)) := fun n H1 hn g e Q q => ⟨1, rfl, q _ H1 Kx.refl g rfl⟩
theorem r_tupTwo {A : Addr} {zs : List V} (h : EvR F0 te σ H 0 (fun v H' => ∃ D us, v = .ref D ∧ H' D = some (.lst us) ∧ DpAll K (del H' A) us ds)) (hA : H A = some (.lst zs)) : EvR F0 (tCB (rTupOf K) (tCons te tNil)) σ H 0 (fun v H' => Dp K (del H' A) v (.tuple ds)) := fun n H1 hn g e Q q =>
  h n H1 hn g e _ fun v H2 e2 _ ⟨D, us, ev, hD, du⟩ => ⟨D, us, by rw [ev], .inl ⟨sq_of hD, fun l hl => by
    have hA2 := ((F0.ex e).trans (F0.ex e2)) _ _ hA
    have nl : l ≠ A := fun z => by rw [z, hA2] at hl; cases hl
    have el := Ex.new (o := HO.tup us) hl
    exact q (.ref l) _ (e2.trans (Kx.ex el)) F0.g (.tup (st_of (by rw [del_ne nl]; exact upd_same)) (dps_ex (del_ex fun b o _ h => el _ _ h) _ _ du))⟩⟩
theorem dps_split {as bs : List PyData} {vs : List V} (h : DpAll K H vs (as ++ bs)) : ∃ xs ys, vs = xs ++ ys ∧ DpAll K H xs as ∧ DpAll K H ys bs := by
  have h1 := dps_take (n := as.length) h
  have h2 := dps_drop (n := as.length) h
  rw [List.take_left] at h1
  rw [List.drop_left] at h2
  exact ⟨_, _, (List.take_append_drop _ _).symm, h1, h2⟩
theorem roots_end (t : T) : roots t (size t) = [] := by
  have h := roots_size t (size t)
  have := len_sizes (roots t (size t))
  rw [h, Nat.sub_self] at this
  exact List.length_eq_zero_iff.mp (by omega)
def spTO (K : PySem.W.Frag) : Sp := fun vs H Q _ => ∃ (v1 v2 : V) (t : T) (bs : List Bool), vs = [v1, v2] ∧ size t ≤ 6 ∧ bs.length = size t ∧ Dp K H v1 (enc t) ∧ Dp K H v2 (.list (bs.map flagD)) ∧ ∀ v H', Ex H H' → Dp K H' v (twoD (resT t bs)) → Q v H'
theorem ok_to (F : Fun K "tree_outcomes" "tree_outcomes" (K18.topS 32) f fd) (cS : C8.Cal P w K mg base 1 "subtrees_of" (spSubs K) []) (cC : C8.Cal P w K mg base 2 "closed" (spClosed K) []) (cJ : C8.Cal P w K mg base 4 "joined" (spJoined K) []) (cK : C8.Cal P w K mg base 3 "kept_or_gone" (spKG K) [])
    (m_range : mg "range" = none) (m_len : mg "len" = none) (m_tuple : mg "tuple" = none) : FnOk P w K mg base CX0 5 f fd ["tree", "chances"] (spTO K) := by
  refine F.ok scTO (fun vs H Q E h => ?_) (fun cdv A outer s H vs Q E hr h => ?_)
  · obtain ⟨v1, v2, t, bs, rfl, _⟩ := h
    rfl
  · obtain ⟨v1, v2, t, bs, rfl, hs, hb, p1, p2, q⟩ := h
    refine ⟨_, pss_cons (ps_set (i := 2) scTO.nd rfl (.inr rfl) (pe_lst pa_nil))
      (pss_cons (ps_set (i := 3) scTO.nd rfl (.inl rfl) (C8.pe_c cS hr (by decide) (by rfl) (pa_cons (pv 0) pa_nil)))
      (pss_cons (ps_for PassesOwn.never rfl (pi_range3 (by rfl) m_range (pa_cons (pe_op op_sub (pe_callB (r := rLenS K) call_lenS (by rfl) m_len PySem.boot_len (pa_cons (pv 3) pa_nil)) pe_int) (pa_cons (pe_un un_neg pe_int) (pa_cons (pe_un un_neg pe_int) pa_nil)))) (pg_name (i := 4) scTO.nd rfl (.inl rfl))
        (pss_cons (ps_asg (pe_ix ix_list (pv 3) (pv 4) (fun _ _ => rfl)) (pg_tup (by rfl) (pgs_cons (pg_name (i := 5) scTO.nd rfl (.inr rfl)) (pgs_cons (pg_name (i := 6) scTO.nd rfl (.inr rfl)) (pgs_cons (pg_name (i := 7) scTO.nd rfl (.inl rfl)) pgs_nil)))))
        (pss_cons (ps_setLc (i := 8) (own := [("_", 11)]) (g := gName 11) (by rfl) scTO.nd rfl rfl (sw_true rfl rfl rfl (by kernel_rfl)) (pi_tup (pv 7)) (blkOk_by (own := [("_", 11)]) (N := nTO) (sc := defScope (K18.topS 32)) (by decide +kernel)) (fun _ _ _ _ _ => pg_name (i := 11) scTO.nd rfl (.inl rfl)) (fun _ _ _ _ _ => pts_nil)
            (te := tBM0 K "list" rPop (tVar 2)) (fun _ _ _ _ _ => pe_bm0 PySem.F.plainAttrs_list PySem.F.slot_list_pop PySem.F.type_list_pop mt_pop (pv 2)))
        (pss_cons (ps_set (i := 9) scTO.nd rfl (.inr rfl) (C8.pe_c cC hr (by decide) (by rfl) (pa_cons (C8.pe_c cJ hr (by decide) (by rfl) (pa_cons (pe_lc (own := [("part", 12)]) (g := gName 12) (by rfl) scTO.nd (pi_list (pv 8)) (blkOk_by (own := [("part", 12)]) (N := nTO) (sc := defScope (K18.topS 32)) (by decide +kernel)) (fun _ _ _ _ _ => pg_name (i := 12) scTO.nd rfl (.inl rfl)) (fun _ _ _ _ _ => pts_nil)
            (te := tOp (rIxT K) (tVar 12) (tC (.int 0))) (fun _ _ _ _ _ => pe_ix ix_tup (pv 12) pe_int (fun _ _ => rfl))) pa_nil)) (pa_cons pe_str pa_nil))))
        (pss_cons (ps_set (i := 10) scTO.nd rfl (.inr rfl) (pe_lc (own := [("inner", 13), ("pieces", 14), ("chance", 15)]) (g := gTup K 2 (gCons (gTup K 2 (gCons (gName 13) (gCons (gName 14) gNil))) (gCons (gName 15) gNil))) (by rfl) scTO.nd (pi_list (C8.pe_c cJ hr (by decide) (by rfl) (pa_cons (pe_lc (own := [("part", 12)]) (g := gName 12) (by rfl) scTO.nd (pi_list (pv 8)) (blkOk_by (own := [("part", 12)]) (N := nTO) (sc := defScope (K18.topS 32)) (by decide +kernel)) (fun _ _ _ _ _ => pg_name (i := 12) scTO.nd rfl (.inl rfl)) (fun _ _ _ _ _ => pts_nil)
            (te := tOp (rIxT K) (tVar 12) (tC (.int 1))) (fun _ _ _ _ _ => pe_ix ix_tup (pv 12) pe_int (fun _ _ => rfl))) pa_nil)))
            (blkOk_by (own := [("inner", 13), ("pieces", 14), ("chance", 15)]) (N := nTO) (sc := defScope (K18.topS 32)) (by decide +kernel)) (fun _ _ _ _ _ => pg_tup (by rfl) (pgs_cons (pg_tup (by rfl) (pgs_cons (pg_name (i := 13) scTO.nd rfl (.inl rfl)) (pgs_cons (pg_name (i := 14) scTO.nd rfl (.inl rfl)) pgs_nil))) (pgs_cons (pg_name (i := 15) scTO.nd rfl (.inl rfl)) pgs_nil))) (fun _ _ _ _ _ => pts_nil)
            (fun _ _ _ _ _ => pe_tup (pa_cons (pe_tup (pa_cons (pe_tup (pa_cons (pv 5) (pa_cons (pv 6) (pa_cons (pv 13) pa_nil)))) pa_nil)) (pa_cons (pv 14) (pa_cons (pv 15) pa_nil))))))
        (pss_one (ps_expr (pe_bm PySem.F.plainAttrs_list PySem.F.slot_list_append PySem.F.type_list_append mt_append (pv 2) (pa_cons (pe_callTy (T := "tuple") (r := rTupOf K) call_tupleOf (by rfl) m_tuple (by decide +kernel) (pa_cons (pe_lc (own := [("chance", 15)]) (g := gName 15) (by rfl) scTO.nd (pi_tup (pe_ix ix_list (pv 1) (pv 4) (fun _ _ => rfl))) (blkOk_by (own := [("chance", 15)]) (N := nTO) (sc := defScope (K18.topS 32)) (by decide +kernel)) (fun _ _ _ _ _ => pg_name (i := 15) scTO.nd rfl (.inl rfl)) (fun _ _ _ _ _ => pts_nil)
            (fun _ _ _ _ _ => C8.pe_c cK hr (by decide) (by rfl) (pa_cons (pv 15) (pa_cons (pv 10) (pa_cons (pv 9) pa_nil))))) pa_nil)) pa_nil)))))))))
      (pss_one (ps_ret (pe_ix ix_list (pv 2) pe_int (fun _ _ => rfl)))))), ?_⟩
    refine q_asgL (el_lst ea_nil (by simp)) fun A H1 nA e1 hA => ?_
    replace hA : H1 A = some (.lst []) := hA
    change tSeq (tAsg (tCall (spSubs K) [] C8.E0 (tCons (tVar 0) tNil)) (gName 3)) _ _ [some v1, some v2, some (.ref A), none, none, none, none, none, none, none, none, none, none, none, none, none] H1
    refine q_asgR (F := F0) (n := 0) (k := 0) (rn_call (K := K) (H := H1) (E := C8.E0) (F := F0) (es := (subs t).map enc) F0.ok (ra_one (rd_var0 (K := K) rfl (dp_ex e1 _ _ p1))) ⟨t, by omega, rfl, rfl⟩) F0.g (Nat.le_refl _) fun v3 H2 e2 _ hv3 => ?_
    obtain ⟨TR, zs, rfl, nTR, _, hTR, dzs⟩ := hv3
    replace e2 := F0.ex e2
    have nTA : TR ≠ A := fun z => by rw [z, hA] at nTR; cases nTR
    have hlen : ((subs t).map enc).length = size t := by rw [List.length_map, subs_len]
    refine q_forDown (m := size t) (ra_consV (ka := 0) (kb := 0) (rv_sub (i := (size t : Int)) (j := 1) ((rv_lenL (rl_var F0.ok (n := 0) F0.g rfl ⟨TR, zs, rfl, fun z => z, hTR, dzs⟩ (maps_flat _))).imp fun _ v _ _ _ ev => by rw [ev, hlen]) rv_c) (ra_consV (ka := 0) (kb := 0) rv_neg1 (ra_consV (ka := 0) (kb := 0) rv_neg1 ra_nilV))) (by omega)
      (fun i σ' H' => ∃ u4 u5 u6 u7 u8 u9 u10 ys, σ' = [some v1, some v2, some (.ref A), some (.ref TR), u4, u5, u6, u7, u8, u9, u10, none, none, none, none, none] ∧ Ex H H' ∧ H' TR = some (.lst zs) ∧ DpAll K H' zs ((subs t).map enc) ∧ H' A = some (.lst ys) ∧ DpAll K (del H' A) ys (((resL (roots t (size t - i)) (bs.drop (size t - i))).map twoD).reverse))
      (fun H3 e3 => ⟨none, none, none, none, none, none, none, [], rfl, e1.trans (e2.trans e3), e3 _ _ hTR, dps_ex e3 _ _ dzs, e3 _ _ (e2 _ _ hA), by rw [Nat.sub_zero, roots_end, resL]; exact .nil⟩) (fun i σ' H' hi ⟨u4, u5, u6, u7, u8, u9, u10, ys, es, ee, hT', dz', hA', dy⟩ => ?_) fun σ' H' ⟨u4, u5, u6, u7, u8, u9, u10, ys, es, ee, hT', dz', hA', dy⟩ => ?_
    · subst es
      obtain ⟨k, hk⟩ : ∃ k, k = size t - 1 - i := ⟨_, rfl⟩
      have hk1 : size t - i = k + 1 := by omega
      have hk2 : size t - (i + 1) = k := by omega
      have hks : k < size t := by omega
      rw [hk1] at dy
      rw [← hk]
      obtain ⟨s, us, hsk, r0, r1⟩ := roots_at hks
      have hbk : k < bs.length := by omega
      have hbd : bs.drop k = bs[k] :: bs.drop (k + 1) := List.drop_eq_getElem_cons hbk
      have hbi : bs[k]? = some bs[k] := List.getElem?_eq_getElem hbk
      generalize bs[k] = b at hbd hbi
      rw [r1, resL_app, List.map_append, List.reverse_append] at dy
      obtain ⟨y1, y2, rfl, dy1, dy2⟩ := dps_split dy
      have dC := dps_rev dy2
      rw [List.reverse_reverse] at dC
      have lC := dps_len dC
      rw [List.length_map, resL_len] at lC
      have hsz : sizes s.calls ≤ 5 := by
        have h1 := roots_size t k
        rw [r0, sizes, size_eq] at h1
        omega
      have hcl := len_sizes s.calls
      have fJ : Fw (sizes s.calls) (catR (resL s.calls (bs.drop (k + 1)))) := resL_few _ _
      have lR : (resL s.calls (bs.drop (k + 1))).length = s.calls.length := resL_len _ _
      obtain ⟨rs, hrs⟩ : ∃ rs, rs = resL s.calls (bs.drop (k + 1)) := ⟨_, rfl⟩
      rw [← hrs] at dC fJ lR
      refine q_asgG (F := F0) (n := 0) (k := 0 + 0) (P := IsD K (enc s)) (rd_ixL (ka := 0) (kb := 0) (ds := (subs t).map enc) (i := (k : Int)) F0.ok (rl_var F0.ok (n := 0) F0.g rfl ⟨TR, zs, rfl, fun z => z, hT', dz'⟩ (maps_flat _)) (maps_flat _) (rv_var rfl) k (by rw [hlen]; unfold ixN; rw [if_pos (by omega), if_pos (by omega)]; rfl) (by rw [List.getElem?_map, hsk]; rfl)) F0.g (Nat.le_refl _) fun vs H3 e3 _ ps => ?_
      replace e3 := F0.ex e3
      change Dp K H3 vs (enc s) at ps
      rw [enc_eq] at ps
      obtain ⟨a, x1, x2, x3, rfl, ha, px1, px2, px3⟩ := dp_three ps
      cases px1
      cases px2
      cases px3 with
      | @tup c0 cs _ hc dcs =>
      refine ⟨a, _, rfl, ha, rfl, _, _, rfl, _, _, rfl, _, _, rfl, rfl, ?_⟩
      have lcs := dps_len dcs
      rw [List.length_map] at lcs
      have hA3 := e3 _ _ hA'
      change tSeq (tAsg (tLc (iTup K (tVar 7)) (gName 11) tYes (tBM0 K "list" rPop (tVar 2)) [11]) (gName 8)) _ _ [some v1, some v2, some (.ref A), some (.ref TR), some (.int (k : Int)), some (.str s.name), some (.int s.mark), some (.ref c0), u8, u9, u10, none, none, none, none, none] H3
      refine q_asgX (lc_pops (i := 7) (j := 11) (l := 2) (vs := [11]) (σ := [some v1, some v2, some (.ref A), some (.ref TR), some (.int (k : Int)), some (.str s.name), some (.int s.mark), some (.ref c0), u8, u9, u10, none, none, none, none, none]) (c := c0) (A := A) (cs := cs) (xs := y1) (ys := y2.reverse) rfl hc (by rw [List.reverse_reverse]; exact hA3) (by omega) (fun _ => rfl) (fun _ => rfl) (by omega) fun D2 H4 nD2 same hA4 hD2 => ?_)
      have exD : Ex (del H' A) H4 := fun b o h => by
        have hb : b ≠ A := fun z => by rw [z, del_same] at h; cases h
        rw [del_ne hb] at h
        have h3 := e3 _ _ h
        rw [same b hb fun z => by rw [z, nD2] at h3; cases h3]
        exact h3
      have exDD : Ex (del H' A) (del H4 A) := fun b o h => by
        have hb : b ≠ A := fun z => by rw [z, del_same] at h; cases h
        rw [del_ne hb]
        exact exD b o h
      have ee4 : Ex H H4 := fun b o h => exD b o (by
        have hb : b ≠ A := fun z => by rw [z, nA] at h; cases h
        rw [del_ne hb]
        exact ee _ _ h)
      have hT4 : H4 TR = some (.lst zs) := exD _ _ (by rw [del_ne nTA]; exact hT')
      have dz4 : DpAll K H4 zs ((subs t).map enc) := dps_ex exD _ _ (dps_kt (kt_del hA') _ _ (maps_flat _) dz')
      have dC4 := dps_ex exD _ _ dC
      have dy14 := dps_ex exDD _ _ dy1
      have dP : Dp K H4 (.ref D2) (.list (rs.map twoD)) := .lst (sq_of hD2) dC4
      have few15 : Few 15 (catR rs) := (fJ.up (by omega)).few
      change tSeq (tAsg _ (gName 9)) _ _ [some v1, some v2, some (.ref A), some (.ref TR), some (.int (k : Int)), some (.str s.name), some (.int s.mark), some (.ref c0), some (.ref D2), u9, u10, none, none, none, none, none] H4
      have pick : ∀ {c : Int} {H5 : Hp} {w9 : Option V}, c = 0 ∨ c = 1 → Ex H4 H5 → EvR F0 (tCall (spJoined K) [] C8.E0 (tCons (tLc (iList K (tVar 8)) (gName 12) tYes (tOp (rIxT K) (tVar 12) (tC (.int c))) [12]) tNil)) [some v1, some v2, some (.ref A), some (.ref TR), some (.int (k : Int)), some (.str s.name), some (.int s.mark), some (.ref c0), some (.ref D2), w9, u10, none, none, none, none, none] H5 0 (IsN H5 F0 K [outD (joinR rs)]) := fun {c H5 w9} hc e => rn_call F0.ok (ra_one (r_lcPick (i := 8) (j := 12) hc rfl (dp_ex e _ _ dP) (fun _ => rfl) (fun _ => rfl) (by omega))) ⟨rs, few15, by omega, rfl, rfl⟩
      have fJ15 : Fw 15 (joinR rs) := (fJ.up (by omega)).join
      have fK : Fw 6 (nodeR s.name s.mark true (joinR rs)) := (fJ.join.node (b := true)).up (by omega)
      have fG : Fw 6 (nodeR s.name s.mark false (joinR rs)) := (fJ.join.node (b := false)).up (by omega)
      refine q_asgR (F := F0) (n := 0) (k := 0) (rn_call (K := K) (H := H4) (E := C8.E0) (F := F0) (es := [outD ([], withP "lost" (joinR rs).1 (joinR rs).2)]) F0.ok (ra_cons0 (rd_ofN (pick (.inl rfl) (Ex.refl _))) (ra_one rd_str)) ⟨joinR rs, "lost", .inr rfl, fJ15.few, rfl, rfl⟩) F0.g (Nat.le_refl _) fun v9 H5 e5 _ hv9 => ?_
      replace e5 := F0.ex e5
      obtain ⟨G9, w9, rfl, _, _, hG9, dG9⟩ := hv9
      change tSeq (tAsg _ (gName 10)) _ _ [some v1, some v2, some (.ref A), some (.ref TR), some (.int (k : Int)), some (.str s.name), some (.int s.mark), some (.ref c0), some (.ref D2), some (.ref G9), u10, none, none, none, none, none] H5
      refine q_asgR (F := F0) (n := 0) (k := 0) (r_lc1 (K := K) (H := H5) (d0 := outD (joinR rs)) (d := keptD (nodeR s.name s.mark true (joinR rs))) (rd_ofN (pick (w9 := some (.ref G9)) (.inr rfl) e5)) (fun x H' e dx => ?_) (kept_flat _)) F0.g (Nat.le_refl _) fun v10 H6 e6 _ hv10 => ?_
      · obtain ⟨w1, w2, w3, hg, h1, h2, h3⟩ := gv_out (K := K) (i := 13) (j := 14) (l := 15) (σ0 := [some v1, some v2, some (.ref A), some (.ref TR), some (.int (k : Int)), some (.str s.name), some (.int s.mark), some (.ref c0), some (.ref D2), some (.ref G9), u10, none, none, none, none, none]) dx
        refine ⟨_, hg, rfl, ?_⟩
        have ft : flat (.tuple ((joinR rs).1.map enc)) = true := by rw [flat_tup]; exact maps_flat _
        have fp : flat (.tuple ((joinR rs).2.map Pc.D)) = true := by rw [flat_tup]; exact pcs_flat _
        have fe : flat (enc (.mk s.name s.mark (joinR rs).1)) = true := enc_flat _
        have node : EvR F0 (tTup (tCons (tVar 5) (tCons (tVar 6) (tCons (tVar 13) tNil)))) [some v1, some v2, some (.ref A), some (.ref TR), some (.int (k : Int)), some (.str s.name), some (.int s.mark), some (.ref c0), some (.ref D2), some (.ref G9), u10, none, none, some w1, some w2, some w3] H' 0 (IsD K (enc (.mk s.name s.mark (joinR rs).1))) := by
          rw [enc_eq] at fe ⊢
          exact rd_tup F0.ok (ra_cons0 (rd_ofS (rv_var rfl)) (ra_cons0 (rd_ofI (rv_var rfl)) (ra_one (rd_var0 rfl h1)))) (by rw [flat_tup] at fe; exact fe)
        exact rd_tup (ds := [.tuple [enc (.mk s.name s.mark (joinR rs).1)], .tuple ((joinR rs).2.map Pc.D), frD 1]) F0.ok (ra_cons0 (rd_tup F0.ok (ra_one node) (maps_flat [T.mk s.name s.mark (joinR rs).1])) (ra_cons0 (rd_var0 rfl h2) (ra_one (rd_var0 rfl h3)))) (by
          rw [flats_cons, flats_cons, flats_cons]
          exact ⟨by rw [flat_tup]; exact maps_flat [T.mk s.name s.mark (joinR rs).1], fp, rfl, rfl⟩)
      · replace e6 := F0.ex e6
        obtain ⟨K10, w10, rfl, _, _, hK10, dK10⟩ := hv10
        have e46 := e5.trans e6
        have hA6 := e46 _ _ hA4
        have ch : Dp K H6 v2 (.list (bs.map flagD)) := dp_ex (ee4.trans e46) _ _ p2
        have two : EvR F0 (tCB (rTupOf K) (tCons (tLc (iTup K (tOp (rIxL K) (tVar 1) (tVar 4))) (gName 15) tYes (tCall (spKG K) [] C8.E0 (tCons (tVar 15) (tCons (tVar 10) (tCons (tVar 9) tNil)))) [15]) tNil)) [some v1, some v2, some (.ref A), some (.ref TR), some (.int (k : Int)), some (.str s.name), some (.int s.mark), some (.ref c0), some (.ref D2), some (.ref G9), some (.ref K10), none, none, none, none, none] H6 0 (fun v H' => Dp K (del H' A) v (twoD (nodeR s.name s.mark b (joinR rs)))) :=
          r_tupTwo (zs := y1) (r_lcTwo (zs := y1) (b := b) (rd_ixD (ds := bs.map flagD) (i := (k : Int)) (rd_var0 rfl ch) (rv_var rfl) k (by rw [List.length_map]; unfold ixN; rw [if_pos (by omega), if_pos (by omega)]; rfl) (by rw [List.getElem?_map, hbi]; rfl)) (fun x H' e hx => rn_call F0.ok (ra_cons0 (rd_var0 rfl hx) (ra_cons0 (rd_var0 rfl (.lst (sq_of (e _ _ hK10)) (dps_ex e _ _ dK10))) (ra_one (rd_var0 rfl (.lst (sq_of (e _ _ (e6 _ _ hG9))) (dps_ex (e6.trans e) _ _ dG9)))))) ⟨b, nodeR s.name s.mark true (joinR rs), nodeR s.name s.mark false (joinR rs), (fK.up (by decide)).few, (fG.up (by decide)).few, rfl, by cases b <;> rfl⟩) hA6 (fun _ => rfl)) hA6
        refine q_appR (K := K) (F := F0) (n := 0) (k := 0) (i := 2) (l := A) (xs := y1) rfl hA6 (fun z => z) two F0.g (Nat.le_refl _) ?_ fun v H7 e7 _ hv hA7 => ?_
        · have l1 := dps_len dy1
          rw [List.length_reverse, List.length_map, resL_len] at l1
          have h2 := roots_size t k
          rw [r0, sizes] at h2
          have := len_sizes us
          omega
        · replace e7 := F0.ex e7
          have e47 := e46.trans e7
          refine ⟨some (.int (k : Int)), some (.str s.name), some (.int s.mark), some (.ref c0), some (.ref D2), some (.ref G9), some (.ref K10), y1 ++ [v], rfl, (ee4.trans e47).mut nA, ?_, ?_, upd_same, ?_⟩
          · rw [upd_ne nTA]
            exact e47 _ _ hT4
          · exact dps_kt (kt_lst hA7) _ _ (maps_flat _) (dps_ex e47 _ _ dz4)
          · rw [del_upd, hk2, r0, hbd, res_step, ← hrs, List.map_cons, List.reverse_cons]
            have dd : (bs.drop (k + 1)).drop (sizes s.calls) = (bs.drop (k + 1)).drop (sizes s.calls) := rfl
            exact dps_app (dps_ex (del_ex fun b o _ h => e47 _ _ h) _ _ dy14) (.cons hv .nil)
    · subst es
      rw [Nat.sub_self, roots, resL, resL, List.drop_zero, List.take_of_length_le (Nat.le_of_eq hb), List.map_cons, List.map_nil, List.reverse_singleton] at dy
      cases dy with
      | @cons y yr _ _ dy1 dyr =>
      cases dyr
      exact ⟨.ref A, rfl, A, [y], 0, y, rfl, rfl, sq_of hA', rfl, q y H' ee (dp_ex ex_del _ _ dy1)⟩
end
end K17
/-! ### paths, also of values that are none -/
namespace K17
open PySem PySem.Spec PyProof.Rows L2 Evl Fx Fr Dt Tr K18 So
def tyN : PyData → String
  | .none => "NoneType"
  | .bool _ => "bool"
  | .int _ => "int"
  | .str _ => "str"
  | .list _ => "list"
  | .tuple _ => "tuple"
  | .dict _ => "dict"
def walkB : T → List PyData → Bool
  | _, [] => true
  | t, .int i :: ps => if 0 ≤ i then (match t.calls[i.toNat]? with | some c => walkB c ps | none => false) else false
  | _, _ :: _ => false
def pathB (t : T) : PyData → Bool
  | .tuple ps => walkB t ps
  | _ => false
def nPath : List Str := ["tree", "thing", "here", "place"]
theorem scPath : FnScope nPath ["tree", "thing"] (defScope (K18.topS 36)) := ⟨rfl, rfl, rfl, by decide +kernel, rfl, by decide +kernel, by decide +kernel⟩
section
variable {P : Program} {w : World} {K : PySem.W.Frag} {mg : Str → Option Value} {base : Heap} {f f2 f3 : Addr} {fd fd2 fd3 : FuncData} {te tl ta tb : TE} {σ σ2 : L2.St} {H : Hp} {k ka kb n : Nat} {d d0 : PyData} {ds es : List PyData} {g : TG} {vs : List Nat}
theorem dp_ty {v : V} (h : Dp K H v d) : TyX K H v (.type (tyN d)) := by
  cases h with
  | non => exact .base .non
  | bl b => exact .base (.bl b)
  | int i => exact .base (.int i)
  | str x => exact .base (.str x)
  | lst h1 h2 =>
    rcases h1 with (h1 | ⟨u, h1⟩) | ⟨o, its, n, h1, h3, _⟩
    · exact .base (.lst h1)
    · exact .base (.frz h1)
    · exact .kList h1 h3
  | tup h1 h2 =>
    rcases h1 with (h1 | ⟨u, h1⟩) | ⟨o, its, n, h1, h3, _⟩
    · exact .base (.tup h1)
    · exact .fTuple h1
    · exact .kTuple h1 h3
def isIntB : PyData → Bool
  | .int _ => true
  | _ => false
def isIB : PyData → Bool
  | .int _ => true
  | .bool _ => true
  | _ => false
def isTupB : PyData → Bool
  | .tuple _ => true
  | _ => false
theorem kit_int (h : ∀ es, d ≠ .dict es) : kitB (tyN d) "int" = some (isIB d) := by
  cases d with
  | dict es => exact absurd rfl (h es)
  | none => exact (by decide +kernel : kitB "NoneType" "int" = some false)
  | bool _ => exact (by decide +kernel : kitB "bool" "int" = some true)
  | int _ => exact (by decide +kernel : kitB "int" "int" = some true)
  | str _ => exact (by decide +kernel : kitB "str" "int" = some false)
  | list _ => exact (by decide +kernel : kitB "list" "int" = some false)
  | tuple _ => exact (by decide +kernel : kitB "tuple" "int" = some false)
theorem kit_bool (h : ∀ es, d ≠ .dict es) : ∃ b, kitB (tyN d) "bool" = some b ∧ (isIB d && !b) = isIntB d := by
  cases d with
  | dict es => exact absurd rfl (h es)
  | none => exact ⟨false, (by decide +kernel : kitB "NoneType" "bool" = some false), rfl⟩
  | bool _ => exact ⟨true, (by decide +kernel : kitB "bool" "bool" = some true), rfl⟩
  | int _ => exact ⟨false, (by decide +kernel : kitB "int" "bool" = some false), rfl⟩
  | str _ => exact ⟨false, (by decide +kernel : kitB "str" "bool" = some false), rfl⟩
  | list _ => exact ⟨false, (by decide +kernel : kitB "list" "bool" = some false), rfl⟩
  | tuple _ => exact ⟨false, (by decide +kernel : kitB "tuple" "bool" = some false), rfl⟩
theorem kit_tup (h : ∀ es, d ≠ .dict es) : kitB (tyN d) "tuple" = some (isTupB d) := by
  cases d with
  | dict es => exact absurd rfl (h es)
  | none => exact (by decide +kernel : kitB "NoneType" "tuple" = some false)
  | bool _ => exact (by decide +kernel : kitB "bool" "tuple" = some false)
  | int _ => exact (by decide +kernel : kitB "int" "tuple" = some false)
  | str _ => exact (by decide +kernel : kitB "str" "tuple" = some false)
  | list _ => exact (by decide +kernel : kitB "list" "tuple" = some false)
  | tuple _ => exact (by decide +kernel : kitB "tuple" "tuple" = some true)
theorem dp_nod {v : V} (h : Dp K H v d) : ∀ es, d ≠ .dict es := fun es z => by
  subst z
  cases h
theorem rv_isTup {i : Nat} {v : V} (h : σ[i]? = some (some v)) (hv : Dp K H v d) : EvR F0 (tCB (rIsi K) (tCons (tVar i) (tCons (tC (.ty "tuple")) tNil))) σ H 0 (fun x _ => x = .bl (isTupB d)) := fun n H1 hn g e Q q =>
  ⟨v, h, v, .ty "tuple", _, _, _, rfl, .ty "tuple", dp_ty (dp_ex (F0.ex e) _ _ hv), kit_ty (kit_tup (dp_nod hv)), q _ H1 Kx.refl g rfl⟩
theorem rv_whole {i : Nat} {v : V} {E : XK} (h : σ[i]? = some (some v)) (hv : Dp K H v d) : EvR F0 (tCall (spWhole K) [] E (tCons (tVar i) tNil)) σ H 0 (fun x _ => x = .bl (isIntB d)) := fun n H1 hn g e Q q => by
  obtain ⟨b, h1, h2⟩ := kit_bool (dp_nod hv)
  exact ⟨v, h, v, tyN d, isIB d, b, rfl, dp_ty (dp_ex (F0.ex e) _ _ hv), kit_int (dp_nod hv), h1, by rw [h2]; exact q _ H1 Kx.refl g rfl⟩
theorem rv_lt {i j : Int} (ha : EvR F0 ta σ H 0 (fun x _ => x = .int i)) (hb : EvR F0 tb σ H 0 (fun x _ => x = .int j)) : EvR F0 (tOp (rI0 fun i j => .bl (decide (i < j))) ta tb) σ H 0 (fun x _ => x = .bl (decide (i < j))) :=
  rv_op (ka := 0) (kb := 0) F0.ok ha hb fun _ => rv_I0 (g := fun i j => .bl (decide (i < j)))
theorem rv_ge {i j : Int} (ha : EvR F0 ta σ H 0 (fun x _ => x = .int i)) (hb : EvR F0 tb σ H 0 (fun x _ => x = .int j)) : EvR F0 (tOp (rI0 fun i j => .bl (decide (j ≤ i))) ta tb) σ H 0 (fun x _ => x = .bl (decide (j ≤ i))) :=
  rv_op (ka := 0) (kb := 0) F0.ok ha hb fun _ => rv_I0 (g := fun i j => .bl (decide (j ≤ i)))
theorem q_forTs {i j : Nat} {a : Addr} {xs : List V} {tb tz : TS} {D : Ends} (hv : σ[i]? = some (some (.ref a))) (Pv : Nat → L2.St → Hp → Prop) (h0 : Pv 0 σ H) (hl : ∀ m σ' H', Pv m σ' H' → SqT K H' a xs)
    (hs : ∀ m x σ' H', xs[m]? = some x → Pv m σ' H' → tb { D with nx := Pv (m + 1), ct := Pv (m + 1), bk := tz D } (σ'.set j (some x)) H') (hd : ∀ σ' H', Pv xs.length σ' H' → tz D σ' H') : tSeq (tFor (iTup K (tVar i)) (gName j) tb) tz D σ H :=
  ⟨.ref a, hv, a, rfl, ⟨xs, hl 0 σ H h0⟩, for_tup Pv h0 (fun m σ' H' _ p => hl m σ' H' p) hs hd⟩
theorem rd_calls {i : Nat} {v : V} {t : T} (h : σ[i]? = some (some v)) (hv : Dp K H v (enc t)) : EvR F0 (tOp (rIxT K) (tVar i) (tC (.int 2))) σ H 0 (IsD K (.tuple (t.calls.map enc))) := by
  have f := enc_flat t
  rw [enc_eq] at hv f
  exact rd_ix (ka := 0) (kb := 0) F0.ok (rd_var0 h hv) rv_c 2 rfl rfl f
def spPath (K : PySem.W.Frag) : Sp := spD K fun ds d' => ∃ (t : T) (d : PyData), size t ≤ 6 ∧ ds = [enc t, d] ∧ d' = .bool (pathB t d)
theorem ok_path (F : Fun K "is_path" "is_path" (K18.topS 36) f fd) (cI : C8.Cal P w K mg base 2 "is_integer" (spWhole K) []) (mI : mg "isinstance" = none) (mt : mg "tuple" = none) (ml : mg "len" = none) : FnOk P w K mg base CX0 3 f fd ["tree", "thing"] (spPath K) := by
  refine F.ok scPath (fun vs H Q E h => ?_) (fun cdv A outer s H vs Q E hr h => ?_)
  · obtain ⟨ds, es, hd, ⟨t, d, _, rfl, _⟩, _⟩ := h
    exact dps_len hd
  · obtain ⟨ds, es, hd, ⟨t, d, hs, rfl, rfl⟩, q⟩ := h
    obtain ⟨v1, vs, rfl, p1, hd⟩ := dps_uncons hd
    obtain ⟨v2, vs, rfl, p2, hd⟩ := dps_uncons hd
    obtain rfl := dps_none hd
    refine ⟨_, pss_cons (ps_if (pt_not (pt_val (pe_callB call_isi (by rfl) mI (by decide +kernel) (pa_cons (pv 1) (pa_cons (pe_bltn (v := .ty "tuple") (by rfl) mt (by decide +kernel) rfl) pa_nil))))) (pss_one (ps_ret pe_bl)) pss_nil)
      (pss_cons (ps_set (i := 2) scPath.nd rfl (.inl rfl) (pv 0))
      (pss_cons (ps_for PassesOwn.never rfl (pi_tup (pv 1)) (pg_name (i := 3) scPath.nd rfl (.inl rfl))
        (pss_cons (ps_if (PW.pt (pw_or (pt_not (pt_val (C8.pe_c cI hr (by decide) (by rfl) (pa_cons (pv 3) pa_nil)))) (pw_or (pt_cmpR op_lt (pv 3) pe_int (nomark _)) (pw_or1 (pt_cmpR op_ge (pv 3) (pe_callB (r := rLenS K) call_lenS (by rfl) ml PySem.boot_len (pa_cons (pe_ix ix_tup (pv 2) pe_int (fun _ _ => rfl)) pa_nil)) (nomark _)))))) (pss_one (ps_ret pe_bl)) pss_nil)
        (pss_one (ps_set (i := 2) scPath.nd rfl (.inl rfl) (pe_ix ix_tup (pe_ix ix_tup (pv 2) pe_int (fun _ _ => rfl)) (pv 3) (fun _ _ => rfl))))))
      (pss_one (ps_ret pe_bl)))), ?_⟩
    refine q_whenR (F := F0) (n := 0) (k := 0) (b := !isTupB d) (rt_not (rt_val (rv_isTup (σ := [some v1, some v2, none, none]) rfl p2))) F0.g (Nat.le_refl _) (fun hb H1 e1 _ => ?_) fun hb H1 e1 _ => ?_
    · replace e1 := F0.ex e1
      have : pathB t d = false := by cases d <;> first | rfl | (exact absurd hb (by simp [isTupB]))
      refine q _ H1 e1 ?_
      rw [this]
      exact .bl false
    replace e1 := F0.ex e1
    obtain ⟨ps, rfl⟩ : ∃ ps, d = .tuple ps := by cases d <;> first | exact ⟨_, rfl⟩ | (exact absurd hb (by simp [isTupB]))
    have q1 := dp_ex e1 _ _ p1
    have q2 := dp_ex e1 _ _ p2
    cases q2 with
    | @tup a xs _ ha hx =>
    refine q_asgR (F := F0) (n := 0) (k := 0) (P := IsD K (enc t)) (rd_var0 (σ := [some v1, some (.ref a), none, none]) rfl q1) F0.g (Nat.le_refl _) fun vh H2 e2 _ ph => ?_
    replace e2 := F0.ex e2
    have lx := dps_len hx
    refine q_forTs (K := K) (a := a) (xs := xs) rfl (fun m σ' H' => ∃ vh u t', σ' = [some v1, some (.ref a), some vh, u] ∧ Ex H2 H' ∧ Dp K H' vh (enc t') ∧ walkB t ps = walkB t' (ps.drop m)) ⟨vh, none, t, rfl, Ex.refl _, ph, by rw [List.drop_zero]⟩ (fun m σ' H' ⟨vh, u, t', es, e, _⟩ => ex_t (e2.trans e) ha) (fun m x σ' H' hxm ⟨vh, u, t', es, e, ph, hw⟩ => ?_) fun σ' H' ⟨vh, u, t', es, e, ph, hw⟩ => ?_
    · subst es
      have hm : m < ps.length := by
        have := (List.getElem?_eq_some_iff.mp hxm).1
        omega
      have hd' : ps.drop m = ps[m] :: ps.drop (m + 1) := List.drop_eq_getElem_cons hm
      have dx : Dp K H' x ps[m] := by
        obtain ⟨u', hu, du'⟩ := dps_get (dps_ex (e2.trans e) _ _ hx) (List.getElem?_eq_getElem hm)
        rw [hxm] at hu
        cases hu
        exact du'
      generalize ps[m] = dp at hd' dx
      rw [hd'] at hw
      have no : ∀ {b : Bool}, b = false → pathB t (.tuple ps) = b → ∀ H3, Ex H' H3 → Q (.bl false) H3 := fun hb hp H3 e3 => q _ H3 ((e1.trans (e2.trans e)).trans e3) (by rw [hp, hb]; exact .bl false)
      by_cases hi : isIntB dp = true
      · obtain ⟨i, rfl⟩ : ∃ i, dp = .int i := by cases dp <;> first | exact ⟨_, rfl⟩ | (exact absurd hi (by simp [isIntB]))
        cases dx
        have lenC : ∀ H3, Ex H' H3 → EvR F0 (tCB (rLenS K) (tCons (tOp (rIxT K) (tVar 2) (tC (.int 2))) tNil)) [some v1, some (.ref a), some vh, some (.int i)] H3 0 (fun x _ => x = .int (t'.calls.length : Int)) := fun H3 e3 => (rv_lenT (rd_calls (i := 2) rfl (dp_ex e3 _ _ ph))).imp fun _ v _ _ _ ev => by rw [ev, List.length_map]
        refine q_whenR (F := F0) (n := 0) (k := 0 + (0 + 0)) (b := !true || (decide (i < 0) || decide ((t'.calls.length : Int) ≤ i))) (rt_or F0.ok (rt_not (rt_val (rv_whole (σ := [some v1, some (.ref a), some vh, some (.int i)]) (d := .int i) rfl (.int i)))) fun _ => rt_or F0.ok (rt_B (rv_lt (rv_var rfl) rv_c)) fun _ => rt_B (rv_ge (rv_var rfl) (lenC _ (Ex.refl _)))) F0.g (Nat.le_refl _) (fun hb H3 e3 _ => ?_) fun hb H3 e3 _ => ?_
        · replace e3 := F0.ex e3
          refine no (b := false) rfl ?_ H3 e3
          show walkB t ps = false
          rw [hw, walkB]
          split
          · rw [List.getElem?_eq_none (by simp at hb; omega)]
          · rfl
        · replace e3 := F0.ex e3
          have h0 : 0 ≤ i ∧ i < (t'.calls.length : Int) := by simp at hb; omega
          have hn : i.toNat < t'.calls.length := by omega
          have hc := List.getElem?_eq_getElem hn
          refine s_asgR (F := F0) (n := 0) (k := 0 + 0) (P := IsD K (enc t'.calls[i.toNat])) (rd_ix (ka := 0) (kb := 0) (i := i) F0.ok (rd_calls (i := 2) rfl (dp_ex e3 _ _ ph)) (rv_var rfl) i.toNat (by rw [List.length_map]; unfold ixN; rw [if_pos h0.1, if_pos h0.2]) (by rw [List.getElem?_map, hc]; rfl) (by rw [flat_tup]; exact maps_flat _)) F0.g (Nat.le_refl _) fun v H4 e4 _ hv => ⟨v, some (.int i), _, rfl, e.trans (e3.trans (F0.ex e4)), hv, ?_⟩
          rw [hw, walkB, if_pos h0.1, hc]
      · have hi' : isIntB dp = false := Bool.eq_false_iff.mpr hi
        refine q_whenR (F := F0) (n := 0) (k := 0 + 0) (b := !false || false) (rt_or F0.ok (rt_not (rt_val ((rv_whole (σ := [some v1, some (.ref a), some vh, some x]) rfl dx).imp fun _ v _ _ _ ev => by rw [ev, hi']))) fun z => by cases z) F0.g (Nat.le_refl _) (fun hb H3 e3 _ => ?_) fun z => by cases z
        refine no (b := false) rfl ?_ H3 (F0.ex e3)
        show walkB t ps = false
        rw [hw]
        cases dp <;> first | rfl | (exact absurd hi' (by simp [isIntB]))
    · subst es
      refine q _ H' (e1.trans (e2.trans e)) ?_
      rw [lx, List.drop_length] at hw
      rw [show pathB t (.tuple ps) = true from hw]
      exact .bl true
end
end K17
/-! ### is_ascending, is_kept -/
namespace K17
open PySem PySem.Spec PyProof.Rows L2 Evl Fx Fr Dt Tr K18 So
def intsP (p : List Nat) : List Int := p.map fun (i : Nat) => (i : Int)
def pathLt (p q : List Nat) : Bool := HT.lexLt (intsP p) (intsP q)
/-- each less than the next -/
def ascB (ks : List (List Nat)) : Bool := (List.range (ks.length - 1)).all fun i => pathLt (ks.getD i []) (ks.getD (i + 1) [])
theorem all_range (m : Nat) (b : Nat → Bool) : ((List.range m).map b).all id = (List.range m).all b := by rw [List.all_map]; rfl
section
variable {P : Program} {w : World} {K : PySem.W.Frag} {mg : Str → Option Value} {base : Heap} {f f2 f3 : Addr} {fd fd2 fd3 : FuncData} {te tl ta tb : TE} {σ σ2 : L2.St} {H : Hp} {k ka kb n : Nat} {d d0 : PyData} {ds es : List PyData} {g : TG} {vs : List Nat}
/-- a list of truth values, out of a tuple -/
theorem r_lcB {i j : Nat} {a : Addr} {xs : List V} (b : Nat → Bool) (hv : σ[i]? = some (some (.ref a))) (hT : SqT K H a xs) (hz : xs.length ≤ 1000) (hw : ∀ x : V, wipe ((wipe σ vs).set j (some x)) vs = wipe σ vs)
    (ht : ∀ n x H', xs[n]? = some x → Ex H H' → EvR F0 te ((wipe σ vs).set j (some x)) H' 0 (fun v _ => v = .bl (b n))) : EvR F0 (tLc (iTup K (tVar i)) (gName j) tYes te vs) σ H 0 (fun v H' => ∃ D, v = .ref D ∧ H' D = some (.lst (((List.range xs.length).map b).map V.bl))) := fun n H1 hn g e Q q => by
  replace e := F0.ex e
  have hT1 := ex_t e hT
  refine ⟨.ref a, hv, a, rfl, ⟨xs, hT1⟩, fun D hD => ?_⟩
  have e0 := Ex.new (o := HO.lst []) hD
  refine lc_tup (xs := xs) (fun n H' => Ex H1 H' ∧ H' D = some (.lst (((List.range n).map b).map V.bl))) ⟨e0, upd_same⟩ (fun n H' _ p => ex_t p.1 hT1) (fun n x H' hx ⟨p, hDD⟩ => ?_) fun H' ⟨p, hDD⟩ => q _ H' (Kx.ex p) g ⟨D, rfl, hDD⟩
  have hn' : n < xs.length := (List.getElem?_eq_some_iff.mp hx).1
  refine ⟨hw x, ht n x H' hx (e.trans p) 0 H' (Nat.le_refl _) F0.g Kx.refl _ fun v H2 e2 _ ev => ⟨_, F0.ex e2 _ _ hDD, sz_lt (by rw [List.length_map, List.length_map, List.length_range]; omega), (p.trans (F0.ex e2)).mut hD, ?_⟩⟩
  subst ev
  rw [upd_same, List.range_succ, List.map_append, List.map_append]
  rfl
/-- .. out of range(1, m + 1) -/
theorem r_lcB2 {j m : Nat} {tr : TA} (b : Nat → Bool) (hr : EvRA F0 tr σ H 0 (fun us _ => us = [.int 1, .int (m : Int)])) (hz : m ≤ 1000) (hw : ∀ x : V, wipe ((wipe σ vs).set j (some x)) vs = wipe σ vs)
    (ht : ∀ n H', n < m - 1 → Ex H H' → EvR F0 te ((wipe σ vs).set j (some (.int (1 + (n : Int))))) H' 0 (fun v _ => v = .bl (b n))) : EvR F0 (tLc (iRng2 tr) (gName j) tYes te vs) σ H 0 (fun v H' => ∃ D, v = .ref D ∧ H' D = some (.lst (((List.range (m - 1)).map b).map V.bl))) := fun n H1 hn g e Q q => hr n H1 hn g e _ fun us H2 e2 _ eu => by
  subst eu
  replace e := (F0.ex e).trans (F0.ex e2)
  have hm : ((m : Int) - 1).toNat = m - 1 := by omega
  refine ⟨1, m, rfl, ⟨by omega, by omega, by omega, by omega⟩, fun D hD => ?_⟩
  rw [hm]
  have e0 := Ex.new (o := HO.lst []) hD
  refine lc_range (lo := 1) (n := m - 1) (fun n H' => Ex H2 H' ∧ H' D = some (.lst (((List.range n).map b).map V.bl))) ⟨e0, upd_same⟩ (fun n H' hn' ⟨p, hDD⟩ => ?_) fun H' ⟨p, hDD⟩ => q _ H' (e2.trans (Kx.ex p)) g ⟨D, rfl, hDD⟩
  refine ⟨hw _, ht n H' hn' (e.trans p) 0 H' (Nat.le_refl _) F0.g Kx.refl _ fun v H3 e3 _ ev => ⟨_, F0.ex e3 _ _ hDD, sz_lt (by rw [List.length_map, List.length_map, List.length_range]; omega), (p.trans (F0.ex e3)).mut hD, ?_⟩⟩
  subst ev
  rw [upd_same, List.range_succ, List.map_append, List.map_append]
  rfl
theorem rv_all {bs : List Bool} (h : EvR F0 te σ H 0 (fun v H' => ∃ D, v = .ref D ∧ H' D = some (.lst (bs.map V.bl)))) : EvR F0 (tCB (rAll K) (tCons te tNil)) σ H 0 (fun x _ => x = .bl (bs.all id)) := fun n H1 hn g e Q q =>
  h n H1 hn g e _ fun v H2 e2 _ ⟨D, ev, hD⟩ => ⟨D, bs, by rw [ev], sq_of hD, q _ H2 e2 g rfl⟩
theorem dp_path {v : V} {p : List Nat} (h : Dp K H v (pathD p)) : ∃ a, v = .ref a ∧ SqT K H a ((intsP p).map V.int) := by
  cases h with
  | @tup a xs _ ha hx =>
    refine ⟨a, rfl, ?_⟩
    have : xs = (intsP p).map V.int := by
      have e : (p.map fun (i : Nat) => PyData.int (i : Int)) = (intsP p).map PyData.int := by unfold intsP; rw [List.map_map]; rfl
      rw [e] at hx
      exact dps_ints hx
    rw [← this]
    exact ha
theorem rv_ltP {p q : List Nat} (ha : EvR F0 ta σ H 0 (IsD K (pathD p))) (hb : EvR F0 tb σ H 0 (IsD K (pathD q))) : EvR F0 (tOp (rLtT K) ta tb) σ H 0 (fun x _ => x = .bl (pathLt p q)) := fun n H1 hn g e Q q' =>
  ha n H1 hn g e _ fun x H2 e2 g2 px => hb n H2 hn F0.g (e.trans e2) _ fun y H3 e3 g3 py => by
    obtain ⟨a, rfl, sa⟩ := dp_path (dp_ex (F0.ex e3) _ _ px)
    obtain ⟨b, rfl, sb⟩ := dp_path py
    exact ⟨a, b, _, _, rfl, rfl, sa, sb, q' _ H3 (e2.trans e3) F0.g rfl⟩
def nAsc : List Str := ["things", "k"]
theorem scAsc : FnScope nAsc ["things"] (defScope (K18.topS 11)) := ⟨rfl, rfl, rfl, by decide +kernel, rfl, by decide +kernel, by decide +kernel⟩
def spAsc (K : PySem.W.Frag) : Sp := spD K fun ds d' => ∃ ks : List (List Nat), ks.length ≤ 100 ∧ ds = [.tuple (ks.map pathD)] ∧ d' = .bool (ascB ks)
theorem ok_asc (F : Fun K "is_ascending" "is_ascending" (K18.topS 11) f fd) (m_all : mg "all" = none) (m_range : mg "range" = none) (ml : mg "len" = none) : FnOk P w K mg base CX0 1 f fd ["things"] (spAsc K) := by
  refine F.ok scAsc (fun vs H Q E h => ?_) (fun cdv A outer s H vs Q E hr h => ?_)
  · obtain ⟨ds, es, hd, ⟨ks, _, rfl, _⟩, _⟩ := h
    exact dps_len hd
  · obtain ⟨ds, es, hd, ⟨ks, hk, rfl, rfl⟩, q⟩ := h
    obtain ⟨v1, vs, rfl, p1, hd⟩ := dps_uncons hd
    obtain rfl := dps_none hd
    refine ⟨_, pss_one (ps_ret (pe_callB (r := rAll K) (cr_all rfl) (by rfl) m_all (by decide +kernel) (pa_cons (pe_lc (own := [("k", 1)]) (g := gName 1) (by rfl) scAsc.nd (pi_range2 (by rfl) m_range (pa_cons pe_int (pa_cons (pe_callB (r := rLenS K) call_lenS (by rfl) ml PySem.boot_len (pa_cons (pv 0) pa_nil)) pa_nil))) (blkOk_by (own := [("k", 1)]) (N := nAsc) (sc := defScope (K18.topS 11)) (by decide +kernel))
      (fun _ _ _ _ _ => pg_name (i := 1) scAsc.nd rfl (.inl rfl)) (fun _ _ _ _ _ => pts_nil)
      (te := tOp (rLtT K) (tOp (rIxT K) (tVar 0) (tOp (rI0 fun i j => .int (i - j)) (tVar 1) (tC (.int 1)))) (tOp (rIxT K) (tVar 0) (tVar 1)))
      (fun _ _ _ _ _ => pe_cmpR (op_ltT (by have := hr.units; show _ < _; exact Nat.lt_of_le_of_lt (Nat.le_add_right _ 64) this)) (pe_ix ix_tup (pv 0) (pe_op op_sub (pv 1) pe_int) (fun _ _ => rfl)) (pe_ix ix_tup (pv 0) (pv 1) (fun _ _ => rfl)) (nomark _))) pa_nil))), ?_⟩
    have lenR : EvR F0 (tCB (rLenS K) (tCons (tVar 0) tNil)) [some v1, none] H 0 (fun x _ => x = .int (ks.length : Int)) := (rv_lenT (rd_var0 rfl p1)).imp fun _ v _ _ _ ev => by rw [ev, List.length_map]
    refine s_retR (F := F0) (n := 0) (k := 0) (P := fun v _ => v = .bl (ascB ks)) ?_ F0.g (Nat.le_refl _) fun v H1 e _ ev => q v H1 (F0.ex e) (by rw [ev]; exact .bl _)
    have fl : flat (.tuple (ks.map pathD)) = true := by rw [flat_tup]; exact paths_flat _
    refine (rv_all (bs := (List.range (ks.length - 1)).map fun i => pathLt (ks.getD i []) (ks.getD (i + 1) [])) (r_lcB2 (vs := [1]) (j := 1) (m := ks.length) _ (ra_consV (ka := 0) (kb := 0) rv_c (ra_consV (ka := 0) (kb := 0) lenR ra_nilV)) (by omega) (fun _ => rfl) (fun n H' hn e => ?_))).imp fun _ v _ _ _ ev => by rw [ev, all_range]; rfl
    have h1 : n < ks.length := by omega
    have h2 : n + 1 < ks.length := by omega
    have d1 : ks.getD n [] = ks[n] := by rw [List.getD_eq_getElem?_getD, List.getElem?_eq_getElem h1]; rfl
    have d2 : ks.getD (n + 1) [] = ks[n + 1] := by rw [List.getD_eq_getElem?_getD, List.getElem?_eq_getElem h2]; rfl
    rw [d1, d2]
    have var : EvR F0 (tVar 0) [some v1, some (.int (1 + (n : Int)))] H' 0 (IsD K (.tuple (ks.map pathD))) := rd_var0 rfl (dp_ex e _ _ p1)
    have ix : ∀ {m : Nat} {i : Int}, m < ks.length → i = (m : Int) → ixN (ks.map pathD).length i = some m := fun {m i} hm hi => by
      subst hi
      rw [List.length_map]
      unfold ixN
      rw [if_pos (by omega), if_pos (by omega)]
      rfl
    exact rv_ltP (rd_ix (ka := 0) (kb := 0) (i := 1 + (n : Int) - 1) F0.ok var (rv_sub (rv_var rfl) rv_c) n (ix h1 (by omega)) (by rw [List.getElem?_map, List.getElem?_eq_getElem h1]; rfl) fl)
      (rd_ix (ka := 0) (kb := 0) (i := 1 + (n : Int)) F0.ok var (rv_var rfl) (n + 1) (ix h2 (by omega)) (by rw [List.getElem?_map, List.getElem?_eq_getElem h2]; rfl) fl)
end
end K17
/-! ### is_kept -/
namespace K17
open PySem PySem.Spec PyProof.Rows L2 Evl Fx Fr Dt Tr K18 So
def natOf : PyData → Nat
  | .int i => i.toNat
  | _ => 0
def natsOf : PyData → List Nat
  | .tuple ps => ps.map natOf
  | _ => []
def keptB (t : T) : PyData → Bool
  | .tuple ps => ps.all (pathB t) && ascB (ps.map natsOf)
  | _ => false
theorem walk_nats : ∀ {t : T} {ps : List PyData}, walkB t ps = true → ps = (ps.map natOf).map fun (i : Nat) => PyData.int (i : Int)
  | _, [], _ => rfl
  | t, p :: ps, h => by
    cases p with
    | int i =>
      rw [walkB] at h
      split at h
      · rename_i h0
        split at h
        · have := walk_nats h
          rw [List.map_cons, List.map_cons, ← this]
          congr 2
          show i = ((i.toNat : Nat) : Int)
          omega
        · cases h
      · cases h
    | _ => exact absurd h (by simp [walkB])
theorem path_nats {t : T} {d : PyData} (h : pathB t d = true) : d = pathD (natsOf d) := by
  cases d with
  | tuple ps =>
    show PyData.tuple ps = .tuple _
    rw [natsOf]
    exact congrArg PyData.tuple (walk_nats h)
  | _ => exact absurd h (by simp [pathB])
theorem all_nats {t : T} : ∀ {ps : List PyData}, ps.all (pathB t) = true → ps = (ps.map natsOf).map pathD
  | [], _ => rfl
  | p :: ps, h => by
    rw [List.all_cons, Bool.and_eq_true] at h
    rw [List.map_cons, List.map_cons, ← path_nats h.1, ← all_nats h.2]
def nKept : List Str := ["tree", "thing", "path"]
theorem scKeptQ : FnScope nKept ["tree", "thing"] (defScope (K18.topS 39)) := ⟨rfl, rfl, rfl, by decide +kernel, rfl, by decide +kernel, by decide +kernel⟩
section
variable {P : Program} {w : World} {K : PySem.W.Frag} {mg : Str → Option Value} {base : Heap} {f f2 f3 : Addr} {fd fd2 fd3 : FuncData} {te tl ta tb : TE} {σ σ2 : L2.St} {H : Hp} {k ka kb n : Nat} {d d0 : PyData} {ds es : List PyData} {g : TG} {vs : List Nat}
def spKeptQ (K : PySem.W.Frag) : Sp := spD K fun ds d' => ∃ (t : T) (d : PyData), size t ≤ 6 ∧ (∀ ps, d = .tuple ps → ps.length ≤ 100) ∧ ds = [enc t, d] ∧ d' = .bool (keptB t d)
theorem ok_keptQ (F : Fun K "is_kept" "is_kept" (K18.topS 39) f fd) (cP : C8.Cal P w K mg base 3 "is_path" (spPath K) []) (cA : C8.Cal P w K mg base 1 "is_ascending" (spAsc K) []) (mI : mg "isinstance" = none) (mt : mg "tuple" = none) (m_all : mg "all" = none) : FnOk P w K mg base CX0 4 f fd ["tree", "thing"] (spKeptQ K) := by
  refine F.ok scKeptQ (fun vs H Q E h => ?_) (fun cdv A outer s H vs Q E hr h => ?_)
  · obtain ⟨ds, es, hd, ⟨t, d, _, _, rfl, _⟩, _⟩ := h
    exact dps_len hd
  · obtain ⟨ds, es, hd, ⟨t, d, hs, hn, rfl, rfl⟩, q⟩ := h
    obtain ⟨v1, vs, rfl, p1, hd⟩ := dps_uncons hd
    obtain ⟨v2, vs, rfl, p2, hd⟩ := dps_uncons hd
    obtain rfl := dps_none hd
    refine ⟨_, pss_cons (ps_if (pt_not (pt_val (pe_callB call_isi (by rfl) mI (by decide +kernel) (pa_cons (pv 1) (pa_cons (pe_bltn (v := .ty "tuple") (by rfl) mt (by decide +kernel) rfl) pa_nil))))) (pss_one (ps_ret pe_bl)) pss_nil)
      (pss_one (ps_ret (pe_and (pe_callB (r := rAll K) (cr_all rfl) (by rfl) m_all (by decide +kernel) (pa_cons (pe_lc (own := [("path", 2)]) (g := gName 2) (by rfl) scKeptQ.nd (pi_tup (pv 1)) (blkOk_by (own := [("path", 2)]) (N := nKept) (sc := defScope (K18.topS 39)) (by decide +kernel)) (fun _ _ _ _ _ => pg_name (i := 2) scKeptQ.nd rfl (.inl rfl)) (fun _ _ _ _ _ => pts_nil)
        (fun _ _ _ _ _ => C8.pe_c cP hr (by decide) (by rfl) (pa_cons (pv 0) (pa_cons (pv 2) pa_nil)))) pa_nil)) (pe_one (C8.pe_c cA hr (by decide) (by rfl) (pa_cons (pv 1) pa_nil)))))), ?_⟩
    refine q_whenR (F := F0) (n := 0) (k := 0) (b := !isTupB d) (rt_not (rt_val (rv_isTup (σ := [some v1, some v2, none]) rfl p2))) F0.g (Nat.le_refl _) (fun hb H1 e1 _ => ?_) fun hb H1 e1 _ => ?_
    · have : keptB t d = false := by cases d <;> first | rfl | (exact absurd hb (by simp [isTupB]))
      refine q _ H1 (F0.ex e1) ?_
      rw [this]
      exact .bl false
    replace e1 := F0.ex e1
    obtain ⟨ps, rfl⟩ : ∃ ps, d = .tuple ps := by cases d <;> first | exact ⟨_, rfl⟩ | (exact absurd hb (by simp [isTupB]))
    have q1 := dp_ex e1 _ _ p1
    have q2 := dp_ex e1 _ _ p2
    have hl := hn ps rfl
    have q3 := q2
    cases q2 with
    | @tup a xs _ ha hx =>
    have lx := dps_len hx
    have first : EvR F0 (tCB (rAll K) (tCons (tLc (iTup K (tVar 1)) (gName 2) tYes (tCall (spPath K) [] C8.E0 (tCons (tVar 0) (tCons (tVar 2) tNil))) [2]) tNil)) [some v1, some (.ref a), none] H1 0 (fun x _ => x = .bl (ps.all (pathB t))) := by
      refine (rv_all (bs := (List.range xs.length).map fun n => pathB t (ps.getD n .none)) (r_lcB (i := 1) (j := 2) (vs := [2]) _ rfl ha (by omega) (fun _ => rfl) fun n x H' hx' e => ?_)).imp fun _ v _ _ _ ev => ?_
      · have hn' : n < ps.length := by
          have := (List.getElem?_eq_some_iff.mp hx').1
          omega
        have dx : Dp K H' x ps[n] := by
          obtain ⟨u', hu, du'⟩ := dps_get (dps_ex e _ _ hx) (List.getElem?_eq_getElem hn')
          rw [hx'] at hu
          cases hu
          exact du'
        have eg : ps.getD n .none = ps[n] := by rw [List.getD_eq_getElem?_getD, List.getElem?_eq_getElem hn']; rfl
        rw [eg]
        exact rv_bl (K := K) (rd_call F0.ok (ra_cons0 (rd_var0 (σ := [some v1, some (.ref a), some x]) rfl (dp_ex e _ _ q1)) (ra_one (rd_var0 rfl dx))) ⟨t, ps[n], hs, rfl, rfl⟩)
      · rw [ev, lx]
        have : (List.range ps.length).map (fun n => pathB t (ps.getD n .none)) = ps.map (pathB t) := by
          have h := range_getD PyData.none ps
          conv => rhs; rw [← h]
          rw [List.map_map]
          rfl
        rw [this, List.all_map]
        rfl
    refine s_retR (F := F0) (n := 0) (k := 0 + 0) (P := fun v _ => v = .bl (keptB t (.tuple ps))) (rb_and (F := F0) (ka := 0) (kb := 0) F0.ok first fun ht => ?_) F0.g (Nat.le_refl _) fun v H2 e2 _ ev => q v H2 (e1.trans (F0.ex e2)) (by rw [ev]; exact .bl _)
    rw [all_nats ht] at q3
    exact rv_bl (K := K) (rd_call F0.ok (ra_one (rd_var0 rfl q3)) ⟨ps.map natsOf, by rw [List.length_map]; exact hl, rfl, rfl⟩)
end
end K17
/-! ### NotUsable; sight_of -/
namespace L2
open PySem PySem.Spec PyProof.Rows
/-- x in t, t a tuple of data -/
def rInDT (K : PySem.W.Frag) : R2 := fun x y H Q => ∃ d ds, Dp K H x d ∧ Dp K H y (.tuple ds) ∧ SeqAt.shaped d = true ∧ SeqAt.shaped (.tuple ds) = true ∧ Q (.bl (ds.any fun z => PyData.eqv z d)) H
theorem op_inDT {X : Cx} (hu : X.A.units + 65 < cLine) : OpR X (compareOp .In) (rInDT X.K) := by
  intro pins s σ H x y v u Q I rx ry h
  obtain ⟨d, ds, hd, he, sd, se, q⟩ := h
  obtain ⟨as, r1⟩ := Dp.reads I d x v hd rx
  obtain ⟨bs, r2⟩ := Dp.reads I (.tuple ds) y u he ry
  exact SeqAt.in_tuple_reads r2 r1 (SeqAt.canLay_of_shaped se) (SeqAt.canLay_of_shaped sd) (room_in_shaped sd hu) ⟨.bl _, H, I, rfl, q⟩
end L2
namespace K17
open PySem PySem.Spec PyProof.Rows L2 Evl Fx Fr Dt Tr K18 So
def bodyOf : Stmt → List Stmt
  | .ClassDef _ _ _ b _ _ _ _ _ _ _ => b
  | _ => []
/-- NotUsable.__init__ -/
def initS : Stmt := (bodyOf (K18.topS 8)).getD 0 (.Pass ⟨0, 0, 0, 0⟩)
theorem scInit : FnScope ["self", "word", "at"] ["self", "word", "at"] (defScope initS) := ⟨rfl, rfl, rfl, by decide +kernel, rfl, by decide +kernel, by decide +kernel⟩
def nSight : List Str := ["tree", "kept", "chances", "path", "_"]
theorem scSight : FnScope nSight ["tree", "kept"] (defScope (K18.topS 38)) := ⟨rfl, rfl, rfl, by decide +kernel, rfl, by decide +kernel, by decide +kernel⟩
section
variable {P : Program} {w : World} {K : PySem.W.Frag} {mg : Str → Option Value} {base : Heap} {f f2 f3 : Addr} {fd fd2 fd3 : FuncData} {te tl ta tb : TE} {σ σ2 : L2.St} {H : Hp} {k ka kb n : Nat} {d d0 : PyData} {ds es : List PyData} {g : TG} {vs : List Nat} {C : Addr}
def spInit (C : Addr) : Sp := fun vs H Q _ => ∃ (a : Addr) (w1 w2 : V), vs = [.ref a, w1, w2] ∧ H a = some (exo a C none) ∧ ∀ dx, H dx = none → dx ≠ a → Q .non (upd (upd (upd H dx (exd dx [("word", w1)])) a (exo a C (some dx))) dx (exd dx [("at", w2), ("word", w1)]))
theorem ok_init (F : Fun K "__init__" "NotUsable.__init__" initS f fd) (T : OexC K C) (w0 : PySem.W.findIn K (.ref C) "word" = some none) (a0 : PySem.W.findIn K (.ref C) "at" = some none) : FnOk P w K mg base (L2.CX P w) 1 f fd ["self", "word", "at"] (spInit C) := by
  refine F.okX scInit (fun vs H Q E h => ?_) (fun cdv A outer s H vs Q E hr h => ?_)
  · obtain ⟨a, w1, w2, rfl, _⟩ := h
    rfl
  · obtain ⟨a, w1, w2, rfl, hA, q⟩ := h
    refine ⟨_, pss_cons (ps_ost (pv 0) (pv 1)) (pss_one (ps_ost (pv 0) (pv 2))), ?_⟩
    refine ⟨w1, rfl, .ref a, rfl, a, C, rfl, T, w0, .inl ⟨hA, fun dx hdx hne => ?_⟩⟩
    refine ⟨w2, rfl, .ref a, rfl, a, C, rfl, T, a0, .inr ⟨dx, [("word", w1)], upd_same, ?_, (by show 1 ≤ 900; decide), q dx hdx hne⟩⟩
    rw [upd_ne hne]
    exact upd_same
theorem rd_ixT0 {i : Int} (ha : EvR F0 ta σ H 0 (IsD K (.tuple ds))) (hb : EvR F0 tb σ H 0 (fun x _ => x = .int i)) (j : Nat) (hj : ixN ds.length i = some j) (hd : ds[j]? = some d) : EvR F0 (tOp (rIxT K) ta tb) σ H 0 (IsD K d) := fun n H1 hn g e Q q =>
  ha n H1 hn g e _ fun x H2 e2 g2 p => hb n H2 hn F0.g (e.trans e2) _ fun y H3 e3 g3 ey => by
    subst ey
    cases p with
    | @tup a xs _ ha hx =>
    obtain ⟨u, hu, du⟩ := dps_get hx hd
    exact ⟨a, xs, i, u, rfl, rfl, ex_t (F0.ex e3) ha, by unfold atI; rw [dps_len hx, hj]; exact hu, q u H3 (e2.trans e3) F0.g (dp_ex (F0.ex e3) _ _ du)⟩
theorem sh_pathsT (ks : List (List Nat)) : SeqAt.shaped (.tuple (ks.map pathD)) = true := by
  have h := sh_paths ks
  simp only [SeqAt.shaped, PyData.canLay0, PyData.depth] at h ⊢
  exact h
theorem any_paths (ks : List (List Nat)) (p : List Nat) : ((ks.map pathD).any fun z => PyData.eqv z (pathD p)) = ks.any fun z => z == p := by
  rw [List.any_map]
  congr 1
  funext z
  exact path_eqv z p
theorem rv_inDT {p : List Nat} {ks : List (List Nat)} (ha : EvR F0 ta σ H 0 (IsD K (pathD p))) (hb : EvR F0 tb σ H 0 (IsD K (.tuple (ks.map pathD)))) : EvR F0 (tOp (rInDT K) ta tb) σ H 0 (fun x _ => x = .bl (ks.any fun z => z == p)) := fun n H1 hn g e Q q =>
  ha n H1 hn g e _ fun x H2 e2 g2 px => hb n H2 hn F0.g (e.trans e2) _ fun y H3 e3 g3 py => ⟨pathD p, _, dp_ex (F0.ex e3) _ _ px, py, sh_path p, sh_pathsT ks, by rw [any_paths]; exact q _ H3 (e2.trans e3) F0.g rfl⟩
def flagOf (ks : List (List Nat)) (p : List Nat) : Bool := ks.any fun z => z == p
def flagsOf (t : T) (ks : List (List Nat)) : List Bool := (placed [] t).map fun x => flagOf ks x.1
/-- the sight of kept paths -/
def sightOf (t : T) (ks : List (List Nat)) : List Pc := withP "top" (resT t (flagsOf t ks)).1 (resT t (flagsOf t ks)).2
def spSight (K : PySem.W.Frag) (C : Addr) : Sp := fun vs H Q E => ∃ (v1 v2 : V) (t : T) (d : PyData), vs = [v1, v2] ∧ size t ≤ 6 ∧ (∀ ps, d = .tuple ps → ps.length ≤ 100) ∧ Dp K H v1 (enc t) ∧ Dp K H v2 d ∧
  (keptB t d = true → ∀ ps, d = .tuple ps → ∀ v H', Ex H H' → Dp K H' v (.tuple ((sightOf t (ps.map natsOf)).map Pc.D)) → Q v H') ∧
  (keptB t d = false → ∀ H' dd fs, Ex H H' → H' dd = some (.xd fs) → fs.lookup ("word" : Str) = some (.str "kept") → fs.lookup ("at" : Str) = some (.int (-1)) → E (.ref C) (some dd) H')
theorem ok_sight {f1 : Addr} {fd1 : FuncData} (F : Fun K "sight_of" "sight_of" (K18.topS 38) f fd) (cQ : C8.Cal P w K mg base 4 "is_kept" (spKeptQ K) []) (cP : C8.Cal P w K mg base 1 "placed_subtrees" (spPlaced K) []) (cT : C8.Cal P w K mg base 5 "tree_outcomes" (spTO K) []) (cC : C8.Cal P w K mg base 2 "closed" (spClosed K) []) (cA : C8.Cal P w K mg base 1 "as_sights" (spAsS K) [])
    (W1 : Wr K mg "ONE" (frD 1)) (W0 : Wr K mg "ZERO" (frD 0)) (T : OexC K C) (gC : mg "NotUsable" = some (.ref C)) (iC : PySem.W.findIn K (.ref C) "__init__" = some (some (.ref f1))) (tI : PySem.W.typeIn K (.ref f1) = some (.type "function"))
    (F1 : FnOk P w K mg base (L2.CX P w) 1 f1 fd1 ["self", "word", "at"] (spInit C)) (B1 : L2.Binds K fd1 ["self", "word", "at"] []) : FnOk P w K mg base (L2.CX P w) 6 f fd ["tree", "kept"] (spSight K C) := by
  refine F.okX scSight (fun vs H Q E h => ?_) (fun cdv A outer s H vs Q E hr h => ?_)
  · obtain ⟨v1, v2, t, d, rfl, _⟩ := h
    rfl
  · obtain ⟨v1, v2, t, d, rfl, hs, hn, p1, p2, q1, q2⟩ := h
    obtain ⟨a1, g1, w1⟩ := W1
    obtain ⟨a0, g0, w0⟩ := W0
    have hu65 : (A.deeper (envOfC "sight_of" (defScope (K18.topS 38)) s.heap.objs.size f cdv)).units + 65 < cLine := by
      have := hr.un
      omega
    refine ⟨_, pss_cons (ps_if (pt_not (pt_val (C8.pe_c cQ hr (by decide) (by rfl) (pa_cons (pv 0) (pa_cons (pv 1) pa_nil))))) (pss_one (ps_raise rfl (takes_of rfl rfl rfl rfl) (pmk_oex (dvs := []) T iC tI F1 (hr.mono (by decide)) B1 .nil (fun _ _ _ _ _ _ _ h => by obtain ⟨_, _, _, _, _, _, _, _, _, _, _, _, z⟩ := h; exact z.elim) (by rfl) gC (pa_cons pe_str (pa_cons (pe_un un_neg pe_int) pa_nil))))) pss_nil)
      (pss_cons (ps_setLc (i := 2) (own := [("path", 3), ("_", 4)]) (g := gTup K 2 (gCons (gName 3) (gCons (gName 4) gNil))) (by rfl) scSight.nd rfl rfl (sw_true rfl rfl rfl (by kernel_rfl)) (pi_list (C8.pe_c cP hr (by decide) (by rfl) (pa_cons (pv 0) pa_nil))) (blkOk_by (own := [("path", 3), ("_", 4)]) (N := nSight) (sc := defScope (K18.topS 38)) (by decide +kernel))
          (fun _ _ _ _ _ => pg_tup (by rfl) (pgs_cons (pg_name (i := 3) scSight.nd rfl (.inl rfl)) (pgs_cons (pg_name (i := 4) scSight.nd rfl (.inl rfl)) pgs_nil))) (fun _ _ _ _ _ => pts_nil)
          (te := tIf (tB (tOp (rInDT K) (tVar 3) (tVar 1))) (tTup (tCons (tC (.ref a1)) (tCons (tC (.ref a1)) tNil))) (tTup (tCons (tC (.ref a0)) (tCons (tC (.ref a0)) tNil))))
          (fun _ _ _ _ _ => pe_ifExp (pt_cmpR (r := rInDT K) (op_inDT hu65) (pv 3) (pv 1) (by rfl)) (pe_tup (pa_cons (pe_glob (v := .ref a1) (by rfl) g1 rfl) (pa_cons (pe_glob (v := .ref a1) (by rfl) g1 rfl) pa_nil))) (pe_tup (pa_cons (pe_glob (v := .ref a0) (by rfl) g0 rfl) (pa_cons (pe_glob (v := .ref a0) (by rfl) g0 rfl) pa_nil)))))
      (pss_one (ps_ret (pe_ix ix_tup (pe_ix ix_list (C8.pe_c cA hr (by decide) (by rfl) (pa_cons (C8.pe_c cC hr (by decide) (by rfl) (pa_cons (pe_ix ix_tup (C8.pe_c cT hr (by decide) (by rfl) (pa_cons (pv 0) (pa_cons (pv 2) pa_nil))) pe_int (fun _ _ => rfl)) (pa_cons pe_str pa_nil))) pa_nil)) pe_int (fun _ _ => rfl)) pe_int (fun _ _ => rfl))))), ?_⟩
    refine q_whenR (F := F0) (n := 0) (k := 0) (b := !keptB t d) (rt_not (rt_val (rv_bl (K := K) (rd_call (σ := [some v1, some v2, none, none, none]) F0.ok (ra_cons0 (rd_var0 rfl p1) (ra_one (rd_var0 rfl p2))) ⟨t, d, hs, hn, rfl, rfl⟩)))) F0.g (Nat.le_refl _) (fun hb H1 e1 _ => ?_) fun hb H1 e1 _ => ?_
    · have hb' : keptB t d = false := by cases h : keptB t d <;> simp [h] at hb ⊢
      replace e1 := F0.ex e1
      refine ⟨1, rfl, (by show 2 ≤ 1000; decide), fun a ha => ⟨a, .str "kept", .int (-1), rfl, upd_same, fun dx hdx hne => ?_⟩⟩
      have hd1 : H1 dx = none := by rwa [upd_ne hne] at hdx
      refine ⟨rfl, dx, [("at", .int (-1)), ("word", .str "kept")], by rw [upd_ne hne.symm]; exact upd_same, upd_same, hd1, q2 hb' _ dx _ (fun b o h => ?_) upd_same (by decide +kernel) (by decide +kernel)⟩
      have h1 := e1 _ _ h
      have b1 : b ≠ a := fun z => by rw [z, ha] at h1; cases h1
      have b2 : b ≠ dx := fun z => by rw [z, hd1] at h1; cases h1
      rw [upd_ne b2, del_ne b1, upd_ne b2, upd_ne b1, upd_ne b2, upd_ne b1]
      exact h1
    · have hb' : keptB t d = true := by cases h : keptB t d <;> simp [h] at hb ⊢
      replace e1 := F0.ex e1
      obtain ⟨ps, rfl⟩ : ∃ ps, d = .tuple ps := by cases d <;> first | exact ⟨_, rfl⟩ | (exact absurd hb' (by simp [keptB]))
      have hall : ps.all (pathB t) = true := by
        have := hb'
        simp only [keptB, Bool.and_eq_true] at this
        exact this.1
      have hps := all_nats hall
      replace q1 := q1 hb' ps rfl
      obtain ⟨ks, hks⟩ : ∃ ks, ks = ps.map natsOf := ⟨_, rfl⟩
      rw [← hks] at hps q1
      have r1 := dp_ex e1 _ _ p1
      have r2 := dp_ex e1 _ _ p2
      rw [hps] at r2
      have lenP : ((placed [] t).map ptD).length = size t := by rw [List.length_map, placed_len]
      have fP : flats ((placed [] t).map ptD) = true := flats_all.mpr fun x hx => by
        obtain ⟨z, _, rfl⟩ := List.mem_map.mp hx
        rw [ptD, flat_tup, flats_cons, flats_cons]
        exact ⟨path_flat _, enc_flat _, rfl⟩
      have fF : ∀ b, flat (flagD b) = true := fun b => rfl
      have lc := r_lcL (F := F0) (K := K) (k := 0) (kt := 0) (ke := 0) (H := H1) (σ := [some v1, some v2, none, none, none]) (g := gTup K 2 (gCons (gName 3) (gCons (gName 4) gNil))) (tt := tYes) (te := tIf (tB (tOp (rInDT K) (tVar 3) (tVar 1))) (tTup (tCons (tC (.ref a1)) (tCons (tC (.ref a1)) tNil))) (tTup (tCons (tC (.ref a0)) (tCons (tC (.ref a0)) tNil))))
        (tl := tCall (spPlaced K) [] C8.E0 (tCons (tVar 0) tNil)) (vs := [3, 4]) (ds := (placed [] t).map ptD) F0.ok (fun _ => true) (fun i => flagD ((flagsOf t ks).getD i false))
        (rl_call F0.ok (ra_one (rd_var0 rfl r1)) ⟨t, by omega, rfl, rfl⟩) fP (by omega) (fun _ _ _ => fF _) (fun i x d' n H' hi hx _ e => by
          obtain ⟨u1, u2, hg, h1, h2⟩ := gv_two (K := K) (i := 3) (j := 4) (σ0 := [some v1, some v2, none, none, none]) (d1 := pathD ((placed [] t).getD i ([], t)).1) (d2 := enc ((placed [] t).getD i ([], t)).2) (x := x) (H' := H') (by
            have hil : i < (placed [] t).length := by
              have := (List.getElem?_eq_some_iff.mp hi).1
              rwa [List.length_map] at this
            rw [List.getElem?_map, List.getElem?_eq_getElem hil] at hi
            cases hi
            rw [List.getD_eq_getElem?_getD, List.getElem?_eq_getElem hil]
            exact hx)
          refine ⟨_, hg, rfl, fun n H1 hn g e Q q => q H1 Kx.refl g, fun _ => ?_⟩
          have hil : i < (placed [] t).length := by
            have := (List.getElem?_eq_some_iff.mp hi).1
            rwa [List.length_map] at this
          have fb : (flagsOf t ks).getD i false = ks.any fun z => z == ((placed [] t).getD i ([], t)).1 := by
            rw [List.getD_eq_getElem?_getD, List.getD_eq_getElem?_getD, flagsOf, List.getElem?_map, List.getElem?_eq_getElem hil]
            rfl
          refine r_if (ka := 0) (kb := 0) (b := ks.any fun z => z == ((placed [] t).getD i ([], t)).1) F0.ok (rt_B (rv_inDT (rd_var0 rfl h1) (rd_var0 rfl (dp_ex (F0.ex e) _ _ r2)))) (fun h => ?_) fun h => ?_
          · show EvR F0 _ _ H' 0 (IsD K (flagD ((flagsOf t ks).getD i false)))
            rw [fb, h]
            exact rd_tup (ds := [frD 1, frD 1]) F0.ok (ra_cons0 (rd_wr w1) (ra_one (rd_wr w1)))
          · show EvR F0 _ _ H' 0 (IsD K (flagD ((flagsOf t ks).getD i false)))
            rw [fb, h]
            exact rd_tup (ds := [frD 0, frD 0]) F0.ok (ra_cons0 (rd_wr w0) (ra_one (rd_wr w0))))
      have lenF : (flagsOf t ks).length = size t := by rw [flagsOf, List.length_map, placed_len]
      have eo : outs (fun _ => true) (fun i => flagD ((flagsOf t ks).getD i false)) ((placed [] t).map ptD).length = (flagsOf t ks).map flagD := by
        have h := outs_getD (flagD false) ((flagsOf t ks).map flagD) (m := ((placed [] t).map ptD).length) (by rw [lenP, List.length_map, lenF])
        rw [← h]
        congr 1
        funext i
        rw [List.getD_eq_getElem?_getD, List.getD_eq_getElem?_getD, List.getElem?_map]
        cases (flagsOf t ks)[i]? <;> rfl
      rw [eo] at lc
      refine q_asgR (F := F0) (n := 0) lc F0.g (by show 0 + (0 + _ * (0 + 0)) ≤ 0; simp) fun v3 H2 e2 _ hv3 => ?_
      replace e2 := F0.ex e2
      obtain ⟨D3, zs, rfl, _, hD3, dz⟩ := hv3
      have fR : Fw (size t) (resT t (flagsOf t ks)) := resT_few _ _
      have fR15 : Few 15 (resT t (flagsOf t ks)) := (fR.up (by omega)).few
      have outs1 : EvR F0 (tCall (spTO K) [] C8.E0 (tCons (tVar 0) (tCons (tVar 2) tNil))) [some v1, some v2, some (.ref D3), none, none] H2 0 (IsD K (twoD (resT t (flagsOf t ks)))) := fun n H3 hn g e Q q =>
        ⟨v1, rfl, .ref D3, rfl, v1, .ref D3, t, flagsOf t ks, rfl, hs, lenF, dp_ex (e2.trans (F0.ex e)) _ _ r1, .lst (sq_of (F0.ex e _ _ hD3)) (dps_ex (F0.ex e) _ _ dz), fun v H' e' hv => q v H' (Kx.ex e') F0.g hv⟩
      have cl := rn_call (K := K) (H := H2) (E := C8.E0) (F := F0) (es := [outD ([], withP "top" (resT t (flagsOf t ks)).1 (resT t (flagsOf t ks)).2)]) (Rl := fun ds es => ∃ (r : R2) (wd : Str), (wd = "top" ∨ wd = "lost") ∧ Few 15 r ∧ ds = [oneD r, .str wd] ∧ es = [outD ([], withP wd r.1 r.2)]) F0.ok (ra_cons0 (rd_ixT0 (ds := [oneD (resT t (flagsOf t ks)), oneD (resT t (flagsOf t ks))]) (i := 0) outs1 rv_c 0 rfl rfl) (ra_one rd_str)) ⟨resT t (flagsOf t ks), "top", .inl rfl, fR15, rfl, rfl⟩
      have as := rn_call (K := K) (H := H2) (E := C8.E0) (F := F0) (es := [sightD (sightOf t ks)]) (Rl := fun ds es => ∃ r : R2, ds = [oneD r] ∧ es = [sightD r.2]) F0.ok (ra_one (rd_ofN cl)) ⟨([], withP "top" (resT t (flagsOf t ks)).1 (resT t (flagsOf t ks)).2), rfl, rfl⟩
      refine s_retR (F := F0) (n := 0) (k := 0) (P := IsD K (.tuple ((sightOf t ks).map Pc.D))) (rd_ixT0 (ds := [.tuple ((sightOf t ks).map Pc.D), frD 1]) (i := 0) (rd_ixD (ds := [sightD (sightOf t ks)]) (i := 0) (rd_ofN as) rv_c 0 rfl rfl) rv_c 0 rfl rfl) F0.g (Nat.le_refl _) fun v H3 e3 _ hv => q1 v H3 (e1.trans (e2.trans (F0.ex e3))) hv
end
end K17
/-! ### the law's own look: what it finds -/
namespace K17
open PySem PySem.Spec PyProof.Rows L2 Evl Fx Fr Dt Tr K18 So
abbrev S2 : Type := Option T × List Pc
def pcLost (ts : List T) : List Pc := if ts = [] then [] else [.lost (sortT ts)]
mutual
def seenT (keep : List Nat → Bool) : List Nat → T → S2
  | w, .mk s m cs => if keep w then (some (.mk s m (sortT (seenL keep w 0 cs).1)), (seenL keep w 0 cs).2) else (none, (seenL keep w 0 cs).2 ++ pcLost (seenL keep w 0 cs).1)
def seenL (keep : List Nat → Bool) : List Nat → Nat → List T → List T × List Pc
  | _, _, [] => ([], [])
  | w, i, t :: ts => ((seenT keep (w ++ [i]) t).1.toList ++ (seenL keep w (i + 1) ts).1, (seenT keep (w ++ [i]) t).2 ++ (seenL keep w (i + 1) ts).2)
end
theorem seen_eq (keep : List Nat → Bool) (w : List Nat) (t : T) : seenT keep w t = if keep w then (some (.mk t.name t.mark (sortT (seenL keep w 0 t.calls).1)), (seenL keep w 0 t.calls).2) else (none, (seenL keep w 0 t.calls).2 ++ pcLost (seenL keep w 0 t.calls).1) := by
  cases t
  rw [seenT]
  rfl
theorem seen_snoc (keep : List Nat → Bool) (w : List Nat) (t : T) : ∀ (ts : List T) (i : Nat), seenL keep w i (ts ++ [t]) = ((seenL keep w i ts).1 ++ (seenT keep (w ++ [i + ts.length]) t).1.toList, (seenL keep w i ts).2 ++ (seenT keep (w ++ [i + ts.length]) t).2)
  | [], i => by
    rw [List.nil_append, seenL, seenL, seenL]
    simp
  | u :: ts, i => by
    rw [List.cons_append, seenL, seen_snoc keep w t ts (i + 1), seenL, List.length_cons, show i + 1 + ts.length = i + (ts.length + 1) by omega]
    simp only [List.append_assoc]
def Lay (t : T) : Prop := (enc t).canLay0 = true
theorem lay_all : ∀ {ts : List T}, (PyData.canLayAll0 (ts.map enc) = true) ↔ ∀ t ∈ ts, Lay t
  | [] => by simp [PyData.canLayAll0]
  | t :: ts => by
    rw [List.map_cons, PyData.canLayAll0, Bool.and_eq_true, lay_all]
    simp [Lay]
theorem lay_mk {t : T} : Lay t ↔ PyData.strOk t.name = true ∧ ∀ c ∈ t.calls, Lay c := by
  rw [Lay, enc_eq, ← lay_all]
  simp [PyData.canLay0, PyData.canLayAll0]
theorem lost_psizes (ts : List T) : psizes (pcLost ts) = sizes ts := by
  unfold pcLost
  by_cases h : ts = []
  · rw [if_pos h, h]
    simp [psizes, sizes]
  · rw [if_neg h, psizes_cons]
    simp only [Pc.size, psizes, List.map_nil, List.sum_nil, Nat.add_zero]
    exact sizes_perm (sort_perm ts)
theorem lost_len (ts : List T) : (pcLost ts).length ≤ 1 := by
  unfold pcLost
  split <;> simp
mutual
theorem seen_bd (keep : List Nat → Bool) : ∀ (w : List Nat) (t : T), sizes (seenT keep w t).1.toList + psizes (seenT keep w t).2 ≤ size t ∧ (seenT keep w t).2.length ≤ size t ∧ (Lay t → ∀ s ∈ (seenT keep w t).1.toList, Lay s)
  | w, .mk s m cs => by
    obtain ⟨h1, h2, h3⟩ := seens_bd keep w 0 cs
    have hz : size (.mk s m cs) = sizes cs + 1 := by rw [size]
    have hs : sizes (sortT (seenL keep w 0 cs).1) = sizes (seenL keep w 0 cs).1 := sizes_perm (sort_perm _)
    have hl := lost_len (seenL keep w 0 cs).1
    rw [seenT, hz]
    by_cases hk : keep w = true
    · rw [if_pos hk]
      refine ⟨?_, by show (seenL keep w 0 cs).2.length ≤ _; omega, fun hy x hx => ?_⟩
      · simp only [Option.toList_some, sizes, size, hs]
        omega
      · simp only [Option.toList_some, List.mem_singleton] at hx
        subst hx
        obtain ⟨y1, y2⟩ := lay_mk.mp hy
        exact lay_mk.mpr ⟨y1, fun c hc => h3 y2 c ((sort_perm _).mem_iff.mp hc)⟩
    · rw [if_neg hk]
      refine ⟨?_, ?_, fun hy x hx => by simp at hx⟩
      · simp only [Option.toList_none, sizes, psizes_app, lost_psizes]
        omega
      · rw [List.length_append]
        omega
theorem seens_bd (keep : List Nat → Bool) : ∀ (w : List Nat) (i : Nat) (ts : List T), sizes (seenL keep w i ts).1 + psizes (seenL keep w i ts).2 ≤ sizes ts ∧ (seenL keep w i ts).2.length ≤ sizes ts ∧ ((∀ t ∈ ts, Lay t) → ∀ s ∈ (seenL keep w i ts).1, Lay s)
  | w, i, [] => by
    rw [seenL]
    simp [sizes, psizes]
  | w, i, t :: ts => by
    obtain ⟨a1, a2, a3⟩ := seen_bd keep (w ++ [i]) t
    obtain ⟨b1, b2, b3⟩ := seens_bd keep w (i + 1) ts
    rw [seenL, sizes]
    refine ⟨?_, ?_, fun hy x hx => ?_⟩
    · simp only [sizes_app, psizes_app]
      omega
    · rw [List.length_append]
      omega
    · rcases List.mem_append.mp hx with hx | hx
      · exact a3 (hy t (List.mem_cons_self ..)) x hx
      · exact b3 (fun u hu => hy u (List.mem_cons_of_mem _ hu)) x hx
end
theorem sh_trs {ts : List T} (h : ∀ t ∈ ts, Lay t) (hs : sizes ts ≤ 20) : SeqAt.shaped (.list (ts.map enc)) = true := by
  have h1 := encs_depth ts
  rw [encs_map] at h1
  show ((PyData.list (ts.map enc)).canLay0 && decide ((PyData.list (ts.map enc)).depth ≤ 64)) = true
  rw [Bool.and_eq_true]
  exact ⟨by rw [PyData.canLay0]; exact lay_all.mpr h, decide_eq_true (by rw [PyData.depth]; omega)⟩
def optD : Option T → PyData
  | none => .none
  | some t => enc t
section
variable {P : Program} {w : World} {K : PySem.W.Frag} {mg : Str → Option Value} {base : Heap} {f f2 f3 : Addr} {fd fd2 fd3 : FuncData} {te tl ta tb : TE} {σ σ2 : L2.St} {H : Hp} {k ka kb n : Nat} {d d0 : PyData} {ds es : List PyData} {g : TG} {vs : List Nat} {C : Addr}
def rInt1 : List V → Hp → VK → Prop := fun xs H Q => (∃ i, xs = [.int i] ∧ Q (.int i) H) ∨ ∃ k, xs = [.bl k] ∧ Q (.int (if k then 1 else 0)) H
def rNot : L2.R2 := fun x y H Q => y = .non ∧ Q (.bl (!decide (x = .non))) H
theorem rv_int1 {b : Bool} (h : EvR F0 te σ H 0 (fun x _ => x = .bl b)) : EvR F0 (tCB rInt1 (tCons te tNil)) σ H 0 (fun x _ => x = .int (if b then 1 else 0)) := fun n H1 hn g e Q q =>
  h n H1 hn g e _ fun v H2 e2 g2 p => .inr ⟨b, by rw [p], q _ H2 e2 g2 rfl⟩
theorem rl_rep {b : Bool} (ha : EvR F0 ta σ H 0 (IsL F0 K ds)) (hb : EvR F0 tb σ H 0 (fun x _ => x = .int (if b then 1 else 0))) (fd : flats ds = true) (hl : ds.length ≤ 100000) : EvR F0 (tOp rRep ta tb) σ H 0 (IsL F0 K (if b then ds else [])) := fun n H1 hn g e Q q =>
  ha n H1 hn g e _ fun x H2 e2 _ p => hb n H2 hn F0.g (e.trans e2) _ fun y H3 e3 _ p' => by
    obtain ⟨a, xs, rfl, hT, ha, hx⟩ := mono_l F0.ok fd 0 _ _ _ F0.g e3 p
    subst p'
    have l1 := dps_len hx
    refine ⟨a, _, xs, rfl, rfl, ha, by cases b <;> decide, by cases b <;> decide, sz_of (by cases b <;> simp <;> omega), fun l hl => ?_⟩
    refine q (.ref l) _ (e2.trans (e3.trans (Kx.ex (Ex.new hl)))) F0.g ⟨l, _, rfl, fun z => z, upd_same, ?_⟩
    have el := Ex.new (o := HO.lst (List.replicate (if b then (1 : Int) else 0).toNat xs).flatten) hl
    cases b with
    | true =>
      have : (List.replicate (if true = true then (1 : Int) else 0).toNat xs).flatten = xs := by simp
      rw [this]
      rw [this] at el
      exact dps_ex el _ _ hx
    | false => exact .nil
theorem rb_neTs {ts : List T} (ha : EvR F0 ta σ H 0 (IsL F0 K (ts.map enc))) (hs : SeqAt.shaped (.list (ts.map enc)) = true) : EvR F0 (tOp (rNeD K) ta (tLst tNil)) σ H 0 (fun u _ => u = .bl (!ts.isEmpty)) :=
  r_op (ka := 0) (kb := 0) (P' := IsL F0 K []) F0.ok (mono_l F0.ok (maps_flat _)) ha (rl_lst F0.ok ra_nil) fun x y n H1 g e px py Q q => ⟨_, _, px.dp, py.dp, hs, rfl, q _ H1 (Ex.refl _) (by cases ts <;> simp [PyData.eqv, PyData.eqvAll])⟩
theorem rv_inDL {p : List Nat} {ks : List (List Nat)} (ha : EvR F0 ta σ H 0 (IsD K (pathD p))) (hb : EvR F0 tb σ H 0 (IsD K (.list (ks.map pathD)))) : EvR F0 (tOp (rInD K) ta tb) σ H 0 (fun x _ => x = .bl (flagOf ks p)) := fun n H1 hn g e Q q =>
  ha n H1 hn g e _ fun x H2 e2 g2 px => hb n H2 hn F0.g (e.trans e2) _ fun y H3 e3 g3 py => ⟨pathD p, _, dp_ex (F0.ex e3) _ _ px, py, sh_path p, sh_paths ks, by rw [any_paths]; exact q _ H3 (e2.trans e3) F0.g rfl⟩
end
end K17
/-! ### the law's own look: _law_seen -/
namespace K17
open PySem PySem.Spec PyProof.Rows L2 Evl Fx Fr Dt Tr K18 So
def nSeen : List Str := ["_law_root", "_law_way", "_law_held", "_law_below", "_law_pieces_now", "_law_k", "_law_call", "_law_own", "_law_more"]
theorem scSeen : FnScope nSeen ["_law_root", "_law_way", "_law_held"] (defScope (K18.topS 45)) := ⟨rfl, rfl, rfl, by decide +kernel, rfl, by decide +kernel, by decide +kernel⟩
section
variable {P : Program} {w : World} {K : PySem.W.Frag} {mg : Str → Option Value} {base : Heap} {f f2 f3 : Addr} {fd fd2 fd3 : FuncData} {te tl ta tb : TE} {σ σ2 : L2.St} {H : Hp} {k ka kb n : Nat} {d d0 : PyData} {ds es : List PyData} {g : TG} {vs : List Nat} {C : Addr}
theorem rl_sortT {ts : List T} (h : EvR F0 te σ H 0 (IsL F0 K (ts.map enc))) (hz : sizes ts ≤ 20) : EvR F0 (tCB (rSortD K) (tCons te tNil)) σ H 0 (IsL F0 K ((sortT ts).map enc)) := by
  have := rl_sorted F0.ok h (all_alike ts) (all_sortable ts) fun dd hdd => by have := depth_mem dd hdd; omega
  rwa [sort_map] at this
theorem q_asgC {tr : TA} {sp : Sp} {E : XK} {tz : TS} {D : Ends} {R : List V → Hp → Prop} (h : EvRA F0 tr σ H 0 R) (kk : ∀ vs H1, Ex H H1 → R vs H1 → sp (vs ++ []) H1 (fun v H2 => g v σ H2 (tz D)) E) : tSeq (tAsg (tCall sp [] E tr) g) tz D σ H := h 0 H (Nat.le_refl _) F0.g Kx.refl _ fun vs H1 e _ p => kk vs H1 (F0.ex e) p
theorem s_ret2 {D : Ends} {R : VP} (h : EvR F0 ta σ H 0 R) (h2 : ∀ v H1, Ex H H1 → R v H1 → tb σ H1 fun u H2 => [v, u].length ≤ sizeLine ∧ ∀ a, H2 a = none → D.rt (.ref a) (upd H2 a (.tup [v, u]))) : tRet (tTup (tCons ta (tCons tb tNil))) D σ H := h 0 H (Nat.le_refl _) F0.g Kx.refl _ fun v H1 e _ p => h2 v H1 (F0.ex e) p
/-- n: how many spans at the most -/
def spSeen (K : PySem.W.Frag) (n : Nat) : Sp := fun vs H Q _ => ∃ (v1 v2 v3 : V) (t : T) (p : List Nat) (hs : List (List Nat)), vs = [v1, v2, v3] ∧ size t ≤ n ∧ n ≤ 8 ∧ p.length + n ≤ 100 ∧ hs.length ≤ 100 ∧ Lay t ∧ Dp K H v1 (enc t) ∧ Dp K H v2 (pathD p) ∧ Dp K H v3 (.list (hs.map pathD)) ∧
  ∀ a vo l xs H', Ex H H' → SqT K H' a [vo, .ref l] → H l = none → H' l = some (.lst xs) → Dp K H' vo (optD (seenT (flagOf hs) p t).1) → DpAll K H' xs ((seenT (flagOf hs) p t).2.map Pc.D) → Q (.ref a) H'
theorem ok_seen (F : Fun K "_law_seen" "_law_seen" (K18.topS 45) f fd) (gl : mg "_law_seen" = some (.ref f)) (B : Binds K fd ["_law_root", "_law_way", "_law_held"] []) (m_en : mg "enumerate" = none) (m_tuple : mg "tuple" = none) (m_sorted : mg "sorted" = none) (m_int : mg "int" = none) : ∀ n, FnOk P w K mg base CX0 n f fd ["_law_root", "_law_way", "_law_held"] (spSeen K n)
  | 0 => by
    refine ⟨fun vs H Q E h => ?_, fun A outer s H args us vs Q E hr he hb hv h => ?_⟩
    · obtain ⟨v1, v2, v3, t, p, hs, _, h, _⟩ := h
      rw [size_eq] at h
      omega
    · obtain ⟨v1, v2, v3, t, p, hs, _, h, _⟩ := h
      rw [size_eq] at h
      omega
  | n + 1 => by
    have cS := cal F (ok_seen F gl B m_en m_tuple m_sorted m_int n) gl B
    refine F.ok scSeen (fun vs H Q E h => ?_) (fun cdv A outer s H vs Q E hr h => ?_)
    · obtain ⟨v1, v2, v3, t, p, hs, rfl, _⟩ := h
      rfl
    · obtain ⟨v1, v2, v3, t, p, hs, rfl, hsz, hn, hp, hh, hy, p1, p2, p3, q⟩ := h
      have hu65 : (A.deeper (envOfC "_law_seen" (defScope (K18.topS 45)) s.heap.objs.size f cdv)).units + 65 < cLine := by
        have := hr.un
        omega
      refine ⟨_, pss_cons (ps_par (i := 3) (j := 4) rfl scSeen.nd rfl rfl (by decide) rfl rfl (pa_cons (pe_lst pa_nil) (pa_cons (pe_lst pa_nil) pa_nil)) (by rfl))
        (pss_cons (ps_for PassesOwn.never rfl (DtE.pi_enumT (by rfl) m_en (pa_cons (pe_ix ix_tup (pv 0) pe_int (fun _ _ => rfl)) pa_nil)) (pg_tup (by rfl) (pgs_cons (pg_name (i := 5) scSeen.nd rfl (.inl rfl)) (pgs_cons (pg_name (i := 6) scSeen.nd rfl (.inl rfl)) pgs_nil)))
          (pss_cons (ps_asg (C8.pe_c cS hr (Nat.le_refl _) (by rfl) (pa_cons (pv 6) (pa_cons (pe_op op_catA (pv 1) (pe_tup (pa_cons (pv 5) pa_nil))) (pa_cons (pv 2) pa_nil)))) (pg_tup (by rfl) (pgs_cons (pg_name (i := 7) scSeen.nd rfl (.inl rfl)) (pgs_cons (pg_name (i := 8) scSeen.nd rfl (.inl rfl)) pgs_nil))))
          (pss_cons (ps_expr (pe_bm PySem.F.plainAttrs_list PySem.F.slot_list_extend PySem.F.type_list_extend mt_extend (pv 4) (pa_cons (pv 8) pa_nil)))
          (pss_one (ps_if (pt_cmpR (r := rNot) op_notN (pv 7) pe_non (by rfl)) (pss_one (ps_expr (pe_bm PySem.F.plainAttrs_list PySem.F.slot_list_append PySem.F.type_list_append mt_append (pv 3) (pa_cons (pv 7) pa_nil)))) pss_nil)))))
        (pss_cons (ps_if (pt_cmpR (r := rInD K) (op_inD hu65) (pv 1) (pv 2) (by rfl)) (pss_one (ps_ret (pe_tup (pa_cons (pe_tup (pa_cons (pe_ix ix_tup (pv 0) pe_int (fun _ _ => rfl)) (pa_cons (pe_ix ix_tup (pv 0) pe_int (fun _ _ => rfl)) (pa_cons (pe_callTy (T := "tuple") (r := rTupOf K) call_tupleOf (by rfl) m_tuple (by decide +kernel) (pa_cons (pe_callB (r := rSortD K) (cr_sortedD hr.units) (by rfl) m_sorted (by decide +kernel) (pa_cons (pv 3) pa_nil)) pa_nil)) pa_nil)))) (pa_cons (pv 4) pa_nil))))) pss_nil)
        (pss_one (ps_ret (pe_tup (pa_cons pe_non (pa_cons (pe_op op_cat (pv 4) (pe_op op_rep (pe_lst (pa_cons (pe_tup (pa_cons pe_str (pa_cons (pe_callTy (T := "tuple") (r := rTupOf K) call_tupleOf (by rfl) m_tuple (by decide +kernel) (pa_cons (pe_callB (r := rSortD K) (cr_sortedD hr.units) (by rfl) m_sorted (by decide +kernel) (pa_cons (pv 3) pa_nil)) pa_nil)) pa_nil))) pa_nil)) (pe_callTy (r := rInt1) call_int1 (by rfl) m_int (by decide +kernel) (pa_cons (pe_cmpR (op_neD hr.units) (pv 3) (pe_lst pa_nil) (nomark _)) pa_nil)))) pa_nil))))))), ?_⟩
      refine q_par2 (q_cons ((rn_lst (K := K) (ds := []) F0.ok ra_nil) 0 H (Nat.le_refl _) F0.g Kx.refl _ fun x4 H1 e1 _ ⟨BB, bs, ex4, nB, _, hB, dB⟩ => q_cons ((rn_lst (K := K) (ds := []) F0.ok ra_nil) 0 H1 (Nat.le_refl _) F0.g Kx.refl _ fun x5 H2 e2 _ ⟨L, ls, ex5, nL1, _, hL, dL⟩ => ⟨x4, x5, rfl, ?_⟩)))
      subst ex4 ex5
      cases dB
      cases dL
      have nL : H L = none := kx_none F0.ok (n := 0) F0.g e1 nL1
      replace e1 := F0.ex e1
      replace e2 := F0.ex e2
      have e02 := e1.trans e2
      have hB2 := e2 _ _ hB
      have nBL : BB ≠ L := fun z => by rw [← z, hB] at nL1; cases nL1
      have ht := size_eq t
      change tSeq (tFor _ _ _) _ _ [some v1, some v2, some v3, some (.ref BB), some (.ref L), none, none, none, none] H2
      refine q_forE (F := F0) (n := 0) (k := 0) (ds := t.calls.map enc) F0.ok (rt_calls F0.ok (rd_var F0.ok (n := 0) F0.g rfl (dp_ex e02 _ _ p1) (enc_flat t))) F0.g (Nat.le_refl _) (maps_flat _) (fun H3 i σ' H' => ∃ us xs u5 u6 u7 u8, σ' = [some v1, some v2, some v3, some (.ref BB), some (.ref L), u5, u6, u7, u8] ∧ Ex H H' ∧ KT K H3 H' ∧ H' BB = some (.lst us) ∧ H' L = some (.lst xs) ∧ DpAll K H' us ((seenL (flagOf hs) p 0 (t.calls.take i)).1.map enc) ∧ DpAll K H' xs ((seenL (flagOf hs) p 0 (t.calls.take i)).2.map Pc.D))
        (fun H3 e3 _ => ⟨[], [], none, none, none, none, rfl, e02.trans (F0.ex e3), fun _ _ h => h, F0.ex e3 _ _ hB2, F0.ex e3 _ _ hL, by rw [List.take_zero, seenL]; exact .nil, by rw [List.take_zero, seenL]; exact .nil⟩) (fun H3 i σ' H' ⟨_, _, _, _, _, _, _, _, k, _⟩ => k) (fun H3 i x T0 d σ' H' hi ⟨us, xs, u5, u6, u7, u8, es, e, k, hb, hx, db, dx⟩ hT hd => ?_) fun H3 σ' H' _ ⟨us, xs, u5, u6, u7, u8, es, e, k, hb, hx, db, dx⟩ => ?_
      · subst es
        have hlt : i < t.calls.length := by
          have := (List.getElem?_eq_some_iff.mp hi).1
          rwa [List.length_map] at this
        have hci : t.calls[i]? = some t.calls[i] := List.getElem?_eq_getElem hlt
        rw [List.getElem?_map, hci] at hi
        cases hi
        have hyc : Lay t.calls[i] := (lay_mk.mp hy).2 _ (List.getElem_mem hlt)
        have hsz1 := size_mem hci
        have htk : t.calls.take (i + 1) = t.calls.take i ++ [t.calls[i]] := by rw [List.take_add_one, hci]; rfl
        have hsk := sizes_take i t.calls
        obtain ⟨z1, z2, _⟩ := seens_bd (flagOf hs) p 0 (t.calls.take i)
        have z3 := len_sizes (seenL (flagOf hs) p 0 (t.calls.take i)).1
        generalize t.calls[i] = c at hyc hsz1 htk hd
        obtain ⟨y1, y2, _⟩ := seen_bd (flagOf hs) (p ++ [i]) c
        have eT : Ex H' (upd H' T0 (.tup [.int (i : Nat), x])) := Ex.new hT
        have hb4 := eT _ _ hb
        have hx4 := eT _ _ hx
        have db4 := dps_ex eT _ _ db
        have dx4 := dps_ex eT _ _ dx
        have e04 := e.trans eT
        have k4 : KT K H3 (upd H' T0 (.tup [.int (i : Nat), x])) := kt_trans k (kt_ex eT)
        refine ⟨T0, _, rfl, st_of upd_same, rfl, _, _, rfl, _, _, rfl, rfl, ?_⟩
        generalize upd H' T0 (.tup [.int (i : Nat), x]) = H4 at hd hb4 hx4 db4 dx4 e04 k4 ⊢
        change tSeq (tAsg (tCall (spSeen K n) [] C8.E0 (tCons (tVar 6) (tCons _ (tCons (tVar 2) tNil)))) _) _ _ [some v1, some v2, some v3, some (.ref BB), some (.ref L), some (.int (i : Int)), some x, u7, u8] H4
        have args : EvRA F0 (tCons (tVar 6) (tCons (tOp (rCatA K) (tVar 1) (tTup (tCons (tVar 5) tNil))) (tCons (tVar 2) tNil))) [some v1, some v2, some v3, some (.ref BB), some (.ref L), some (.int (i : Int)), some x, u7, u8] H4 0 (fun vs H => DpAll K H vs [enc c, pathD (p ++ [i]), .list (hs.map pathD)]) :=
          ra_cons0 (rd_var0 rfl hd) (ra_cons0 (by
            rw [pathD_snoc]
            exact rd_cat (ka := 0) (kb := 0) (ds := p.map fun (i : Nat) => PyData.int (i : Int)) (es := [.int (i : Int)]) F0.ok (rd_var F0.ok (n := 0) F0.g rfl (dp_ex e04 _ _ p2) (path_flat p)) (rd_tup F0.ok (ra_cons (ka := 0) (kb := 0) F0.ok (rd_ofI (rv_var rfl)) ra_nil)) (path_flats p) (by rw [List.length_map, List.length_singleton]; omega)) (ra_one (rd_var0 rfl (dp_ex e04 _ _ p3))))
        refine q_asgC args fun vs H5 e5 dv => ?_
        obtain ⟨w1, vs, rfl, d1, dv⟩ := dps_uncons dv
        obtain ⟨w2, vs, rfl, d2, dv⟩ := dps_uncons dv
        obtain ⟨w3, vs, rfl, d3, dv⟩ := dps_uncons dv
        obtain rfl := dps_none dv
        refine ⟨w1, w2, w3, c, p ++ [i], hs, rfl, by omega, by omega, by rw [List.length_append, List.length_singleton]; omega, hh, hyc, d1, d2, d3, fun a vo l xs2 H6 e6 hT6 nl hl6 dvo dxs => ?_⟩
        refine ⟨a, _, rfl, hT6, rfl, _, _, rfl, _, _, rfl, rfl, ?_⟩
        change tSeq (tDrop _) _ _ [some v1, some v2, some v3, some (.ref BB), some (.ref L), some (.int (i : Int)), some x, some vo, some (.ref l)] H6
        have e46 := e5.trans e6
        have lb := dps_len db4
        have lx := dps_len dx4
        rw [List.length_map] at lb lx
        refine q_extL (F := F0) (n := 0) (k := 0) (ds := (seenT (flagOf hs) (p ++ [i]) c).2.map Pc.D) rfl (e46 _ _ hx4) (fun z => z) (rl_var F0.ok (n := 0) F0.g rfl ⟨l, xs2, rfl, fun z => z, hl6, dxs⟩ (pcs_flat _)) F0.g (Nat.le_refl _) (by rw [List.length_map]; omega) fun zs H7 e7 _ dz hx7 => ?_
        replace e7 := F0.ex e7
        have e47 := e46.trans e7
        have k8 : KT K H7 (upd H7 L (.lst (xs ++ zs))) := kt_lst hx7
        have e08 : Ex H (upd H7 L (.lst (xs ++ zs))) := (e04.trans e47).mut nL
        have hb8 : upd H7 L (.lst (xs ++ zs)) BB = some (.lst us) := by rw [upd_ne nBL]; exact e47 _ _ hb4
        have hx8 : upd H7 L (.lst (xs ++ zs)) L = some (.lst (xs ++ zs)) := upd_same
        have db8 := dps_kt k8 _ _ (maps_flat _) (dps_ex e47 _ _ db4)
        have dx8 := dps_app (dps_kt k8 _ _ (pcs_flat _) (dps_ex e47 _ _ dx4)) (dps_kt k8 _ _ (pcs_flat _) dz)
        have do8 : Dp K (upd H7 L (.lst (xs ++ zs))) vo (optD (seenT (flagOf hs) (p ++ [i]) c).1) := dp_kt k8 _ _ (by cases (seenT (flagOf hs) (p ++ [i]) c).1 with | none => rfl | some s => exact enc_flat s) (dp_ex e7 _ _ dvo)
        have k38 : KT K H3 (upd H7 L (.lst (xs ++ zs))) := kt_trans k4 (kt_trans (kt_ex e47) k8)
        generalize upd H7 L (.lst (xs ++ zs)) = H8 at e08 hb8 hx8 db8 dx8 do8 k38 ⊢
        rw [htk, seen_snoc, List.length_take, show 0 + min i t.calls.length = i by omega]
        change tIfS (tTest (tOp rNot (tVar 7) (tC .non))) _ _ _ [some v1, some v2, some v3, some (.ref BB), some (.ref L), some (.int (i : Int)), some x, some vo, some (.ref l)] H8
        refine s_ifR (F := F0) (n := 0) (k := 0) (b := !decide (vo = V.non)) (rt_val fun n1 H9 _ g9 e9 Q q => ⟨vo, rfl, rfl, q _ H9 Kx.refl F0.g rfl⟩) F0.g (Nat.le_refl _) (fun hv H9 e9 _ => ?_) (fun hv H9 e9 _ => ?_)
        · replace e9 := F0.ex e9
          cases hso : (seenT (flagOf hs) (p ++ [i]) c).1 with
          | none =>
            rw [hso] at do8
            cases do8
            cases hv
          | some s =>
            rw [hso] at do8
            refine q_appR (F := F0) (n := 0) (k := 0) (P := IsD K (enc s)) rfl (e9 _ _ hb8) (fun z => z) (rd_var0 rfl (dp_ex e9 _ _ do8)) F0.g (Nat.le_refl _) (by omega) fun v H10 e10 _ dvv hb10 => ?_
            have e8a := e9.trans (F0.ex e10)
            have ka : KT K H10 (upd H10 BB (.lst (us ++ [v]))) := kt_lst hb10
            refine ⟨us ++ [v], xs ++ zs, _, _, _, _, rfl, (e08.trans e8a).mut nB, kt_trans k38 (kt_trans (kt_ex e8a) ka), upd_same, by rw [upd_ne nBL.symm]; exact e8a _ _ hx8, ?_, ?_⟩
            · rw [List.map_append]
              exact dps_kt ka _ _ (by rw [← List.map_append]; exact maps_flat _) (dps_app (dps_ex e8a _ _ db8) (.cons dvv .nil))
            · rw [List.map_append]
              exact dps_kt ka _ _ (by rw [← List.map_append]; exact pcs_flat _) (dps_ex e8a _ _ dx8)
        · replace e9 := F0.ex e9
          cases hso : (seenT (flagOf hs) (p ++ [i]) c).1 with
          | none =>
            refine ⟨us, xs ++ zs, _, _, _, _, rfl, e08.trans e9, kt_trans k38 (kt_ex e9), e9 _ _ hb8, e9 _ _ hx8, ?_, ?_⟩
            · simp only [Option.toList_none, List.append_nil]
              exact dps_ex e9 _ _ db8
            · rw [List.map_append]
              exact dps_ex e9 _ _ dx8
          | some s =>
            rw [hso] at do8
            have hvn : vo = V.non := by
              have := hv
              simpa using this
            subst hvn
            change Dp K H8 .non (enc s) at do8
            rw [enc_eq] at do8
            cases do8
      · subst es
        rw [List.length_map, List.take_length] at db dx
        rw [seen_eq] at q
        obtain ⟨z1, z2, z3⟩ := seens_bd (flagOf hs) p 0 t.calls
        have z4 := len_sizes (seenL (flagOf hs) p 0 t.calls).1
        replace z3 := z3 (lay_mk.mp hy).2
        generalize seenL (flagOf hs) p 0 t.calls = r at db dx q z1 z2 z3 z4
        obtain ⟨below, ps⟩ := r
        dsimp only at z1 z2 z3 z4 q
        change DpAll K H' us (below.map enc) at db
        change DpAll K H' xs (ps.map Pc.D) at dx
        have lb : IsL F0 K (below.map enc) (.ref BB) H' := ⟨BB, us, rfl, fun z => z, hb, db⟩
        have lp : IsL F0 K (ps.map Pc.D) (.ref L) H' := ⟨L, xs, rfl, fun z => z, hx, dx⟩
        refine q_whenR (F := F0) (n := 0) (k := 0) (b := flagOf hs p) (rt_val (rv_inDL (rd_var0 rfl (dp_ex e _ _ p2)) (rd_var0 rfl (dp_ex e _ _ p3)))) F0.g (Nat.le_refl _) (fun hk H4 e4 _ => ?_) (fun hk H4 e4 _ => ?_)
        · rw [if_pos hk] at q
          replace e4 := F0.ex e4
          have inner : EvR F0 (tTup (tCons (tOp (rIxT K) (tVar 0) (tC (.int 0))) (tCons (tOp (rIxT K) (tVar 0) (tC (.int 1))) (tCons (tCB (rTupOf K) (tCons (tCB (rSortD K) (tCons (tVar 3) tNil)) tNil)) tNil)))) [some v1, some v2, some v3, some (.ref BB), some (.ref L), u5, u6, u7, u8] H4 0 (IsD K (enc (T.mk t.name t.mark (sortT below)))) := by
            have rr : EvR F0 (tVar 0) [some v1, some v2, some v3, some (.ref BB), some (.ref L), u5, u6, u7, u8] H4 0 (IsD K (enc t)) := rd_var0 rfl (dp_ex (e.trans e4) _ _ p1)
            exact (rd_tup (ds := [.str t.name, .int t.mark, .tuple ((sortT below).map enc)]) F0.ok (ra_cons0 (rt_name F0.ok rr) (ra_cons0 (rt_mark F0.ok rr) (ra_one (rd_tupOf F0.ok (rl_sortT (rl_var F0.ok (n := 0) F0.g rfl (mono_l F0.ok (maps_flat _) 0 _ _ _ F0.g (Kx.ex e4) lb) (maps_flat _)) (by omega)))))) (by rw [flats_cons, flats_cons, flats_cons, flat_tup]; exact ⟨rfl, rfl, maps_flat _, rfl⟩)).cast (by rw [enc_eq]; rfl)
          refine s_ret2 inner fun v H5 e5 dv => ?_
          have e45 := e4.trans e5
          refine ⟨.ref L, rfl, sz_of (by simp), fun a ha => ?_⟩
          have ea := Ex.new (o := HO.tup [v, .ref L]) ha
          exact q a v L xs _ (e.trans (e45.trans ea)) (st_of upd_same) nL (ea _ _ (e45 _ _ hx)) (dp_ex ea _ _ dv) (dps_ex (e45.trans ea) _ _ dx)
        · rw [if_neg (by rw [hk]; decide)] at q
          replace e4 := F0.ex e4
          have lb4 := mono_l F0.ok (maps_flat _) 0 _ _ _ F0.g (Kx.ex e4) lb
          have lp4 := mono_l F0.ok (pcs_flat _) 0 _ _ _ F0.g (Kx.ex e4) lp
          have rb : EvR F0 (tVar 3) [some v1, some v2, some v3, some (.ref BB), some (.ref L), u5, u6, u7, u8] H4 0 (IsL F0 K (below.map enc)) := rl_var F0.ok (n := 0) F0.g rfl lb4 (maps_flat _)
          have one : flats [(Pc.lost (sortT below)).D] = true := pcs_flat [Pc.lost (sortT below)]
          have total := rn_cat (K := K) (rl_var (σ := [some v1, some v2, some v3, some (.ref BB), some (.ref L), u5, u6, u7, u8]) (i := 4) F0.ok (n := 0) F0.g rfl lp4 (pcs_flat _)) (rl_rep (b := !below.isEmpty) (rl_lst (ds := [(Pc.lost (sortT below)).D]) F0.ok (ra_one (rd_tup (ds := [.str "lost", .tuple ((sortT below).map enc)]) F0.ok (ra_cons0 rd_str (ra_one (rd_tupOf F0.ok (rl_sortT rb (by omega))))) (by rw [flats_cons, flats_cons, flat_tup]; exact ⟨rfl, maps_flat _, rfl⟩)))) (rv_int1 (rb_neTs rb (sh_trs z3 (by omega)))) one (by simp)) (pcs_flat _) (by rw [List.length_map]; split <;> simp <;> omega)
          refine s_ret2 (ta := tC .non) (R := fun x _ => x = .non) rv_c fun v0 H40 e40 ev0 => total 0 H40 (Nat.le_refl _) F0.g (Kx.ex e40) _ fun v H5 e5 _ ⟨l, zs, ev, nl, _, hl, dz⟩ => ?_
          subst ev ev0
          replace e5 := F0.ex e5
          have e45 := e4.trans (e40.trans e5)
          refine ⟨sz_of (by simp), fun a ha => ?_⟩
          have ea := Ex.new (o := HO.tup [.non, .ref l]) ha
          refine q a .non l zs _ (e.trans (e45.trans ea)) (st_of upd_same) (kx_none F0.ok (n := 0) F0.g (Kx.ex (e.trans e4)) nl) (ea _ _ hl) .non ?_
          have e3 : (ps ++ pcLost below).map Pc.D = ps.map Pc.D ++ (if (!below.isEmpty) = true then [(Pc.lost (sortT below)).D] else []) := by
            cases below with
            | nil => simp [pcLost]
            | cons b bs => simp [pcLost]
          show DpAll K _ zs ((ps ++ pcLost below).map Pc.D)
          rw [e3]
          exact dps_ex ea _ _ dz
end
end K17
/-! ### the law's own sight: _law_kept_sight, _law_own_sight -/
namespace K17
open PySem PySem.Spec PyProof.Rows L2 Evl Fx Fr Dt Tr K18 So
/-- the pieces that the law finds, in the order in which it finds them -/
def rawS (keep : List Nat → Bool) (t : T) : List Pc := (seenT keep [0] t).2 ++ (seenT keep [0] t).1.toList.map Pc.top
def ownS (keep : List Nat → Bool) (t : T) : List Pc := sortP (rawS keep t)
theorem raw_sizes (keep : List Nat → Bool) (t : T) : psizes (rawS keep t) ≤ size t ∧ (rawS keep t).length ≤ size t + 1 := by
  obtain ⟨h1, h2, _⟩ := seen_bd keep [0] t
  unfold rawS
  rw [psizes_app, List.length_append, List.length_map]
  have e : psizes ((seenT keep [0] t).1.toList.map Pc.top) = sizes (seenT keep [0] t).1.toList := by
    cases (seenT keep [0] t).1 with
    | none => simp [psizes, sizes]
    | some s => simp [psizes, sizes, Pc.size]
  refine ⟨by omega, ?_⟩
  cases (seenT keep [0] t).1 with
  | none => simp; omega
  | some s => simp; omega
theorem pcs_depth {ps : List Pc} (h : psizes ps ≤ 15) : ∀ d ∈ ps.map Pc.D, PyData.depth d ≤ 40 := fun d hd => by
  obtain ⟨p, hp, rfl⟩ := List.mem_map.mp hd
  have h1 := p.depth
  have h2 := psize_mem hp
  omega
def topD (t : T) : PyData := .tuple [.str "top", enc t]
theorem topD_flat (t : T) : flat (topD t) = true := Pc.flat (.top t)
def nKS : List Str := ["_law_seen_here", "_law_held", "_law_found", "_law_i", "_law_word", "_law_part", "_law_own", "_law_more"]
theorem scKS : FnScope nKS ["_law_seen_here", "_law_held"] (defScope (K18.topS 46)) := ⟨rfl, rfl, rfl, by decide +kernel, rfl, by decide +kernel, by decide +kernel⟩
section
variable {P : Program} {w : World} {K : PySem.W.Frag} {mg : Str → Option Value} {base : Heap} {f f2 f3 : Addr} {fd fd2 fd3 : FuncData} {te tl ta tb : TE} {σ σ2 : L2.St} {H : Hp} {k ka kb n : Nat} {d d0 : PyData} {ds es : List PyData} {g : TG} {vs : List Nat} {C : Addr}
def spKS (K : PySem.W.Frag) : Sp := fun vs H Q _ => ∃ (v1 v2 : V) (t : T) (hs : List (List Nat)), vs = [v1, v2] ∧ size t ≤ 6 ∧ hs.length ≤ 100 ∧ Lay t ∧ Dp K H v1 (.tuple [topD t]) ∧ Dp K H v2 (.list (hs.map pathD)) ∧
  ∀ v H', Ex H H' → Dp K H' v (.tuple ((ownS (flagOf hs) t).map Pc.D)) → Q v H'
theorem ok_ks (F : Fun K "_law_kept_sight" "_law_kept_sight" (K18.topS 46) f fd) (cS : C8.Cal P w K mg base 6 "_law_seen" (spSeen K 6) []) (m_en : mg "enumerate" = none) (m_tuple : mg "tuple" = none) (m_sorted : mg "sorted" = none) : FnOk P w K mg base CX0 7 f fd ["_law_seen_here", "_law_held"] (spKS K) := by
  refine F.ok scKS (fun vs H Q E h => ?_) (fun cdv A outer s H vs Q E hr h => ?_)
  · obtain ⟨v1, v2, t, hs, rfl, _⟩ := h
    rfl
  · obtain ⟨v1, v2, t, hs, rfl, hsz, hh, hy, p1, p2, q⟩ := h
    refine ⟨_, pss_cons (ps_set (i := 2) scKS.nd rfl (.inl rfl) (pe_lst pa_nil))
      (pss_cons (ps_for PassesOwn.never rfl (DtE.pi_enumT (by rfl) m_en (pa_cons (pv 0) pa_nil)) (pg_tup (by rfl) (pgs_cons (pg_name (i := 3) scKS.nd rfl (.inl rfl)) (pgs_cons (pg_tup (by rfl) (pgs_cons (pg_name (i := 4) scKS.nd rfl (.inl rfl)) (pgs_cons (pg_name (i := 5) scKS.nd rfl (.inl rfl)) pgs_nil))) pgs_nil)))
        (pss_cons (ps_asg (C8.pe_c cS hr (by decide) (by rfl) (pa_cons (pe_ifExp (pt_cmpR op_eq (pv 4) pe_str (nomark _)) (pv 5) (pe_tup (pa_cons pe_str (pa_cons pe_int (pa_cons (pv 5) pa_nil))))) (pa_cons (pe_tup (pa_cons (pv 3) pa_nil)) (pa_cons (pv 1) pa_nil)))) (pg_tup (by rfl) (pgs_cons (pg_name (i := 6) scKS.nd rfl (.inl rfl)) (pgs_cons (pg_name (i := 7) scKS.nd rfl (.inl rfl)) pgs_nil))))
        (pss_cons (ps_expr (pe_bm PySem.F.plainAttrs_list PySem.F.slot_list_extend PySem.F.type_list_extend mt_extend (pv 2) (pa_cons (pv 7) pa_nil)))
        (pss_one (ps_if (pt_cmpR (r := rNot) op_notN (pv 6) pe_non (by rfl)) (pss_one (ps_expr (pe_bm PySem.F.plainAttrs_list PySem.F.slot_list_append PySem.F.type_list_append mt_append (pv 2) (pa_cons (pe_tup (pa_cons pe_str (pa_cons (pv 6) pa_nil))) pa_nil)))) pss_nil)))))
      (pss_one (ps_ret (pe_callTy (T := "tuple") (r := rTupOf K) call_tupleOf (by rfl) m_tuple (by decide +kernel) (pa_cons (pe_callB (r := rSortX K) (cr_sortedX hr.units) (by rfl) m_sorted (by decide +kernel) (pa_cons (pv 2) pa_nil)) pa_nil))))), ?_⟩
    obtain ⟨z1, z2⟩ := raw_sizes (flagOf hs) t
    obtain ⟨y1, y2, _⟩ := seen_bd (flagOf hs) [0] t
    refine q_asgR (F := F0) (n := 0) (k := 0) (P := IsN H F0 K []) (rn_lst (K := K) (ds := []) F0.ok ra_nil) F0.g (Nat.le_refl _) fun x2 H1 e1 _ ⟨L, ls, ex2, nL, _, hL, dL⟩ => ?_
    subst ex2
    cases dL
    replace e1 := F0.ex e1
    change tSeq (tFor _ _ _) _ _ [some v1, some v2, some (.ref L), none, none, none, none, none] H1
    refine q_forE (F := F0) (n := 0) (k := 0) (ds := [topD t]) F0.ok (rd_var0 rfl (dp_ex e1 _ _ p1)) F0.g (Nat.le_refl _) (by rw [flats_cons]; exact ⟨topD_flat t, rfl⟩) (fun H3 i σ' H' => ∃ xs u3 u4 u5 u6 u7, σ' = [some v1, some v2, some (.ref L), u3, u4, u5, u6, u7] ∧ Ex H H' ∧ KT K H3 H' ∧ H' L = some (.lst xs) ∧ DpAll K H' xs ((if i = 0 then [] else rawS (flagOf hs) t).map Pc.D))
      (fun H3 e3 _ => ⟨[], none, none, none, none, none, rfl, e1.trans (F0.ex e3), fun _ _ h => h, F0.ex e3 _ _ hL, .nil⟩) (fun H3 i σ' H' ⟨_, _, _, _, _, _, _, _, k, _⟩ => k) (fun H3 i x T0 d σ' H' hi ⟨xs, u3, u4, u5, u6, u7, es, e, k, hx, dx⟩ hT hd => ?_) fun H3 σ' H' _ ⟨xs, u3, u4, u5, u6, u7, es, e, k, hx, dx⟩ => ?_
    · subst es
      have hi0 : i = 0 := by
        have := (List.getElem?_eq_some_iff.mp hi).1
        simp at this
        exact this
      subst hi0
      cases hi
      cases dx
      have eT : Ex H' (upd H' T0 (.tup [.int (0 : Nat), x])) := Ex.new hT
      have hx4 := eT _ _ hx
      have e04 := e.trans eT
      have k4 : KT K H3 (upd H' T0 (.tup [.int (0 : Nat), x])) := kt_trans k (kt_ex eT)
      have hT4 : SqT K (upd H' T0 (.tup [.int (0 : Nat), x])) T0 [.int (0 : Nat), x] := st_of upd_same
      generalize upd H' T0 (.tup [.int (0 : Nat), x]) = H4 at hd hx4 e04 k4 hT4 ⊢
      obtain ⟨a0, c1, c2, rfl, ha0, hc1, hc2⟩ := dp_two hd
      cases hc1
      refine ⟨T0, _, rfl, hT4, rfl, _, _, rfl, _, _, rfl, ⟨a0, _, rfl, ha0, rfl, _, _, rfl, _, _, rfl, rfl, rfl, ?_⟩⟩
      change tSeq (tAsg (tCall (spSeen K 6) [] C8.E0 (tCons (tIf (tTest (tOp rEq (tVar 4) (tC (.str "top")))) (tVar 5) (tTup (tCons (tC (.str "")) (tCons (tC (.int 0)) (tCons (tVar 5) tNil))))) (tCons (tTup (tCons (tVar 3) tNil)) (tCons (tVar 1) tNil)))) _) _ _ [some v1, some v2, some (.ref L), some (.int (0 : Nat)), some (.str "top"), some c2, u6, u7] H4
      have args : EvRA F0 (tCons (tIf (tTest (tOp rEq (tVar 4) (tC (.str "top")))) (tVar 5) (tTup (tCons (tC (.str "")) (tCons (tC (.int 0)) (tCons (tVar 5) tNil))))) (tCons (tTup (tCons (tVar 3) tNil)) (tCons (tVar 1) tNil))) [some v1, some v2, some (.ref L), some (.int (0 : Nat)), some (.str "top"), some c2, u6, u7] H4 0 (fun vs H => DpAll K H vs [enc t, pathD [0], .list (hs.map pathD)]) :=
        ra_cons0 (r_if (ka := 0) (kb := 0) (b := decide (("top" : Str) = "top")) F0.ok (rt_val (rv_eqS (rv_var rfl) rv_c)) (fun _ => rd_var0 rfl hc2) fun hb => absurd hb (by decide +kernel)) (ra_cons0 (rd_tup (ds := [.int (0 : Nat)]) F0.ok (ra_one (rd_ofI (rv_var rfl)))) (ra_one (rd_var0 rfl (dp_ex e04 _ _ p2))))
      refine q_asgC args fun vs H5 e5 dv => ?_
      obtain ⟨w1, vs, rfl, d1, dv⟩ := dps_uncons dv
      obtain ⟨w2, vs, rfl, d2, dv⟩ := dps_uncons dv
      obtain ⟨w3, vs, rfl, d3, dv⟩ := dps_uncons dv
      obtain rfl := dps_none dv
      refine ⟨w1, w2, w3, t, [0], hs, rfl, by omega, by omega, by decide, hh, hy, d1, d2, d3, fun a vo l xs2 H6 e6 hT6 nl hl6 dvo dxs => ?_⟩
      refine ⟨a, _, rfl, hT6, rfl, _, _, rfl, _, _, rfl, rfl, ?_⟩
      change tSeq (tDrop _) _ _ [some v1, some v2, some (.ref L), some (.int (0 : Nat)), some (.str "top"), some c2, some vo, some (.ref l)] H6
      have e46 := e5.trans e6
      refine q_extL (F := F0) (n := 0) (k := 0) (ds := (seenT (flagOf hs) [0] t).2.map Pc.D) rfl (e46 _ _ hx4) (fun z => z) (rl_var F0.ok (n := 0) F0.g rfl ⟨l, xs2, rfl, fun z => z, hl6, dxs⟩ (pcs_flat _)) F0.g (Nat.le_refl _) (by rw [List.length_map]; simp; omega) fun zs H7 e7 _ dz hx7 => ?_
      replace e7 := F0.ex e7
      have e47 := e46.trans e7
      rw [List.nil_append]
      have k8 : KT K H7 (upd H7 L (.lst zs)) := kt_lst hx7
      have e08 : Ex H (upd H7 L (.lst zs)) := (e04.trans e47).mut nL
      have hx8 : upd H7 L (.lst zs) L = some (.lst zs) := upd_same
      have dx8 := dps_kt k8 _ _ (pcs_flat _) dz
      have do8 : Dp K (upd H7 L (.lst zs)) vo (optD (seenT (flagOf hs) [0] t).1) := dp_kt k8 _ _ (by cases (seenT (flagOf hs) [0] t).1 with | none => rfl | some s => exact enc_flat s) (dp_ex e7 _ _ dvo)
      have k38 : KT K H3 (upd H7 L (.lst zs)) := kt_trans k4 (kt_trans (kt_ex e47) k8)
      have lz := dps_len dz
      rw [List.length_map] at lz
      generalize upd H7 L (.lst zs) = H8 at e08 hx8 dx8 do8 k38 ⊢
      change tIfS (tTest (tOp rNot (tVar 6) (tC .non))) _ _ _ [some v1, some v2, some (.ref L), some (.int (0 : Nat)), some (.str "top"), some c2, some vo, some (.ref l)] H8
      refine s_ifR (F := F0) (n := 0) (k := 0) (b := !decide (vo = V.non)) (rt_val fun n1 H9 _ g9 e9 Q q => ⟨vo, rfl, rfl, q _ H9 Kx.refl F0.g rfl⟩) F0.g (Nat.le_refl _) (fun hv H9 e9 _ => ?_) (fun hv H9 e9 _ => ?_)
      · replace e9 := F0.ex e9
        cases hso : (seenT (flagOf hs) [0] t).1 with
        | none =>
          rw [hso] at do8
          cases do8
          cases hv
        | some s =>
          rw [hso] at do8
          refine q_appR (F := F0) (n := 0) (k := 0) (P := IsD K (topD s)) rfl (e9 _ _ hx8) (fun z => z) (rd_tup (ds := [.str "top", enc s]) F0.ok (ra_cons0 rd_str (ra_one (rd_var0 rfl (dp_ex e9 _ _ do8)))) (by rw [flats_cons, flats_cons]; exact ⟨rfl, enc_flat s, rfl⟩)) F0.g (Nat.le_refl _) (by omega) fun v H10 e10 _ dvv hx10 => ?_
          have e8a := e9.trans (F0.ex e10)
          have ka : KT K H10 (upd H10 L (.lst (zs ++ [v]))) := kt_lst hx10
          refine ⟨zs ++ [v], _, _, _, _, _, rfl, (e08.trans e8a).mut nL, kt_trans k38 (kt_trans (kt_ex e8a) ka), upd_same, ?_⟩
          have er : (if 0 + 1 = 0 then [] else rawS (flagOf hs) t).map Pc.D = (seenT (flagOf hs) [0] t).2.map Pc.D ++ [topD s] := by
            rw [if_neg (by decide), rawS, hso, List.map_append]
            rfl
          rw [er]
          exact dps_kt ka _ _ (by rw [← er]; exact pcs_flat _) (dps_app (dps_ex e8a _ _ dx8) (.cons dvv .nil))
      · replace e9 := F0.ex e9
        cases hso : (seenT (flagOf hs) [0] t).1 with
        | none =>
          refine ⟨zs, _, _, _, _, _, rfl, e08.trans e9, kt_trans k38 (kt_ex e9), e9 _ _ hx8, ?_⟩
          have er : (if 0 + 1 = 0 then [] else rawS (flagOf hs) t).map Pc.D = (seenT (flagOf hs) [0] t).2.map Pc.D := by
            rw [if_neg (by decide), rawS, hso, List.map_append]
            simp
          rw [er]
          exact dps_ex e9 _ _ dx8
        | some s =>
          rw [hso] at do8
          have hvn : vo = V.non := by
            have := hv
            simpa using this
          subst hvn
          change Dp K H8 .non (enc s) at do8
          rw [enc_eq] at do8
          cases do8
    · subst es
      have er : (if [topD t].length = 0 then [] else rawS (flagOf hs) t) = rawS (flagOf hs) t := if_neg (by simp)
      rw [er] at dx
      refine s_retR (F := F0) (n := 0) (k := 0) (P := IsD K (.tuple ((ownS (flagOf hs) t).map Pc.D))) (EvR.cast (rd_tupOf F0.ok (rl_sortX (ds := (rawS (flagOf hs) t).map Pc.D) F0.ok (rl_var F0.ok (n := 0) F0.g rfl ⟨L, xs, rfl, fun z => z, hx, dx⟩ (pcs_flat _)) (.inr (near_pcs _)) (pcs_depth (by omega)))) (by rw [sortP_map]; rfl)) F0.g (Nat.le_refl _) fun v H5 e5 _ dv => q v H5 (e.trans (F0.ex e5)) dv
end
end K17
/-! ### the law's own sight: _law_own_sight -/
namespace K17
open PySem PySem.Spec PyProof.Rows L2 Evl Fx Fr Dt Tr K18 So
def nOwn : List Str := ["_law_root", "_law_held", "_law_way"]
theorem scOwn : FnScope nOwn ["_law_root", "_law_held"] (defScope (K18.topS 47)) := ⟨rfl, rfl, rfl, by decide +kernel, rfl, by decide +kernel, by decide +kernel⟩
section
variable {P : Program} {w : World} {K : PySem.W.Frag} {mg : Str → Option Value} {base : Heap} {f f2 f3 : Addr} {fd fd2 fd3 : FuncData} {te tl ta tb : TE} {σ σ2 : L2.St} {H : Hp} {k ka kb n : Nat} {d d0 : PyData} {ds es : List PyData} {g : TG} {vs : List Nat} {C : Addr}
def spOwn (K : PySem.W.Frag) : Sp := fun vs H Q _ => ∃ (v1 v2 : V) (t : T) (ks : List (List Nat)), vs = [v1, v2] ∧ size t ≤ 6 ∧ ks.length ≤ 100 ∧ (∀ p ∈ ks, p.length ≤ 100) ∧ Lay t ∧ Dp K H v1 (enc t) ∧ IsL F0 K (ks.map pathD) v2 H ∧
  ∀ v H', Ex H H' → Dp K H' v (.tuple ((ownS (flagOf (ks.map (0 :: ·))) t).map Pc.D)) → Q v H'
theorem paths_flats (ks : List (List Nat)) : flats (ks.map pathD) = true := flats_all.mpr fun d hd => by
  obtain ⟨p, _, rfl⟩ := List.mem_map.mp hd
  exact path_flat p
theorem s_retC {tr : TA} {sp : Sp} {E : XK} {D : Ends} {R : List V → Hp → Prop} (h : EvRA F0 tr σ H 0 R) (kk : ∀ vs H1, Ex H H1 → R vs H1 → sp (vs ++ []) H1 D.rt E) : tRet (tCall sp [] E tr) D σ H := h 0 H (Nat.le_refl _) F0.g Kx.refl _ fun vs H1 e _ p => kk vs H1 (F0.ex e) p
theorem ok_own (F : Fun K "_law_own_sight" "_law_own_sight" (K18.topS 47) f fd) (cS : C8.Cal P w K mg base 7 "_law_kept_sight" (spKS K) []) : FnOk P w K mg base CX0 8 f fd ["_law_root", "_law_held"] (spOwn K) := by
  refine F.ok scOwn (fun vs H Q E h => ?_) (fun cdv A outer s H vs Q E hr h => ?_)
  · obtain ⟨v1, v2, t, hs, rfl, _⟩ := h
    rfl
  · obtain ⟨v1, v2, t, ks, rfl, hsz, hh, hpl, hy, p1, p2, q⟩ := h
    refine ⟨_, pss_one (ps_ret (C8.pe_c cS hr (by decide) (by rfl) (pa_cons (pe_tup (pa_cons (pe_tup (pa_cons pe_str (pa_cons (pv 0) pa_nil))) pa_nil)) (pa_cons (pe_lc (own := [("_law_way", 2)]) (g := gName 2) (by rfl) scOwn.nd (pi_list (pv 1)) (blkOk_by (own := [("_law_way", 2)]) (N := nOwn) (sc := defScope (K18.topS 47)) (by decide +kernel)) (fun _ _ _ _ _ => pg_name (i := 2) scOwn.nd rfl (.inl rfl)) (fun _ _ _ _ _ => pts_nil)
      (te := tOp (rCatA K) (tTup (tCons (tC (.int 0)) tNil)) (tVar 2)) (fun _ _ _ _ _ => pe_op op_catA (pe_tup (pa_cons pe_int pa_nil)) (pv 2))) pa_nil)))), ?_⟩
    have e2 : outs (fun _ => true) (fun i => (ks.map fun p => pathD (0 :: p)).getD i .none) ks.length = (ks.map (0 :: ·)).map pathD := by
      rw [outs_getD .none _ (by rw [List.length_map]), List.map_map]
      rfl
    have lst := r_lcL (F := F0) (K := K) (k := 0) (kt := 0) (ke := 0) (H := H) (tl := tVar 1) (g := gName 2) (tt := tYes) (te := tOp (rCatA K) (tTup (tCons (tC (.int 0)) tNil)) (tVar 2)) (σ := [some v1, some v2, none]) (vs := [2]) F0.ok (fun _ => true) (fun i => (ks.map fun p => pathD (0 :: p)).getD i .none)
      (rl_var F0.ok (n := 0) F0.g rfl p2 (paths_flats ks)) (paths_flats ks) (by rw [List.length_map]; omega) (fun j hj _ => by
        rw [List.length_map] at hj
        rw [List.getD_eq_getElem?_getD, List.getElem?_map, List.getElem?_eq_getElem hj]
        exact path_flat _) fun i x d n1 H' hi hd _ _ => ⟨[some v1, some v2, some x], gv_name, rfl, fun n2 H2 _ g2 e2 Q q => q H2 Kx.refl g2, fun _ => by
        have hlt : i < ks.length := by
          have := (List.getElem?_eq_some_iff.mp hi).1
          rwa [List.length_map] at this
        have hki : ks[i]? = some ks[i] := List.getElem?_eq_getElem hlt
        rw [List.getElem?_map, hki] at hi
        cases hi
        rw [List.getD_eq_getElem?_getD, List.getElem?_map, hki]
        have hp := hpl _ (List.getElem_mem hlt)
        generalize ks[i] = p at hd hp ⊢
        exact rd_cat (ka := 0) (kb := 0) (ds := [.int 0]) (es := p.map fun (i : Nat) => PyData.int (i : Int)) F0.ok (rd_tup F0.ok (ra_one rd_int)) (rd_var F0.ok (n := 0) F0.g rfl hd (path_flat p)) rfl (by rw [List.length_map]; simp; omega)⟩
    rw [List.length_map, e2] at lst
    have args : EvRA F0 (tCons (tTup (tCons (tTup (tCons (tC (.str "top")) (tCons (tVar 0) tNil))) tNil)) (tCons (tLc (iList K (tVar 1)) (gName 2) tYes (tOp (rCatA K) (tTup (tCons (tC (.int 0)) tNil)) (tVar 2)) [2]) tNil)) [some v1, some v2, none] H 0 (fun vs H => DpAll K H vs [.tuple [topD t], .list ((ks.map (0 :: ·)).map pathD)]) :=
      ra_cons0 (rd_tup F0.ok (ra_one (rd_tup (ds := [.str "top", enc t]) F0.ok (ra_cons0 rd_str (ra_one (rd_var0 rfl p1))) (by rw [flats_cons, flats_cons]; exact ⟨rfl, enc_flat t, rfl⟩))) (by rw [flats_cons]; exact ⟨topD_flat t, rfl⟩)) (ra_one (rd_ofL (by simpa using lst)))
    refine s_retC args fun vs H5 e5 dv => ?_
    obtain ⟨w1, vs, rfl, d1, dv⟩ := dps_uncons dv
    obtain ⟨w2, vs, rfl, d2, dv⟩ := dps_uncons dv
    obtain rfl := dps_none dv
    exact ⟨w1, w2, t, ks.map (0 :: ·), rfl, hsz, by rw [List.length_map]; exact hh, hy, d1, d2, fun v H6 e6 dv => q v H6 (e5.trans e6) dv⟩
end
end K17
/-! ### all sets of paths: _law_sets -/
namespace K17
open PySem PySem.Spec PyProof.Rows L2 Evl Fx Fr Dt Tr K18 So
/-- lists of their own, each of which reads as data -/
inductive LsAll (K : PySem.W.Frag) (H : Hp) : List V → List (List PyData) → Prop where
  | nil : LsAll K H [] []
  | cons {l : Addr} {us xs : List V} {s : List PyData} {ss : List (List PyData)} (h : H l = some (.lst us)) (d : DpAll K H us s) (r : LsAll K H xs ss) : LsAll K H (.ref l :: xs) (s :: ss)
def setsF {α : Type} (l : List α) : List (List α) := l.foldl (fun acc x => acc ++ acc.map fun s => s ++ [x]) [[]]
theorem sets_snoc {α : Type} (l : List α) (x : α) : setsF (l ++ [x]) = setsF l ++ (setsF l).map fun s => s ++ [x] := by
  unfold setsF
  rw [List.foldl_append]
  rfl
theorem snoc_ind {α : Type} {p : List α → Prop} (h0 : p []) (h1 : ∀ l x, p l → p (l ++ [x])) (l : List α) : p l := by
  have : p l.reverse.reverse := by
    induction l.reverse with
    | nil => exact h0
    | cons x r ih => rw [List.reverse_cons]; exact h1 _ _ ih
  rwa [List.reverse_reverse] at this
theorem sets_len {α : Type} (l : List α) : (setsF l).length = 2 ^ l.length := by
  refine snoc_ind (p := fun l : List α => (setsF l).length = 2 ^ l.length) rfl (fun l x ih => ?_) l
  rw [sets_snoc, List.length_append, List.length_map, ih, List.length_append, List.length_singleton, Nat.pow_succ]
  omega
theorem sets_mem {α : Type} (l : List α) : ∀ s ∈ setsF l, s.length ≤ l.length ∧ ∀ x ∈ s, x ∈ l := by
  refine snoc_ind (p := fun l : List α => ∀ s ∈ setsF l, s.length ≤ l.length ∧ ∀ x ∈ s, x ∈ l) (fun s h => ?_) (fun l x ih s h => ?_) l
  · rw [List.mem_singleton.mp h]
    simp
  · rw [sets_snoc] at h
    rcases List.mem_append.mp h with h | h
    · obtain ⟨a, b⟩ := ih s h
      exact ⟨by rw [List.length_append]; omega, fun y hy => List.mem_append_left _ (b y hy)⟩
    · obtain ⟨z, hz, rfl⟩ := List.mem_map.mp h
      obtain ⟨a, b⟩ := ih z hz
      refine ⟨by rw [List.length_append, List.length_append]; simp; omega, fun y hy => ?_⟩
      rcases List.mem_append.mp hy with hy | hy
      · exact List.mem_append_left _ (b y hy)
      · exact List.mem_append_right _ hy
section
variable {P : Program} {w : World} {K : PySem.W.Frag} {mg : Str → Option Value} {base : Heap} {f f2 f3 : Addr} {fd fd2 fd3 : FuncData} {te tl ta tb : TE} {σ σ2 : L2.St} {H H' : Hp} {k ka kb n : Nat} {d d0 : PyData} {ds es : List PyData} {g : TG} {vs : List Nat} {C : Addr} {xs ys : List V} {ss zz : List (List PyData)}
theorem ls_ex (e : Ex H H') (h : LsAll K H xs ss) : LsAll K H' xs ss := by
  induction h with
  | nil => exact .nil
  | cons h d _ ih => exact .cons (e _ _ h) (dps_ex e _ _ d) ih
theorem ls_app (h : LsAll K H xs ss) (h' : LsAll K H ys zz) : LsAll K H (xs ++ ys) (ss ++ zz) := by
  induction h with
  | nil => exact h'
  | cons h d _ ih => exact .cons h d ih
theorem ls_len (h : LsAll K H xs ss) : xs.length = ss.length := by
  induction h with
  | nil => rfl
  | cons h d _ ih => simp [ih]
theorem ls_get (h : LsAll K H xs ss) : ∀ {i : Nat} {x : V}, xs[i]? = some x → ∃ l us s, x = .ref l ∧ H l = some (.lst us) ∧ ss[i]? = some s ∧ DpAll K H us s := by
  induction h with
  | nil => intro i x h; simp at h
  | @cons l us xs s ss h d _ ih =>
    intro i x hx
    cases i with
    | zero => cases hx; exact ⟨l, us, s, rfl, h, rfl, d⟩
    | succ i => exact ih hx
theorem r_lcSet {i j m : Nat} {a : Addr} {u : V} (hv : σ[i]? = some (some (.ref a))) (hA : H a = some (.lst xs)) (hl : LsAll K H xs ss) (hz : xs.length ≤ 1000) (hs : ∀ s ∈ ss, s.length ≤ 100 ∧ flats s = true) (du : Dp K H u d) (fd : flat d = true)
    (hu : ∀ x : V, ((wipe σ vs).set j (some x))[m]? = some (some u)) (hj : ∀ x : V, ((wipe σ vs).set j (some x))[j]? = some (some x)) (hw : ∀ x : V, wipe ((wipe σ vs).set j (some x)) vs = wipe σ vs) :
    EvR F0 (tLc (iList K (tVar i)) (gName j) tYes (tOp rCat (tVar j) (tLst (tCons (tVar m) tNil))) vs) σ H 0 (fun v H' => ∃ D us, v = .ref D ∧ H' D = some (.lst us) ∧ LsAll K H' us (ss.map fun s => s ++ [d])) := fun n H1 hn g e Q q => by
  replace e := F0.ex e
  replace hA := e _ _ hA
  replace hl := ls_ex e hl
  replace du := dp_ex e _ _ du
  refine ⟨.ref a, hv, a, rfl, ⟨xs, sq_of hA⟩, fun D hD => ?_⟩
  have e0 := Ex.new (o := HO.lst []) hD
  have lx := ls_len hl
  refine lc_list (xs := xs) (fun n H' => Ex H1 H' ∧ ∃ us, H' D = some (.lst us) ∧ LsAll K (del H' D) us ((ss.take n).map fun s => s ++ [d])) ⟨e0, [], upd_same, by rw [List.take_zero]; exact .nil⟩ (fun n H' _ p => sq_of (p.1 _ _ hA)) (fun n x H' hxn ⟨p, us, hDD, du'⟩ => ?_) fun H' ⟨p, us, hDD, du'⟩ => ?_
  · obtain ⟨l, os, s, rfl, hl1, hsn, ds1⟩ := ls_get hl hxn
    obtain ⟨hs1, hs2⟩ := hs s (List.mem_of_getElem? hsn)
    have lus := ls_len du'
    rw [List.length_map, List.length_take] at lus
    have los := dps_len ds1
    have hln : n < xs.length := (List.getElem?_eq_some_iff.mp hxn).1
    refine ⟨hw _, .ref l, hj _, u, hu _, sz_of (by simp), fun b hb => ⟨l, b, os, [u], rfl, rfl, ?_, upd_same, sz_of (by simp; omega), fun c hc => ?_⟩⟩
    · rw [upd_ne (ne_addr hb (p _ _ hl1))]
      exact p _ _ hl1
    · have eb := Ex.new (o := HO.lst [u]) hb
      have ec := Ex.new (o := HO.lst (os ++ [u])) hc
      have ebc := eb.trans ec
      have hD4 := ebc _ _ hDD
      have hcD : c ≠ D := (ne_addr hc (eb _ _ hDD)).symm
      refine ⟨us, hD4, sz_lt (by omega), (p.trans ebc).mut hD, _, upd_same, ?_⟩
      rw [del_upd, List.take_add_one, hsn, List.map_append]
      refine ls_app (ls_ex (del_ex fun b' o _ h => ebc _ _ h) du') (.cons (us := os ++ [u]) (by rw [del_ne hcD]; exact upd_same) ?_ .nil)
      refine dps_kt (kt_del hD4) _ _ ?_ (dps_app (dps_ex (p.trans ebc) _ _ ds1) (.cons (dp_ex (p.trans ebc) _ _ du) .nil))
      exact flats_all.mpr fun z hz => by
        rcases List.mem_append.mp hz with hz | hz
        · exact flats_all.mp hs2 z hz
        · rw [List.mem_singleton.mp hz]
          exact fd
  · rw [lx, List.take_length] at du'
    exact q (.ref D) H' (Kx.ex p) g ⟨D, us, rfl, hDD, ls_ex ex_del du'⟩
def nSets : List Str := ["_law_some", "_law_found", "_law_one", "_law_lot"]
theorem scSets : FnScope nSets ["_law_some"] (defScope (K18.topS 48)) := ⟨rfl, rfl, rfl, by decide +kernel, rfl, by decide +kernel, by decide +kernel⟩
def spSets (K : PySem.W.Frag) : Sp := fun vs H Q _ => ∃ (v1 : V) (ws : List (List Nat)), vs = [v1] ∧ ws.length ≤ 6 ∧ Dp K H v1 (.list (ws.map pathD)) ∧ ∀ a xs H', H a = none → Ex H H' → H' a = some (.lst xs) → LsAll K H' xs (setsF (ws.map pathD)) → Q (.ref a) H'
theorem ok_sets (F : Fun K "_law_sets" "_law_sets" (K18.topS 48) f fd) : FnOk P w K mg base CX0 1 f fd ["_law_some"] (spSets K) := by
  refine F.ok scSets (fun vs H Q E h => ?_) (fun cdv A outer s H vs Q E hr h => ?_)
  · obtain ⟨v1, ws, rfl, _⟩ := h
    rfl
  · obtain ⟨v1, ws, rfl, hz, p1, q⟩ := h
    refine ⟨_, pss_cons (ps_set (i := 1) scSets.nd rfl (.inl rfl) (pe_lst (pa_cons (pe_lst pa_nil) pa_nil)))
      (pss_cons (ps_for PassesOwn.never rfl (pi_list (pv 0)) (pg_name (i := 2) scSets.nd rfl (.inr rfl))
        (pss_one (ps_set (i := 1) scSets.nd rfl (.inl rfl) (pe_op op_cat (pv 1) (pe_lc (own := [("_law_lot", 3)]) (g := gName 3) (by rfl) scSets.nd (pi_list (pv 1)) (blkOk_by (own := [("_law_lot", 3)]) (N := nSets) (sc := defScope (K18.topS 48)) (by decide +kernel)) (fun _ _ _ _ _ => pg_name (i := 3) scSets.nd rfl (.inl rfl)) (fun _ _ _ _ _ => pts_nil)
          (te := tOp rCat (tVar 3) (tLst (tCons (tVar 2) tNil))) (fun _ _ _ _ _ => pe_op op_cat (pv 3) (pe_lst (pa_cons (pv 2) pa_nil))))))))
      (pss_one (ps_ret (pv 1)))), ?_⟩
    cases p1 with
    | @lst a0 xs0 _ ha0 hx0 =>
    have lx0 := dps_len hx0
    rw [List.length_map] at lx0
    have small : ∀ m, (setsF ((ws.map pathD).take m)).length ≤ 64 := fun m => by
      rw [sets_len]
      refine Nat.le_trans (Nat.pow_le_pow_right (by decide) (show ((ws.map pathD).take m).length ≤ 6 by rw [List.length_take, List.length_map]; omega)) (by decide)
    have fine : ∀ m, ∀ s ∈ setsF ((ws.map pathD).take m), s.length ≤ 100 ∧ flats s = true := fun m s h => by
      obtain ⟨h1, h2⟩ := sets_mem _ s h
      rw [List.length_take, List.length_map] at h1
      exact ⟨by omega, flats_all.mpr fun z hz => flats_all.mp (paths_flats ws) z (List.mem_of_mem_take (h2 z hz))⟩
    refine q_asgX ⟨sz_of (by simp), fun b hb => ⟨sz_of (by simp), fun A hA => ?_⟩⟩
    have eb := Ex.new (o := HO.lst []) hb
    have eA := Ex.new (o := HO.lst [V.ref b]) hA
    have nA : H A = none := by
      cases z : H A with
      | none => rfl
      | some o => rw [eb _ _ z] at hA; cases hA
    have h1 : upd (upd H b (.lst [])) A (.lst [.ref b]) A = some (.lst [.ref b]) := upd_same
    have l1 : LsAll K (upd (upd H b (.lst [])) A (.lst [.ref b])) [.ref b] (setsF ((ws.map pathD).take 0)) := .cons (eA _ _ upd_same) .nil .nil
    have e1 := eb.trans eA
    generalize upd (upd H b (.lst [])) A (.lst [.ref b]) = H1 at h1 l1 e1
    change tSeq (tFor (iList K (tVar 0)) (gName 2) _) _ _ [some (.ref a0), some (.ref A), none, none] H1
    refine q_forLs (a := a0) (xs := xs0) rfl (fun m σ' H' => ∃ A xs u2, σ' = [some (.ref a0), some (.ref A), u2, none] ∧ Ex H H' ∧ H A = none ∧ H' A = some (.lst xs) ∧ LsAll K H' xs (setsF ((ws.map pathD).take m))) ⟨A, _, none, rfl, e1, nA, h1, l1⟩ (fun m σ' H' ⟨_, _, _, _, e, _⟩ => ex_l e ha0) (fun m x σ' H' hxm ⟨A, xs, u2, es, e, nA, hA, hl⟩ => ?_) fun σ' H' ⟨A, xs, u2, es, e, nA, hA, hl⟩ => ?_
    · subst es
      have hm : m < (ws.map pathD).length := by
        have := (List.getElem?_eq_some_iff.mp hxm).1
        rw [List.length_map]
        omega
      have hdm : (ws.map pathD)[m]? = some (ws.map pathD)[m] := List.getElem?_eq_getElem hm
      have dx : Dp K H' x (ws.map pathD)[m] := by
        obtain ⟨u', hu, du⟩ := dps_get (dps_ex e _ _ hx0) hdm
        rw [hxm] at hu
        cases hu
        exact du
      have fx : flat (ws.map pathD)[m] = true := flats_all.mp (paths_flats ws) _ (List.getElem_mem hm)
      have htk : (ws.map pathD).take (m + 1) = (ws.map pathD).take m ++ [(ws.map pathD)[m]] := by rw [List.take_add_one, hdm]; rfl
      have s1 := small m
      have f1 := fine m
      generalize (ws.map pathD)[m] = d at dx fx htk
      have lxs := ls_len hl
      refine ⟨.ref A, rfl, r_lcSet (i := 1) (j := 3) (m := 2) (vs := [3]) (σ := [some (.ref a0), some (.ref A), some x, none]) rfl hA hl (by omega) f1 dx fx (fun _ => rfl) (fun _ => rfl) (fun _ => rfl) 0 H' (Nat.le_refl _) F0.g Kx.refl _ fun v H2 e2 _ ⟨D, us, ev, hD, hls⟩ => ?_⟩
      replace e2 := F0.ex e2
      have lus := ls_len hls
      rw [List.length_map] at lus
      refine ⟨A, D, xs, us, rfl, ev, e2 _ _ hA, hD, sz_of (by omega), fun p hp => ?_⟩
      have ep := Ex.new (o := HO.lst (xs ++ us)) hp
      refine ⟨p, xs ++ us, some x, rfl, e.trans (e2.trans ep), ?_, upd_same, ?_⟩
      · cases z : H p with
        | none => rfl
        | some o => rw [e2 _ _ (e _ _ z)] at hp; cases hp
      · rw [htk, sets_snoc]
        exact ls_ex ep (ls_app (ls_ex e2 hl) hls)
    · subst es
      rw [lx0, ← List.length_map (f := pathD), List.take_length] at hl
      exact ⟨.ref A, rfl, q A xs H' nA e hA hl⟩
end
end K17
/-! ### the written form of a path; repr of any data -/
namespace K17
open PySem PySem.Spec PyProof.Rows L2 Evl Fx Fr Dt Tr K18 So
def dig (p : List Nat) : Prop := ∀ x ∈ p, x ≤ 9
def jn : List Nat → List Nat
  | [] => []
  | [a] => [48 + a]
  | a :: b :: r => (48 + a) :: 44 :: 32 :: jn (b :: r)
def charsP (p : List Nat) : List Nat := 40 :: (jn p ++ (if p.length = 1 then [44, 41] else [41]))
theorem dig_text : ∀ n : Nat, n ≤ 9 → (PyData.shown (.int (n : Int))).cps.toList = [48 + n] := by
  intro n h
  match n, h with
  | 0, _ | 1, _ | 2, _ | 3, _ | 4, _ | 5, _ | 6, _ | 7, _ | 8, _ | 9, _ => decide +kernel
theorem shownAll_map : ∀ ds : List PyData, PyData.shownAll ds = ds.map PyData.shown
  | [] => rfl
  | d :: ds => by rw [PyData.shownAll, shownAll_map ds]; rfl
theorem join_text : ∀ p : List Nat, dig p → (Str.join ", " ((p.map fun (i : Nat) => PyData.int (i : Int)).map PyData.shown)).cps.toList = jn p
  | [], _ => rfl
  | [a], h => dig_text a (h a (List.mem_cons_self ..))
  | a :: b :: r, h => by
    have ih := join_text (b :: r) fun x hx => h x (List.mem_cons_of_mem _ hx)
    have ha := dig_text a (h a (List.mem_cons_self ..))
    show (PyData.shown (.int (a : Int)) ++ ", " ++ Str.join ", " (((b :: r).map fun (i : Nat) => PyData.int (i : Int)).map PyData.shown)).cps.toList = _
    rw [Str.cps_append, Str.cps_append, Array.toList_append, Array.toList_append, ih, ha]
    rfl
theorem path_text (p : List Nat) (h : dig p) : (PyData.shown (pathD p)).cps.toList = charsP p := by
  have e : PyData.shown (pathD p) = tupleText ((p.map fun (i : Nat) => PyData.int (i : Int)).map PyData.shown) := by
    rw [pathD, PyData.shown, shownAll_map]
  have hl : ((p.map fun (i : Nat) => PyData.int (i : Int)).map PyData.shown).length = p.length := by rw [List.length_map, List.length_map]
  rw [e, tupleText, Str.cps_append, Str.cps_append, Array.toList_append, Array.toList_append, join_text p h, hl]
  unfold charsP
  by_cases h1 : p.length = 1
  · rw [if_pos h1, if_pos (by simpa using h1)]
    rfl
  · rw [if_neg h1, if_neg (by simpa using h1)]
    rfl
theorem jn_len : ∀ p : List Nat, p ≠ [] → (jn p).length + 2 = 3 * p.length
  | [], h => absurd rfl h
  | [a], _ => rfl
  | a :: b :: r, _ => by
    have := jn_len (b :: r) (by simp)
    simp only [jn, List.length_cons] at this ⊢
    omega
theorem jn_inj : ∀ p q : List Nat, p.length = q.length → jn p = jn q → p = q
  | [], [], _, _ => rfl
  | [a], [b], _, h => by simp only [jn, List.cons.injEq] at h; congr 1; omega
  | a :: b :: r, c :: d :: s, hl, h => by
    simp only [jn, List.cons.injEq, true_and] at h
    have ih := jn_inj (b :: r) (d :: s) (by simpa using hl) h.2
    rw [ih]
    congr 1
    omega
  | [], _ :: _, hl, _ => by simp at hl
  | _ :: _, [], hl, _ => by simp at hl
  | [_], _ :: _ :: _, hl, _ => by simp at hl
  | _ :: _ :: _, [_], hl, _ => by simp at hl
theorem chars_len (p : List Nat) : (charsP p).length = if p.length = 0 then 2 else if p.length = 1 then 4 else 3 * p.length := by
  cases p with
  | nil => rfl
  | cons a r =>
    have := jn_len (a :: r) (by simp)
    unfold charsP
    by_cases h1 : (a :: r).length = 1
    · rw [if_pos h1]
      simp only [List.length_cons, List.length_append, List.length_nil] at this h1 ⊢
      simp [h1]
      omega
    · rw [if_neg h1]
      simp only [List.length_cons, List.length_append, List.length_nil] at this h1 ⊢
      rw [if_neg (by omega), if_neg (by omega)]
      omega
theorem chars_inj {p q : List Nat} (h : charsP p = charsP q) : p = q := by
  have hl : p.length = q.length := by
    have h1 := chars_len p
    have h2 := chars_len q
    rw [h, h2] at h1
    split at h1 <;> split at h1 <;> (try split at h1) <;> (try split at h1) <;> omega
  unfold charsP at h
  rw [hl] at h
  injection h with _ h
  exact jn_inj p q hl (List.append_cancel_right h)
/-- a text that may be a path's -/
def okHead : List Nat → Bool
  | 40 :: c :: _ => c == 41 || (decide (48 ≤ c) && decide (c ≤ 57))
  | _ => false
theorem path_head {p : List Nat} (h : dig p) : okHead (charsP p) = true := by
  match p with
  | [] => rfl
  | [a] =>
    have := h a (List.mem_cons_self ..)
    simp [charsP, jn, okHead]
    omega
  | a :: b :: r =>
    have := h a (List.mem_cons_self ..)
    simp [charsP, jn, okHead]
    omega
theorem shown_inj {p q : List Nat} (hp : dig p) (hq : dig q) (h : PyData.shown (pathD p) = PyData.shown (pathD q)) : p = q := chars_inj (by rw [← path_text p hp, ← path_text q hq, h])
/-- no path -/
def oddB (d : PyData) : Bool := !okHead (PyData.shown d).cps.toList
theorem odd_ne {d : PyData} {p : List Nat} (ho : oddB d = true) (hp : dig p) : PyData.shown d ≠ PyData.shown (pathD p) := fun h => by
  rw [oddB, h, path_text p hp, path_head hp] at ho
  cases ho
theorem chars_ok {p : List Nat} (h : dig p) : PyData.strOk (PyData.shown (pathD p)) = true := by
  have hj : ∀ q : List Nat, dig q → ∀ c ∈ jn q, c < 0x110000 := fun q => by
    induction q with
    | nil => intro _ c hc; simp [jn] at hc
    | cons a r ih =>
      intro hq c hc
      have ha := hq a (List.mem_cons_self ..)
      cases r with
      | nil =>
        simp only [jn, List.mem_singleton] at hc
        omega
      | cons b s =>
        simp only [jn, List.mem_cons] at hc
        rcases hc with hc | hc | hc | hc
        · omega
        · omega
        · omega
        · exact ih (fun x hx => hq x (List.mem_cons_of_mem _ hx)) c hc
  show ((PyData.shown (pathD p)).cps.all (· < 0x110000)) = true
  rw [← Array.all_toList, path_text p h, List.all_eq_true]
  intro c hc
  refine decide_eq_true ?_
  unfold charsP at hc
  rcases List.mem_cons.mp hc with hc | hc
  · omega
  · rcases List.mem_append.mp hc with hc | hc
    · exact hj p h c hc
    · split at hc <;> simp at hc <;> omega
section
variable {X : Cx} {K : PySem.W.Frag} {te : TE} {σ : L2.St} {H : Hp} {d : PyData}
/-- repr of any data -/
def rReprX (K : PySem.W.Frag) : List V → Hp → VK → Prop := fun xs H Q => ∃ (x : V) (d : PyData), xs = [x] ∧ Dp K H x d ∧ d.showable = true ∧ d.hasDict = false ∧ d.depth ≤ 60 ∧ d.shown.length ≤ sizeLine ∧ Q (.str d.shown) H
theorem cr_reprX (hg : X.A.guards = some []) (hu : X.A.units + 64 < cLine) : CallR X (.builtin "repr") (rReprX X.K) := by
  intro pins s σ H xs us Q I r h
  obtain ⟨x, d, rfl, hd, h1, h2, h3, h4, q⟩ := h
  cases x with
  | ref a => exact DtG.cr_reprD hg hu pins s σ H [.ref a] us Q I r ⟨a, d, rfl, hd, h1, h2, h3, h4, q⟩
  | non =>
    cases hd
    obtain ⟨u, rfl, ru⟩ := vals1 r
    cases ru
    exact PySem.P.repr_of_none ⟨.str _, H, I.tok _, ⟨_, rfl⟩, q⟩
  | int i =>
    cases hd
    obtain ⟨u, rfl, t, rfl⟩ := vals1 r
    exact PySem.P.repr_of_int (of_decide_eq_true h1) ⟨.str _, H, I.tok _, ⟨_, rfl⟩, q⟩
  | str z =>
    cases hd
    obtain ⟨u, rfl, t, rfl⟩ := vals1 r
    exact PySem.P.repr_of_str ⟨.str _, H, I.tok _, ⟨_, rfl⟩, q⟩ h4
  | bl b =>
    cases hd
    obtain ⟨u, rfl, ru⟩ := vals1 r
    cases ru
    exact PySem.P.repr_of_bool ⟨.str _, H, I.tok _, ⟨_, rfl⟩, q⟩
  | _ => cases hd
theorem rv_reprX {n w : Nat} (h : EvR F0 te σ H 0 (IsD K d)) (s : Sh n w d) (hn : n ≤ 60) (hw : w ≤ 2 ^ 20) : EvR F0 (tCB (rReprX K) (tCons te tNil)) σ H 0 (fun x _ => x = .str (PyData.shown d)) := fun n1 H1 h1 g e Q q => h n1 H1 h1 g e _ fun v H2 e2 g2 hd =>
  ⟨v, d, rfl, hd, s.shows, s.nod, Nat.le_trans s.dep hn, s.len (by omega) hw, q _ H2 e2 g2 rfl⟩
end
end K17
/-! ### what is due: _law_due -/
namespace K17
open PySem PySem.Spec PyProof.Rows L2 Evl Fx Fr Dt Tr K18 So DtG
def rTupListOf (K : PySem.W.Frag) : List V → Hp → VK → Prop := fun xs H Q => ∃ p ys, xs = [.ref p] ∧ (SqL K H p ys ∨ SqT K H p ys) ∧ ∀ l, H l = none → Q (.ref l) (upd H l (.lst ys))
def waysOf (t : T) : List (List Nat) := (placed [] t).map (·.1)
def goodB (t : T) (x : PyData) : Bool := ((waysOf t).map fun q => PyData.shown (pathD q)).any fun z => z == PyData.shown x
def leP (p q : List Nat) : Bool := Ob.lexAt (fun j => decide ((intsP p).getD j 0 = (intsP q).getD j 0)) (fun j => decide ((intsP p).getD j 0 ≤ (intsP q).getD j 0)) (decide ((intsP p).length ≤ (intsP q).length)) 0 (min (intsP p).length (intsP q).length)
/-- a thing of which the law's tuples are made -/
def ElOk (x : PyData) : Prop := (∃ q, x = pathD q ∧ dig q ∧ q.length ≤ 10) ∨ (oddB x = true ∧ PyData.strOk (PyData.shown x) = true ∧ Sh 10 1000 x)
def stepB (t : T) (ps : List PyData) (k : Nat) : Bool := goodB t (ps.getD k .none) && !(decide (0 < k) && leP (natsOf (ps.getD k .none)) (natsOf (ps.getD (k - 1) .none)))
def dueB (t : T) : PyData → Bool
  | .tuple ps => (List.range ps.length).all (stepB t ps)
  | _ => false
theorem snoc_dig {p : List Nat} {i : Nat} (h : dig p) (hi : i ≤ 9) : dig (p ++ [i]) := fun x hx => by
  rcases List.mem_append.mp hx with hx | hx
  · exact h x hx
  · rw [List.mem_singleton.mp hx]
    exact hi
mutual
theorem placed_dig : ∀ (p : List Nat) (t : T), dig p → size t ≤ 10 → ∀ x ∈ placed p t, dig x.1
  | p, .mk s m cs, hp, hs, x, h => by
    rw [Tr.placed, List.mem_cons] at h
    rw [size] at hs
    rcases h with rfl | h
    · exact hp
    · have := len_sizes cs
      exact placedA_dig p 0 cs hp (by omega) (by omega) x h
theorem placedA_dig : ∀ (p : List Nat) (i : Nat) (ts : List T), dig p → i + ts.length ≤ 10 → sizes ts ≤ 10 → ∀ x ∈ placedA p i ts, dig x.1
  | _, _, [], _, _, _, x, h => by rw [placedA] at h; cases h
  | p, i, t :: ts, hp, hi, hs, x, h => by
    rw [placedA] at h
    rw [sizes] at hs
    rw [List.length_cons] at hi
    rcases List.mem_append.mp h with h | h
    · exact placed_dig (p ++ [i]) t (snoc_dig hp (by omega)) (by omega) x h
    · exact placedA_dig p (i + 1) ts hp (by omega) (by omega) x h
end
theorem ways_dig {t : T} (h : size t ≤ 6) : ∀ q ∈ waysOf t, dig q := fun q hq => by
  obtain ⟨x, hx, rfl⟩ := List.mem_map.mp hq
  exact placed_dig [] t (fun y hy => by cases hy) (by omega) x hx
theorem nats_path (q : List Nat) : natsOf (pathD q) = q := by
  show (q.map fun (i : Nat) => PyData.int (i : Int)).map natOf = q
  rw [List.map_map]
  refine (List.map_congr_left fun i _ => ?_).trans (List.map_id q)
  simp [natOf]
/-- what is good is a way of the tree -/
theorem good_is {t : T} {x : PyData} (hs : size t ≤ 6) (he : ElOk x) (h : goodB t x = true) : ∃ q, x = pathD q ∧ q ∈ waysOf t ∧ q.length ≤ 10 := by
  obtain ⟨z, hz, e⟩ := List.any_eq_true.mp h
  obtain ⟨q, hq, rfl⟩ := List.mem_map.mp hz
  have e' : PyData.shown (pathD q) = PyData.shown x := by simpa using e
  rcases he with ⟨p, rfl, hp, hl⟩ | ⟨ho, _, _⟩
  · have := shown_inj (ways_dig hs q hq) hp e'
    subst this
    exact ⟨q, rfl, hq, hl⟩
  · exact absurd e'.symm (odd_ne ho (ways_dig hs q hq))
theorem el_str {x : PyData} (he : ElOk x) : PyData.strOk (PyData.shown x) = true := by
  rcases he with ⟨p, rfl, hp, hl⟩ | ⟨_, h, _⟩
  · exact chars_ok hp
  · exact h
theorem path_sh {q : List Nat} (hq : dig q) (hl : q.length ≤ 10) : Sh 10 1000 (pathD q) := by
  refine (sh_tup (n := 0) (w := 41) (m := 10) (fun d hd => ?_) (by rw [List.length_map]; exact hl)).mono (by decide) (by decide)
  obtain ⟨i, hi, rfl⟩ := List.mem_map.mp hd
  have := hq i hi
  exact sh_int' (by omega)
theorem el_sh {x : PyData} (he : ElOk x) : Sh 10 1000 x := by
  rcases he with ⟨p, rfl, hp, hl⟩ | ⟨_, _, h⟩
  · exact path_sh hp hl
  · exact h
theorem ways_len {t : T} (h : size t ≤ 6) : ∀ q ∈ waysOf t, q.length ≤ 6 := fun q hq => by
  obtain ⟨x, hx, rfl⟩ := List.mem_map.mp hq
  have := placed_path [] t x hx
  simp only [List.length_nil] at this
  omega
def oddD : PyData := .tuple [.str "usable", .str "kept", .int (-1)]
def toldD (ps : List Pc) : PyData := .tuple [.str "told", .tuple (ps.map Pc.D)]
def nDue : List Str := ["_law_root", "_law_item", "_law_ways", "_law_span", "_law_k", "_law_way", "_law_own"]
theorem scDue : FnScope nDue ["_law_root", "_law_item"] (defScope (K18.topS 53)) := ⟨rfl, rfl, rfl, by decide +kernel, rfl, by decide +kernel, by decide +kernel⟩
section
variable {P : Program} {w : World} {K : PySem.W.Frag} {mg : Str → Option Value} {base : Heap} {f f2 f3 : Addr} {fd fd2 fd3 : FuncData} {te tl ta tb : TE} {σ σ2 : L2.St} {H H' : Hp} {k ka kb n : Nat} {d d0 : PyData} {ds es : List PyData} {g : TG} {vs : List Nat} {C : Addr} {xs ys : List V}
def sD (q : List Nat) : PyData := .str (PyData.shown (pathD q))
theorem sh_strs {qs : List (List Nat)} (h : ∀ q ∈ qs, dig q) : SeqAt.shaped (.list (qs.map sD)) = true := by
  have h1 : PyData.canLayAll0 (qs.map sD) = true := by
    induction qs with
    | nil => rfl
    | cons q qs ih =>
      rw [List.map_cons, PyData.canLayAll0, Bool.and_eq_true]
      exact ⟨chars_ok (h q (List.mem_cons_self ..)), ih fun z hz => h z (List.mem_cons_of_mem _ hz)⟩
  have h2 : PyData.depthAll (qs.map sD) = 0 := by
    clear h h1
    induction qs with
    | nil => rfl
    | cons q qs ih => rw [List.map_cons, PyData.depthAll, ih]; rfl
  show ((PyData.list (qs.map sD)).canLay0 && decide ((PyData.list (qs.map sD)).depth ≤ 64)) = true
  rw [Bool.and_eq_true]
  exact ⟨by rw [PyData.canLay0]; exact h1, decide_eq_true (by rw [PyData.depth, h2]; omega)⟩
theorem strs_flat (qs : List (List Nat)) : flats (qs.map sD) = true := flats_all.mpr fun d hd => by
  obtain ⟨q, _, rfl⟩ := List.mem_map.mp hd
  rfl
theorem rv_notIn {t : T} {x : PyData} (hs : size t ≤ 6) (he : ElOk x) (ha : EvR F0 ta σ H 0 (fun v _ => v = .str (PyData.shown x))) (hb : EvR F0 tb σ H 0 (IsL F0 K ((waysOf t).map sD))) : EvR F0 (tOp (rNotInD K) ta tb) σ H 0 (fun v _ => v = .bl (!goodB t x)) := fun n H1 hn g e Q q =>
  ha n H1 hn g e _ fun y H2 e2 g2 ey => hb n H2 hn F0.g (e.trans e2) _ fun z H3 e3 g3 pz => by
    subst ey
    refine ⟨.str (PyData.shown x), _, .str _, pz.dp, ?_, sh_strs (ways_dig hs), ?_⟩
    · show (PyData.strOk (PyData.shown x) && decide (PyData.depth (.str (PyData.shown x)) ≤ 64)) = true
      rw [el_str he]
      rfl
    · refine q _ H3 (e2.trans e3) F0.g ?_
      unfold goodB
      rw [List.any_map, List.any_map]
      rfl
theorem rv_leP {p q : List Nat} (ha : EvR F0 ta σ H 0 (IsD K (pathD p))) (hb : EvR F0 tb σ H 0 (IsD K (pathD q))) : EvR F0 (tOp (rLeT K) ta tb) σ H 0 (fun x _ => x = .bl (leP p q)) := fun n H1 hn g e Q q' =>
  ha n H1 hn g e _ fun x H2 e2 g2 px => hb n H2 hn F0.g (e.trans e2) _ fun y H3 e3 g3 py => by
    obtain ⟨a, rfl, sa⟩ := dp_path (dp_ex (F0.ex e3) _ _ px)
    obtain ⟨b, rfl, sb⟩ := dp_path py
    exact ⟨a, b, _, _, rfl, rfl, sa, sb, q' _ H3 (e2.trans e3) F0.g rfl⟩
theorem rl_listOf (h : EvR F0 te σ H 0 (IsD K (.tuple ds))) : EvR F0 (tCB (rTupListOf K) (tCons te tNil)) σ H 0 (IsL F0 K ds) := fun n H1 hn g e Q q => h n H1 hn g e _ fun v H2 e2 g2 hd => by
  cases hd with
  | @tup a xs _ ha hx => exact ⟨a, xs, rfl, .inr ha, fun l hl => q (.ref l) _ (e2.trans (Kx.ex (Ex.new hl))) F0.g ⟨l, xs, rfl, fun z => z, upd_same, dps_ex (Ex.new hl) _ _ hx⟩⟩
theorem q_forEx {i : Nat} {a : Addr} {tb tz : TS} {D : Ends} (hv : σ[i]? = some (some (.ref a))) (hT : SqT K H a xs) (hx : DpAll K H xs ds) (Pv : Nat → L2.St → Hp → Prop) (h0 : Pv 0 σ H) (hk : ∀ m σ' H', Pv m σ' H' → Ex H H')
    (hs : ∀ m x T d σ' H', ds[m]? = some d → Pv m σ' H' → H' T = none → Dp K (upd H' T (.tup [.int (m : Nat), x])) x d → g (.ref T) σ' (upd H' T (.tup [.int (m : Nat), x])) fun σ2 H2 => tb { D with nx := Pv (m + 1), ct := Pv (m + 1), bk := tz D } σ2 H2)
    (hd : ∀ σ' H', Pv ds.length σ' H' → tz D σ' H') : tSeq (tFor (DtE.iEnumT K (tCons (tVar i) tNil)) g tb) tz D σ H := by
  have lx := dps_len hx
  refine ⟨.ref a, hv, a, xs, rfl, hT, for_enumT Pv h0 (fun m σ' H' p => ex_t (hk _ _ _ p) hT) (fun m x T σ' H' hi p hT' => ?_) fun σ' H' p => hd σ' H' (by rw [← lx]; exact p)⟩
  have h1 := (List.getElem?_eq_some_iff.mp hi).1
  have hdi : ds[m]? = some ds[m] := List.getElem?_eq_getElem (by omega)
  obtain ⟨u, hu, hdu⟩ := dps_get (dps_ex ((hk _ _ _ p).trans (Ex.new (o := HO.tup [.int (m : Nat), x]) hT')) _ _ hx) hdi
  rw [hi] at hu
  cases hu
  exact hs m x T _ σ' H' hdi p hT' hdu
theorem c_call {tr : TA} {sp : Sp} {E : XK} {Q : VK} {R : List V → Hp → Prop} (h : EvRA F0 tr σ H 0 R) (kk : ∀ vs H1, Ex H H1 → R vs H1 → sp (vs ++ []) H1 Q E) : tCall sp [] E tr σ H Q := h 0 H (Nat.le_refl _) F0.g Kx.refl _ fun vs H1 e _ p => kk vs H1 (F0.ex e) p
theorem rv_gt {i j : Int} (ha : EvR F0 ta σ H 0 (fun x _ => x = .int i)) (hb : EvR F0 tb σ H 0 (fun x _ => x = .int j)) : EvR F0 (tOp (rI0 fun i j => .bl (decide (j < i))) ta tb) σ H 0 (fun x _ => x = .bl (decide (j < i))) :=
  rv_op (ka := 0) (kb := 0) F0.ok ha hb fun _ => rv_I0 (g := fun i j => .bl (decide (j < i)))
def spDue (K : PySem.W.Frag) : Sp := fun vs H Q _ => ∃ (v1 v2 : V) (t : T) (d : PyData), vs = [v1, v2] ∧ size t ≤ 6 ∧ Lay t ∧ (∀ ps, d = .tuple ps → ps.length ≤ 100 ∧ ∀ x ∈ ps, ElOk x) ∧ Dp K H v1 (enc t) ∧ Dp K H v2 d ∧
  (dueB t d = true → ∀ ps, d = .tuple ps → ∀ v H', Ex H H' → Dp K H' v (toldD (ownS (flagOf ((ps.map natsOf).map (0 :: ·))) t)) → Q v H') ∧ (dueB t d = false → ∀ v H', Ex H H' → Dp K H' v oddD → Q v H')
theorem ok_due (F : Fun K "_law_due" "_law_due" (K18.topS 53) f fd) (cSp : C8.Cal P w K mg base 6 "_law_spans" (spLSpans K 6) []) (cO : C8.Cal P w K mg base 8 "_law_own_sight" (spOwn K) []) (m_en : mg "enumerate" = none) (mI : mg "isinstance" = none) (mt : mg "tuple" = none) (m_repr : mg "repr" = none) (m_list : mg "list" = none) : FnG P w K mg base CX0 9 f fd ["_law_root", "_law_item"] (spDue K) := by
  refine okG F scDue (fun vs H Q E h => ?_) (fun cdv A outer s H vs Q E hgd hr h => ?_)
  · obtain ⟨v1, v2, t, d, rfl, _⟩ := h
    rfl
  · obtain ⟨v1, v2, t, d, rfl, hsz, hy, hel, p1, p2, q1, q2⟩ := h
    have hu65 : (A.deeper (envOfC "_law_due" (defScope (K18.topS 53)) s.heap.objs.size f cdv)).units + 65 < cLine := by
      have := hr.un
      omega
    refine ⟨_, pss_cons (ps_setLc (i := 2) (own := [("_law_span", 3)]) (g := gName 3) (by rfl) scDue.nd rfl rfl (sw_true rfl rfl rfl (by kernel_rfl)) (pi_list (C8.pe_c cSp hr (by decide) (by rfl) (pa_cons (pv 0) (pa_cons (pe_tup pa_nil) pa_nil)))) (blkOk_by (own := [("_law_span", 3)]) (N := nDue) (sc := defScope (K18.topS 53)) (by decide +kernel)) (fun _ _ _ _ _ => pg_name (i := 3) scDue.nd rfl (.inl rfl)) (fun _ _ _ _ _ => pts_nil)
        (te := tOp (rIxT K) (tVar 3) (tC (.int 0))) (fun _ _ _ _ _ => pe_ix ix_tup (pv 3) pe_int (fun _ _ => rfl)))
      (pss_cons (ps_if (pt_not (pt_val (pe_callB call_isi (by rfl) mI (by decide +kernel) (pa_cons (pv 1) (pa_cons (pe_bltn (v := .ty "tuple") (by rfl) mt (by decide +kernel) rfl) pa_nil))))) (pss_one (ps_ret (pe_tup (pa_cons pe_str (pa_cons pe_str (pa_cons (pe_un un_neg pe_int) pa_nil)))))) pss_nil)
      (pss_cons (ps_for PassesOwn.never rfl (DtE.pi_enumT (by rfl) m_en (pa_cons (pv 1) pa_nil)) (pg_tup (by rfl) (pgs_cons (pg_name (i := 4) scDue.nd rfl (.inl rfl)) (pgs_cons (pg_name (i := 5) scDue.nd rfl (.inl rfl)) pgs_nil)))
        (pss_one (ps_if (PW.pt (pw_or (pt_cmpR (r := rNotInD K) (op_notInD hu65) (pe_callB (r := rReprX K) (cr_reprX hgd hr.units) (by rfl) m_repr (by decide +kernel) (pa_cons (pv 5) pa_nil)) (pe_lc (own := [("_law_own", 6)]) (g := gName 6) (by rfl) scDue.nd (pi_list (pv 2)) (blkOk_by (own := [("_law_own", 6)]) (N := nDue) (sc := defScope (K18.topS 53)) (by decide +kernel)) (fun _ _ _ _ _ => pg_name (i := 6) scDue.nd rfl (.inl rfl)) (fun _ _ _ _ _ => pts_nil)
            (te := tCB (rReprX K) (tCons (tVar 6) tNil)) (fun _ _ _ _ _ => pe_callB (r := rReprX K) (cr_reprX hgd hr.units) (by rfl) m_repr (by decide +kernel) (pa_cons (pv 6) pa_nil))) (by rfl))
            (pw_or1 (PW.pt (pw_and (pt_cmpR op_gt (pv 4) pe_int (nomark _)) (pw_and1 (pt_cmpR (r := rLeT K) (op_leT (by have := hr.units; show _ < _; exact Nat.lt_of_le_of_lt (Nat.le_add_right _ 64) this)) (pv 5) (pe_ix ix_tup (pv 1) (pe_op op_sub (pv 4) pe_int) (fun _ _ => rfl)) (nomark _))))))))
          (pss_one (ps_ret (pe_tup (pa_cons pe_str (pa_cons pe_str (pa_cons (pe_un un_neg pe_int) pa_nil)))))) pss_nil)))
      (pss_one (ps_ret (pe_tup (pa_cons pe_str (pa_cons (C8.pe_c cO hr (by decide) (by rfl) (pa_cons (pv 0) (pa_cons (pe_callTy (T := "list") (r := rTupListOf K) call_list_of (by rfl) m_list (by decide +kernel) (pa_cons (pv 1) pa_nil)) pa_nil))) pa_nil))))))), ?_⟩
    have hwl : (waysOf t).length = size t := by rw [waysOf, List.length_map, placed_len]
    have hc := r_lcL (F := F0) (K := K) (k := 0) (kt := 0) (ke := 0) (H := H) (σ := [some v1, some v2, none, none, none, none, none]) (g := gName 3) (tt := tYes) (te := tOp (rIxT K) (tVar 3) (tC (.int 0))) (tl := tCall (spLSpans K 6) [] C8.E0 (tCons (tVar 0) (tCons (tTup tNil) tNil))) (vs := [3]) F0.ok (fun _ => true) (fun i => ((waysOf t).map pathD).getD i .none)
      (rl_call F0.ok (ra_cons (ka := 0) (kb := 0) F0.ok (rd_var F0.ok (n := 0) F0.g rfl p1 (enc_flat t)) (ra_cons (ka := 0) (kb := 0) (d := pathD []) F0.ok (rd_tup F0.ok ra_nil) ra_nil) (enc_flat t)) ⟨t, [], hsz, by decide, by decide, rfl, rfl⟩) (spans_flat _) (by rw [List.length_map, placed_len]; omega) (fun j _ _ => by
        rw [List.getD_eq_getElem?_getD, List.getElem?_map]
        cases (waysOf t)[j]? with
        | none => rfl
        | some q => exact path_flat q) fun i x d n H8 hd hx8 _ e8 => by
        have hi : i < (Tr.placed [] t).length := by
          have := (List.getElem?_eq_some_iff.mp hd).1
          rwa [List.length_map] at this
        rw [List.getElem?_map, List.getElem?_eq_getElem hi] at hd
        cases hd
        refine ⟨_, gv_name, rfl, rt_yes rfl, fun _ => ?_⟩
        rw [List.getD_eq_getElem?_getD, waysOf, List.getElem?_map, List.getElem?_map, List.getElem?_eq_getElem hi]
        exact rd_ix (ka := 0) (kb := 0) (i := 0) F0.ok (rd_var F0.ok (n := 0) F0.g rfl hx8 (span_flat _)) rv_c 0 rfl rfl (span_flat _)
    rw [List.length_map, outs_getD .none _ (by rw [List.length_map, hwl, placed_len])] at hc
    refine q_asgR (F := F0) (n := 0) (k := _) (P := IsL F0 K ((waysOf t).map pathD)) hc F0.g (by simp) fun vw H1 e1 _ hw => ?_
    replace e1 := F0.ex e1
    have odd : ∀ {σ : L2.St} {H : Hp}, EvR F0 (tTup (tCons (tC (.str "usable")) (tCons (tC (.str "kept")) (tCons (tUn (rU fun i => .int (-i)) (tC (.int 1))) tNil)))) σ H 0 (IsD K oddD) := rd_tup F0.ok (ra_cons0 rd_str (ra_cons0 rd_str (ra_one (rd_ofI rv_neg1))))
    change tSeq (tIfS _ _ _) _ _ [some v1, some v2, some vw, none, none, none, none] H1
    refine q_whenR (F := F0) (n := 0) (k := 0) (b := !isTupB d) (rt_not (rt_val (rv_isTup rfl (dp_ex e1 _ _ p2)))) F0.g (Nat.le_refl _) (fun hb H2 e2 _ => ?_) fun hb H2 e2 _ => ?_
    · refine s_retR (F := F0) (n := 0) (k := 0) (P := IsD K oddD) odd F0.g (Nat.le_refl _) fun v H3 e3 _ hv => q2 ?_ v H3 (e1.trans ((F0.ex e2).trans (F0.ex e3))) hv
      cases d <;> first | rfl | (exact absurd hb (by simp [isTupB]))
    · obtain ⟨ps, rfl⟩ : ∃ ps, d = .tuple ps := by cases d <;> first | exact ⟨_, rfl⟩ | (exact absurd hb (by simp [isTupB]))
      obtain ⟨hpl, hel⟩ := hel ps rfl
      replace q1 := fun h => q1 h ps rfl
      replace e2 := F0.ex e2
      have e02 := e1.trans e2
      have p2' := dp_ex e02 _ _ p2
      have hw2 := mono_l F0.ok (paths_flats _) 0 _ _ _ F0.g (Kx.ex e2) hw
      have hp2 : ∃ a xs, v2 = .ref a ∧ SqT K H2 a xs ∧ DpAll K H2 xs ps := by
        cases p2' with
        | @tup a xs _ ha hx => exact ⟨a, xs, rfl, ha, hx⟩
      obtain ⟨a, xs, rfl, ha, hx⟩ := hp2
      have getD_el : ∀ k, k < ps.length → ElOk (ps.getD k .none) ∧ ps[k]? = some (ps.getD k .none) := fun k hk => by
        rw [List.getD_eq_getElem?_getD, List.getElem?_eq_getElem hk]
        exact ⟨hel _ (List.getElem_mem hk), rfl⟩
      have goodOf : ∀ k, k < ps.length → stepB t ps k = true → ∃ q, ps.getD k .none = pathD q ∧ q ∈ waysOf t ∧ q.length ≤ 10 := fun k hk h => by
        unfold stepB at h
        rw [Bool.and_eq_true] at h
        exact good_is hsz (getD_el k hk).1 h.1
      refine q_forEx (i := 1) (a := a) (xs := xs) (ds := ps) rfl ha hx (fun m σ' H' => ∃ u4 u5, σ' = [some v1, some (.ref a), some vw, none, u4, u5, none] ∧ Ex H2 H' ∧ ∀ j, j < m → stepB t ps j = true) ⟨none, none, rfl, Ex.refl _, fun j hj => absurd hj (Nat.not_lt_zero _)⟩ (fun m σ' H' ⟨_, _, _, e, _⟩ => e) (fun m x T d σ' H' hd ⟨u4, u5, es, e, hall⟩ hT dx => ?_) fun σ' H' ⟨u4, u5, es, e, hall⟩ => ?_
      · subst es
        have hm : m < ps.length := (List.getElem?_eq_some_iff.mp hd).1
        obtain ⟨el, gd⟩ := getD_el m hm
        rw [gd] at hd
        cases hd
        have eT : Ex H' (upd H' T (.tup [.int (m : Nat), x])) := Ex.new hT
        have e4 := e.trans eT
        refine ⟨T, _, rfl, st_of upd_same, rfl, _, _, rfl, _, _, rfl, rfl, ?_⟩
        generalize upd H' T (.tup [.int (m : Nat), x]) = H4 at dx e4 ⊢
        change tIfS (tOr (tTest (tOp (rNotInD K) (tCB (rReprX K) (tCons (tVar 5) tNil)) (tLc (iList K (tVar 2)) (gName 6) tYes (tCB (rReprX K) (tCons (tVar 6) tNil)) [6]))) (tAnd (tTest (tOp (rI0 fun i j => .bl (decide (j < i))) (tVar 4) (tC (.int 0)))) (tTest (tOp (rLeT K) (tVar 5) (tOp (rIxT K) (tVar 1) (tOp (rI0 fun i j => .int (i - j)) (tVar 4) (tC (.int 1)))))))) _ _ _ [some v1, some (.ref a), some vw, none, some (.int (m : Int)), some x, none] H4
        have hw4 := mono_l F0.ok (paths_flats _) 0 _ _ _ F0.g (Kx.ex e4) hw2
        have lst := r_lcL (F := F0) (K := K) (k := 0) (kt := 0) (ke := 0) (H := H4) (σ := [some v1, some (.ref a), some vw, none, some (.int (m : Int)), some x, none]) (g := gName 6) (tt := tYes) (te := tCB (rReprX K) (tCons (tVar 6) tNil)) (tl := tVar 2) (vs := [6]) F0.ok (fun _ => true) (fun i => ((waysOf t).map sD).getD i .none)
          (rl_var F0.ok (n := 0) F0.g rfl hw4 (paths_flats _)) (paths_flats _) (by rw [List.length_map, hwl]; omega) (fun j _ _ => by
            rw [List.getD_eq_getElem?_getD, List.getElem?_map]
            cases (waysOf t)[j]? <;> rfl) fun i y d n H8 hd hy8 _ e8 => by
            have hi : i < (waysOf t).length := by
              have := (List.getElem?_eq_some_iff.mp hd).1
              rwa [List.length_map] at this
            rw [List.getElem?_map, List.getElem?_eq_getElem hi] at hd
            cases hd
            refine ⟨_, gv_name, rfl, rt_yes rfl, fun _ => ?_⟩
            rw [List.getD_eq_getElem?_getD, List.getElem?_map, List.getElem?_eq_getElem hi]
            have hq := List.getElem_mem hi
            exact rd_ofS (rv_reprX (rd_var0 rfl hy8) (path_sh (ways_dig hsz _ hq) (Nat.le_trans (ways_len hsz _ hq) (by decide))) (by decide) (by decide))
        rw [List.length_map, outs_getD .none _ (by rw [List.length_map])] at lst
        have tst : EvRT F0 (tOr (tTest (tOp (rNotInD K) (tCB (rReprX K) (tCons (tVar 5) tNil)) (tLc (iList K (tVar 2)) (gName 6) tYes (tCB (rReprX K) (tCons (tVar 6) tNil)) [6]))) (tAnd (tTest (tOp (rI0 fun i j => .bl (decide (j < i))) (tVar 4) (tC (.int 0)))) (tTest (tOp (rLeT K) (tVar 5) (tOp (rIxT K) (tVar 1) (tOp (rI0 fun i j => .int (i - j)) (tVar 4) (tC (.int 1)))))))) [some v1, some (.ref a), some vw, none, some (.int (m : Int)), some x, none] H4 0 (!goodB t (ps.getD m .none) || (decide (0 < m) && leP (natsOf (ps.getD m .none)) (natsOf (ps.getD (m - 1) .none)))) := by
          refine rt_or (ka := 0) (kb := 0) F0.ok (rt_val (rv_notIn hsz el (rv_reprX (rd_var0 rfl dx) (el_sh el) (by decide) (by decide)) (by simpa using lst))) fun hg => ?_
          have hg' : goodB t (ps.getD m .none) = true := by simpa using hg
          obtain ⟨q, eq, hq, hql⟩ := good_is hsz el hg'
          refine rt_and (ka := 0) (kb := 0) F0.ok (rt_is (rt_val (rv_gt (i := (m : Int)) (j := 0) (rv_var rfl) rv_c)) (by simp)) fun hm0 => ?_
          have hm0' : 0 < m := of_decide_eq_true hm0
          obtain ⟨p, ep, hp, hpl'⟩ := goodOf (m - 1) (by omega) (hall (m - 1) (by omega))
          rw [eq] at dx
          rw [eq, ep, nats_path, nats_path]
          refine rt_val (rv_leP (rd_var0 rfl dx) ?_)
          refine rd_ixT0 (ds := ps) (i := (m : Int) - 1) (rd_var0 rfl (.tup (ex_t e4 ha) (dps_ex e4 _ _ hx))) (rv_sub (rv_var rfl) rv_c) (m - 1) ?_ ?_
          · rw [show (m : Int) - 1 = ((m - 1 : Nat) : Int) by omega]
            exact ixN_nat (by omega)
          · rw [(getD_el (m - 1) (by omega)).2, ep]
        refine s_ifR (F := F0) (n := 0) (k := 0) tst F0.g (Nat.le_refl _) (fun hb' H5 e5 _ => ?_) fun hb' H5 e5 _ => ?_
        · refine s_retR (F := F0) (n := 0) (k := 0) (P := IsD K oddD) odd F0.g (Nat.le_refl _) fun v H6 e6 _ hv => q2 ?_ v H6 (e02.trans (e4.trans ((F0.ex e5).trans (F0.ex e6)))) hv
          have hs0 : stepB t ps m = false := by
            unfold stepB
            cases h1 : goodB t (ps.getD m .none) <;> cases h2 : (decide (0 < m) && leP (natsOf (ps.getD m .none)) (natsOf (ps.getD (m - 1) .none))) <;> simp_all
          show (List.range ps.length).all (stepB t ps) = false
          rw [List.all_eq_false]
          exact ⟨m, List.mem_range.mpr hm, by rw [hs0]; decide⟩
        · refine ⟨_, _, rfl, e4.trans (F0.ex e5), fun j hj => ?_⟩
          by_cases hjm : j = m
          · subst hjm
            unfold stepB
            cases h1 : goodB t (ps.getD j .none) <;> cases h2 : (decide (0 < j) && leP (natsOf (ps.getD j .none)) (natsOf (ps.getD (j - 1) .none))) <;> simp_all
          · exact hall j (by omega)
      · subst es
        have hdue : dueB t (.tuple ps) = true := by
          show (List.range ps.length).all (stepB t ps) = true
          rw [List.all_eq_true]
          exact fun j hj => hall j (List.mem_range.mp hj)
        replace q1 := q1 hdue
        have hps : (ps.map natsOf).map pathD = ps := by
          rw [List.map_map]
          refine (List.map_congr_left fun x hx' => ?_).trans (List.map_id ps)
          obtain ⟨k, hk, rfl⟩ := List.getElem_of_mem hx'
          obtain ⟨q, eq, _, _⟩ := goodOf k hk (hall k hk)
          have : ps[k] = pathD q := by
            rw [← eq, List.getD_eq_getElem?_getD, List.getElem?_eq_getElem hk]
            rfl
          show pathD (natsOf ps[k]) = _
          rw [this, nats_path]
          rfl
        have hlen : ∀ p ∈ ps.map natsOf, p.length ≤ 100 := fun p hp => by
          obtain ⟨x, hx', rfl⟩ := List.mem_map.mp hp
          obtain ⟨k, hk, rfl⟩ := List.getElem_of_mem hx'
          obtain ⟨q, eq, _, hq⟩ := goodOf k hk (hall k hk)
          have : ps[k] = pathD q := by
            rw [← eq, List.getD_eq_getElem?_getD, List.getElem?_eq_getElem hk]
            rfl
          rw [this, nats_path]
          omega
        have e6 := e02.trans e
        refine s_ret2 (ta := tC (.str "told")) (R := fun x _ => x = .str "told") rv_c fun v0 H5 e5 ev0 => ?_
        subst ev0
        have args : EvRA F0 (tCons (tVar 0) (tCons (tCB (rTupListOf K) (tCons (tVar 1) tNil)) tNil)) [some v1, some (.ref a), some vw, none, u4, u5, none] H5 0 (fun vs H => ∃ w1 w2, vs = [w1, w2] ∧ Dp K H w1 (enc t) ∧ IsL F0 K ps w2 H) := fun n1 H6 hn6 g6 e6 Q q =>
          ⟨v1, rfl, rl_listOf (rd_var0 rfl (.tup (ex_t (e.trans e5) ha) (dps_ex (e.trans e5) _ _ hx))) n1 H6 hn6 g6 e6 _ fun w2 H7 e7 g7 hw2 => q [v1, w2] H7 e7 g7 ⟨v1, w2, rfl, dp_ex ((e02.trans (e.trans e5)).trans ((F0.ex e6).trans (F0.ex e7))) _ _ p1, hw2⟩⟩
        refine c_call args fun vs H6 e6 ⟨w1, w2, ev, d1, d2⟩ => ?_
        subst ev
        refine ⟨w1, w2, t, ps.map natsOf, rfl, hsz, by rw [List.length_map]; exact hpl, hlen, hy, d1, by rw [hps]; exact d2, fun v H7 e7 dv => ⟨sz_of (by simp), fun b hb => ?_⟩⟩
        have eb := Ex.new (o := HO.tup [V.str "told", v]) hb
        exact q1 _ _ (e02.trans (e.trans (e5.trans (e6.trans (e7.trans eb))))) (.tup (st_of upd_same) (.cons (.str _) (.cons (dp_ex eb _ _ dv) .nil)))
end
end K17
/-! ### the program's sight is the law's -/
namespace K17
open PySem PySem.Spec PyProof.Rows L2 Evl Fx Fr Dt Tr K18 So
theorem sortP_idem (ps : List Pc) : sortP (sortP ps) = sortP ps := sortP_perm (sortP_mem ps)
theorem sortT_nil {ts : List T} : sortT ts = [] ↔ ts = [] := by
  have h := (sort_perm ts).length_eq
  refine ⟨fun e => ?_, fun e => by rw [e]; simp [sortT]⟩
  rw [e] at h
  exact List.length_eq_zero_iff.mp h.symm
theorem placed_cons (w : List Nat) (s : Str) (m : Int) (cs : List T) : Tr.placed w (.mk s m cs) = (w, .mk s m cs) :: placedA w 0 cs := by rw [Tr.placed]
theorem placedA_len : ∀ (w : List Nat) (i : Nat) (ts : List T), (placedA w i ts).length = sizes ts
  | _, _, [] => by rw [placedA, sizes]; rfl
  | w, i, t :: ts => by rw [placedA, sizes, List.length_append, placed_len, placedA_len w (i + 1) ts]
theorem piece_lost (ts : List T) : pieceOf "lost" ts = .lost ts := by
  unfold pieceOf
  rw [if_neg words_ne.symm]
theorem withP_lost (ts : List T) (ps : List Pc) : withP "lost" (sortT ts) (sortP ps) = sortP (ps ++ pcLost ts) := by
  unfold pcLost
  by_cases h : ts = []
  · rw [if_pos h, sortT_nil.mpr h, withP, List.append_nil]
  · rw [if_neg h]
    have h' : sortT ts ≠ [] := fun z => h (sortT_nil.mp z)
    cases e : sortT ts with
    | nil => exact absurd e h'
    | cons a r =>
      rw [withP, piece_lost]
      exact sortP_app _ _
mutual
theorem res_seen (keep : List Nat → Bool) : ∀ (w : List Nat) (t : T), (resT t ((Tr.placed w t).map fun x => keep x.1)).1 = (seenT keep w t).1.toList ∧ (resT t ((Tr.placed w t).map fun x => keep x.1)).2 = sortP (seenT keep w t).2
  | w, .mk s m cs => by
    obtain ⟨h1, h2⟩ := ress_seen keep w 0 cs
    rw [placed_cons, List.map_cons, resT, seenT, List.headD_cons, List.tail_cons]
    have j1 : (joinR (resL cs ((placedA w 0 cs).map fun x => keep x.1))).1 = sortT (seenL keep w 0 cs).1 := by rw [joinR, h1]
    have j2 : (joinR (resL cs ((placedA w 0 cs).map fun x => keep x.1))).2 = sortP (seenL keep w 0 cs).2 := by rw [joinR]; exact sortP_perm h2
    unfold nodeR
    by_cases hk : keep w = true
    · rw [if_pos hk, if_pos hk]
      exact ⟨by rw [j1]; rfl, j2⟩
    · rw [if_neg hk, if_neg hk]
      refine ⟨rfl, ?_⟩
      rw [j1, j2]
      exact withP_lost _ _
theorem ress_seen (keep : List Nat → Bool) : ∀ (w : List Nat) (i : Nat) (ts : List T), (catR (resL ts ((placedA w i ts).map fun x => keep x.1))).1 = (seenL keep w i ts).1 ∧ (catR (resL ts ((placedA w i ts).map fun x => keep x.1))).2.Perm (seenL keep w i ts).2
  | w, i, [] => by
    rw [resL, seenL]
    exact ⟨rfl, .refl _⟩
  | w, i, t :: ts => by
    obtain ⟨a1, a2⟩ := res_seen keep (w ++ [i]) t
    obtain ⟨b1, b2⟩ := ress_seen keep w (i + 1) ts
    have hl : ((Tr.placed (w ++ [i]) t).map fun x => keep x.1).length = size t := by rw [List.length_map, placed_len]
    rw [placedA, List.map_append, resL, seenL, ← hl, List.take_left, List.drop_left]
    simp only [catR, List.flatMap_cons] at b1 b2 ⊢
    refine ⟨by rw [a1, b1], ?_⟩
    rw [a2]
    exact (sortP_mem _).append b2
end
mutual
theorem seen_shift (keep keep' : List Nat → Bool) (h : ∀ p, keep' (0 :: p) = keep p) : ∀ (w : List Nat) (t : T), seenT keep' (0 :: w) t = seenT keep w t
  | w, .mk s m cs => by rw [seenT, seenT, h, seens_shift keep keep' h w 0 cs]
theorem seens_shift (keep keep' : List Nat → Bool) (h : ∀ p, keep' (0 :: p) = keep p) : ∀ (w : List Nat) (i : Nat) (ts : List T), seenL keep' (0 :: w) i ts = seenL keep w i ts
  | w, i, [] => by rw [seenL, seenL]
  | w, i, t :: ts => by rw [seenL, seenL, List.cons_append, seen_shift keep keep' h (w ++ [i]) t, seens_shift keep keep' h w (i + 1) ts]
end
theorem flag_shift (ks : List (List Nat)) (p : List Nat) : flagOf (ks.map (0 :: ·)) (0 :: p) = flagOf ks p := by
  unfold flagOf
  rw [List.any_map]
  congr 1
theorem piece_top (t : T) (ts : List T) : pieceOf "top" (t :: ts) = .top t := by
  unfold pieceOf
  rw [if_pos rfl]
/-- the program's sight is the law's -/
theorem sight_own (t : T) (ks : List (List Nat)) : sightOf t ks = ownS (flagOf (ks.map (0 :: ·))) t := by
  obtain ⟨h1, h2⟩ := res_seen (flagOf ks) [] t
  have e := seen_shift (flagOf ks) (flagOf (ks.map (0 :: ·))) (flag_shift ks) [] t
  unfold sightOf ownS rawS flagsOf
  rw [e, h1, h2]
  cases (seenT (flagOf ks) [] t).1 with
  | none => simp [withP]
  | some s =>
    simp only [Option.toList_some, withP, piece_top, List.map_cons, List.map_nil]
    exact sortP_app _ _
end K17
/-! ### what is due is what the program tells -/
namespace K17
open PySem PySem.Spec PyProof.Rows L2 Evl Fx Fr Dt Tr K18 So
theorem lexAt_shift (e r : Nat → Bool) (z : Bool) : ∀ (k i : Nat), Ob.lexAt e r z (i + 1) k = Ob.lexAt (fun j => e (j + 1)) (fun j => r (j + 1)) z i k
  | 0, i => rfl
  | k + 1, i => by rw [Ob.lexAt_succ, Ob.lexAt_succ, lexAt_shift e r z k (i + 1)]
theorem lexAt_lt : ∀ ns ms : List Int, Ob.lexAt (fun j => decide (ns.getD j 0 = ms.getD j 0)) (fun j => decide (ns.getD j 0 ≤ ms.getD j 0)) (decide (ns.length ≤ ms.length)) 0 (min ns.length ms.length) = !HT.lexLt ms ns
  | [], [] => rfl
  | [], y :: ys => by simp [Ob.lexAt, HT.lexLt]
  | x :: xs, [] => by simp [Ob.lexAt, HT.lexLt]
  | x :: xs, y :: ys => by
    have ih := lexAt_lt xs ys
    have hm : min (x :: xs).length (y :: ys).length = min xs.length ys.length + 1 := by simp only [List.length_cons]; omega
    rw [hm, Ob.lexAt_succ, lexAt_shift, HT.lexLt_cons]
    have hz : decide ((x :: xs).length ≤ (y :: ys).length) = decide (xs.length ≤ ys.length) := by simp
    rw [hz]
    simp only [List.getD_cons_zero, List.getD_cons_succ]
    by_cases h : x = y
    · rw [if_pos (by simpa using h), if_pos h.symm]
      exact ih
    · rw [if_neg (by simpa using h), if_neg (fun z => h z.symm)]
      by_cases h2 : x ≤ y
      · rw [decide_eq_true h2, decide_eq_false (by omega)]
        rfl
      · rw [decide_eq_false h2, decide_eq_true (by omega)]
        rfl
theorem le_lt (p q : List Nat) : leP p q = !pathLt q p := lexAt_lt _ _
/-- a way from the root -/
def walkN : T → List Nat → Bool
  | _, [] => true
  | t, i :: ps => match t.calls[i]? with | some c => walkN c ps | none => false
theorem walk_path : ∀ (q : List Nat) (t : T), walkB t (q.map fun (i : Nat) => PyData.int (i : Int)) = walkN t q
  | [], t => by rw [List.map_nil, walkB, walkN]
  | i :: q, t => by
    rw [List.map_cons, walkB, walkN, if_pos (by omega), Int.toNat_natCast]
    cases t.calls[i]? with
    | none => rfl
    | some c => exact walk_path q c
mutual
theorem placed_walk : ∀ (w : List Nat) (t : T) (p : List Nat), p ∈ (Tr.placed w t).map (·.1) ↔ ∃ q, p = w ++ q ∧ walkN t q = true
  | w, .mk s m cs, p => by
    have ih := placedA_walk w 0 cs p
    rw [placed_cons, List.map_cons, List.mem_cons, ih]
    constructor
    · rintro (rfl | ⟨k, c, q, hk, rfl, hq⟩)
      · exact ⟨[], by simp, by rw [walkN]⟩
      · refine ⟨k :: q, by simp, ?_⟩
        rw [walkN]
        show (match cs[k]? with | some c => walkN c q | none => false) = true
        rw [hk]
        exact hq
    · rintro ⟨q, rfl, hq⟩
      cases q with
      | nil => exact .inl (by simp)
      | cons k q =>
        rw [walkN] at hq
        change (match cs[k]? with | some c => walkN c q | none => false) = true at hq
        cases hk : cs[k]? with
        | none => rw [hk] at hq; cases hq
        | some c =>
          rw [hk] at hq
          exact .inr ⟨k, c, q, hk, by simp, hq⟩
theorem placedA_walk : ∀ (w : List Nat) (i : Nat) (ts : List T) (p : List Nat), p ∈ (placedA w i ts).map (·.1) ↔ ∃ k c q, ts[k]? = some c ∧ p = w ++ (i + k) :: q ∧ walkN c q = true
  | w, i, [], p => by
    rw [placedA]
    simp
  | w, i, t :: ts, p => by
    have h1 := placed_walk (w ++ [i]) t p
    have h2 := placedA_walk w (i + 1) ts p
    rw [placedA, List.map_append, List.mem_append, h1, h2]
    constructor
    · rintro (⟨q, rfl, hq⟩ | ⟨k, c, q, hk, rfl, hq⟩)
      · exact ⟨0, t, q, rfl, by simp, hq⟩
      · exact ⟨k + 1, c, q, hk, by rw [show i + (k + 1) = i + 1 + k by omega], hq⟩
    · rintro ⟨k, c, q, hk, rfl, hq⟩
      cases k with
      | zero =>
        cases hk
        exact .inl ⟨q, by simp, hq⟩
      | succ k => exact .inr ⟨k, c, q, hk, by rw [show i + 1 + k = i + (k + 1) by omega], hq⟩
end
theorem ways_walk {t : T} {q : List Nat} : q ∈ waysOf t ↔ walkN t q = true := by
  rw [waysOf, placed_walk]
  simp
theorem good_path {t : T} {x : PyData} (hs : size t ≤ 6) (he : ElOk x) : goodB t x = pathB t x := by
  rw [Bool.eq_iff_iff]
  constructor
  · intro h
    obtain ⟨q, rfl, hq, _⟩ := good_is hs he h
    show walkB t (q.map fun (i : Nat) => PyData.int (i : Int)) = true
    rw [walk_path]
    exact ways_walk.mp hq
  · intro h
    cases x with
    | tuple ps =>
      have h' : walkB t ps = true := h
      have e := walk_nats h'
      have hq : ps.map natOf ∈ waysOf t := by
        rw [e, walk_path] at h'
        exact ways_walk.mpr h'
      refine List.any_eq_true.mpr ⟨PyData.shown (pathD (ps.map natOf)), List.mem_map.mpr ⟨_, hq, rfl⟩, ?_⟩
      have : PyData.tuple ps = pathD (ps.map natOf) := by
        show PyData.tuple ps = .tuple ((ps.map natOf).map fun (i : Nat) => PyData.int (i : Int))
        rw [← e]
      rw [this]
      simp
    | _ => exact absurd h (by simp [pathB])
theorem due_kept {t : T} {d : PyData} (hs : size t ≤ 6) (he : ∀ ps, d = .tuple ps → ps.length ≤ 100 ∧ ∀ x ∈ ps, ElOk x) : dueB t d = keptB t d := by
  cases d with
  | tuple ps =>
    obtain ⟨_, he⟩ := he ps rfl
    show (List.range ps.length).all (stepB t ps) = (ps.all (pathB t) && ascB (ps.map natsOf))
    rw [Bool.eq_iff_iff, Bool.and_eq_true, List.all_eq_true, List.all_eq_true]
    have gD : ∀ k, k < ps.length → ps.getD k .none ∈ ps := fun k hk => by
      rw [List.getD_eq_getElem?_getD, List.getElem?_eq_getElem hk]
      exact List.getElem_mem hk
    have nD : ∀ k, k < ps.length → (ps.map natsOf).getD k [] = natsOf (ps.getD k .none) := fun k hk => by
      rw [List.getD_eq_getElem?_getD, List.getD_eq_getElem?_getD, List.getElem?_map, List.getElem?_eq_getElem hk]
      rfl
    constructor
    · intro h
      refine ⟨fun x hx => ?_, ?_⟩
      · obtain ⟨k, hk, rfl⟩ := List.getElem_of_mem hx
        have h1 := h k (List.mem_range.mpr hk)
        unfold stepB at h1
        rw [Bool.and_eq_true] at h1
        have h2 := h1.1
        rw [List.getD_eq_getElem?_getD, List.getElem?_eq_getElem hk] at h2
        rw [← good_path hs (he _ (List.getElem_mem hk))]
        exact h2
      · unfold ascB
        rw [List.all_eq_true]
        intro i hi
        rw [List.mem_range, List.length_map] at hi
        have h1 := h (i + 1) (List.mem_range.mpr (by omega))
        unfold stepB at h1
        rw [Bool.and_eq_true] at h1
        have h2 := h1.2
        rw [decide_eq_true (show 0 < i + 1 by omega), Bool.true_and, le_lt, Bool.not_not, Nat.add_sub_cancel] at h2
        rw [nD i (by omega), nD (i + 1) (by omega)]
        exact h2
    · rintro ⟨h1, h2⟩ k hk
      have hk := List.mem_range.mp hk
      unfold ascB at h2
      rw [List.all_eq_true] at h2
      unfold stepB
      rw [Bool.and_eq_true]
      refine ⟨by rw [good_path hs (he _ (gD k hk))]; exact h1 _ (gD k hk), ?_⟩
      by_cases h0 : 0 < k
      · obtain ⟨i, rfl⟩ : ∃ i, k = i + 1 := ⟨k - 1, by omega⟩
        have h3 := h2 i (List.mem_range.mpr (by rw [List.length_map]; omega))
        rw [nD i (by omega), nD (i + 1) hk] at h3
        rw [decide_eq_true h0, Bool.true_and, le_lt, Bool.not_not, Nat.add_sub_cancel]
        exact h3
      · rw [decide_eq_false h0]
        rfl
  | _ => rfl
end K17
/-! ### defs whose code object is told; what stays when a table of code objects is written -/
namespace K17
open PySem PySem.Spec PyProof.Rows L2 Evl Fx Fr Dt Tr K18 So DtG
/-- as Fun, the code object at c -/
structure FunC (K : PySem.W.Frag) (x qual : Str) (st : Stmt) (f : Addr) (fd : FuncData) (c : Addr) : Prop where
  ex : ∃ (oc : Value) (od : Option Addr) (kV doc pm : Value) (an : Option Addr) (ct : Value) (osl : Array (Option Value)),
    fd = PySem.W.fnOf x qual (defArgs st) (defBody st) (defScope st) .none kV doc pm an (.ref c) ct ∧ K.lookup f = some ⟨oc, od, .func fd, osl⟩ ∧ PySem.W.codeIn K (.ref c) qual = true
  kp : PySem.W.keepIn K (.ref f) = true
section
variable {P : Program} {w : World} {K : PySem.W.Frag} {mg : Str → Option Value} {base : Heap}
theorem okGC {x qual : Str} {st : Stmt} {f c : Addr} {fd : FuncData} {N ps : List Str} {k : Nat} {sp : Sp} (F : FunC K x qual st f fd c) (S : FnScope N ps (defScope st)) (len : ∀ vs H Q E, sp vs H Q E → vs.length = ps.length)
    (hbody : ∀ (A : Around) (outer : List Env) (s : Shared) (H : Hp) (vs : List V) (Q : VK) (E : XK), (A.deeper (envOfC qual (defScope st) s.heap.objs.size f (.ref c))).guards = some [] → Room k (A.deeper (envOfC qual (defScope st) s.heap.objs.size f (.ref c))) → sp vs H Q E →
      ∃ t, PSs (cxOf CX0 P w K mg base N qual (defScope st) f (.ref c) A outer s H E).nox (defBody st) t ∧ t { nx := fun _ H' => Q .non H', rt := Q } (start N vs) H) : FnG P w K mg base CX0 (k + 1) f fd ps sp := by
  obtain ⟨oc, od, kV, doc, pm, an, ct, osl, rfl, lk, hcd⟩ := F.ex
  refine ⟨len, fun A outer s H args us vs Q E hg hr e0 hb r hsp => ?_⟩
  have keep : ∀ b o, base.get? b = some o → s.heap.get? b = some o := fun b o e => (e0.bs b o e).1
  have KX : K.In s.heap := e0.mod.kin.keeps keep
  have names : ∀ y ∈ ps.zip us, (defScope st).names.lookup y.1 = some .local ∨ ((defScope st).names.lookup y.1 = some .cell ∧ ((cellsFrom (s.heap.objs.size + 1) (defScope st).names []).lookup y.1).isSome = true) := by
    rintro ⟨x, v⟩ hy
    exact (S.par x (List.of_mem_zip hy).1).imp id fun q => ⟨q, PySem.W.cellsFrom_some _ _ _ (.inl q)⟩
  refine codeAny_call_function hr.depth (KX _ _ lk) rfl S.co S.gen rfl (PySem.W.codeRec_of KX hcd) (hb _ _ _ _ (wpAny_newFunctionEnv_cells S.kind names ?_))
  intro env he s1 x
  subst he
  obtain ⟨t, ht, hq⟩ := hbody A outer s H vs Q E (deeper_guards hg) (hr.deeper _) hsp
  have I : Inv (cxOf CX0 P w K mg base N qual (defScope st) f (.ref c) A outer s H E) [] (start N vs) H s1 := inv_start S hr.hd e0 (len _ _ _ _ hsp) r x
  refine ⟨(e0.mod.nolimit.keeps keep).keeps x.toInCall.keep, codeAny_func (wpAny_mono (ht.nox.run [] s1 (start N vs) H _ I hq) (fun fl s' hs => ?_) fun e s' hs => hs)⟩
  cases fl with
  | ret u =>
    obtain ⟨v, σ', H', J, rv, q⟩ := hs
    exact ⟨v, H', J.os, J.bare, J.base, J.hok, rv, q⟩
  | next =>
    obtain ⟨σ', H', J, q⟩ := hs
    exact ⟨V.non, H', J.os, J.bare, J.base, J.hok, rfl, q⟩
  | brk =>
    obtain ⟨_, _, _, q⟩ := hs
    exact False.elim q
  | cont =>
    obtain ⟨_, _, _, q⟩ := hs
    exact False.elim q
end
section
variable {K : PySem.W.Frag} {H H' : Hp} {a : Addr} {xs : List V}
theorem rd_n {o : HO} (e : LamX.ExtN H H') (ho : ∀ ps, o ≠ .tbl ps) (h : Rd H a o) : Rd H' a o := by
  rcases h with h | ⟨u, h⟩
  · exact .inl (e _ _ h ho)
  · exact .inr ⟨u, e _ _ h fun ps z => by cases z⟩
theorem sqL_n (e : LamX.ExtN H H') (h : SqL K H a xs) : SqL K H' a xs := h.imp (rd_n e fun ps z => by cases z) id
theorem sqT_n (e : LamX.ExtN H H') (h : SqT K H a xs) : SqT K H' a xs := h.imp (rd_n e fun ps z => by cases z) id
theorem ex_n (e : Ex H H') : LamX.ExtN H H' := LamX.ExtN.of e
mutual
theorem dp_n (e : LamX.ExtN H H') : ∀ (d : PyData) (v : V), Dp K H v d → Dp K H' v d
  | .none, v, h => by cases h; exact .non
  | .bool _, v, h => by cases h; exact .bl _
  | .int _, v, h => by cases h; exact .int _
  | .str _, v, h => by cases h; exact .str _
  | .list ds, v, h => by
    cases h with
    | @lst a xs _ ha hx => exact .lst (sqL_n e ha) (dps_n e ds xs hx)
  | .tuple ds, v, h => by
    cases h with
    | @tup a xs _ ha hx => exact .tup (sqT_n e ha) (dps_n e ds xs hx)
  | .dict _, v, h => by cases h
theorem dps_n (e : LamX.ExtN H H') : ∀ (ds : List PyData) (vs : List V), DpAll K H vs ds → DpAll K H' vs ds
  | [], vs, h => by cases h; exact .nil
  | d :: ds, vs, h => by
    cases h with
    | @cons v vs' _ _ h1 h2 => exact .cons (dp_n e d v h1) (dps_n e ds vs' h2)
end
end
end K17
set_option maxHeartbeats 2000000
/-! ### the law's look at one tree: _law_agrees -/
namespace K17
open PySem PySem.Spec PyProof.Rows L2 Evl Fx Fr Dt Tr K18 So DtG
def nAgr : List Str := ["_law_root", "_law_ways", "_law_span", "_law_items", "_law_lot", "_law_every", "_law_item", "_law_before", "_law_due_here", "_law_told", "_law_own"]
theorem scAgr : FnScope nAgr ["_law_root"] (defScope (K18.topS 54)) := ⟨rfl, rfl, rfl, by decide +kernel, rfl, by decide +kernel, by decide +kernel⟩
section
variable {P : Program} {w : World} {K : PySem.W.Frag} {mg : Str → Option Value} {base : Heap} {f f2 f3 : Addr} {fd fd2 fd3 : FuncData} {te tl ta tb : TE} {σ σ2 : L2.St} {H H' : Hp} {k ka kb n : Nat} {d d0 : PyData} {ds es : List PyData} {g : TG} {vs : List Nat} {C : Addr} {xs ys : List V}
def lamQ : Str := "_law_agrees.<locals>.<lambda>"
def spAgr (K : PySem.W.Frag) (P : Addr) : Sp := fun vs H Q _ => ∃ (v1 : V) (t : T), vs = [v1] ∧ Dp K H v1 (enc t) ∧ size t ≤ 6 ∧ NiceM t ∧ LamX.Tabs [(P, lamQ)] H ∧ ∀ H', LamX.ExtN H H' → LamX.Tabs [(P, lamQ)] H' → Q (.bl true) H'
end
end K17
/-! ### the law's items; what is told is short -/
namespace K17
open PySem PySem.Spec PyProof.Rows L2 Evl Fx Fr Dt Tr K18 So DtG
theorem sh_lst {n w m : Nat} {ds : List PyData} (h : ∀ x ∈ ds, Sh n w x) (hm : ds.length ≤ m) : Sh (n + 1) (m * (w + 1)) (.list ds) := by
  obtain ⟨a1, a2, a3, a4, a5, a6⟩ := sh_all h
  refine ⟨by rw [PyData.canLay0]; exact a1, by rw [PyData.intsShort]; exact a2, by rw [PyData.showable]; exact a3, by rw [PyData.hasDict]; exact a4, by rw [PyData.depth]; omega, ?_⟩
  rw [PyData.weight]
  exact Nat.le_trans a6 (Nat.mul_le_mul_right _ hm)
theorem nice_mk {t : T} : NiceM t ↔ (Nm t.name ∧ (t.mark = 0 ∨ t.mark = 1)) ∧ ∀ c ∈ t.calls, NiceM c := by
  have mem : ∀ {ts : List T} {s : T}, s ∈ subsA ts ↔ ∃ c ∈ ts, s ∈ subs c := fun {ts s} => by
    induction ts with
    | nil => rw [subsA]; simp
    | cons t ts ih => rw [subsA, List.mem_append, ih]; simp
  unfold NiceM
  rw [subs_eq]
  constructor
  · intro h
    exact ⟨h t (List.mem_cons_self ..), fun c hc s hs => h s (List.mem_cons_of_mem _ (mem.mpr ⟨c, hc, hs⟩))⟩
  · rintro ⟨h1, h2⟩ s hs
    rcases List.mem_cons.mp hs with rfl | hs
    · exact h1
    · obtain ⟨c, hc, hs⟩ := mem.mp hs
      exact h2 c hc s hs
def NiceP : Pc → Prop
  | .top t => NiceM t
  | .lost ts => ∀ t ∈ ts, NiceM t
mutual
theorem seen_nice (keep : List Nat → Bool) : ∀ (w : List Nat) (t : T), NiceM t → (∀ s ∈ (seenT keep w t).1.toList, NiceM s) ∧ ∀ p ∈ (seenT keep w t).2, NiceP p
  | w, .mk s m cs, h => by
    obtain ⟨h1, h2⟩ := nice_mk.mp h
    obtain ⟨a, b⟩ := seens_nice keep w 0 cs h2
    rw [seenT]
    by_cases hk : keep w = true
    · rw [if_pos hk]
      refine ⟨fun x hx => ?_, b⟩
      simp only [Option.toList_some, List.mem_singleton] at hx
      subst hx
      exact nice_mk.mpr ⟨h1, fun c hc => a c ((sort_perm _).mem_iff.mp hc)⟩
    · rw [if_neg hk]
      refine ⟨fun x hx => by simp at hx, fun p hp => ?_⟩
      rcases List.mem_append.mp hp with hp | hp
      · exact b p hp
      · unfold pcLost at hp
        split at hp
        · cases hp
        · rw [List.mem_singleton.mp hp]
          exact fun t ht => a t ((sort_perm _).mem_iff.mp ht)
theorem seens_nice (keep : List Nat → Bool) : ∀ (w : List Nat) (i : Nat) (ts : List T), (∀ t ∈ ts, NiceM t) → (∀ s ∈ (seenL keep w i ts).1, NiceM s) ∧ ∀ p ∈ (seenL keep w i ts).2, NiceP p
  | w, i, [], _ => by
    rw [seenL]
    exact ⟨fun s h => (by cases h), fun p h => (by cases h)⟩
  | w, i, t :: ts, h => by
    obtain ⟨a1, a2⟩ := seen_nice keep (w ++ [i]) t (h t (List.mem_cons_self ..))
    obtain ⟨b1, b2⟩ := seens_nice keep w (i + 1) ts fun x hx => h x (List.mem_cons_of_mem _ hx)
    rw [seenL]
    refine ⟨fun s hs => ?_, fun p hp => ?_⟩
    · rcases List.mem_append.mp hs with hs | hs
      · exact a1 s hs
      · exact b1 s hs
    · rcases List.mem_append.mp hp with hp | hp
      · exact a2 p hp
      · exact b2 p hp
end
theorem str_sh {x : Str} (h : PyData.strOk x = true) (hw : x.cps.size ≤ 8) : Sh 0 8 (.str x) := sh_str' h hw
theorem sh_pc {p : Pc} (h : NiceP p) (hs : p.size ≤ 6) : Sh 20 1000 p.D := by
  cases p with
  | top t =>
    have h1 : size t ≤ 6 := hs
    have h2 := sh_tree t h
    refine (sh_tup (n := 12) (w := 60) (m := 2) (fun d hd => ?_) (by simp)).mono (by decide) (by decide)
    rcases List.mem_cons.mp hd with rfl | hd
    · exact (str_sh (by decide +kernel) (by decide +kernel)).mono (by decide) (by decide)
    · rw [List.mem_singleton.mp hd]
      exact h2.mono (by omega) (by omega)
  | lost ts =>
    have h1 : sizes ts ≤ 6 := hs
    have hl := len_sizes ts
    refine (sh_tup (n := 13) (w := 400) (m := 2) (fun d hd => ?_) (by simp)).mono (by decide) (by decide)
    rcases List.mem_cons.mp hd with rfl | hd
    · exact (str_sh (by decide +kernel) (by decide +kernel)).mono (by decide) (by decide)
    · rw [List.mem_singleton.mp hd]
      refine (sh_tup (n := 12) (w := 60) (m := 6) (fun d hd => ?_) (by rw [List.length_map]; omega)).mono (by decide) (by decide)
      obtain ⟨t, ht, rfl⟩ := List.mem_map.mp hd
      have h2 := sh_tree t (h t ht)
      have h3 : size t ≤ 6 := by
        obtain ⟨i, hi, rfl⟩ := List.getElem_of_mem ht
        have := size_mem (List.getElem?_eq_getElem hi)
        omega
      exact h2.mono (by omega) (by omega)
theorem own_sh (keep : List Nat → Bool) {t : T} (hN : NiceM t) (hs : size t ≤ 6) : Sh 30 20000 (toldD (ownS keep t)) := by
  obtain ⟨z1, z2⟩ := raw_sizes keep t
  obtain ⟨n1, n2⟩ := seen_nice keep [0] t hN
  have hp : ∀ p ∈ ownS keep t, NiceP p ∧ p.size ≤ 6 := fun p h => by
    have h := (sortP_mem _).mem_iff.mp h
    have h2 := psize_mem h
    refine ⟨?_, by omega⟩
    unfold rawS at h
    rcases List.mem_append.mp h with h | h
    · exact n2 p h
    · obtain ⟨s, hs, rfl⟩ := List.mem_map.mp h
      exact n1 s hs
  have hl : (ownS keep t).length ≤ 7 := by
    rw [ownS, (sortP_mem _).length_eq]
    omega
  refine (sh_tup (n := 21) (w := 7 * 1001) (m := 2) (fun d hd => ?_) (by simp)).mono (by decide) (by decide)
  rcases List.mem_cons.mp hd with rfl | hd
  · exact (str_sh (by decide +kernel) (by decide +kernel)).mono (by decide) (by decide)
  · rw [List.mem_singleton.mp hd]
    refine (sh_tup (n := 20) (w := 1000) (m := 7) (fun d hd => ?_) (by rw [List.length_map]; exact hl))
    obtain ⟨p, hp', rfl⟩ := List.mem_map.mp hd
    exact sh_pc (hp p hp').1 (hp p hp').2
/-- what is due of the item d -/
def dueD (t : T) : PyData → PyData
  | .tuple ps => if keptB t (.tuple ps) then toldD (ownS (flagOf ((ps.map natsOf).map (0 :: ·))) t) else oddD
  | _ => oddD
theorem odd_sh : Sh 30 20000 oddD := ⟨by decide +kernel, by decide +kernel, by decide +kernel, by decide +kernel, by decide +kernel, by decide +kernel⟩
theorem due_sh {t : T} {d : PyData} (hN : NiceM t) (hs : size t ≤ 6) : Sh 30 20000 (dueD t d) := by
  cases d with
  | tuple ps =>
    rw [dueD]
    split
    · exact own_sh _ hN hs
    · exact odd_sh
  | _ => exact odd_sh
theorem told_flat (ps : List Pc) : flat (toldD ps) = true := by
  rw [toldD, flat_tup, flats_cons, flats_cons, flat_tup]
  exact ⟨rfl, pcs_flat _, rfl⟩
theorem due_flat (t : T) (d : PyData) : flat (dueD t d) = true := by
  cases d with
  | tuple ps =>
    rw [dueD]
    split
    · exact told_flat _
    · rfl
  | _ => rfl
theorem due_some {t : T} (d : PyData) : ∃ ps, dueD t d = .tuple ps := by
  cases d with
  | tuple ps =>
    rw [dueD]
    split
    · exact ⟨_, rfl⟩
    · exact ⟨_, rfl⟩
  | _ => exact ⟨_, rfl⟩
/-- an item of the law -/
def ItemOk (d : PyData) : Prop := (∀ ps, d = .tuple ps → ps.length ≤ 100 ∧ ∀ x ∈ ps, ElOk x) ∧ Sh 30 100000 d
theorem nice_lay {t : T} (h : NiceM t) : Lay t := (sh_tree t h).lay
def oddItems : List PyData := [.none, .int 0, .str "()"]
def oddItems2 : List PyData := [.tuple [.none], .tuple [.tuple [.bool true]], .tuple [.list []], .tuple [.tuple [.int (-1)]], .tuple [.int 0], .tuple [.tuple [], .tuple [.tuple []]], .tuple [.str ""], .tuple [.tuple [.bool false]]]
def itemsOf (W : List PyData) : List PyData := (setsF W).map .tuple ++ [.tuple W.reverse, .tuple (W ++ W.drop (W.length - 1)), .tuple (W ++ [pathD [9]]), .tuple (W ++ [pathD [0, 0, 0, 0]]), .list W] ++ oddItems ++ oddItems2
theorem sh_path_el {q : List Nat} (h1 : dig q) (h2 : q.length ≤ 10) : ElOk (pathD q) ∧ Sh 10 1000 (pathD q) := ⟨.inl ⟨q, rfl, h1, h2⟩, path_sh h1 h2⟩
theorem item_tup {ps : List PyData} (h : ∀ x ∈ ps, ElOk x) (hl : ps.length ≤ 64) : ItemOk (.tuple ps) := ⟨fun qs e => by cases e; exact ⟨by omega, h⟩, (sh_tup (n := 10) (w := 1000) (m := 64) (fun x hx => el_sh (h x hx)) hl).mono (by decide) (by decide)⟩
theorem items_ok {W : List PyData} (h : ∀ x ∈ W, ∃ q, x = pathD q ∧ dig q ∧ q.length ≤ 10) (hl : W.length ≤ 6) : ∀ d ∈ itemsOf W, ItemOk d := fun d hd => by
  have hE : ∀ x ∈ W, ElOk x := fun x hx => .inl (h x hx)
  have shw : Sh 30 100000 (.list W) := (sh_lst (n := 10) (w := 1000) (m := 6) (fun x hx => el_sh (hE x hx)) hl).mono (by decide) (by decide)
  have p9 : ElOk (pathD [9]) := .inl ⟨_, rfl, fun x hx => (by rw [List.mem_singleton.mp hx]; decide), by decide⟩
  have p0 : ElOk (pathD [0, 0, 0, 0]) := .inl ⟨_, rfl, fun x hx => (by simp at hx; omega), by decide⟩
  have app : ∀ {a b : List PyData}, (∀ x ∈ a, ElOk x) → (∀ x ∈ b, ElOk x) → ∀ x ∈ a ++ b, ElOk x := fun ha hb x hx => (List.mem_append.mp hx).elim (ha x) (hb x)
  unfold itemsOf at hd
  rcases List.mem_append.mp hd with hd | hd
  · rcases List.mem_append.mp hd with hd | hd
    · rcases List.mem_append.mp hd with hd | hd
      · obtain ⟨s, hs, rfl⟩ := List.mem_map.mp hd
        obtain ⟨s1, s2⟩ := sets_mem W s hs
        exact item_tup (fun x hx => hE x (s2 x hx)) (by omega)
      · simp only [List.mem_cons, List.not_mem_nil, or_false] at hd
        rcases hd with rfl | rfl | rfl | rfl | rfl
        · exact item_tup (fun x hx => hE x (List.mem_reverse.mp hx)) (by rw [List.length_reverse]; omega)
        · exact item_tup (app hE fun x hx => hE x (List.mem_of_mem_drop hx)) (by rw [List.length_append, List.length_drop]; omega)
        · exact item_tup (app hE fun x hx => (List.mem_singleton.mp hx) ▸ p9) (by rw [List.length_append, List.length_singleton]; omega)
        · exact item_tup (app hE fun x hx => (List.mem_singleton.mp hx) ▸ p0) (by rw [List.length_append, List.length_singleton]; omega)
        · exact ⟨fun ps e => (by cases e), shw⟩
    · simp only [oddItems, List.mem_cons, List.not_mem_nil, or_false] at hd
      rcases hd with rfl | rfl | rfl <;> exact ⟨fun ps e => (by cases e), ⟨by decide +kernel, by decide +kernel, by decide +kernel, by decide +kernel, by decide +kernel, by decide +kernel⟩⟩
  · have od : ∀ {x : PyData}, oddB x = true → PyData.strOk (PyData.shown x) = true → Sh 10 1000 x → ElOk x := fun a b c => .inr ⟨a, b, c⟩
    simp only [oddItems2, List.mem_cons, List.not_mem_nil, or_false] at hd
    have one : ∀ {x : PyData}, ElOk x → ItemOk (.tuple [x]) := fun h => item_tup (fun y hy => (List.mem_singleton.mp hy) ▸ h) (by simp)
    have pe : ElOk (.tuple []) := .inl ⟨[], rfl, fun x hx => (by cases hx), by decide⟩
    rcases hd with rfl | rfl | rfl | rfl | rfl | rfl | rfl | rfl
    · exact one (od (by decide +kernel) (by decide +kernel) ⟨by decide +kernel, by decide +kernel, by decide +kernel, by decide +kernel, by decide +kernel, by decide +kernel⟩)
    · exact one (od (by decide +kernel) (by decide +kernel) ⟨by decide +kernel, by decide +kernel, by decide +kernel, by decide +kernel, by decide +kernel, by decide +kernel⟩)
    · exact one (od (by decide +kernel) (by decide +kernel) ⟨by decide +kernel, by decide +kernel, by decide +kernel, by decide +kernel, by decide +kernel, by decide +kernel⟩)
    · exact one (od (by decide +kernel) (by decide +kernel) ⟨by decide +kernel, by decide +kernel, by decide +kernel, by decide +kernel, by decide +kernel, by decide +kernel⟩)
    · exact one (od (by decide +kernel) (by decide +kernel) ⟨by decide +kernel, by decide +kernel, by decide +kernel, by decide +kernel, by decide +kernel, by decide +kernel⟩)
    · refine item_tup (fun y hy => ?_) (by simp)
      rcases List.mem_cons.mp hy with rfl | hy
      · exact pe
      · rw [List.mem_singleton.mp hy]
        exact od (by decide +kernel) (by decide +kernel) ⟨by decide +kernel, by decide +kernel, by decide +kernel, by decide +kernel, by decide +kernel, by decide +kernel⟩
    · exact one (od (by decide +kernel) (by decide +kernel) ⟨by decide +kernel, by decide +kernel, by decide +kernel, by decide +kernel, by decide +kernel, by decide +kernel⟩)
    · exact one (od (by decide +kernel) (by decide +kernel) ⟨by decide +kernel, by decide +kernel, by decide +kernel, by decide +kernel, by decide +kernel, by decide +kernel⟩)
end K17
set_option maxHeartbeats 2000000
/-! ### the law's look at one tree: _law_agrees, its reading -/
namespace K17
open PySem PySem.Spec PyProof.Rows L2 Evl Fx Fr Dt Tr K18 So DtG
theorem sets_last {α : Type} (l : List α) : (setsF l)[(setsF l).length - 1]? = some l := by
  refine snoc_ind (p := fun l : List α => (setsF l)[(setsF l).length - 1]? = some l) rfl (fun l x ih => ?_) l
  have h1 := sets_len l
  have h2 : 0 < 2 ^ l.length := Nat.two_pow_pos _
  rw [sets_snoc, List.length_append, List.length_map, List.getElem?_append_right (by omega), List.getElem?_map, show (setsF l).length + (setsF l).length - 1 - (setsF l).length = (setsF l).length - 1 by omega, ih]
  rfl
section
variable {P : Program} {w : World} {K : PySem.W.Frag} {mg : Str → Option Value} {base : Heap} {f f2 f3 : Addr} {fd fd2 fd3 : FuncData} {te tl ta tb : TE} {σ σ2 : L2.St} {H H' : Hp} {k ka kb n : Nat} {d d0 : PyData} {ds es : List PyData} {g : TG} {vs : List Nat} {C : Addr} {xs ys : List V} {ss : List (List PyData)} {TS : List (Addr × Str)}
def items1 (W : List PyData) : List PyData := (setsF W).map PyData.tuple ++ [PyData.tuple W.reverse, PyData.tuple (W ++ W.drop (W.length - 1)), PyData.tuple (W ++ [pathD [9]]), PyData.tuple (W ++ [pathD [0, 0, 0, 0]]), PyData.list W]
theorem items1_len (W : List PyData) : (items1 W).length = (setsF W).length + 5 := by simp [items1]
theorem rd_non : EvR F0 (tC .non) σ H 0 (IsD K .none) := fun n1 H1 hn g e Q q => q _ H1 Kx.refl g .non
theorem isL_ex {v : V} (e : Ex H H') (p : IsL F0 K ds v H) : IsL F0 K ds v H' := by
  obtain ⟨a, xs, rfl, hT, ha, hx⟩ := p
  exact ⟨a, xs, rfl, hT, e _ _ ha, dps_ex e _ _ hx⟩
theorem rl_varX {i : Nat} {v : V} (h : σ[i]? = some (some v)) (p : IsL F0 K ds v H) : EvR F0 (tVar i) σ H 0 (IsL F0 K ds) := fun n H1 hn g e Q q => ⟨v, h, q v H1 Kx.refl g (isL_ex (F0.ex e) p)⟩
theorem rd_tup0 {tr : TA} (h : EvRA F0 tr σ H 0 (fun vs H => DpAll K H vs ds)) (hl : ds.length ≤ 100000 := by simp) : EvR F0 (tTup tr) σ H 0 (IsD K (.tuple ds)) :=
  fun n H1 hn g e Q q => h n H1 hn g e _ fun vs H2 e2 g2 p => ⟨sz_of (by rw [dps_len p]; exact hl), fun a ha => q (.ref a) _ (e2.trans (Kx.ex (Ex.new ha))) F0.g (.tup (st_of upd_same) (dps_ex (Ex.new ha) _ _ p))⟩
theorem rl_catX (ha : EvR F0 ta σ H 0 (IsL F0 K ds)) (hb : EvR F0 tb σ H 0 (IsL F0 K es)) (hl : ds.length + es.length ≤ 100000) : EvR F0 (tOp rCat ta tb) σ H 0 (IsL F0 K (ds ++ es)) := fun n H1 hn g e Q q =>
  ha n H1 hn g e _ fun x H2 e2 _ p => hb n H2 hn F0.g (e.trans e2) _ fun y H3 e3 _ p' => by
    obtain ⟨a, xs, rfl, hT, ha, hx⟩ := isL_ex (F0.ex e3) p
    obtain ⟨b, ys, rfl, hT', hb, hy⟩ := p'
    have l1 := dps_len hx
    have l2 := dps_len hy
    refine ⟨a, b, xs, ys, rfl, rfl, ha, hb, sz_of (by omega), fun l hl => ?_⟩
    have el := Ex.new (o := HO.lst (xs ++ ys)) hl
    exact q (.ref l) _ (e2.trans (e3.trans (Kx.ex el))) F0.g ⟨l, _, rfl, fun z => z, upd_same, dps_ex el _ _ (dps_app hx hy)⟩
theorem r_lcTup {j : Nat} (h : EvR F0 tl σ H 0 (fun v H' => ∃ a xs, v = .ref a ∧ H' a = some (.lst xs) ∧ LsAll K H' xs ss)) (hz : ss.length ≤ 1000) (hj : ∀ x : V, ((wipe σ vs).set j (some x))[j]? = some (some x)) (hw : ∀ x : V, wipe ((wipe σ vs).set j (some x)) vs = wipe σ vs) :
    EvR F0 (tLc (iList K tl) (gName j) tYes (tCB (rTupOf K) (tCons (tVar j) tNil)) vs) σ H 0 (IsL F0 K (ss.map .tuple)) := fun n H0 hn g e Q q => h n H0 hn g e _ fun v H1 e1 _ ⟨a, xs, ev, hA, hl⟩ => by
  subst ev
  refine ⟨a, rfl, ⟨xs, sq_of hA⟩, fun D hD => ?_⟩
  have lx := ls_len hl
  refine lc_list (xs := xs) (fun n H' => Ex H1 H' ∧ ∃ us, H' D = some (.lst us) ∧ DpAll K (del H' D) us ((ss.take n).map .tuple)) ⟨Ex.new hD, [], upd_same, by rw [List.take_zero]; exact .nil⟩ (fun n H' _ p => sq_of (p.1 _ _ hA)) (fun n x H' hxn ⟨p, us, hDD, du'⟩ => ?_) fun H' ⟨p, us, hDD, du'⟩ => ?_
  · obtain ⟨l, os, s, rfl, hl1, hsn, ds1⟩ := ls_get hl hxn
    have lus := dps_len du'
    rw [List.length_map, List.length_take] at lus
    have hln : n < xs.length := (List.getElem?_eq_some_iff.mp hxn).1
    refine ⟨hw _, .ref l, hj _, l, os, rfl, .inl ⟨sq_of (p _ _ hl1), fun c hc => ?_⟩⟩
    have ec := Ex.new (o := HO.tup os) hc
    have hD4 := ec _ _ hDD
    have hcD : c ≠ D := (ne_addr hc hDD).symm
    have e1D : Ex H1 (del (upd H' c (.tup os)) D) := fun b o hb => by
      have hbD : b ≠ D := fun z => by rw [z, hD] at hb; cases hb
      rw [del_ne hbD]
      exact ec _ _ (p _ _ hb)
    refine ⟨us, hD4, sz_lt (by omega), (p.trans ec).mut hD, _, upd_same, ?_⟩
    rw [del_upd, List.take_add_one, hsn, List.map_append]
    exact dps_app (dps_ex (del_ex fun b' o _ h => ec _ _ h) _ _ du') (.cons (.tup (st_of (by rw [del_ne hcD]; exact upd_same)) (dps_ex e1D _ _ ds1)) .nil)
  · rw [lx, List.take_length] at du'
    exact q (.ref D) H' (e1.trans (Kx.ex p)) F0.g ⟨D, us, rfl, fun z => z, hDD, dps_ex ex_del _ _ du'⟩
theorem extN_mut {l : Addr} {o : HO} (e : LamX.ExtN H H') (h : ∀ b u, H b = some u → (∀ ps, u ≠ .tbl ps) → b ≠ l) : LamX.ExtN H (upd H' l o) := fun b u hb hn => by
  rw [upd_ne (h b u hb hn)]
  exact e b u hb hn
theorem tabs_lst {l : Addr} {o : HO} (t : LamX.Tabs TS H) (h : H l = some (.lst xs)) : LamX.Tabs TS (upd H l o) := fun p hp => by
  obtain ⟨ps, h1, h2, h3⟩ := t p hp
  have ne : ∀ {b : Addr} {u : HO}, H b = some u → (∀ ys, u ≠ .lst ys) → b ≠ l := fun hb hu z => by
    rw [z, h] at hb
    exact hu xs (Option.some.inj hb).symm
  refine ⟨ps, by rw [upd_ne (ne h1 fun ys z => by cases z)]; exact h1, h2, fun pos cv hc => ?_⟩
  obtain ⟨c, e1, e2⟩ := h3 pos cv hc
  exact ⟨c, e1, by rw [upd_ne (ne e2 fun ys z => by cases z)]; exact e2⟩
theorem r_sets {i : Nat} {v : V} {ws : List (List Nat)} {E : XK} (h : σ[i]? = some (some v)) (hl : ws.length ≤ 6) (hv : Dp K H v (.list (ws.map pathD))) : EvR F0 (tCall (spSets K) [] E (tCons (tVar i) tNil)) σ H 0 (fun v H' => ∃ a xs, v = .ref a ∧ H' a = some (.lst xs) ∧ LsAll K H' xs (setsF (ws.map pathD))) := fun n H1 hn g e Q q =>
  ⟨v, h, v, ws, rfl, hl, dp_ex (F0.ex e) _ _ hv, fun a xs H' _ ex ha hls => q (.ref a) H' (Kx.ex ex) F0.g ⟨a, xs, rfl, ha, hls⟩⟩
theorem r_due {i j : Nat} {v x : V} {t : T} {E : XK} (hi : σ[i]? = some (some v)) (hj : σ[j]? = some (some x)) (hs : size t ≤ 6) (hN : NiceM t) (ok : ItemOk d) (p1 : Dp K H v (enc t)) (p2 : Dp K H x d) : EvR F0 (tCall (spDue K) [] E (tCons (tVar i) (tCons (tVar j) tNil))) σ H 0 (IsD K (dueD t d)) := fun n H1 hn g e Q q => by
  have ek := due_kept hs ok.1
  refine ⟨v, hi, x, hj, v, x, t, d, rfl, hs, nice_lay hN, ok.1, dp_ex (F0.ex e) _ _ p1, dp_ex (F0.ex e) _ _ p2, fun hb ps ed v' H' ex dv => ?_, fun hb v' H' ex dv => ?_⟩
  · subst ed
    refine q v' H' (Kx.ex ex) F0.g ?_
    show Dp K H' v' (dueD t (.tuple ps))
    rw [dueD, if_pos (by rw [← ek]; exact hb)]
    exact dv
  · refine q v' H' (Kx.ex ex) F0.g ?_
    have : dueD t d = oddD := by
      cases d with
      | tuple ps => rw [dueD, if_neg (by rw [← ek, hb]; decide)]
      | _ => rfl
    show Dp K H' v' (dueD t d)
    rw [this]
    exact dv
/-- what the lambda's call is asked for -/
theorem sight_told {v x : V} {t : T} {Q : VK} (hs : size t ≤ 6) (ok : ItemOk d) (p1 : Dp K H v (enc t)) (p2 : Dp K H x d) (q : ∀ p H', Ex H H' → Dp K H' (.ref p) (dueD t d) → Q (.ref p) H') :
    spSight K C [v, x] H (fun u H2 => ∀ p, H2 p = none → Q (.ref p) (upd H2 p (.tup [.str "told", u]))) (exOut C Q) := by
  refine ⟨v, x, t, d, rfl, hs, fun ps e => (ok.1 ps e).1, p1, p2, fun hb ps e u H2 e2 du p hp => ?_, fun hb H2 dd fs e2 hd lw la => ⟨rfl, dd, fs, _, _, rfl, hd, lw, la, fun H3 p e3 hp => ?_⟩⟩
  · subst e
    have ep := Ex.new (o := HO.tup [V.str "told", u]) hp
    refine q p _ (e2.trans ep) ?_
    rw [dueD, if_pos hb, toldD, ← sight_own]
    exact .tup (st_of upd_same) (.cons (.str _) (.cons (dp_ex ep _ _ du) .nil))
  · refine q p H3 (e2.trans e3) ?_
    have : dueD t d = oddD := by
      cases d with
      | tuple ps => rw [dueD, if_neg (by rw [hb]; decide)]
      | _ => rfl
    rw [this]
    exact .tup (st_of hp) (.cons (.str _) (.cons (.str _) (.cons (.int _) .nil)))
theorem lam1 {PT : Addr} {i j : Nat} {v x : V} {t : T} {Q : VK} (hi : σ[i]? = some (some v)) (hj : σ[j]? = some (some x)) (hT : LamX.Tabs [(PT, lamQ)] H) (hs : size t ≤ 6) (ok : ItemOk d) (p1 : Dp K H v (enc t)) (p2 : Dp K H x d)
    (q : ∀ p H', LamX.ExtN H H' → LamX.Tabs [(PT, lamQ)] H' → Dp K H' (.ref p) (dueD t d) → Q (.ref p) H') : LamX.tLam [(PT, lamQ)] (TOut C) (fun E => tCall (spSight K C) [] E (tCons (tVar i) (tCons (tVar j) tNil))) σ H Q :=
  ⟨hT, fun H1 e1 T1 H2 e2 => ⟨v, hi, x, hj, sight_told hs ok (dp_ex e2 _ _ (dp_n e1 _ _ p1)) (dp_ex e2 _ _ (dp_n e1 _ _ p2)) fun p H3 e3 dp => q p H3 (e1.trans (ex_n (e2.trans e3))) (T1.ext fun b o h => (e2.trans e3) b o h) dp⟩⟩
theorem lam2 {PT : Addr} {i j : Nat} {v x : V} {t : T} {Q : VK} (hi : σ[i]? = some (some v)) (hj : σ[j]? = some (some x)) (hT : LamX.Tabs [(PT, lamQ)] H) (hs : size t ≤ 6) (ok : ItemOk d) (p1 : Dp K H v (enc t)) (p2 : Dp K H x d)
    (q : ∀ p H', LamX.ExtN H H' → LamX.Tabs [(PT, lamQ)] H' → Dp K H' (.ref p) (dueD t d) → Q (.ref p) H') : LamX.tLam [(PT, lamQ)] (TOut C) (fun E => tCallN 0 (["kept", "tree"] : List Str).length (spSight K C) (fun _ zs => zs.reverse) E tNil (tCons (tVar j) (tCons (tVar i) tNil))) σ H Q :=
  ⟨hT, fun H1 e1 T1 H2 e2 => ⟨x, hj, v, hi, rfl, rfl, sight_told hs ok (dp_ex e2 _ _ (dp_n e1 _ _ p1)) (dp_ex e2 _ _ (dp_n e1 _ _ p2)) fun p H3 e3 dp => q p H3 (e1.trans (ex_n (e2.trans e3))) (T1.ext fun b o h => (e2.trans e3) b o h) dp⟩⟩
theorem ok_agr {c PT fs fo fdu : Addr} {fds fdo fdd : FuncData} {C CT CI CP CR CB CX CN : Addr} (F : FunC K "_law_agrees" "_law_agrees" (K18.topS 54) f fd c) (TB : LamX.TabB base mg c PT) (cSp : C8.Cal P w K mg base 6 "_law_spans" (spLSpans K 6) []) (cSe : C8.Cal P w K mg base 1 "_law_sets" (spSets K) [])
    (Fs : FnOk P w K mg base (L2.CX P w) 6 fs fds ["tree", "kept"] (spSight K C)) (gs : mg "sight_of" = some (.ref fs)) (ks : PySem.W.keepIn K (.ref fs) = true) (bs : L2.Binds K fds ["tree", "kept"] []) (bk : KBn K fds ["tree", "kept"] 0 ["kept", "tree"] (fun _ ws => ws.reverse) (fun _ zs => zs.reverse))
    (Fo : Fun K "_law_outcome" "_law_outcome" (K18.topS 51) fo fdo) (go : mg "_law_outcome" = some (.ref fo)) (bo : L2.Binds K fdo ["_law_ask"] []) (T : OutK K mg C CT CI CP CR CB CX CN)
    (Fd : FnG P w K mg base CX0 9 fdu fdd ["_law_root", "_law_item"] (spDue K)) (gd : mg "_law_due" = some (.ref fdu)) (kd : PySem.W.keepIn K (.ref fdu) = true) (bd : L2.Binds K fdd ["_law_root", "_law_item"] [])
    (mt : mg "tuple" = none) (m_repr : mg "repr" = none) (m_list : mg "list" = none) : FnG P w K mg base CX0 10 f fd ["_law_root"] (spAgr K PT) := by
  refine okGC F scAgr (fun vs H Q E h => ?_) (fun A outer s H vs Q E hgd hr h => ?_)
  · obtain ⟨v1, t, rfl, _⟩ := h
    rfl
  · obtain ⟨v1, t, rfl, p1, hsz, hN, hT, q⟩ := h
    have hko := Fo.kp
    obtain ⟨oc, od, kV, doc, pm, an, cdv, ct, osl, rfl, lk, hcd⟩ := Fo.ex
    have hu65 : (A.deeper (envOfC "_law_agrees" (defScope (K18.topS 54)) s.heap.objs.size f (.ref c))).units + 300 < cLine := by
      have := hr.un
      omega
    refine ⟨_, pss_cons (ps_setLc (i := 1) (own := [("_law_span", 2)]) (g := gName 2) (by rfl) scAgr.nd rfl rfl (sw_true rfl rfl rfl (by kernel_rfl)) (pi_list (C8.pe_c cSp hr (by decide) (by rfl) (pa_cons (pv 0) (pa_cons (pe_tup pa_nil) pa_nil)))) (blkOk_by (own := [("_law_span", 2)]) (N := nAgr) (sc := defScope (K18.topS 54)) (by decide +kernel)) (fun _ _ _ _ _ => pg_name (i := 2) scAgr.nd rfl (.inl rfl)) (fun _ _ _ _ _ => pts_nil)
        (te := tOp (rIxT K) (tVar 2) (tC (.int 0))) (fun _ _ _ _ _ => pe_ix ix_tup (pv 2) pe_int (fun _ _ => rfl)))
      (pss_cons (ps_setLc (i := 3) (own := [("_law_lot", 4)]) (g := gName 4) (by rfl) scAgr.nd rfl rfl (sw_true rfl rfl rfl (by kernel_rfl)) (pi_list (C8.pe_c cSe hr (by decide) (by rfl) (pa_cons (pv 1) pa_nil))) (blkOk_by (own := [("_law_lot", 4)]) (N := nAgr) (sc := defScope (K18.topS 54)) (by decide +kernel)) (fun _ _ _ _ _ => pg_name (i := 4) scAgr.nd rfl (.inl rfl)) (fun _ _ _ _ _ => pts_nil)
        (te := tCB (rTupOf K) (tCons (tVar 4) tNil)) (fun _ _ _ _ _ => pe_callTy (T := "tuple") (r := rTupOf K) call_tupleOf (by rfl) mt (by decide +kernel) (pa_cons (pv 4) pa_nil)))
      (pss_cons (ps_set (i := 5) scAgr.nd rfl (.inl rfl) (pe_ix ix_list (pv 3) (pe_un un_neg pe_int) (fun _ _ => rfl)))
      (pss_cons (ps_set (i := 3) scAgr.nd rfl (.inl rfl) (pe_op op_cat (pv 3) (pe_lst (pa_cons (pe_revT (pv 5)) (pa_cons (pe_op op_catA (pv 5) (pe_slice sl_tupA (pv 5) (po_some (pe_un un_neg pe_int)) po_none)) (pa_cons (pe_op op_catA (pv 5) (pe_tup (pa_cons (pe_tup (pa_cons pe_int pa_nil)) pa_nil)))
          (pa_cons (pe_op op_catA (pv 5) (pe_tup (pa_cons (pe_tup (pa_cons pe_int (pa_cons pe_int (pa_cons pe_int (pa_cons pe_int pa_nil))))) pa_nil))) (pa_cons (pe_callTy (T := "list") (r := rTupListOf K) call_list_of (by rfl) m_list (by decide +kernel) (pa_cons (pv 5) pa_nil)) pa_nil))))))))
      (pss_cons (ps_set (i := 3) scAgr.nd rfl (.inl rfl) (pe_op op_cat (pv 3) (pe_lst (pa_cons pe_non (pa_cons pe_int (pa_cons pe_str pa_nil))))))
      (pss_cons (ps_set (i := 3) scAgr.nd rfl (.inl rfl) (pe_op op_cat (pv 3) (pe_lst (pa_cons (pe_tup (pa_cons pe_non pa_nil)) (pa_cons (pe_tup (pa_cons (pe_tup (pa_cons pe_bl pa_nil)) pa_nil)) (pa_cons (pe_tup (pa_cons (pe_lst pa_nil) pa_nil)) (pa_cons (pe_tup (pa_cons (pe_tup (pa_cons (pe_un un_neg pe_int) pa_nil)) pa_nil))
          (pa_cons (pe_tup (pa_cons pe_int pa_nil)) (pa_cons (pe_tup (pa_cons (pe_tup pa_nil) (pa_cons (pe_tup (pa_cons (pe_tup pa_nil) pa_nil)) pa_nil))) (pa_cons (pe_tup (pa_cons pe_str pa_nil)) (pa_cons (pe_tup (pa_cons (pe_tup (pa_cons pe_bl pa_nil)) pa_nil)) pa_nil)))))))))))
      (pss_cons (ps_for PassesOwn.never rfl (pi_list (pv 3)) (pg_name (i := 6) scAgr.nd rfl (.inr rfl))
        (pss_cons (ps_par (i := 7) (j := 8) rfl scAgr.nd rfl rfl (by decide) rfl rfl (pa_cons (pe_callB (r := rReprX K) (cr_reprX hgd hr.units) (by rfl) m_repr (by decide +kernel) (pa_cons (pe_tup (pa_cons (pv 0) (pa_cons (pv 6) pa_nil))) pa_nil)) (pa_cons (pe_callB (r := rReprX K) (cr_reprX hgd hr.units) (by rfl) m_repr (by decide +kernel) (pa_cons (pe_callG (E := C8.E0) Fd hgd hr (by rfl) gd kd bd C8.pass0 (pa_cons (pv 0) (pa_cons (pv 6) pa_nil))) pa_nil)) pa_nil)) (by rfl))
        (pss_cons (ps_set (i := 9) scAgr.nd rfl (.inl rfl) (pe_lst (pa_cons (LamX.pe_lamcall (T := [(PT, lamQ)]) (TT := TOut C) (Ng := nOut) (t := fun E => tCall (spSight K C) [] E (tCons (tVar 0) (tCons (tVar 6) tNil))) (k := 6) (by rfl) go hko lk hcd bo scOut rfl (.inl rfl) (out_gives T hu65) TB rfl (List.mem_singleton.mpr rfl) (fun p hp _ => by rw [List.mem_singleton.mp hp]; rfl) (hr.mono (by decide)) (LamX.lamS_by (by kernel_rfl)) rfl (fun _ _ _ _ _ => rfl)
            (fun A' outer' s' H' E' f' c' hr' => pe_call Fs hr' (by rfl) gs ks bs .nil (passes_call (takes_of rfl rfl rfl rfl) fun _ _ _ _ h => h) (pa_cons (pv 0) (pa_cons (pv 6) pa_nil)))) pa_nil)))
        (pss_cons (ps_expr (pe_bm PySem.F.plainAttrs_list PySem.F.slot_list_append PySem.F.type_list_append mt_append (pv 9) (pa_cons (LamX.pe_lamcall (T := [(PT, lamQ)]) (TT := TOut C) (Ng := nOut) (t := fun E => tCallN 0 (["kept", "tree"] : List Str).length (spSight K C) (fun _ zs => zs.reverse) E tNil (tCons (tVar 6) (tCons (tVar 0) tNil))) (k := 6) (by rfl) go hko lk hcd bo scOut rfl (.inl rfl) (out_gives T hu65) TB rfl (List.mem_singleton.mpr rfl) (fun p hp _ => by rw [List.mem_singleton.mp hp]; rfl) (hr.mono (by decide)) (LamX.lamS_by (by kernel_rfl)) rfl (fun _ _ _ _ _ => rfl)
            (fun A' outer' s' H' E' f' c' hr' => pe_callW0 Fs hr' (by rfl) gs ks bk (passes_call (takes_of rfl rfl rfl rfl) fun _ _ _ _ h => h) (pk_cons (pv 6) (pk_cons (pv 0) pk_nil)))) pa_nil)))
        (pss_one (ps_if (PW.pt (pw_or (pt_cmpR (op_neL hr.units) (pe_lc (own := [("_law_own", 10)]) (g := gName 10) (by rfl) scAgr.nd (pi_list (pv 9)) (blkOk_by (own := [("_law_own", 10)]) (N := nAgr) (sc := defScope (K18.topS 54)) (by decide +kernel)) (fun _ _ _ _ _ => pg_name (i := 10) scAgr.nd rfl (.inl rfl)) (fun _ _ _ _ _ => pts_nil)
              (te := tCB (rReprX K) (tCons (tVar 10) tNil)) (fun _ _ _ _ _ => pe_callB (r := rReprX K) (cr_reprX hgd hr.units) (by rfl) m_repr (by decide +kernel) (pa_cons (pv 10) pa_nil))) (pe_lst (pa_cons (pv 8) (pa_cons (pv 8) pa_nil))) (nomark _))
            (pw_or1 (pt_cmpR op_ne (pe_callB (r := rReprX K) (cr_reprX hgd hr.units) (by rfl) m_repr (by decide +kernel) (pa_cons (pe_tup (pa_cons (pv 0) (pa_cons (pv 6) pa_nil))) pa_nil)) (pv 7) (nomark _))))) (pss_one (ps_ret pe_bl)) pss_nil))))))
      (pss_one (ps_ret pe_bl)))))))), ?_⟩
    have hwl : (waysOf t).length = size t := by rw [waysOf, List.length_map, placed_len]
    have hw1 : 1 ≤ size t := by have := size_eq t; omega
    have hc := r_lcL (F := F0) (K := K) (k := 0) (kt := 0) (ke := 0) (H := H) (σ := [some v1, none, none, none, none, none, none, none, none, none, none]) (g := gName 2) (tt := tYes) (te := tOp (rIxT K) (tVar 2) (tC (.int 0))) (tl := tCall (spLSpans K 6) [] C8.E0 (tCons (tVar 0) (tCons (tTup tNil) tNil))) (vs := [2]) F0.ok (fun _ => true) (fun i => ((waysOf t).map pathD).getD i .none)
      (rl_call F0.ok (ra_cons (ka := 0) (kb := 0) F0.ok (rd_var F0.ok (n := 0) F0.g rfl p1 (enc_flat t)) (ra_cons (ka := 0) (kb := 0) (d := pathD []) F0.ok (rd_tup F0.ok ra_nil) ra_nil) (enc_flat t)) ⟨t, [], hsz, by decide, by decide, rfl, rfl⟩) (spans_flat _) (by rw [List.length_map, placed_len]; omega) (fun j _ _ => by
        rw [List.getD_eq_getElem?_getD, List.getElem?_map]
        cases (waysOf t)[j]? with
        | none => rfl
        | some q => exact path_flat q) fun i x d n H8 hd hx8 _ e8 => by
        have hi : i < (Tr.placed [] t).length := by
          have := (List.getElem?_eq_some_iff.mp hd).1
          rwa [List.length_map] at this
        rw [List.getElem?_map, List.getElem?_eq_getElem hi] at hd
        cases hd
        refine ⟨_, gv_name, rfl, rt_yes rfl, fun _ => ?_⟩
        rw [List.getD_eq_getElem?_getD, waysOf, List.getElem?_map, List.getElem?_map, List.getElem?_eq_getElem hi]
        exact rd_ix (ka := 0) (kb := 0) (i := 0) F0.ok (rd_var F0.ok (n := 0) F0.g rfl hx8 (span_flat _)) rv_c 0 rfl rfl (span_flat _)
    rw [List.length_map, outs_getD .none _ (by rw [List.length_map, hwl, placed_len])] at hc
    refine q_asgR (F := F0) (n := 0) (k := _) (P := IsL F0 K ((waysOf t).map pathD)) hc F0.g (by simp) fun vw H1 e1 _ hw => ?_
    replace e1 := F0.ex e1
    obtain ⟨W, hW⟩ : ∃ W, W = (waysOf t).map pathD := ⟨_, rfl⟩
    have hWl : W.length = size t := by rw [hW, List.length_map, hwl]
    have hWe : ∀ x ∈ W, ∃ q, x = pathD q ∧ dig q ∧ q.length ≤ 10 := fun x hx => by
      rw [hW] at hx
      obtain ⟨q, hq, rfl⟩ := List.mem_map.mp hx
      exact ⟨q, rfl, ways_dig hsz q hq, Nat.le_trans (ways_len hsz q hq) (by decide)⟩
    have sl := sets_len W
    have sl2 : 2 ^ W.length ≤ 64 := Nat.le_trans (Nat.pow_le_pow_right (by decide) (show W.length ≤ 6 by omega)) (by decide)
    have sl3 : 0 < 2 ^ W.length := Nat.two_pow_pos _
    -- the sets
    change tSeq (tAsg (tLc (iList K (tCall (spSets K) [] C8.E0 (tCons (tVar 1) tNil))) (gName 4) tYes (tCB (rTupOf K) (tCons (tVar 4) tNil)) [4]) (gName 3)) _ _ [some v1, some vw, none, none, none, none, none, none, none, none, none] H1
    refine q_asgR (F := F0) (n := 0) (k := 0) (P := IsL F0 K ((setsF W).map .tuple)) (r_lcTup (by rw [hW]; exact r_sets (ws := waysOf t) rfl (by omega) hw.dp) (by omega) (fun _ => rfl) fun _ => rfl) F0.g (Nat.le_refl _) fun vi H2 e2 _ hi2 => ?_
    replace e2 := F0.ex e2
    change tSeq (tAsg _ (gName 5)) _ _ [some v1, some vw, none, some vi, none, none, none, none, none, none, none] H2
    have neg1 : ∀ {σ : L2.St} {H : Hp}, EvR F0 (tUn (rU fun i => .int (-i)) (tC (.int 1))) σ H 0 (fun x _ => x = .int (-1)) := rv_neg1
    refine q_asgR (F := F0) (n := 0) (k := 0) (P := IsD K (.tuple W)) (rd_ixD (ds := (setsF W).map .tuple) (i := -1) (rd_ofL (rl_varX rfl hi2)) neg1 ((setsF W).length - 1) (by rw [List.length_map]; unfold ixN; rw [if_neg (by omega), if_pos (by omega)]; congr 1; omega) (by rw [List.getElem?_map, sets_last]; rfl)) F0.g (Nat.le_refl _) fun ve H3 e3 _ pe3 => ?_
    replace e3 := F0.ex e3
    replace pe3 : Dp K H3 ve (.tuple W) := pe3
    have fW : flat (.tuple W) = true := by rw [flat_tup, hW]; exact paths_flats _
    have fW' : flats W = true := by rw [hW]; exact paths_flats _
    -- more items
    have hi3 := isL_ex e3 hi2
    change tSeq (tAsg (tOp rCat (tVar 3) (tLst _)) (gName 3)) _ _ [some v1, some vw, none, some vi, none, some ve, none, none, none, none, none] H3
    have rE : ∀ {H' : Hp}, Ex H3 H' → EvR F0 (tVar 5) [some v1, some vw, none, some vi, none, some ve, none, none, none, none, none] H' 0 (IsD K (.tuple W)) := fun e => rd_var0 rfl (dp_ex e _ _ pe3)
    have sl1 := rd_slT (σ := [some v1, some vw, none, some vi, none, some ve, none, none, none, none, none]) (H := H3) (F := F0) (lo := some (-1)) (hi := none) F0.ok (rE (Ex.refl _)) (fun H1 => eo_some (ev_un ev_c ru_neg)) (fun H1 => eo_none)
    have e_sl : (W.drop (HT.sIx W.length 0 (some (-1)))).take (HT.sIx W.length W.length none - HT.sIx W.length 0 (some (-1))) = W.drop (W.length - 1) := by
      have a : HT.sIx W.length 0 (some (-1)) = W.length - 1 := by
        unfold HT.sIx
        simp
        omega
      rw [a, HT.sIx_none, List.take_of_length_le (by rw [List.length_drop]; omega)]
    rw [e_sl] at sl1
    have cat : ∀ {tb : TE} {es : List PyData}, EvR F0 tb [some v1, some vw, none, some vi, none, some ve, none, none, none, none, none] H3 0 (IsD K (.tuple es)) → es.length ≤ 1000 → EvR F0 (tOp (rCatA K) (tVar 5) tb) [some v1, some vw, none, some vi, none, some ve, none, none, none, none, none] H3 0 (IsD K (.tuple (W ++ es))) := fun h hl => rd_cat (ka := 0) (kb := 0) F0.ok (rE (Ex.refl _)) h fW' (by omega)
    have lst4 := rl_lst (K := K) F0.ok (ra_cons0 (rd_revT F0.ok (rE (Ex.refl _))) (ra_cons0 (cat sl1 (by rw [List.length_drop]; omega)) (ra_cons0 (cat (rd_tup0 (ra_one (rd_tup0 (ra_one (rd_int (i := 9)))))) (by simp)) (ra_cons0 (cat (rd_tup0 (ra_one (rd_tup0 (ra_cons0 (rd_int (i := 0)) (ra_cons0 (rd_int (i := 0)) (ra_cons0 (rd_int (i := 0)) (ra_one (rd_int (i := 0))))))))) (by simp)) (ra_one (rd_ofL (rl_listOf (rE (Ex.refl _)))))))))
    refine q_asgR (F := F0) (n := 0) (k := 0) (P := IsL F0 K (items1 W)) (rl_catX (rl_varX rfl hi3) lst4 (by simp; omega)) F0.g (Nat.le_refl _) fun vi4 H4 e4 _ hi4 => ?_
    replace e4 := F0.ex e4
    change tSeq (tAsg (tOp rCat (tVar 3) (tLst _)) (gName 3)) _ _ [some v1, some vw, none, some vi4, none, some ve, none, none, none, none, none] H4
    have lst5 := rl_lst (K := K) (σ := [some v1, some vw, none, some vi4, none, some ve, none, none, none, none, none]) (H := H4) F0.ok (ra_cons0 (rd_non (K := K)) (ra_cons0 (rd_int (i := 0)) (ra_one (rd_str (i := "()")))))
    refine q_asgR (F := F0) (n := 0) (k := 0) (P := IsL F0 K (items1 W ++ oddItems)) (rl_catX (rl_varX rfl hi4) lst5 (by show (items1 W).length + 3 ≤ 100000; rw [items1_len]; omega)) F0.g (Nat.le_refl _) fun vi5 H5 e5 _ hi5 => ?_
    replace e5 := F0.ex e5
    change tSeq (tAsg (tOp rCat (tVar 3) (tLst _)) (gName 3)) _ _ [some v1, some vw, none, some vi5, none, some ve, none, none, none, none, none] H5
    have lst6 := rl_lst (K := K) (σ := [some v1, some vw, none, some vi5, none, some ve, none, none, none, none, none]) (H := H5) F0.ok (ra_cons0 (rd_tup0 (ra_one (rd_non (K := K)))) (ra_cons0 (rd_tup0 (ra_one (rd_tup0 (ra_one (rd_bl (i := true)))))) (ra_cons0 (rd_tup0 (ra_one (rd_ofL (rl_lst F0.ok ra_nil)))) (ra_cons0 (rd_tup0 (ra_one (rd_tup0 (ra_one (rd_ofI neg1))))) (ra_cons0 (rd_tup0 (ra_one (rd_int (i := 0)))) (ra_cons0 (rd_tup0 (ra_cons0 (rd_tup0 ra_nil) (ra_one (rd_tup0 (ra_one (rd_tup0 ra_nil)))))) (ra_cons0 (rd_tup0 (ra_one (rd_str (i := "")))) (ra_one (rd_tup0 (ra_one (rd_tup0 (ra_one (rd_bl (i := false))))))))))))))
    refine q_asgR (F := F0) (n := 0) (k := 0) (P := IsL F0 K (itemsOf W)) (rl_catX (rl_varX rfl hi5) lst6 (by show (items1 W ++ oddItems).length + 8 ≤ 100000; rw [List.length_append, items1_len]; show _ + 5 + 3 + 8 ≤ _; omega)) F0.g (Nat.le_refl _) fun vi6 H6 e6 _ hi6 => ?_
    replace e6 := F0.ex e6
    have e06 : Ex H H6 := e1.trans (e2.trans (e3.trans (e4.trans (e5.trans e6))))
    have T6 := hT.ext fun b o h => e06 b o h
    have q1' := dp_ex e06 _ _ p1
    obtain ⟨IA, xs, rfl, _, hIA, dIA⟩ := hi6
    have okI := items_ok hWe (by omega)
    have lIA := dps_len dIA
    change tSeq (tFor (iList K (tVar 3)) (gName 6) _) _ _ [some v1, some vw, none, some (.ref IA), none, some ve, none, none, none, none, none] H6
    refine q_forLs (a := IA) (xs := xs) rfl (fun m σ' H' => ∃ u6 u7 u8 u9, σ' = [some v1, some vw, none, some (.ref IA), none, some ve, u6, u7, u8, u9, none] ∧ LamX.ExtN H6 H' ∧ LamX.Tabs [(PT, lamQ)] H') ⟨none, none, none, none, rfl, LamX.ExtN.refl _, T6⟩ (fun m σ' H' ⟨_, _, _, _, _, e, _⟩ => sqL_n e (sq_of hIA)) (fun m x σ' H' hxm ⟨u6, u7, u8, u9, es, e, TH⟩ => ?_) fun σ' H' ⟨u6, u7, u8, u9, es, e, TH⟩ => ?_
    · subst es
      have hm : m < (itemsOf W).length := by
        have := (List.getElem?_eq_some_iff.mp hxm).1
        omega
      have hok := okI _ (List.getElem_mem hm)
      have dx : Dp K H' x (itemsOf W)[m] := by
        obtain ⟨u', hu, du⟩ := dps_get dIA (List.getElem?_eq_getElem hm)
        rw [hxm] at hu
        cases hu
        exact dp_n e _ _ du
      generalize (itemsOf W)[m] = d at hok dx
      have pt := dp_n e _ _ q1'
      have pairSh : Sh 31 400000 (.tuple [enc t, d]) := (sh_tup (n := 30) (w := 100000) (m := 2) (fun y hy => by
        rcases List.mem_cons.mp hy with rfl | hy
        · exact (sh_tree t hN).mono (by omega) (by omega)
        · rw [List.mem_singleton.mp hy]
          exact hok.2) (by simp)).mono (by decide) (by decide)
      have dueSh := due_sh (d := d) hN hsz
      have rep : ∀ {σ2 : L2.St} {H2 : Hp}, σ2[0]? = some (some v1) → σ2[6]? = some (some x) → Dp K H2 v1 (enc t) → Dp K H2 x d → EvR F0 (tCB (rReprX K) (tCons (tTup (tCons (tVar 0) (tCons (tVar 6) tNil))) tNil)) σ2 H2 0 (fun y _ => y = .str (PyData.shown (.tuple [enc t, d]))) := fun h0 h6 d1 d2 =>
        rv_reprX (rd_tup0 (ra_cons0 (rd_var0 h0 d1) (ra_one (rd_var0 h6 d2)))) pairSh (by decide) (by decide)
      have due : ∀ {σ2 : L2.St} {H2 : Hp}, σ2[0]? = some (some v1) → σ2[6]? = some (some x) → Dp K H2 v1 (enc t) → Dp K H2 x d → EvR F0 (tCB (rReprX K) (tCons (tCall (spDue K) [] C8.E0 (tCons (tVar 0) (tCons (tVar 6) tNil))) tNil)) σ2 H2 0 (fun y _ => y = .str (PyData.shown (dueD t d))) := fun h0 h6 d1 d2 =>
        rv_reprX (r_due h0 h6 hsz hN hok d1 d2) dueSh (by decide) (by decide)
      refine q_par2 (q_cons (rep rfl rfl pt dx 0 H' (Nat.le_refl _) F0.g Kx.refl _ fun x7 H7 e7 _ ex7 => q_cons (due rfl rfl (dp_ex (F0.ex e7) _ _ pt) (dp_ex (F0.ex e7) _ _ dx) 0 H7 (Nat.le_refl _) F0.g Kx.refl _ fun x8 H8 e8 _ ex8 => ⟨x7, x8, rfl, ?_⟩)))
      subst ex7 ex8
      have e78 := (F0.ex e7).trans (F0.ex e8)
      have pt8 := dp_ex e78 _ _ pt
      have dx8 := dp_ex e78 _ _ dx
      have T8 := TH.ext fun b o h => e78 b o h
      have n8 := e.trans (ex_n e78)
      change tSeq (tAsg (tLst (tCons (LamX.tLam [(PT, lamQ)] (TOut C) (fun E => tCall (spSight K C) [] E (tCons (tVar 0) (tCons (tVar 6) tNil)))) tNil)) (gName 9)) _ _ [some v1, some vw, none, some (.ref IA), none, some ve, some x, some (.str (PyData.shown (.tuple [enc t, d]))), some (.str (PyData.shown (dueD t d))), u9, none] H8
      refine q_asgX (lam1 (i := 0) (j := 6) rfl rfl T8 hsz hok pt8 dx8 fun r H9 n9 T9 dr => ⟨sz_of (by simp), fun l hl => ?_⟩)
      have el := Ex.new (o := HO.lst [V.ref r]) hl
      have n8l : ∀ b u, H8 b = some u → (∀ ps, u ≠ .tbl ps) → b ≠ l := fun b u hb hn z => by
        have := n9 b u hb hn
        rw [z, hl] at this
        cases this
      have T10 := T9.ext fun b o h => el b o h
      have hl10 : upd H9 l (.lst [.ref r]) l = some (.lst [.ref r]) := upd_same
      have n10 : LamX.ExtN H8 (upd H9 l (.lst [.ref r])) := n9.trans (ex_n el)
      have dr10 := dp_ex el _ _ dr
      generalize upd H9 l (.lst [.ref r]) = H10 at T10 hl10 n10 dr10
      change tSeq (tDrop (tBM K "list" rAppend (tVar 9) (tCons (LamX.tLam [(PT, lamQ)] (TOut C) (fun E => tCallN 0 (["kept", "tree"] : List Str).length (spSight K C) (fun _ zs => zs.reverse) E tNil (tCons (tVar 6) (tCons (tVar 0) tNil)))) tNil))) _ _ [some v1, some vw, none, some (.ref IA), none, some ve, some x, some (.str (PyData.shown (.tuple [enc t, d]))), some (.str (PyData.shown (dueD t d))), some (.ref l), none] H10
      refine ⟨.ref l, rfl, .inl ⟨rfl, [.ref r], sq_of hl10⟩, lam2 (i := 0) (j := 6) rfl rfl T10 hsz hok (dp_n n10 _ _ pt8) (dp_n n10 _ _ dx8) fun r2 H11 n11 T11 dr2 => ⟨l, [.ref r], .ref r2, rfl, rfl, n11 _ _ hl10 (fun ps z => by cases z), sz_lt (by simp), ?_⟩⟩
      have hl11 : H11 l = some (.lst [.ref r]) := n11 _ _ hl10 (fun ps z => by cases z)
      have k12 : KT K H11 (upd H11 l (.lst ([.ref r] ++ [.ref r2]))) := kt_lst hl11
      have T12 := tabs_lst (o := .lst ([.ref r] ++ [.ref r2])) T11 hl11
      have n12 : LamX.ExtN H8 (upd H11 l (.lst ([.ref r] ++ [.ref r2]))) := extN_mut (n10.trans n11) n8l
      have d12 : DpAll K (upd H11 l (.lst ([.ref r] ++ [.ref r2]))) [.ref r, .ref r2] [dueD t d, dueD t d] := .cons (dp_kt k12 _ _ (due_flat t d) (dp_n n11 _ _ dr10)) (.cons (dp_kt k12 _ _ (due_flat t d) dr2) .nil)
      have hl12 : upd H11 l (.lst ([.ref r] ++ [.ref r2])) l = some (.lst [.ref r, .ref r2]) := upd_same
      generalize upd H11 l (.lst ([.ref r] ++ [.ref r2])) = H12 at T12 n12 d12 hl12 ⊢
      have pt12 := dp_n n12 _ _ pt8
      have dx12 := dp_n n12 _ _ dx8
      have f2 : flats [dueD t d, dueD t d] = true := by rw [flats_cons, flats_cons]; exact ⟨due_flat t d, due_flat t d, rfl⟩
      change tIfS (tOr (tTest (tOp (rNeL K) (tLc (iList K (tVar 9)) (gName 10) tYes (tCB (rReprX K) (tCons (tVar 10) tNil)) [10]) (tLst (tCons (tVar 8) (tCons (tVar 8) tNil))))) (tTest (tOp rNe (tCB (rReprX K) (tCons (tTup (tCons (tVar 0) (tCons (tVar 6) tNil))) tNil)) (tVar 7)))) (tRet (tC (.bl false))) tNext _ [some v1, some vw, none, some (.ref IA), none, some ve, some x, some (.str (PyData.shown (.tuple [enc t, d]))), some (.str (PyData.shown (dueD t d))), some (.ref l), none] H12
      have hcr := r_lcL (F := F0) (K := K) (k := 0) (kt := 0) (ke := 0) (H := H12) (σ := [some v1, some vw, none, some (.ref IA), none, some ve, some x, some (.str (PyData.shown (.tuple [enc t, d]))), some (.str (PyData.shown (dueD t d))), some (.ref l), none]) (g := gName 10) (tt := tYes) (te := tCB (rReprX K) (tCons (tVar 10) tNil)) (tl := tVar 9) (vs := [10]) (ds := [dueD t d, dueD t d]) F0.ok (fun _ => true) (fun _ => .str (PyData.shown (dueD t d)))
        (rl_varX rfl ⟨l, _, rfl, fun z => z, hl12, d12⟩) f2 (by simp) (fun _ _ _ => rfl) fun j y dd n9 H9 hd hy9 _ e9 => by
          refine ⟨_, gv_name, rfl, rt_yes rfl, fun _ => ?_⟩
          have hdd : dd = dueD t d := by
            match j, hd with
            | 0, hd => cases hd; rfl
            | 1, hd => cases hd; rfl
          rw [hdd] at hy9
          exact rd_ofS (rv_reprX (rd_var0 rfl hy9) dueSh (by decide) (by decide))
      have ho : outs (fun _ => true) (fun _ => PyData.str (PyData.shown (dueD t d))) [dueD t d, dueD t d].length = [PyData.shown (dueD t d), PyData.shown (dueD t d)].map PyData.str := rfl
      rw [ho] at hcr
      have lit : EvR F0 (tLst (tCons (tVar 8) (tCons (tVar 8) tNil))) [some v1, some vw, none, some (.ref IA), none, some ve, some x, some (.str (PyData.shown (.tuple [enc t, d]))), some (.str (PyData.shown (dueD t d))), some (.ref l), none] H12 0 (IsL F0 K ([PyData.shown (dueD t d), PyData.shown (dueD t d)].map PyData.str)) := rl_lst F0.ok (ra_cons0 (rd_ofS (rv_var rfl)) (ra_one (rd_ofS (rv_var rfl))))
      refine s_ifR (F := F0) (n := 0) (k := _) (b := false || false) (rt_or F0.ok (rt_val (rb_neTxt F0.ok hcr lit)) fun _ => rt_val (rb_neOne F0.ok (rep rfl rfl pt12 dx12) (rv_var rfl))) F0.g (by simp) (fun z => by cases z) fun _ H13 e13 _ => ?_
      exact ⟨_, _, _, _, rfl, n8.trans (n12.trans (ex_n (F0.ex e13))), T12.ext fun b o h => (F0.ex e13) b o h⟩
    · subst es
      exact q H' ((ex_n e06).trans e) TH
end
end K17
set_option maxHeartbeats 2000000
/-! ### law -/
namespace K17
open PySem PySem.Spec PyProof.Rows L2 Evl Fx Fr Dt Tr K18 So DtG
theorem pe_c0 {X : Cx} {j k : Nat} {x : Str} {sp : Sp} {p pos : Pos} (c : C8.Cal X.prog X.w X.K X.mg X.base k x sp []) (hr : Room j X.A) (hk : k ≤ j) (hg : Gl X x) (hdb : (x == ("__debug__" : Str)) = false := by decide) : PE X (.Call (.Name x p) [] [] pos) (tCall sp [] C8.E0 tNil) := by
  obtain ⟨f, fd, ps, ds, F, hm, kp, b, d⟩ := c.ex
  cases d
  exact pe_call0 F (hr.mono hk) hg hm kp b .nil C8.pass0 hdb
def nLawT : List Str := ["_law_script", "_law_feed_here", "_law_root", "_law_k"]
theorem scLawT : FnScope nLawT ["_law_script"] (defScope (K18.topS 55)) := ⟨rfl, rfl, rfl, by decide +kernel, rfl, by decide +kernel, by decide +kernel⟩
section
variable {P : Program} {w : World} {K : PySem.W.Frag} {mg : Str → Option Value} {base : Heap} {f f2 f3 : Addr} {fd fd2 fd3 : FuncData} {te tl ta tb : TE} {σ σ2 : L2.St} {H H' : Hp} {k ka kb n : Nat} {d l : Addr} {ds es : List PyData} {g : TG} {vs : List Nat} {C : Addr} {xs ys : List V}
def GoodT (x : PyData) : Prop := ∃ t, x = enc t ∧ size t ≤ 6 ∧ NiceM t
theorem goodT_flat (x : PyData) (h : GoodT x) : flat x = true := by
  obtain ⟨t, rfl, _⟩ := h
  exact enc_flat t
theorem r_treeT {E : XK} {i : Nat} (hd : σ[i]? = some (some (.ref d))) : EvR (FeedF d l) (tCall (spTree K 4) [] E (tCons (tVar i) (tCons (tLst (tCons (tC (.int 3)) tNil)) (tCons (tC (.int 3)) tNil)))) σ H 12 (SomeD K GoodT) :=
  fun n H1 hn g e Q q => ⟨.ref d, hd, by show 1 ≤ sizeLine; decide, fun a ha => by
    have e1 := Ex.new (o := HO.lst [.int 3]) ha
    have g1 : FeedAt (upd H1 a (.lst [.int 3])) d l n := FeedF.ok.ex g e1
    have na : ¬ (a = d ∨ a = l) := FeedF.ok.new g ha
    refine ⟨d, l, a, 3, n, 3, rfl, by decide, g1, fun z => na (.inl z), fun z => na (.inr z), upd_same, by decide, by have : (FeedF d l).N = 1000000 := rfl; omega, fun H3 v t k' k3 hs g3 _ nt dt => ?_⟩
    refine q v H3 (fun b o hb hne => k3 b o (e1 b o hb) fun z => z.elim hne fun z => ?_) (FeedAt.up g3 (by omega)) ⟨enc t, ⟨t, rfl, by omega, nt⟩, dt⟩
    subst z
    rw [ha] at hb
    cases hb⟩
theorem r_listOf {F : Fd} (o : F.Ok) (h : EvR F te σ H k (IsD K (.tuple ds))) : EvR F (tCB (rTupListOf K) (tCons te tNil)) σ H k (IsL F K ds) := fun n H1 hn g e Q q => h n H1 hn g e _ fun v H2 e2 g2 hd => by
  cases hd with
  | @tup a xs _ ha hx => exact ⟨a, xs, rfl, .inr ha, fun l hl => q (.ref l) _ (e2.trans (Kx.ex (Ex.new hl))) (o.ex g2 (Ex.new hl)) ⟨l, xs, rfl, o.new g2 hl, upd_same, dps_ex (Ex.new hl) _ _ hx⟩⟩
theorem r_cat {F : Fd} {Pe : PyData → Prop} {m : Nat} (o : F.Ok) (ha : EvR F ta σ H ka (IsL F K ds)) (hb : EvR F tb σ H kb (IsLP F K Pe m)) (fd : flats ds = true) (hl : ds.length + m ≤ 100000) : EvR F (tOp rCat ta tb) σ H (ka + kb) (fun v H' => ∃ es, es.length = m ∧ (∀ x ∈ es, Pe x) ∧ IsL F K (ds ++ es) v H') :=
  fun n H1 hn g e Q q => ha n H1 (by omega) g e _ fun x H2 e2 g2 p => hb (n + ka) H2 (by omega) g2 (e.trans e2) _ fun y H3 e3 g3 ⟨es, el, ep, p'⟩ => by
    obtain ⟨a, xs, rfl, hT, ha, hx⟩ := mono_l o fd _ _ _ _ g2 e3 p
    obtain ⟨b, ys, rfl, hT', hb, hy⟩ := p'
    have l1 := dps_len hx
    have l2 := dps_len hy
    refine ⟨a, b, xs, ys, rfl, rfl, ha, hb, sz_of (by omega), fun c hc => ?_⟩
    have ec := Ex.new (o := HO.lst (xs ++ ys)) hc
    exact q (.ref c) _ (e2.trans (e3.trans (Kx.ex ec))) (by rw [← Nat.add_assoc]; exact o.ex g3 ec) ⟨es, el, ep, c, _, rfl, o.new g3 hc, upd_same, dps_ex ec _ _ (dps_app hx hy)⟩
theorem r_catL {F : Fd} (o : F.Ok) (ha : EvR F ta σ H ka (IsL F K ds)) (hb : EvR F tb σ H kb (IsL F K es)) (fd : flats ds = true) (hl : ds.length + es.length ≤ 100000) : EvR F (tOp rCat ta tb) σ H (ka + kb) (IsL F K (ds ++ es)) :=
  fun n H1 hn g e Q q => ha n H1 (by omega) g e _ fun x H2 e2 g2 p => hb (n + ka) H2 (by omega) g2 (e.trans e2) _ fun y H3 e3 g3 p' => by
    obtain ⟨a, xs, rfl, hT, ha, hx⟩ := mono_l o fd _ _ _ _ g2 e3 p
    obtain ⟨b, ys, rfl, hT', hb, hy⟩ := p'
    have l1 := dps_len hx
    have l2 := dps_len hy
    refine ⟨a, b, xs, ys, rfl, rfl, ha, hb, sz_of (by omega), fun c hc => ?_⟩
    have ec := Ex.new (o := HO.lst (xs ++ ys)) hc
    exact q (.ref c) _ (e2.trans (e3.trans (Kx.ex ec))) (by rw [← Nat.add_assoc]; exact o.ex g3 ec) ⟨c, _, rfl, o.new g3 hc, upd_same, dps_ex ec _ _ (dps_app hx hy)⟩
theorem doc_sizes : ∀ t ∈ docT, size t ≤ 6 := by
  intro t ht
  simp only [docT, List.mem_cons, List.not_mem_nil, or_false] at ht
  rcases ht with rfl | rfl | rfl <;> simp only [leaf, size, sizes] <;> decide
theorem six_sizes : ∀ t ∈ sixT, size t ≤ 6 := by
  intro t ht
  simp only [sixT, List.mem_cons, List.not_mem_nil, or_false] at ht
  rcases ht with rfl | rfl <;> simp only [leaf, size, sizes] <;> decide
theorem nice_of {s : Str} {m : Int} {cs : List T} (h1 : Nm s) (h2 : m = 0 ∨ m = 1) (h : ∀ c ∈ cs, NiceM c) : NiceM (.mk s m cs) := nice_mk.mpr ⟨⟨h1, h2⟩, h⟩
theorem doc_nice : ∀ t ∈ docT, NiceM t := by
  have no : ∀ c ∈ ([] : List T), NiceM c := fun c hc => by cases hc
  have one : ∀ {t : T}, NiceM t → ∀ c ∈ [t], NiceM c := fun h c hc => (List.mem_singleton.mp hc) ▸ h
  intro t ht
  simp only [docT, List.mem_cons, List.not_mem_nil, or_false] at ht
  rcases ht with rfl | rfl | rfl
  · exact nice_of (.inr (.inl rfl)) (.inl rfl) no
  · exact nice_of (.inr (.inl rfl)) (.inl rfl) (one (nice_of (.inr (.inr rfl)) (.inl rfl) no))
  · exact nice_of (.inr (.inl rfl)) (.inl rfl) (one (nice_of (.inr (.inr rfl)) (.inr rfl) no))
theorem six_names : ∀ t ∈ sixT, NiceM t := by
  have no : ∀ c ∈ ([] : List T), NiceM c := fun c hc => by cases hc
  have cn : ∀ {t : T} {ts : List T}, NiceM t → (∀ c ∈ ts, NiceM c) → ∀ c ∈ t :: ts, NiceM c := fun h hs c hc => (List.mem_cons.mp hc).elim (fun e => e ▸ h) (hs c)
  have p0 : NiceM (leaf "pay" 0) := nice_of (.inr (.inr rfl)) (.inl rfl) no
  have p1 : NiceM (leaf "pay" 1) := nice_of (.inr (.inr rfl)) (.inr rfl) no
  have d0 : NiceM (leaf "db" 0) := nice_of (.inl rfl) (.inl rfl) no
  intro t ht
  simp only [sixT, List.mem_cons, List.not_mem_nil, or_false] at ht
  rcases ht with rfl | rfl
  · exact nice_of (.inr (.inl rfl)) (.inl rfl) (cn (nice_of (.inl rfl) (.inl rfl) (cn p0 no)) (cn (nice_of (.inl rfl) (.inl rfl) (cn p0 (cn p1 no))) no))
  · exact nice_of (.inr (.inl rfl)) (.inl rfl) (cn d0 (cn d0 (cn d0 (cn p0 (cn p1 no)))))
theorem giv_all : ∀ x ∈ docT.map enc ++ sixT.map enc, GoodT x := fun x hx => by
  rcases List.mem_append.mp hx with hx | hx
  · obtain ⟨t, ht, rfl⟩ := List.mem_map.mp hx
    exact ⟨t, rfl, doc_sizes t ht, doc_nice t ht⟩
  · obtain ⟨t, ht, rfl⟩ := List.mem_map.mp hx
    exact ⟨t, rfl, six_sizes t ht, six_names t ht⟩
def spLawT (K : PySem.W.Frag) (PT : Addr) : Sp := fun vs H Q _ => ∃ (a : Addr) (ns : List Int), vs = [.ref a] ∧ SqL K H a (ns.map V.int) ∧ LamX.Tabs [(PT, lamQ)] H ∧ ∀ H', Q (.bl true) H'
theorem ok_lawT {PT : Addr} (F : Fun K "law" "law" (K18.topS 55) f fd) (cFeed : C8.Cal P w K mg base 1 "_law_feed" (spFeed K) []) (cDoc : C8.Cal P w K mg base 1 "_law_document" (spDoc K) []) (cSix : C8.Cal P w K mg base 1 "_law_six" (spSix K) []) (cTree : C8.Cal P w K mg base 6 "_law_some_tree" (spTree K 4) [])
    (GA : FnG P w K mg base CX0 10 f2 fd2 ["_law_root"] (spAgr K PT)) (gA : mg "_law_agrees" = some (.ref f2)) (kA : PySem.W.keepIn K (.ref f2) = true) (bA : L2.Binds K fd2 ["_law_root"] []) (m_range : mg "range" = none) (m_list : mg "list" = none) : FnG P w K mg base CX0 11 f fd ["_law_script"] (spLawT K PT) := by
  refine okG F scLawT (fun vs H Q E h => ?_) (fun cdv A outer s H vs Q E hgd hr h => ?_)
  · obtain ⟨a, ns, rfl, _⟩ := h
    rfl
  · obtain ⟨a, ns, rfl, hS, hT, q⟩ := h
    refine ⟨_, pss_cons (ps_set (i := 1) scLawT.nd rfl (.inr rfl) (C8.pe_c cFeed hr (by decide) (by rfl) (pa_cons (pv 0) pa_nil)))
      (pss_cons (ps_for PassesOwn.never rfl (pi_list (pe_op op_cat (pe_op op_cat (pe_callTy (T := "list") (r := rTupListOf K) call_list_of (by rfl) m_list (by decide +kernel) (pa_cons (pe_ix ix_tup (pe_c0 cDoc hr (by decide) (by rfl)) pe_int (fun _ _ => rfl)) pa_nil)) (pe_c0 cSix hr (by decide) (by rfl)))
          (pe_lc (own := [("_law_k", 3)]) (g := gName 3) (by rfl) scLawT.nd (pi_range1 (by rfl) m_range (pa_cons pe_int pa_nil)) (blkOk_by (own := [("_law_k", 3)]) (N := nLawT) (sc := defScope (K18.topS 55)) (by decide +kernel)) (fun _ _ _ _ _ => pg_name (i := 3) scLawT.nd rfl (.inl rfl)) (fun _ _ _ _ _ => pts_nil)
            (te := tCall (spTree K 4) [] C8.E0 (tCons (tVar 1) (tCons (tLst (tCons (tC (.int 3)) tNil)) (tCons (tC (.int 3)) tNil)))) (fun _ _ _ _ _ => C8.pe_c cTree hr (by decide) (by rfl) (pa_cons (pv 1) (pa_cons (pe_lst (pa_cons pe_int pa_nil)) (pa_cons pe_int pa_nil)))))))
          (pg_name (i := 2) scLawT.nd rfl (.inl rfl))
        (pss_one (ps_if (pt_not (pt_val (pe_callG (E := C8.E0) GA hgd hr (by rfl) gA kA bA C8.pass0 (pa_cons (pv 2) pa_nil)))) (pss_one (ps_ret pe_bl)) pss_nil)))
      (pss_one (ps_ret pe_bl))), ?_⟩
    show tSeq (tAsg (tCall (spFeed K) [] C8.E0 (tCons (tVar 0) tNil)) (gName 1)) _ _ [some (.ref a), none, none, none] H
    refine ⟨.ref a, rfl, a, ns, rfl, hS, fun H1 d l e1 nd g1 => ?_⟩
    have f1 : flats (docT.map enc) = true := maps_flat _
    have f2 : flats (docT.map enc ++ sixT.map enc) = true := by rw [← List.map_append]; exact maps_flat _
    have fD : flat (.tuple [.tuple (docT.map enc), .tuple (docR.map rowD)]) = true := by
      rw [flat_tup, flats_cons, flats_cons, flat_tup, flat_tup]
      exact ⟨f1, rows_flat docR, rfl⟩
    have big := r_cat (K := K) (F := FeedF d l) (σ := [some (.ref a), some (.ref d), none, none]) (H := H1) (Pe := GoodT) (m := 8) FeedF.ok (r_catL (K := K) FeedF.ok (r_listOf FeedF.ok (rd_ix (ka := 0) (kb := 0) (i := 0) FeedF.ok (rd_call (E := C8.E0) (Rl := fun ds d => ds = [] ∧ d = .tuple [.tuple (docT.map enc), .tuple (docR.map rowD)]) FeedF.ok ra_nil ⟨rfl, rfl⟩) rv_c 0 rfl rfl fD)) (rl_call (E := C8.E0) (Rl := fun ds es => ds = [] ∧ es = sixT.map enc) FeedF.ok ra_nil ⟨rfl, rfl⟩) f1 (by decide))
      (r_lcRP (K := K) (k := 0) (ke := 12) (g := gName 3) (vs := [3]) (tr := tCons (tC (.int 8)) tNil) (m := 8) (te := tCall (spTree K 4) [] C8.E0 (tCons (tVar 1) (tCons (tLst (tCons (tC (.int 3)) tNil)) (tCons (tC (.int 3)) tNil)))) FeedF.ok goodT_flat (fun n H2 hn g e Q q => q _ H2 Kx.refl g rfl) (by decide) (fun i n H' hi g e => ⟨_, gv_name, rfl, r_treeT rfl⟩)) f2 (by decide)
    refine big 0 H1 (by show _ ≤ 1000000; simp) g1 Kx.refl _ fun v H2 e2 g2 ⟨es, el, ep, IA, xs, ev, _, hIA, dxs⟩ => ?_
    subst ev
    have e02 : Ex H H2 := fun b o hb => e2 _ _ (e1 _ _ hb) fun z => by
      have z' : b = d := z
      rw [z', nd] at hb
      cases hb
    have T2 := hT.ext fun b o h => e02 b o h
    have good : ∀ x ∈ (docT.map enc ++ sixT.map enc) ++ es, GoodT x := fun x hx => (List.mem_append.mp hx).elim (giv_all x) (ep x)
    refine ⟨IA, rfl, ⟨_, sq_of hIA⟩, for_list (xs := xs) (fun m σ' H' => ∃ u2, σ' = [some (.ref a), some (.ref d), u2, none] ∧ LamX.ExtN H2 H' ∧ LamX.Tabs [(PT, lamQ)] H') ⟨none, rfl, LamX.ExtN.refl _, T2⟩ (fun m σ' H' _ ⟨_, _, e, _⟩ => sqL_n e (sq_of hIA)) (fun m x σ' H' hxm ⟨u2, es', e, TH⟩ => ?_) fun σ' H' ⟨u2, es', e, TH⟩ => ?_⟩
    · subst es'
      have hlt : m < ((docT.map enc ++ sixT.map enc) ++ es).length := by
        have h1 := (List.getElem?_eq_some_iff.mp hxm).1
        have h2 := dps_len dxs
        omega
      have hdx : Dp K H' x (((docT.map enc ++ sixT.map enc) ++ es)[m]) := by
        obtain ⟨u', hu, du⟩ := dps_get dxs (List.getElem?_eq_getElem hlt)
        rw [hxm] at hu
        cases hu
        exact dp_n e _ _ du
      obtain ⟨t, et, hsz, hN⟩ := good _ (List.getElem_mem hlt)
      rw [et] at hdx
      refine ⟨x, rfl, x, t, rfl, hdx, hsz, hN, TH, fun H3 n3 T3 => ⟨true, rfl, iteF ?_⟩⟩
      exact ⟨_, rfl, e.trans n3, T3⟩
    · exact q H'
end
end K17
/-! ### a law's call, the caller without guards, the script and some empty tables of code objects tracked -/
namespace DtT
open PySem PySem.Spec PyProof.Rows L2 DtG
section
variable {P : Program} {w : World} {K : PySem.W.Frag} {mg mb : Str → Option Value} {s : Shared} {a : Addr} {vs : List Value} {H : Hp}
/-- what is tracked is no namespace and nothing of the fragment -/
def Apart (K : PySem.W.Frag) (s : Shared) (H : Hp) : Prop := ∀ b u, H b = some u → K.lookup b = none ∧ ∃ o, s.heap.get? b = some o ∧ ((∃ xs n, o.data = .seq xs n) ∨ o.data = .fields #[])
theorem apart_free (A : Apart K s H) {b : Addr} {o : Obj} (e : s.heap.get? b = some o) (h1 : ∀ xs n, o.data ≠ .seq xs n) (h2 : o.data ≠ .fields #[]) : H b = none := by
  cases q : H b with
  | none => rfl
  | some u =>
    obtain ⟨_, o', e', hd⟩ := A b u q
    rw [e] at e'
    cases e'
    rcases hd with ⟨xs, n, hd⟩ | hd
    · exact absurd hd (h1 xs n)
    · exact absurd hd h2
theorem apart_ns (A : Apart K s H) {b : Addr} {m : Str → Option Value} (h : s.heap.Ns b m) : (hidT s.heap H).Ns b m := by
  obtain ⟨o, es, ep, e, d, r⟩ := h
  exact ⟨o, es, ep, hidT_get e (apart_free A e (fun xs n z => by rw [d] at z; cases z) fun z => by rw [d] at z; cases z), d, r⟩
theorem apart_in (A : Apart K s H) (KX : K.In s.heap) : K.In (hidT s.heap H) := fun b o e => hidT_get (KX b o e) (by
  cases q : H b with
  | none => rfl
  | some u =>
    have := (A b u q).1
    rw [e] at this
    cases this)
theorem env_apart (A : Apart K s H) (KX : K.In s.heap) (hns : s.heap.Ns mainGlobals mg) (hb : s.heap.Ns builtinsNs mb) (hbb : ∀ x : Str, x ≠ "__name__" → mb x = bootBuiltins x) (hlim : s.heap.NoLimit) (hg : s.gens = #[]) (hok : HOk P w H s.heap) : Env0 P w K mg (hidT s.heap H) callerA [] s H := by
  refine ⟨rfl, ⟨apart_in A KX, apart_ns A hns, ⟨mb, apart_ns A hb, hbb⟩, ?_⟩, fun b o e => of_hidT e, Nat.le_of_eq (hidT_size _ _), trivial, fun b hb => (by cases hb), hok, .of_eq hg⟩
  obtain ⟨mc, h1, h2⟩ := hlim
  exact ⟨mc, apart_ns A h1, h2⟩
theorem tab_apart {c T : Addr} (A : Apart K s H) (hns : s.heap.Ns mainGlobals mg) (C : PySem.W.CodeHd s.heap c T) (hT : s.heap.get? T = some { cls := .none, data := .fields #[] })
    (hbm : ∃ (bm : Addr) (ob : Obj), mg "__builtins__" = some (.ref bm) ∧ bm ≠ builtinsNs ∧ s.heap.get? bm = some ob ∧ ob.cls = .type "module" ∧ ob.dict = some builtinsNs ∧ ob.data = .plain) : LamX.TabB (hidT s.heap H) mg c T := by
  have gT : mainGlobals ≠ T := fun z => by
    obtain ⟨o, es, ep, e, d, _⟩ := hns
    rw [z, hT] at e
    cases e
    cases d
  obtain ⟨bm, ob, b1, b2, b3, b4, b5, b6⟩ := hbm
  have bG : bm ≠ mainGlobals := fun z => by
    obtain ⟨o, es, ep, e, d, _⟩ := hns
    rw [← z, b3] at e
    cases e
    rw [b6] at d
    cases d
  have bT : bm ≠ T := fun z => by
    rw [z, hT] at b3
    cases b3
    cases b6
  obtain ⟨o, us, file, tf, flags, tg, inF, text, tt, e1, r1, r2, r3, rest⟩ := C
  have fc : H c = none := apart_free A e1 (fun xs n z => by rw [r2] at z; cases z) fun z => by
    rw [r2] at z
    cases z
    simp at r3
  exact ⟨⟨o, us, file, tf, flags, tg, inF, text, tt, hidT_get e1 fc, r1, r2, r3, rest⟩, ⟨bm, ob, b1, b2, bG, bT, hidT_get b3 (apart_free A b3 (fun xs n z => by rw [b6] at z; cases z) fun z => by rw [b6] at z; cases z), b4, b5, b6⟩, gT⟩
/-- the table at T, and the script at a as t says -/
def trk (T a : Addr) (t : Option HO) : Hp := fun b => if b = T then some (.tbl #[]) else if b = a then t else none
theorem trk_T {T : Addr} {t : Option HO} : trk T a t T = some (.tbl #[]) := if_pos rfl
theorem trk_a {T : Addr} {t : Option HO} (h : a ≠ T) : trk T a t a = t := (if_neg h).trans (if_pos rfl)
theorem trk_some {T b : Addr} {t : Option HO} {u : HO} (h : trk T a t b = some u) : (b = T ∧ u = .tbl #[]) ∨ (b ≠ T ∧ b = a ∧ t = some u) := by
  unfold trk at h
  split at h
  · rename_i hb
    cases h
    exact .inl ⟨hb, rfl⟩
  · rename_i hb
    split at h
    · rename_i hb2
      exact .inr ⟨hb, hb2, h⟩
    · cases h
theorem end_tab {T c : Addr} {t : Option HO} {r : Result} {s' : Shared} (h : CR CX0 [] P w (trk T a t) s (fun v _ => v = .bl true) (fun _ _ _ => False) r s') (hok : HOk P w (trk T a t) s.heap) (ht : ∀ u, t = some u → ∃ o xs, u = .frz o (.lst xs)) (C : PySem.W.CodeHd s.heap c T) (hT : s.heap.get? T = some { cls := .none, data := .fields #[] }) :
    r = .ok (.ret (.bool true)) ∧ OldK s.heap s'.heap ∧ s'.os = s.os ∧ AllBare s'.gens := by
  cases r with
  | error e => exact False.elim h
  | ok fl =>
    cases fl with
    | next => exact False.elim h
    | brk => exact False.elim h
    | cont => exact False.elim h
    | ret u =>
      obtain ⟨v, H', os, bare, un, hok', r', q⟩ := h
      obtain rfl : v = .bl true := q
      obtain rfl : u = Value.bool true := r'
      have stays : ∀ b o, b ≠ T → s.heap.get? b = some o → s'.heap.get? b = some o := fun b o hb e => by
        cases z : trk T a t b with
        | none => exact un.keep b o e z (fun y => by cases (show b ∈ ([] : List Addr) from y)) (by simp)
        | some u =>
          rcases trk_some z with ⟨y, _⟩ | ⟨_, _, y⟩
          · exact absurd y hb
          · obtain ⟨ob, xs, rfl⟩ := ht u y
            have e1 := (hok b _ z).1
            rw [e] at e1
            cases e1
            exact (hok' b _ (un.frzs b _ _ z)).1
      obtain ⟨more, z⟩ := un.tbls T #[] trk_T
      have grown : s'.heap.get? T = some { cls := .none, data := .fields (#[] ++ more) } := hok' T _ z
      refine ⟨rfl, ⟨fun b o e => ?_, fun b o e => ?_⟩, os, bare⟩
      · by_cases hb : b = T
        · subst hb
          rw [hT] at e
          cases e
          exact .inr (.inl ⟨(C.tab hT).isCodeTable, rfl, #[], more, rfl, grown⟩)
        · exact .inl (stays b o hb e)
      · by_cases hb : b = T
        · rw [hb]
          exact ⟨_, grown⟩
        · exact ⟨o, stays b o hb e⟩
theorem law_callGT {k : Nat} {fa c T : Addr} {fd : FuncData} {x : Str} {sp : Sp} {ns : List Int} (KX : K.In s.heap) (hns : s.heap.Ns mainGlobals mg) (hb : s.heap.Ns builtinsNs mb) (hbb : ∀ x : Str, x ≠ "__name__" → mb x = bootBuiltins x) (hlim : s.heap.NoLimit) (hg : s.gens = #[])
    (hT : s.heap.get? T = some { cls := .none, data := .fields #[] }) (nT : K.lookup T = none) (C : PySem.W.CodeHd s.heap c T)
    (hbm : ∃ (bm : Addr) (ob : Obj), mg "__builtins__" = some (.ref bm) ∧ bm ≠ builtinsNs ∧ s.heap.get? bm = some ob ∧ ob.cls = .type "module" ∧ ob.dict = some builtinsNs ∧ ob.data = .plain)
    (ha : s.heap.get? a = some { cls := .type "list", data := .seq vs.toArray }) (hi : IntsAre vs ns) (hl : ns.length ≤ sizeLine) (hr : Room k callerA)
    (F : ∀ base : Heap, K.In base → base.Ns mainGlobals mg → LamX.TabB base mg c T → FnG P w K mg base CX0 k fa fd [x] sp) (hbind : ∀ (s : Shared) (u : Value), BindsTo s fd ⟨[u], []⟩ [(x, u)])
    (hsp : ∀ H : Hp, H T = some (.tbl #[]) → SqL K H a (ns.map V.int) → sp [.ref a] H (fun v _ => v = .bl true) fun _ _ _ => False) :
    codeAny (model P w) callerA (.call (.ref fa) ⟨[.ref a], []⟩) (fun r s' => r = .ok (.ret (.bool true)) ∧ OldK s.heap s'.heap ∧ s'.os = s.os ∧ AllBare s'.gens) s := by
  have rv := vals_ints hi
  have lenV := hi.length
  have aT : a ≠ T := fun z => by
    rw [← z, ha] at hT
    have := congrArg Obj.data (Option.some.inj hT)
    cases this
  have go : ∀ t : Option HO, (t = none ∨ (t = some (.frz { cls := .type "list", data := .seq vs.toArray } (.lst (ns.map V.int))) ∧ K.lookup a = none)) → SqL K (trk T a t) a (ns.map V.int) → codeAny (model P w) callerA (.call (.ref fa) ⟨[.ref a], []⟩) (fun r s' => r = .ok (.ret (.bool true)) ∧ OldK s.heap s'.heap ∧ s'.os = s.os ∧ AllBare s'.gens) s := fun t ht hS => by
    have hok : HOk P w (trk T a t) s.heap := fun b u z => by
      rcases trk_some z with ⟨rfl, rfl⟩ | ⟨_, rfl, y⟩
      · exact hT
      · rcases ht with y' | ⟨y', _⟩
        · rw [y] at y'
          cases y'
        · rw [y] at y'
          cases y'
          exact ⟨ha, by rw [List.length_map]; exact hl, vs, _, rv, ha⟩
    have A : Apart K s (trk T a t) := fun b u z => by
      rcases trk_some z with ⟨rfl, _⟩ | ⟨_, rfl, y⟩
      · exact ⟨nT, _, hT, .inr rfl⟩
      · rcases ht with y' | ⟨_, y'⟩
        · rw [y] at y'
          cases y'
        · exact ⟨y', _, ha, .inl ⟨_, _, rfl⟩⟩
    refine codeAny_mono ((F _ (apart_in A KX) (apart_ns A hns) (tab_apart A hns C hT hbm)).run callerA [] s (trk T a t) ⟨[.ref a], []⟩ [.ref a] [.ref a] _ _ rfl hr (env_apart A KX hns hb hbb hlim hg hok) (hbind s (.ref a)) (.cons rfl .nil) (hsp _ trk_T hS)) fun r s' h => end_tab h hok (fun u y => ?_) C hT
    rcases ht with y' | ⟨y', _⟩
    · rw [y] at y'
      cases y'
    · rw [y] at y'
      cases y'
      exact ⟨_, _, rfl⟩
  cases hk : K.lookup a with
  | some o =>
    have e := KX a o hk
    rw [ha] at e
    cases e
    exact go none (.inl rfl) (.inr ⟨_, vs.toArray, _, hk, rfl, rfl, rfl, by rw [List.size_toArray, lenV]; exact hl, by simpa using rv⟩)
  | none => exact go (some _) (.inr ⟨rfl, hk⟩) (.inl (.inr ⟨_, trk_a aT⟩))
end
open He in
/-- a law's end over the facts of a head: the law's def by FnG, one table of code objects -/
theorem walk_ofGT {l : PySem.W.OpenLaw} {n k : Nat} {q : Program} {loose : List Str} {XP : (Str → Option Value) → Heap → Prop} {YP : World → Heap → Prop} {d : DefRec} {x : Str}
    (hn : l.most = some n) (hn2 : n ≤ sizeLine) (hdf : d.params.defaults = []) (hr : Room k callerA)
    (F : ∀ (w : World) (mg : Str → Option Value) (fa : Addr) (h : Heap), YP w h → h.Ns mainGlobals mg → mg d.name = some (.ref fa) →
      ∃ (K : PySem.W.Frag) (fd : FuncData) (sp : Sp) (c T : Addr), K.In h ∧ h.get? T = some { cls := .none, data := .fields #[] } ∧ K.lookup T = none ∧ PySem.W.CodeHd h c T ∧ (∀ (s : Shared) (u : Value), BindsTo s fd ⟨[u], []⟩ [(x, u)]) ∧
        (∀ (H : Hp) (a : Addr) (ns : List Int), ns.length ≤ n → (∀ z ∈ ns, Builtin.Int.intBits z ≤ 1048576) → H T = some (.tbl #[]) → SqL K H a (ns.map V.int) → sp [.ref a] H (fun v _ => v = .bl true) fun _ _ _ => False) ∧
        ∀ base : Heap, K.In base → base.Ns mainGlobals mg → LamX.TabB base mg c T → FnG l.prog w K mg base CX0 k fa fd [x] sp) :
    PySem.W.WalkO q loose XP YP l.row.toRowW d [] (fun f vs => PySem.call f vs) := by
  refine Att.attach_callB hn hdf fun w s₀ s₁ mg mb fa o pm cd doc a vs ns G Y ho hd hcd hmg hobj hints hlen hbits hg => ?_
  obtain ⟨K, fd, sp, c, T, KX, hT, nT, C, hb, hsp, hF⟩ := F w mg fa _ Y G.T.g hmg
  exact law_callGT KX G.T.g G.T.b G.T.builtins G.T.nolimit hg hT nT C G.T.bmain hobj hints (Nat.le_trans hlen hn2) hr hF hb fun H hH hS => hsp H a ns hlen hbits hH hS
end DtT
/-! ### the head's facts, over the library's hook with one Bool more: written data, built-ins under a name, an own exception class -/
namespace Hx
open PySem PySem.Spec PyProof.Rows L2 He
mutual
def datB (K : PySem.W.Frag) : PyData → Value → Bool
  | .int i, u => (match u with
    | .int j _ => decide (j = i)
    | _ => false)
  | .str x, u => (match u with
    | .str y _ => decide (y = x)
    | _ => false)
  | .tuple ds, u => (match u with
    | .ref a => (match K.lookup a with
      | some o => decide (o.cls = .type "tuple") && (match o.data with
        | .seq its _ => decide (its.size ≤ sizeLine) && datsB K ds its.toList
        | _ => false)
      | none => false)
    | _ => false)
  | _, _ => false
def datsB (K : PySem.W.Frag) : List PyData → List Value → Bool
  | [], us => us.isEmpty
  | d :: ds, us => (match us with
    | [] => false
    | u :: us => datB K d u && datsB K ds us)
end
mutual
theorem datB_ok {K : PySem.W.Frag} : ∀ (d : PyData) (u : Value), datB K d u = true → ∃ v, RelV v u ∧ ∀ H, Dp K H v d
  | .int i, u, h => by
    cases u with
    | int j t =>
      obtain rfl : j = i := of_decide_eq_true h
      exact ⟨.int j, ⟨t, rfl⟩, fun _ => .int j⟩
    | _ => cases h
  | .str x, u, h => by
    cases u with
    | str y t =>
      obtain rfl : y = x := of_decide_eq_true h
      exact ⟨.str y, ⟨t, rfl⟩, fun _ => .str y⟩
    | _ => cases h
  | .tuple ds, u, h => by
    cases u with
    | ref a =>
      have h1 : (match K.lookup a with
        | some o => decide (o.cls = .type "tuple") && (match o.data with
          | .seq its _ => decide (its.size ≤ sizeLine) && datsB K ds its.toList
          | _ => false)
        | none => false) = true := h
      cases q : K.lookup a with
      | none =>
        rw [q] at h1
        cases h1
      | some o =>
        rw [q] at h1
        obtain ⟨c1, h2⟩ := ba h1
        split at h2
        · rename_i its n hd
          obtain ⟨c2, c3⟩ := ba h2
          obtain ⟨vs, rv, hv⟩ := datsB_ok ds its.toList c3
          exact ⟨.ref a, rfl, fun H => .tup (.inr ⟨o, its, n, q, of_decide_eq_true c1, hd, of_decide_eq_true c2, rv⟩) (hv H)⟩
        · cases h2
    | _ => cases h
  | .none, _, h => by cases h
  | .bool _, _, h => by cases h
  | .list _, _, h => by cases h
  | .dict _, _, h => by cases h
theorem datsB_ok {K : PySem.W.Frag} : ∀ (ds : List PyData) (us : List Value), datsB K ds us = true → ∃ vs, Vals vs us ∧ ∀ H, DpAll K H vs ds
  | [], us, h => by
    cases us with
    | nil => exact ⟨[], .nil, fun _ => .nil⟩
    | cons _ _ => cases h
  | d :: ds, us, h => by
    cases us with
    | nil => cases h
    | cons u us =>
      obtain ⟨h1, h2⟩ := ba (show (datB K d u && datsB K ds us) = true from h)
      obtain ⟨v, rv, hv⟩ := datB_ok d u h1
      obtain ⟨vs, rvs, hvs⟩ := datsB_ok ds us h2
      exact ⟨v :: vs, .cons rv rvs, fun H => .cons (hv H) (hvs H)⟩
end
/-- the module's name x holds this written datum -/
def datW (K : PySem.W.Frag) (p : Str × PyData) : Bool := eqO (PySem.W.nsIn K mainGlobals p.1) (some (some (.ref (ga K p.1)))) && datB K p.2 (.ref (ga K p.1))
theorem datW_ok {K : PySem.W.Frag} {h : Heap} {mg : Str → Option Value} {p : Str × PyData} (c : datW K p = true) (X : K.In h) (G : h.Ns mainGlobals mg) : K18.Wr K mg p.1 p.2 := by
  obtain ⟨c1, c2⟩ := ba c
  obtain ⟨v, rv, hv⟩ := datB_ok _ _ c2
  refine ⟨ga K p.1, PySem.W.mg_of X G (eqO_ok c1), fun H => ?_⟩
  cases v with
  | ref a =>
    have e : Value.ref (ga K p.1) = Value.ref a := rv
    injection e with e
    rw [e]
    exact hv H
  | _ => first | (obtain ⟨_, e⟩ := rv; cases e) | (exact absurd rv (fun e => by cases e))
/-- an own exception class -/
def oexB (K : PySem.W.Frag) (C : Addr) : Bool := (match K.lookup C with
  | some ⟨.type "type", _, .cls cd, sl⟩ => (match cd.mro, sl.toList with
    | .ref C' :: bm, [_, _, _, _, some (.builtin n), _] => C' == C && n == "ValueError.__new__" && !cd.hasDel && cd.hasDict && PySem.HandSPX.refsVE bm
    | _, _ => false)
  | _ => false) && (eqO (PySem.W.findIn K (.ref C) "__setattr__") (some (some (.builtin "object.__setattr__"))) && (decide (PySem.W.subIn K (.ref C) (.type "BaseException") = some true) && (decide (PySem.W.typeIn K (.ref C) = some (.type "type")) && PySem.W.keepIn K (.ref C))))
theorem oexB_ok {K : PySem.W.Frag} {C : Addr} (h : oexB K C = true) : OexC K C := by
  obtain ⟨q, h⟩ := ba h
  obtain ⟨h1, h⟩ := ba h
  obtain ⟨h2, h⟩ := ba h
  obtain ⟨h3, h4⟩ := ba h
  refine ⟨?_, eqO_ok h1, of_decide_eq_true h2, of_decide_eq_true h3, h4⟩
  split at q
  · rename_i dd cd sl ho
    split at q
    · rename_i C' bm k0 k1 k2 k3 n k5 hm hs
      simp only [Bool.and_eq_true, beq_iff_eq, Bool.not_eq_true'] at q
      obtain ⟨⟨⟨⟨rfl, rfl⟩, hdel⟩, hdct⟩, ht⟩ := q
      obtain ⟨nm, bs, mro, ns, qn, hd, sn, sub, ab, col, del⟩ := cd
      dsimp only at hm hdel hdct
      subst hm hdel hdct
      have hsl : sl = #[k0, k1, k2, k3, some (.builtin "ValueError.__new__"), k5] := by
        obtain ⟨l⟩ := sl
        simp only at hs
        rw [hs]
      subst hsl
      exact ⟨nm, qn, ns, bs, bm, sn, sub, ab, col, dd, k0, k1, k2, k3, k5, ho, ht⟩
    · cases q
  · cases q
def excDB (K : PySem.W.Frag) (C : Addr) : Bool := (PySem.W.clsIn K C).isSome && (eqO (PySem.W.findIn K (.ref C) "__class__") (some (some (.builtin "object.__class__"))) && (eqO (PySem.W.specialIn K (.builtin "object.__class__") "__get__") (some (some (.builtin "getset_descriptor.__get__"))) && (decide (PySem.W.takesIn K (.builtin "object.__class__") = some true) && decide (PySem.W.mroIn K C (.type "object") = some true))))
theorem excDB_ok {K : PySem.W.Frag} {C : Addr} (h : excDB K C = true) (T : XfC K C) : So.ExcD K C := by
  obtain ⟨h0, h⟩ := ba h
  obtain ⟨h1, h⟩ := ba h
  obtain ⟨h2, h⟩ := ba h
  obtain ⟨h3, h4⟩ := ba h
  exact ⟨h0, T.ga, T.gg, T.exC, eqO_ok h1, eqO_ok h2, of_decide_eq_true h3, of_decide_eq_true h4⟩
/-- what the suites of the laws ask of the class C: of its family F (the errors that it is), of the errors that it is not -/
def famB (K : PySem.W.Frag) (C : Addr) (fs : List Str) : Bool := fs.all fun f => eqO (PySem.W.findIn K (.ref C) f) (some none)
def initB (K : PySem.W.Frag) (C : Addr) : Bool := eqO (PySem.W.findIn K (.ref C) "__init__") (some (some (.ref (ma K C "__init__")))) && decide (PySem.W.typeIn K (.ref (ma K C "__init__")) = some (.type "function"))
def kitB (K : PySem.W.Frag) (C : Addr) (p : Str × Bool) : Bool := decide (PySem.W.kitOne K (.ref C) (.ref (ga K p.1)) = some p.2)
end Hx
/-! ### the head: what it says of the top -/
namespace K17
open PySem PySem.Spec PyProof.Rows L2 Evl Fx Fr Dt Tr DtG K18
def dN (x : Str) (i : Nat) : He.DefD := ⟨(x, none), x, x, defArgs (K18.topS i), defBody (K18.topS i), defScope (K18.topS i), [], []⟩
def dI : He.DefD := ⟨("NotUsable", some "__init__"), "__init__", "NotUsable.__init__", defArgs initS, defBody initS, defScope initS, [], []⟩
def fn : List He.DefD := [dN "is_ascending" 11, dN "is_whole" 13, dN "placed_subtrees" 14, dN "subtrees_of" 15, dN "is_integer" 17, dN "reduced_pair" 21, dN "minus" 23, dN "times" 24, dN "mixed" 27, dN "joined" 28, dN "both" 29, dN "closed" 30, dN "with_piece" 31, dN "tree_outcomes" 32, dN "kept_or_gone" 33, dN "as_sights" 34, dN "is_path" 36, dN "sight_of" 38, dN "is_kept" 39, dN "_law_feed" 41, dN "_law_draw" 42, dN "_law_choice" 43, dN "_law_spans" 44, dN "_law_seen" 45, dN "_law_kept_sight" 46, dN "_law_own_sight" 47, dN "_law_sets" 48, dN "_law_some_tree" 49, dN "_law_document" 50, dN "_law_outcome" 51, dN "_law_six" 52, dN "_law_due" 53, dN "_law_agrees" 54, dN "law" 55, dI]
def fa : List He.Fa := [.glo "is_ascending", .glo "is_whole", .glo "placed_subtrees", .glo "subtrees_of", .glo "is_integer", .glo "reduced_pair", .glo "minus", .glo "times", .glo "mixed", .glo "joined", .glo "both", .glo "closed", .glo "with_piece", .glo "tree_outcomes", .glo "kept_or_gone", .glo "as_sights", .glo "is_path", .glo "sight_of", .glo "is_kept", .glo "_law_feed", .glo "_law_draw", .glo "_law_choice", .glo "_law_spans", .glo "_law_seen", .glo "_law_kept_sight", .glo "_law_own_sight", .glo "_law_sets", .glo "_law_some_tree", .glo "_law_document", .glo "_law_outcome", .glo "_law_six", .glo "_law_due", .glo "_law_agrees", .glo "law", .free "isinstance", .free "int", .free "bool", .free "tuple", .free "list", .free "len", .free "range", .free "all", .free "enumerate", .free "sorted", .free "repr", .free "ValueError", .glo "ThinError", .glo "InvalidPaper", .glo "NotUsable", .glo "PaperError", .glo "TraceError", .glo "BookError", .glo "TextError", .glo "NotTold"]
def kits : List (Str × Bool) := [("InvalidPaper", false), ("NotUsable", true), ("PaperError", false), ("TraceError", true)]
def ex (K : PySem.W.Frag) : Bool := Hx.bltB K [("gcd", "math.gcd")] && (Hx.datW K ("ZERO", .tuple [.int 0, .int 1]) && (Hx.datW K ("ONE", .tuple [.int 1, .int 1]) && (Hx.datW K ("NOTHING", .tuple [.tuple [], .tuple []]) && (Hx.oexB K (He.ga K "NotUsable") && (L2.xfB K (He.ga K "NotUsable") && (Hx.excDB K (He.ga K "NotUsable") && (Hx.famB K (He.ga K "NotUsable") ["word", "at"] && (Hx.initB K (He.ga K "NotUsable") &&
  (decide (PySem.W.exmOne K (.ref (He.ga K "NotUsable")) (.ref (He.ga K "ThinError")) = some true) && (kits.all (fun q => Hx.kitB K (He.ga K "NotUsable") q) &&
  (decide (PySem.W.kitAny K (.ref (He.ga K "NotUsable")) [.ref (He.ga K "BookError"), .ref (He.ga K "TextError"), .ref (He.ga K "NotTold")] = some false) && decide (PySem.W.kitOne K (.ref (He.ga K "NotUsable")) (.type "ValueError") = some true))))))))))))
def tf : List He.Defn := [("_law_agrees", none)]
abbrev R : PySem.W.OpenRow := PySem.W.OpenLaw.row PySem.Challenge.rw_thinspans_k17_sights_told
abbrev hk : PySem.W.Hook := He.hookX 5 fa fn [] tf ex
def ob (s : PySem.W.SharedT) : He.AlX := He.obsX 5 fa fn [] tf ex (HandSHeadRun.getT s)
theorem ob_eq (s : PySem.W.SharedT) : ob s = hk.obs s.abs := He.obsX_eq (HandSHeadRun.getT_eq s)
def looseA : List Str := ["ThinError", "PaperError", "TraceError", "BookError", "TextError", "InvalidPaper", "NotUsable", "NotTold", "is_ascending", "is_whole", "placed_subtrees", "subtrees_of", "is_integer", "ZERO", "ONE", "reduced_pair", "plus", "minus", "times", "NOTHING", "mixed", "joined", "both", "closed", "with_piece"]
def looseB : List Str := ["tree_outcomes", "kept_or_gone", "as_sights", "is_path", "sight_of", "is_kept", "_law_feed", "_law_draw", "_law_choice", "_law_spans", "_law_seen", "_law_kept_sight", "_law_own_sight", "_law_sets", "_law_some_tree", "_law_document", "_law_outcome", "_law_six", "_law_due", "_law_agrees"]
def loose : List Str := looseA ++ looseB
set_option maxHeartbeats 0 in
theorem run (w : World) : HandSHeadRun.RunEqI R (PySem.W.view R.prog [0, 55]) hk ob 200000 loose w := by
  unfold HandSHeadRun.RunEqI
  kernel_rfl
end K17
/-! ### the facts put together -/
namespace K17
open PySem PySem.Spec PyProof.Rows L2 Evl Fx Fr Dt Tr DtG K18
/-- as toFun, the code object told -/
theorem toFunC {K : PySem.W.Frag} {x qual : Str} {st : Stmt} {p : Str × Option Str} {fd : FuncData} (F : FunD K x qual (defArgs st) (defBody st) (defScope st) [] [] (He.fAd K p) fd) : FunC K x qual st (He.fAd K p) fd (He.codeOf K p) := by
  obtain ⟨⟨oc, od, dV, kV, doc, pm, an, cdv, ct, osl, e, l, c, d, k⟩, kp⟩ := F
  rcases d with ⟨_, d⟩ | ⟨d, _⟩
  · subst d
    obtain ⟨c', rfl⟩ := He.codeIn_ref c
    subst e
    have z : He.codeOf K p = c' := He.codeOf_eq l rfl
    rw [z]
    exact ⟨⟨oc, od, kV, doc, pm, an, ct, osl, rfl, l, c⟩, kp⟩
  · exact absurd rfl d
set_option maxHeartbeats 2000000 in
theorem facts {P : Program} {w : World} {K : PySem.W.Frag} {h : Heap} {mg : Str → Option Value} {f : Addr} (X : K.In h) (G : h.Ns mainGlobals mg) (hfa : mg ("law" : Str) = some (.ref f)) (c : He.SaysX fa fn [] tf ex w h K) :
    ∃ fd : FuncData, (∀ (s : Shared) (v : Value), BindsTo s fd ⟨[v], []⟩ [("_law_script", v)]) ∧ ∀ base : Heap, K.In base → base.Ns mainGlobals mg → LamX.TabB base mg (He.cT K ("_law_agrees", none)).1 (He.cT K ("_law_agrees", none)).2 → FnG P w K mg base CX0 11 f fd ["_law_script"] (spLawT K (He.cT K ("_law_agrees", none)).2) := by
  have cd := c.t.d
  have gl : ∀ (i : Nat) {x : Str}, fa[i]? = some (.glo x) → mg x = some (.ref (He.ga K x)) := fun i x e => He.glo_ok X G (cd.fact i e)
  have fr : ∀ (i : Nat) {x : Str}, fa[i]? = some (.free x) → mg x = none := fun i x e => He.free_ok X G (cd.fact i e)
  obtain ⟨_, Q0⟩ := cd.def_ 0 (d := dN "is_ascending" 11) rfl
  obtain ⟨_, Q1⟩ := cd.def_ 1 (d := dN "is_whole" 13) rfl
  obtain ⟨_, Q2⟩ := cd.def_ 2 (d := dN "placed_subtrees" 14) rfl
  obtain ⟨_, Q3⟩ := cd.def_ 3 (d := dN "subtrees_of" 15) rfl
  obtain ⟨_, Q4⟩ := cd.def_ 4 (d := dN "is_integer" 17) rfl
  obtain ⟨_, Q5⟩ := cd.def_ 5 (d := dN "reduced_pair" 21) rfl
  obtain ⟨_, Q6⟩ := cd.def_ 6 (d := dN "minus" 23) rfl
  obtain ⟨_, Q7⟩ := cd.def_ 7 (d := dN "times" 24) rfl
  obtain ⟨_, Q8⟩ := cd.def_ 8 (d := dN "mixed" 27) rfl
  obtain ⟨_, Q9⟩ := cd.def_ 9 (d := dN "joined" 28) rfl
  obtain ⟨_, Q10⟩ := cd.def_ 10 (d := dN "both" 29) rfl
  obtain ⟨_, Q11⟩ := cd.def_ 11 (d := dN "closed" 30) rfl
  obtain ⟨_, Q12⟩ := cd.def_ 12 (d := dN "with_piece" 31) rfl
  obtain ⟨_, Q13⟩ := cd.def_ 13 (d := dN "tree_outcomes" 32) rfl
  obtain ⟨_, Q14⟩ := cd.def_ 14 (d := dN "kept_or_gone" 33) rfl
  obtain ⟨_, Q15⟩ := cd.def_ 15 (d := dN "as_sights" 34) rfl
  obtain ⟨_, Q16⟩ := cd.def_ 16 (d := dN "is_path" 36) rfl
  obtain ⟨_, Q17⟩ := cd.def_ 17 (d := dN "sight_of" 38) rfl
  obtain ⟨_, Q18⟩ := cd.def_ 18 (d := dN "is_kept" 39) rfl
  obtain ⟨_, Q19⟩ := cd.def_ 19 (d := dN "_law_feed" 41) rfl
  obtain ⟨_, Q20⟩ := cd.def_ 20 (d := dN "_law_draw" 42) rfl
  obtain ⟨_, Q21⟩ := cd.def_ 21 (d := dN "_law_choice" 43) rfl
  obtain ⟨_, Q22⟩ := cd.def_ 22 (d := dN "_law_spans" 44) rfl
  obtain ⟨_, Q23⟩ := cd.def_ 23 (d := dN "_law_seen" 45) rfl
  obtain ⟨_, Q24⟩ := cd.def_ 24 (d := dN "_law_kept_sight" 46) rfl
  obtain ⟨_, Q25⟩ := cd.def_ 25 (d := dN "_law_own_sight" 47) rfl
  obtain ⟨_, Q26⟩ := cd.def_ 26 (d := dN "_law_sets" 48) rfl
  obtain ⟨_, Q27⟩ := cd.def_ 27 (d := dN "_law_some_tree" 49) rfl
  obtain ⟨_, Q28⟩ := cd.def_ 28 (d := dN "_law_document" 50) rfl
  obtain ⟨_, Q29⟩ := cd.def_ 29 (d := dN "_law_outcome" 51) rfl
  obtain ⟨_, Q30⟩ := cd.def_ 30 (d := dN "_law_six" 52) rfl
  obtain ⟨_, Q31⟩ := cd.def_ 31 (d := dN "_law_due" 53) rfl
  obtain ⟨_, Q32⟩ := cd.def_ 32 (d := dN "_law_agrees" 54) rfl
  obtain ⟨fd, Q33⟩ := cd.def_ 33 (d := dN "law" 55) rfl
  obtain ⟨_, QI⟩ := cd.def_ 34 (d := dI) rfl
  have F0 := Hx.toFun (st := K18.topS 11) Q0
  have F1 := Hx.toFun (st := K18.topS 13) Q1
  have F2 := Hx.toFun (st := K18.topS 14) Q2
  have F3 := Hx.toFun (st := K18.topS 15) Q3
  have F4 := Hx.toFun (st := K18.topS 17) Q4
  have F5 := Hx.toFun (st := K18.topS 21) Q5
  have F6 := Hx.toFun (st := K18.topS 23) Q6
  have F7 := Hx.toFun (st := K18.topS 24) Q7
  have F8 := Hx.toFun (st := K18.topS 27) Q8
  have F9 := Hx.toFun (st := K18.topS 28) Q9
  have F10 := Hx.toFun (st := K18.topS 29) Q10
  have F11 := Hx.toFun (st := K18.topS 30) Q11
  have F12 := Hx.toFun (st := K18.topS 31) Q12
  have F13 := Hx.toFun (st := K18.topS 32) Q13
  have F14 := Hx.toFun (st := K18.topS 33) Q14
  have F15 := Hx.toFun (st := K18.topS 34) Q15
  have F16 := Hx.toFun (st := K18.topS 36) Q16
  have F17 := Hx.toFun (st := K18.topS 38) Q17
  have F18 := Hx.toFun (st := K18.topS 39) Q18
  have F19 := Hx.toFun (st := K18.topS 41) Q19
  have F20 := Hx.toFun (st := K18.topS 42) Q20
  have F21 := Hx.toFun (st := K18.topS 43) Q21
  have F22 := Hx.toFun (st := K18.topS 44) Q22
  have F23 := Hx.toFun (st := K18.topS 45) Q23
  have F24 := Hx.toFun (st := K18.topS 46) Q24
  have F25 := Hx.toFun (st := K18.topS 47) Q25
  have F26 := Hx.toFun (st := K18.topS 48) Q26
  have F27 := Hx.toFun (st := K18.topS 49) Q27
  have F28 := Hx.toFun (st := K18.topS 50) Q28
  have F29 := Hx.toFun (st := K18.topS 51) Q29
  have F30 := Hx.toFun (st := K18.topS 52) Q30
  have F31 := Hx.toFun (st := K18.topS 53) Q31
  have F32 := Hx.toFun (st := K18.topS 54) Q32
  have F33 := Hx.toFun (st := K18.topS 55) Q33
  have FC := toFunC (st := K18.topS 54) (p := ("_law_agrees", none)) Q32
  have FI := Hx.toFun (st := initS) QI
  have e := hfa.symm.trans (gl 33 rfl)
  cases e
  obtain ⟨m1, m⟩ := He.ba c.more
  obtain ⟨m2, m⟩ := He.ba m
  obtain ⟨m3, m⟩ := He.ba m
  obtain ⟨m4, m⟩ := He.ba m
  obtain ⟨m5, m⟩ := He.ba m
  obtain ⟨m6, m⟩ := He.ba m
  obtain ⟨m7, m⟩ := He.ba m
  obtain ⟨m8, m⟩ := He.ba m
  obtain ⟨m9, m⟩ := He.ba m
  obtain ⟨m10, m⟩ := He.ba m
  obtain ⟨m11, m⟩ := He.ba m
  obtain ⟨m12, m13⟩ := He.ba m
  have gG : mg ("gcd" : Str) = some (.builtin "math.gcd") := PySem.W.mg_of X G (He.eqO_ok (List.all_eq_true.mp m1 ("gcd", "math.gcd") List.mem_cons_self))
  have W0 : Wr K mg "ZERO" (frD 0) := Hx.datW_ok m2 X G
  have W1 : Wr K mg "ONE" (frD 1) := Hx.datW_ok m3 X G
  have WN : Wr K mg "NOTHING" (.tuple [.tuple [], .tuple []]) := Hx.datW_ok m4 X G
  have oex := Hx.oexB_ok m5
  have xf := L2.xfB_ok m6
  have exd := Hx.excDB_ok m7 xf
  have fw : PySem.W.findIn K (.ref (He.ga K "NotUsable")) "word" = some none := He.eqO_ok (List.all_eq_true.mp m8 "word" (by simp))
  have fat : PySem.W.findIn K (.ref (He.ga K "NotUsable")) "at" = some none := He.eqO_ok (List.all_eq_true.mp m8 "at" (by simp))
  obtain ⟨n1, n2⟩ := He.ba m9
  have iC := He.eqO_ok n1
  have tI := of_decide_eq_true n2
  have kit : ∀ x b, (x, b) ∈ kits → PySem.W.kitOne K (.ref (He.ga K "NotUsable")) (.ref (He.ga K x)) = some b := fun x b hx => of_decide_eq_true (List.all_eq_true.mp m11 (x, b) hx)
  have T : OutK K mg (He.ga K "NotUsable") (He.ga K "ThinError") (He.ga K "InvalidPaper") (He.ga K "PaperError") (He.ga K "TraceError") (He.ga K "BookError") (He.ga K "TextError") (He.ga K "NotTold") :=
    ⟨exd, xf, fw, fat, (gl 46 rfl), of_decide_eq_true m10, (gl 47 rfl), kit _ _ (by simp [kits]), (gl 48 rfl), kit _ _ (by simp [kits]), (gl 49 rfl), kit _ _ (by simp [kits]), (gl 50 rfl), kit _ _ (by simp [kits]), (gl 51 rfl), (gl 52 rfl), (gl 53 rfl), of_decide_eq_true m12, of_decide_eq_true m13, (fr 45 rfl), (fr 34 rfl)⟩
  have b := FunD.bindsA (ps := ["_law_script"]) Q33 fun _ _ _ _ _ _ us hl => match us, hl with | [_], _ => rfl
  refine ⟨fd, fun s v => b s [v] rfl, fun base _ _ TB => ?_⟩
  have B0 : Binds K _ ["things"] [] := F0.binds (ps := ["things"]) fun _ _ _ _ _ _ us hl => match us, hl with | [_], _ => rfl
  have B1 : Binds K _ ["thing"] [] := F1.binds (ps := ["thing"]) fun _ _ _ _ _ _ us hl => match us, hl with | [_], _ => rfl
  have B2 : Binds K _ ["tree"] [] := F2.binds (ps := ["tree"]) fun _ _ _ _ _ _ us hl => match us, hl with | [_], _ => rfl
  have B3 : Binds K _ ["tree"] [] := F3.binds (ps := ["tree"]) fun _ _ _ _ _ _ us hl => match us, hl with | [_], _ => rfl
  have B4 : Binds K _ ["thing"] [] := F4.binds (ps := ["thing"]) fun _ _ _ _ _ _ us hl => match us, hl with | [_], _ => rfl
  have B5 : Binds K _ ["p", "q"] [] := F5.binds (ps := ["p", "q"]) fun _ _ _ _ _ _ us hl => match us, hl with | [_, _], _ => rfl
  have B6 : Binds K _ ["one", "other"] [] := F6.binds (ps := ["one", "other"]) fun _ _ _ _ _ _ us hl => match us, hl with | [_, _], _ => rfl
  have B7 : Binds K _ ["one", "other"] [] := F7.binds (ps := ["one", "other"]) fun _ _ _ _ _ _ us hl => match us, hl with | [_, _], _ => rfl
  have B8 : Binds K _ ["pairs"] [] := F8.binds (ps := ["pairs"]) fun _ _ _ _ _ _ us hl => match us, hl with | [_], _ => rfl
  have B9 : Binds K _ ["parts"] [] := F9.binds (ps := ["parts"]) fun _ _ _ _ _ _ us hl => match us, hl with | [_], _ => rfl
  have B10 : Binds K _ ["one", "other"] [] := F10.binds (ps := ["one", "other"]) fun _ _ _ _ _ _ us hl => match us, hl with | [_, _], _ => rfl
  have B11 : Binds K _ ["outcomes", "word"] [] := F11.binds (ps := ["outcomes", "word"]) fun _ _ _ _ _ _ us hl => match us, hl with | [_, _], _ => rfl
  have B12 : Binds K _ ["trees", "pieces", "word"] [] := F12.binds (ps := ["trees", "pieces", "word"]) fun _ _ _ _ _ _ us hl => match us, hl with | [_, _, _], _ => rfl
  have B13 : Binds K _ ["tree", "chances"] [] := F13.binds (ps := ["tree", "chances"]) fun _ _ _ _ _ _ us hl => match us, hl with | [_, _], _ => rfl
  have B14 : Binds K _ ["chance", "kept", "gone"] [] := F14.binds (ps := ["chance", "kept", "gone"]) fun _ _ _ _ _ _ us hl => match us, hl with | [_, _, _], _ => rfl
  have B15 : Binds K _ ["outcomes"] [] := F15.binds (ps := ["outcomes"]) fun _ _ _ _ _ _ us hl => match us, hl with | [_], _ => rfl
  have B16 : Binds K _ ["tree", "thing"] [] := F16.binds (ps := ["tree", "thing"]) fun _ _ _ _ _ _ us hl => match us, hl with | [_, _], _ => rfl
  have B17 : Binds K _ ["tree", "kept"] [] := F17.binds (ps := ["tree", "kept"]) fun _ _ _ _ _ _ us hl => match us, hl with | [_, _], _ => rfl
  have B18 : Binds K _ ["tree", "thing"] [] := F18.binds (ps := ["tree", "thing"]) fun _ _ _ _ _ _ us hl => match us, hl with | [_, _], _ => rfl
  have B19 : Binds K _ ["_law_script"] [] := F19.binds (ps := ["_law_script"]) fun _ _ _ _ _ _ us hl => match us, hl with | [_], _ => rfl
  have B20 : Binds K _ ["_law_feed_here", "_law_many"] [] := F20.binds (ps := ["_law_feed_here", "_law_many"]) fun _ _ _ _ _ _ us hl => match us, hl with | [_, _], _ => rfl
  have B21 : Binds K _ ["_law_feed_here", "_law_some"] [] := F21.binds (ps := ["_law_feed_here", "_law_some"]) fun _ _ _ _ _ _ us hl => match us, hl with | [_, _], _ => rfl
  have B22 : Binds K _ ["_law_root", "_law_way"] [] := F22.binds (ps := ["_law_root", "_law_way"]) fun _ _ _ _ _ _ us hl => match us, hl with | [_, _], _ => rfl
  have B23 : Binds K _ ["_law_root", "_law_way", "_law_held"] [] := F23.binds (ps := ["_law_root", "_law_way", "_law_held"]) fun _ _ _ _ _ _ us hl => match us, hl with | [_, _, _], _ => rfl
  have B24 : Binds K _ ["_law_seen_here", "_law_held"] [] := F24.binds (ps := ["_law_seen_here", "_law_held"]) fun _ _ _ _ _ _ us hl => match us, hl with | [_, _], _ => rfl
  have B25 : Binds K _ ["_law_root", "_law_held"] [] := F25.binds (ps := ["_law_root", "_law_held"]) fun _ _ _ _ _ _ us hl => match us, hl with | [_, _], _ => rfl
  have B26 : Binds K _ ["_law_some"] [] := F26.binds (ps := ["_law_some"]) fun _ _ _ _ _ _ us hl => match us, hl with | [_], _ => rfl
  have B27 : Binds K _ ["_law_feed_here", "_law_left", "_law_deep"] [] := F27.binds (ps := ["_law_feed_here", "_law_left", "_law_deep"]) fun _ _ _ _ _ _ us hl => match us, hl with | [_, _, _], _ => rfl
  have B28 : Binds K _ [] [] := F28.binds (ps := []) fun _ _ _ _ _ _ us hl => match us, hl with | [], _ => rfl
  have B29 : Binds K _ ["_law_ask"] [] := F29.binds (ps := ["_law_ask"]) fun _ _ _ _ _ _ us hl => match us, hl with | [_], _ => rfl
  have B30 : Binds K _ [] [] := F30.binds (ps := []) fun _ _ _ _ _ _ us hl => match us, hl with | [], _ => rfl
  have B31 : Binds K _ ["_law_root", "_law_item"] [] := F31.binds (ps := ["_law_root", "_law_item"]) fun _ _ _ _ _ _ us hl => match us, hl with | [_, _], _ => rfl
  have B32 : Binds K _ ["_law_root"] [] := F32.binds (ps := ["_law_root"]) fun _ _ _ _ _ _ us hl => match us, hl with | [_], _ => rfl
  have B33 : Binds K _ ["_law_script"] [] := F33.binds (ps := ["_law_script"]) fun _ _ _ _ _ _ us hl => match us, hl with | [_], _ => rfl
  have BI : Binds K _ ["self", "word", "at"] [] := FI.binds (ps := ["self", "word", "at"]) fun _ _ _ _ _ _ us hl => match us, hl with | [_, _, _], _ => rfl
  have G1 : FnOk P w K mg base CX0 1 _ _ ["thing"] (spWhole K) := ok_whole F1 (fr 34 rfl) (fr 35 rfl) (fr 36 rfl)
  have c1 := cal F1 G1 (gl 1 rfl) B1
  have G4 : FnOk P w K mg base CX0 2 _ _ ["thing"] (spWhole K) := ok_integer F4 G1 F1.kp B1 (gl 1 rfl)
  have c4 := cal F4 G4 (gl 4 rfl) B4
  have G5 : FnOk P w K mg base CX0 1 _ _ ["p", "q"] (spMade K) := made_d (ok_reduced F5 gG)
  have c5 := cal F5 G5 (gl 5 rfl) B5
  have G7 : FnOk P w K mg base CX0 2 _ _ ["one", "other"] (spOpF K (· * ·)) := ok_times F7 c5
  have c7 := cal F7 G7 (gl 7 rfl) B7
  have G6 : FnOk P w K mg base CX0 2 _ _ ["one", "other"] (spOpF K (· - ·)) := ok_minus F6 c5
  have c6 := cal F6 G6 (gl 6 rfl) B6
  have G8 : FnOk P w K mg base CX0 1 _ _ ["pairs"] (spMixed K) := ok_mixed F8 (fr 43 rfl)
  have c8 := cal F8 G8 (gl 8 rfl) B8
  have G10 : FnOk P w K mg base CX0 3 _ _ ["one", "other"] (spBoth K) := ok_both F10 c7 (fr 37 rfl) (fr 43 rfl)
  have c10 := cal F10 G10 (gl 10 rfl) B10
  have G9 : FnOk P w K mg base CX0 4 _ _ ["parts"] (spJoined K) := ok_joined F9 c8 c10 W1 WN
  have c9 := cal F9 G9 (gl 9 rfl) B9
  have G12 : FnOk P w K mg base CX0 1 _ _ ["trees", "pieces", "word"] (spWP K) := ok_wp F12 (fr 37 rfl) (fr 43 rfl)
  have c12 := cal F12 G12 (gl 12 rfl) B12
  have G11 : FnOk P w K mg base CX0 2 _ _ ["outcomes", "word"] (spClosed K) := ok_closed F11 c8 c12
  have c11 := cal F11 G11 (gl 11 rfl) B11
  have G14 : FnOk P w K mg base CX0 3 _ _ ["chance", "kept", "gone"] (spKG K) := ok_kg F14 c8 c7 c6 W1 W0
  have c14 := cal F14 G14 (gl 14 rfl) B14
  have G2 : FnOk P w K mg base CX0 1 _ _ ["tree"] (spPlaced K) := ok_placed F2 (fr 40 rfl) (fr 39 rfl) (fr 38 rfl)
  have c2 := cal F2 G2 (gl 2 rfl) B2
  have G3 : FnOk P w K mg base CX0 1 _ _ ["tree"] (spSubs K) := ok_subs F3
  have c3 := cal F3 G3 (gl 3 rfl) B3
  have G13 : FnOk P w K mg base CX0 5 _ _ ["tree", "chances"] (spTO K) := ok_to F13 c3 c11 c9 c14 (fr 40 rfl) (fr 39 rfl) (fr 37 rfl)
  have c13 := cal F13 G13 (gl 13 rfl) B13
  have G15 : FnOk P w K mg base CX0 1 _ _ ["outcomes"] (spAsS K) := ok_asS F15
  have c15 := cal F15 G15 (gl 15 rfl) B15
  have G16 : FnOk P w K mg base CX0 3 _ _ ["tree", "thing"] (spPath K) := ok_path F16 c4 (fr 34 rfl) (fr 37 rfl) (fr 39 rfl)
  have c16 := cal F16 G16 (gl 16 rfl) B16
  have G0 : FnOk P w K mg base CX0 1 _ _ ["things"] (spAsc K) := ok_asc F0 (fr 41 rfl) (fr 40 rfl) (fr 39 rfl)
  have c0 := cal F0 G0 (gl 0 rfl) B0
  have G18 : FnOk P w K mg base CX0 4 _ _ ["tree", "thing"] (spKeptQ K) := ok_keptQ F18 c16 c0 (fr 34 rfl) (fr 37 rfl) (fr 41 rfl)
  have c18 := cal F18 G18 (gl 18 rfl) B18
  have GI : FnOk P w K mg base (L2.CX P w) 1 _ _ ["self", "word", "at"] (spInit (He.ga K "NotUsable")) := ok_init FI oex fw fat
  have GS : FnOk P w K mg base (L2.CX P w) 6 _ _ ["tree", "kept"] (spSight K (He.ga K "NotUsable")) := ok_sight F17 c18 c2 c13 c11 c15 W1 W0 oex (gl 48 rfl) iC tI GI BI
  have bk : KBn K _ ["tree", "kept"] 0 ["kept", "tree"] (fun _ ws => ws.reverse) (fun _ zs => zs.reverse) := kbn_of (go := fun l => l.reverse) F17 (fun _ _ _ _ _ _ ws hl => match ws, hl with | [_, _], _ => rfl) fun r => r.reverse
  have G19 : FnOk P w K mg base CX0 1 _ _ ["_law_script"] (spFeed K) := ok_feed F19 (fr 38 rfl)
  have c19 := cal F19 G19 (gl 19 rfl) B19
  have G20 : FnOk P w K mg base CX0 1 _ _ ["_law_feed_here", "_law_many"] (K18.spDraw) := ok_draw F20 (fr 35 rfl) (fr 39 rfl)
  have c20 := cal F20 G20 (gl 20 rfl) B20
  have G21 : FnOk P w K mg base CX0 2 _ _ ["_law_feed_here", "_law_some"] (spChoice K) := ok_choice F21 c20 (fr 39 rfl)
  have c21 := cal F21 G21 (gl 21 rfl) B21
  have G22 : FnOk P w K mg base CX0 6 _ _ ["_law_root", "_law_way"] (spLSpans K 6) := ok_lspans F22 (gl 22 rfl) B22 (fr 42 rfl) 6
  have c22 := cal F22 G22 (gl 22 rfl) B22
  have G27 : FnOk P w K mg base CX0 6 _ _ ["_law_feed_here", "_law_left", "_law_deep"] (spTree K 4) := ok_tree F27 (gl 27 rfl) B27 c21 c20 (fr 35 rfl) (fr 40 rfl) (fr 37 rfl) (fr 43 rfl) 4
  have c27 := cal F27 G27 (gl 27 rfl) B27
  have G28 : FnOk P w K mg base CX0 1 _ _ [] (spDoc K) := ok_doc F28
  have c28 := cal F28 G28 (gl 28 rfl) B28
  have G30 : FnOk P w K mg base CX0 1 _ _ [] (spSix K) := ok_six F30
  have c30 := cal F30 G30 (gl 30 rfl) B30
  have G23 : FnOk P w K mg base CX0 6 _ _ ["_law_root", "_law_way", "_law_held"] (spSeen K 6) := ok_seen F23 (gl 23 rfl) B23 (fr 42 rfl) (fr 37 rfl) (fr 43 rfl) (fr 35 rfl) 6
  have c23 := cal F23 G23 (gl 23 rfl) B23
  have G24 : FnOk P w K mg base CX0 7 _ _ ["_law_seen_here", "_law_held"] (spKS K) := ok_ks F24 c23 (fr 42 rfl) (fr 37 rfl) (fr 43 rfl)
  have c24 := cal F24 G24 (gl 24 rfl) B24
  have G25 : FnOk P w K mg base CX0 8 _ _ ["_law_root", "_law_held"] (spOwn K) := ok_own F25 c24
  have c25 := cal F25 G25 (gl 25 rfl) B25
  have G26 : FnOk P w K mg base CX0 1 _ _ ["_law_some"] (spSets K) := ok_sets F26
  have c26 := cal F26 G26 (gl 26 rfl) B26
  have GD : FnG P w K mg base CX0 9 _ _ ["_law_root", "_law_item"] (spDue K) := ok_due F31 c22 c25 (fr 42 rfl) (fr 34 rfl) (fr 37 rfl) (fr 44 rfl) (fr 38 rfl)
  have GA : FnG P w K mg base CX0 10 _ _ ["_law_root"] (spAgr K (He.cT K ("_law_agrees", none)).2) := ok_agr FC TB c22 c26 GS (gl 17 rfl) F17.kp B17 bk F29 (gl 29 rfl) B29 T GD (gl 31 rfl) F31.kp B31 (fr 37 rfl) (fr 44 rfl) (fr 38 rfl)
  exact ok_lawT F33 c19 c28 c30 c27 GA (gl 32 rfl) F32.kp B32 (fr 40 rfl) (fr 38 rfl)
end K17
open PySem PySem.W PySem.Calls PyProof.Rows
set_option maxHeartbeats 0 in
theorem PySem.Challenge.cw_thinspans_k17_sights_told_holds : PySem.Challenge.rw_thinspans_k17_sights_told.Holds := by
  w_on; o_law
  refine HandSHeadRun.head_imp (r := OpenLaw.row PySem.Challenge.rw_thinspans_k17_sights_told) (q := view (OpenLaw.row PySem.Challenge.rw_thinspans_k17_sights_told).prog [0, 55]) (H := K17.hk) (ob := K17.ob) (M := 200000) (loose := K17.loose) (d := HandSHeadRun.topDef (OpenLaw.row PySem.Challenge.rw_thinspans_k17_sights_told).prog 55) (kwd := []) K17.ob_eq
    K17.run (by kernel_rfl) (by kernel_rfl) (by kernel_rfl) (by rfl) (by first | assumption | decide +kernel) (by decide +kernel) ⟨rfl, rfl, rfl, rfl, rfl, by decide +kernel⟩ ?hw ?hc
  case hw => w_witness2
  case hc =>
    refine DtT.walk_ofGT (l := PySem.Challenge.rw_thinspans_k17_sights_told) (n := 63) (k := 11) (x := "_law_script") rfl (by decide) (by kernel_rfl) ⟨rfl, by decide, by decide⟩ ?F
    intro w mg fa h Y G hmg0
    obtain ⟨K, KX, c⟩ := Y
    have hmg : mg ("law" : PySem.Str) = some (.ref fa) := by
      have e : (HandSHeadRun.topDef (OpenLaw.row PySem.Challenge.rw_thinspans_k17_sights_told).prog 55).name = ("law" : PySem.Str) := by kernel_rfl
      rw [← e]
      exact hmg0
    obtain ⟨fd, hb, hF⟩ := K17.facts (P := (PySem.Challenge.rw_thinspans_k17_sights_told).prog) (w := w) KX G hmg c
    have ht : ((("_law_agrees" : PySem.Str), none) : He.Defn) ∈ K17.tf := List.mem_cons_self
    exact ⟨K, fd, K17.spLawT K _, _, _, KX, c.empty _ ht, c.out _ ht, PySem.W.codeHd_of_K KX (c.hd _ ht), hb, fun H a ns _ _ hT hS => ⟨a, ns, rfl, hS, fun p hp => (by
      obtain rfl := List.mem_singleton.mp hp
      exact LamX.TabS.nil hT), fun _ => rfl⟩, hF⟩
