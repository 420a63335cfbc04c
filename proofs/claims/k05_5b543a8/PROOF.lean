import PyProof.Rows.All
import Wide.All
import OpenK.AllK
import Wide.FinOn
import KE.KStateDown
import HandS.ForMost
import HandS.Evl
import HandS.Gcd
import HandS.Wide
import HandS.TupMul
import HandS.TupAny
import HandS.IsInst
import HandS.Zip
import HandS.Conv
import HandS.NoneIn
import HandS.SetFor
import HandS.Defaults
import HandS.Codes
import HandS.EndBits
import HandS.HeadEnd
import HandS.HeadHook1
import HandS.HeadHook2
import HandS.Head0
import HandS.Head1
import HandS.Head2
import HandS.Head3
import PySem.Challenge.RW_thinspans_k05_whole_fractions
set_option Elab.async false
set_option linter.all false
set_option maxRecDepth 100000
/-! the mathematics of reduced pairs -/
namespace Fr
theorem gcd_pos {p q : Int} (h : q ≠ 0) : 0 < Nat.gcd p.natAbs q.natAbs := Nat.gcd_pos_of_pos_right _ (by omega)
def comm (p q : Int) : Int := if q < 0 then -((Nat.gcd p.natAbs q.natAbs : Nat) : Int) else ((Nat.gcd p.natAbs q.natAbs : Nat) : Int)
theorem comm_neg {p q : Int} (h : q < 0) : comm p q = -((Nat.gcd p.natAbs q.natAbs : Nat) : Int) := if_pos h
theorem comm_pos {p q : Int} (h : ¬ q < 0) : comm p q = ((Nat.gcd p.natAbs q.natAbs : Nat) : Int) := if_neg h
theorem gcd_eq (p q : Int) : Int.gcd q p = Nat.gcd p.natAbs q.natAbs := by unfold Int.gcd; exact Nat.gcd_comm _ _
theorem fdiv_neg_dvd {a b : Int} (hb : b ≠ 0) (h : b ∣ a) : a.fdiv (-b) = -(a / b) := by
  rw [Int.fdiv_neg hb, if_pos h, Int.fdiv_eq_ediv_of_dvd h]
theorem gdl (p q : Int) : ((Nat.gcd p.natAbs q.natAbs : Nat) : Int) ∣ p := Int.ofNat_dvd_left.mpr (Nat.gcd_dvd_left _ _)
theorem gdr (p q : Int) : ((Nat.gcd p.natAbs q.natAbs : Nat) : Int) ∣ q := Int.ofNat_dvd_left.mpr (Nat.gcd_dvd_right _ _)
theorem red_num {p q : Int} (h : q ≠ 0) : p.fdiv (comm p q) = (Rat.divInt p q).num := by
  have g := gcd_pos (p := p) h
  rw [Rat.num_divInt, gcd_eq]
  by_cases hq : q < 0
  · rw [comm_neg hq, Int.sign_eq_neg_one_of_neg hq, fdiv_neg_dvd (by omega) (gdl p q), show (-1 : Int) * p = -p by omega, Int.neg_ediv_of_dvd (gdl p q)]
  · rw [comm_pos hq, Int.sign_eq_one_of_pos (show 0 < q by omega), Int.one_mul, Int.fdiv_eq_ediv_of_nonneg _ (Int.natCast_nonneg _)]
theorem red_den {p q : Int} (h : q ≠ 0) : q.fdiv (comm p q) = ((Rat.divInt p q).den : Int) := by
  have g := gcd_pos (p := p) h
  rw [Rat.den_divInt, gcd_eq, if_neg h, Int.natCast_ediv]
  by_cases hq : q < 0
  · rw [comm_neg hq, fdiv_neg_dvd (by omega) (gdr p q), ← Int.neg_ediv_of_dvd (gdr p q)]
    congr 1
    omega
  · rw [comm_pos hq, Int.fdiv_eq_ediv_of_nonneg _ (Int.natCast_nonneg _)]
    congr 1
    omega
/-- bounded: both parts below 2 ^ n -/
def Bd (n : Nat) (r : Rat) : Prop := r.num.natAbs < 2 ^ n ∧ r.den < 2 ^ n
theorem Bd.mono {n m : Nat} {r : Rat} (h : Bd n r) (hm : n ≤ m) : Bd m r := ⟨Nat.lt_of_lt_of_le h.1 (Nat.pow_le_pow_right (by decide) hm), Nat.lt_of_lt_of_le h.2 (Nat.pow_le_pow_right (by decide) hm)⟩
theorem bd_div {p q : Int} {n : Nat} (h : q ≠ 0) (hp : p.natAbs < 2 ^ n) (hq : q.natAbs < 2 ^ n) : Bd n (Rat.divInt p q) := by
  have g := gcd_pos (p := p) h
  refine ⟨?_, ?_⟩
  · rw [Rat.num_divInt, gcd_eq]
    have e : (q.sign * p / ((Nat.gcd p.natAbs q.natAbs : Nat) : Int)).natAbs ≤ p.natAbs := by
      refine Nat.le_trans (Int.natAbs_ediv_le_natAbs _ _) ?_
      rw [Int.natAbs_mul, Int.natAbs_sign_of_ne_zero h, Nat.one_mul]
      exact Nat.le_refl _
    omega
  · rw [Rat.den_divInt, if_neg h]
    have e : q.natAbs / Int.gcd q p ≤ q.natAbs := Nat.div_le_self _ _
    omega
theorem nd_lt {a b n m : Nat} (h1 : a < 2 ^ n) (h2 : b < 2 ^ m) : a * b < 2 ^ (n + m) := by
  rw [Nat.pow_add]
  exact Nat.mul_lt_mul'' h1 h2
theorem im_lt {a b : Int} {n m : Nat} (h1 : a.natAbs < 2 ^ n) (h2 : b.natAbs < 2 ^ m) : (a * b).natAbs < 2 ^ (n + m) := by
  rw [Int.natAbs_mul]
  exact nd_lt h1 h2
theorem ia_lt {a b : Int} {n : Nat} (h1 : a.natAbs < 2 ^ n) (h2 : b.natAbs < 2 ^ n) : (a + b).natAbs < 2 ^ (n + 1) := by
  rw [Nat.pow_succ]
  omega
theorem is_lt {a b : Int} {n : Nat} (h1 : a.natAbs < 2 ^ n) (h2 : b.natAbs < 2 ^ n) : (a - b).natAbs < 2 ^ (n + 1) := by
  rw [Nat.pow_succ]
  omega
theorem lt_up {a n m : Nat} (h : a < 2 ^ n) (hm : n ≤ m) : a < 2 ^ m := Nat.lt_of_lt_of_le h (Nat.pow_le_pow_right (by decide) hm)
theorem den_ne (x : Rat) : (x.den : Int) ≠ 0 := by
  have := x.den_nz
  omega
theorem add_eq (x y : Rat) : Rat.divInt (x.num * y.den + y.num * x.den) (x.den * y.den) = x + y := by
  conv => rhs; rw [← Rat.num_divInt_den x, ← Rat.num_divInt_den y]
  rw [Rat.divInt_add_divInt _ _ (den_ne x) (den_ne y)]
theorem sub_eq (x y : Rat) : Rat.divInt (x.num * y.den - y.num * x.den) (x.den * y.den) = x - y := by
  conv => rhs; rw [← Rat.num_divInt_den x, ← Rat.num_divInt_den y]
  rw [Rat.divInt_sub_divInt _ _ (den_ne x) (den_ne y)]
theorem mul_eq (x y : Rat) : Rat.divInt (x.num * y.num) (x.den * y.den) = x * y := by
  conv => rhs; rw [← Rat.num_divInt_den x, ← Rat.num_divInt_den y]
  rw [Rat.divInt_mul_divInt]
theorem div_eq (x y : Rat) : Rat.divInt (x.num * y.den) (x.den * y.num) = x / y := by
  rw [Rat.div_def]
  conv => rhs; rw [← Rat.num_divInt_den x, ← Rat.num_divInt_den y, Rat.inv_divInt]
  rw [Rat.divInt_mul_divInt]
theorem num_ne {x : Rat} (h : x ≠ 0) : x.num ≠ 0 := fun e => h (Rat.num_eq_zero.mp e)
theorem bd_add {x y : Rat} {n m : Nat} (h1 : Bd n x) (h2 : Bd m y) : Bd (n + m + 1) (x + y) := by
  rw [← add_eq]
  have a1 : (x.den : Int).natAbs < 2 ^ n := h1.2
  have a2 : (y.den : Int).natAbs < 2 ^ m := h2.2
  have d := Int.mul_ne_zero (den_ne x) (den_ne y)
  refine bd_div d (ia_lt (im_lt h1.1 a2) ?_) (lt_up (im_lt a1 a2) (by omega))
  have := im_lt h2.1 a1
  rwa [Nat.add_comm m n] at this
theorem bd_sub {x y : Rat} {n m : Nat} (h1 : Bd n x) (h2 : Bd m y) : Bd (n + m + 1) (x - y) := by
  rw [← sub_eq]
  have a1 : (x.den : Int).natAbs < 2 ^ n := h1.2
  have a2 : (y.den : Int).natAbs < 2 ^ m := h2.2
  have d := Int.mul_ne_zero (den_ne x) (den_ne y)
  refine bd_div d (is_lt (im_lt h1.1 a2) ?_) (lt_up (im_lt a1 a2) (by omega))
  have := im_lt h2.1 a1
  rwa [Nat.add_comm m n] at this
theorem bd_mul {x y : Rat} {n m : Nat} (h1 : Bd n x) (h2 : Bd m y) : Bd (n + m) (x * y) := by
  rw [← mul_eq]
  have a1 : (x.den : Int).natAbs < 2 ^ n := h1.2
  have a2 : (y.den : Int).natAbs < 2 ^ m := h2.2
  exact bd_div (Int.mul_ne_zero (den_ne x) (den_ne y)) (im_lt h1.1 h2.1) (im_lt a1 a2)
theorem bd_quo {x y : Rat} {n m : Nat} (h1 : Bd n x) (h2 : Bd m y) (h : y ≠ 0) : Bd (n + m) (x / y) := by
  rw [← div_eq]
  have a1 : (x.den : Int).natAbs < 2 ^ n := h1.2
  have a2 : (y.den : Int).natAbs < 2 ^ m := h2.2
  exact bd_div (Int.mul_ne_zero (den_ne x) (num_ne h)) (im_lt h1.1 a2) (im_lt a1 h2.1)
theorem lt_eq (x y : Rat) : decide (x.num * y.den < y.num * x.den) = decide (x < y) := by
  rw [decide_eq_decide]
  exact (Rat.lt_iff x y).symm
theorem red_self {x : Rat} : Nat.gcd x.num.natAbs (x.den : Int).natAbs = 1 := by
  have := x.reduced
  exact this
theorem made_self (x : Rat) {c : Int} (h : c ≠ 0) : Rat.divInt (x.num * c) (x.den * c) = x := by
  rw [Rat.divInt_mul_right h, Rat.num_divInt_den]
theorem made_neg (x : Rat) : Rat.divInt (0 - x.num) (0 - x.den) = x := by
  rw [show (0 : Int) - x.num = -x.num by omega, show (0 : Int) - x.den = -x.den by omega, Rat.neg_divInt_neg, Rat.num_divInt_den]
theorem ext_iff {x y : Rat} : (x.num = y.num ∧ (x.den : Int) = y.den) ↔ x = y := ⟨fun h => Rat.ext h.1 (by have := h.2; omega), fun h => by rw [h]; exact ⟨rfl, rfl⟩⟩
end Fr
/-! general rules over the layer: what evaluates to a value of which something is known (EvP), reduced pairs as tuples (IsF), the draws' reader (RdAt) -/
namespace Fx
open PySem PySem.Spec PyProof.Rows L2 Evl
abbrev VP := V → Hp → Prop
def Mono (P : VP) : Prop := ∀ v H H', Ex H H' → P v H → P v H'
def EvP (te : TE) (σ : L2.St) (H : Hp) (P : VP) : Prop := ∀ H1, Ex H H1 → ∀ Q : VK, (∀ v H2, Ex H1 H2 → P v H2 → Q v H2) → te σ H1 Q
section
variable {te ta tb : TE} {σ : L2.St} {H : Hp} {P P' : VP} {v x y z : V}
theorem EvP.of (h : Ev te σ H v) : EvP te σ H (fun x _ => x = v) := fun H1 e Q q => h H1 e Q fun H2 e2 => q v H2 e2 rfl
theorem EvP.ofU {xs : List V} (h : EvU te σ H xs) : EvP te σ H (fun x H' => ∃ p, x = .ref p ∧ H' p = some (.tup xs)) := fun H1 e Q q => h H1 e Q fun p H2 _ e2 hp => q _ H2 e2 ⟨p, rfl, hp⟩
theorem EvP.mono {H' : Hp} (e : Ex H H') (h : EvP te σ H P) : EvP te σ H' P := fun H1 a Q q => h H1 (e.trans a) Q q
theorem EvP.imp (h : EvP te σ H P) (k : ∀ v H', Ex H H' → P v H' → P' v H') : EvP te σ H P' := fun H1 e Q q => h H1 e Q fun v H2 e2 p => q v H2 e2 (k v H2 (e.trans e2) p)
theorem ev_op2 {r : R2} (ha : EvP ta σ H P) (mP : Mono P) (hb : EvP tb σ H P') (hr : ∀ x y H1, Ex H H1 → P x H1 → P' y H1 → RV r x y H1 z) : Ev (tOp r ta tb) σ H z := fun H1 e Q q =>
  ha H1 e _ fun x H2 e2 p => hb H2 (e.trans e2) _ fun y H3 e3 p' => hr x y H3 (e.trans (e2.trans e3)) (mP _ _ _ e3 p) p' H3 (Ex.refl _) Q fun H4 e4 => q H4 (e2.trans (e3.trans e4))
theorem ev_op1 {r : R2} (ha : EvP ta σ H P) (hb : Ev tb σ H y) (mP : Mono P) (hr : ∀ x H1, Ex H H1 → P x H1 → RV r x y H1 z) : Ev (tOp r ta tb) σ H z :=
  ev_op2 ha mP (EvP.of hb) fun x y' H1 e p ey => by
    subst ey
    exact hr x H1 e p
end
/-! ### a tuple of two ints that is the reduced pair of a rational -/
def frO (r : Rat) : HO := .tup [.int r.num, .int (r.den : Int)]
def IsF (r : Rat) : VP := fun v H => ∃ p, v = .ref p ∧ H p = some (frO r)
theorem IsF.mono {r : Rat} : Mono (IsF r) := fun _ _ _ e ⟨p, h1, h2⟩ => ⟨p, h1, e p _ h2⟩
section
variable {te ta tb : TE} {σ : L2.St} {H : Hp} {K : PySem.W.Frag} {r r' : Rat} {p : Addr} {v x y z : V}
theorem IsF.sq (h : H p = some (frO r)) : SqT K H p [.int r.num, .int (r.den : Int)] := st_of h
theorem evF_var {i : Nat} (h : σ[i]? = some (some (.ref p))) (hp : H p = some (frO r)) : EvP (tVar i) σ H (IsF r) := fun H1 e Q q => ⟨.ref p, h, q _ H1 (Ex.refl _) ⟨p, rfl, e p _ hp⟩⟩
theorem evF_tup {n d : Int} (hn : r.num = n) (hd : (r.den : Int) = d) (ha : Ev ta σ H (.int n)) (hb : Ev tb σ H (.int d)) : EvP (tTup (tCons ta (tCons tb tNil))) σ H (IsF r) := by
  have h := EvP.ofU (eu_tup (ea_cons ha (ea_cons hb ea_nil)) (by show 2 ≤ 100000; decide))
  refine h.imp fun v H' _ ⟨p, h1, h2⟩ => ⟨p, h1, ?_⟩
  rw [h2, frO, hn, hd]
theorem ev_ix0 (h : EvP te σ H (IsF r)) : Ev (tOp (rIxT K) te (tC (.int 0))) σ H (.int r.num) := ev_op1 h ev_c IsF.mono fun x H1 _ ⟨p, e, hp⟩ => by
  subst e
  exact rv_ixT (IsF.sq hp) rfl
theorem ev_ix1 (h : EvP te σ H (IsF r)) : Ev (tOp (rIxT K) te (tC (.int 1))) σ H (.int (r.den : Int)) := ev_op1 h ev_c IsF.mono fun x H1 _ ⟨p, e, hp⟩ => by
  subst e
  exact rv_ixT (IsF.sq hp) rfl
theorem dpF (h : H p = some (frO r)) : Dp K H (.ref p) (.tuple [.int r.num, .int (r.den : Int)]) := .tup (IsF.sq h) (.cons (.int _) (.cons (.int _) .nil))
theorem eqvF (r r' : Rat) : PyData.eqv (.tuple [.int r.num, .int (r.den : Int)]) (.tuple [.int r'.num, .int (r'.den : Int)]) = decide (r = r') := by
  rw [PyData.eqv, PyData.eqvAll, PyData.eqvAll, PyData.eqvAll, PyData.eqv, PyData.eqv, Bool.and_true]
  by_cases e : r = r'
  · subst e
    simp
  · rw [decide_eq_false e]
    by_cases e1 : r.num = r'.num
    · have e2 : (r.den : Int) ≠ r'.den := fun e2 => e (Rat.ext e1 (by omega))
      simp [beq_eq_false_iff_ne.mpr e2]
    · simp [beq_eq_false_iff_ne.mpr e1]
theorem shF (r : Rat) : SeqAt.shaped (.tuple [.int r.num, .int (r.den : Int)]) = true := rfl
theorem ev_eqF (ha : EvP ta σ H (IsF r)) (hb : EvP tb σ H (IsF r')) : Ev (tOp (rEqD K) ta tb) σ H (.bl (decide (r = r'))) := ev_op2 ha IsF.mono hb fun x y H1 _ ⟨p, e, hp⟩ ⟨q, e', hq⟩ => by
  subst e e'
  refine fun H2 e2 Q k => ⟨_, _, dpF (e2 _ _ hp), dpF (e2 _ _ hq), shF r, shF r', ?_⟩
  rw [eqvF]
  exact k H2 (Ex.refl _)
theorem ev_neF (ha : EvP ta σ H (IsF r)) (hb : EvP tb σ H (IsF r')) : Ev (tOp (rNeD K) ta tb) σ H (.bl (!decide (r = r'))) := ev_op2 ha IsF.mono hb fun x y H1 _ ⟨p, e, hp⟩ ⟨q, e', hq⟩ => by
  subst e e'
  refine fun H2 e2 Q k => ⟨_, _, dpF (e2 _ _ hp), dpF (e2 _ _ hq), shF r, shF r', ?_⟩
  rw [eqvF]
  exact k H2 (Ex.refl _)
/-! ### a def of two pairs: to a pair; to a truth value -/
def spF2 (ok : Rat → Rat → Prop) (f : Rat → Rat → Rat) : Sp := fun vs H Q _ => ∃ (a b : Addr) (x y : Rat), vs = [.ref a, .ref b] ∧ H a = some (frO x) ∧ H b = some (frO y) ∧ ok x y ∧ ∀ H' p, Ex H H' → H' p = some (frO (f x y)) → Q (.ref p) H'
def spB2 (ok : Rat → Rat → Prop) (f : Rat → Rat → Bool) : Sp := fun vs H Q _ => ∃ (a b : Addr) (x y : Rat), vs = [.ref a, .ref b] ∧ H a = some (frO x) ∧ H b = some (frO y) ∧ ok x y ∧ Q (.bl (f x y)) H
def spI2F (ok : Int → Int → Prop) (f : Int → Int → Rat) : Sp := fun vs H Q _ => ∃ (i j : Int), vs = [.int i, .int j] ∧ ok i j ∧ ∀ H' p, Ex H H' → H' p = some (frO (f i j)) → Q (.ref p) H'
theorem evF_call {ok : Rat → Rat → Prop} {f : Rat → Rat → Rat} {E : XK} (ha : EvP ta σ H (IsF r)) (hb : EvP tb σ H (IsF r')) (hk : ok r r') : EvP (tCall (spF2 ok f) [] E (tCons ta (tCons tb tNil))) σ H (IsF (f r r')) := fun H1 e Q q =>
  ha H1 e _ fun x H2 e2 ⟨p, h1, h2⟩ => hb H2 (e.trans e2) _ fun y H3 e3 ⟨p', h1', h2'⟩ => by
    subst h1 h1'
    exact ⟨p, p', r, r', rfl, e3 _ _ h2, h2', hk, fun H4 z e4 hz => q _ H4 (e2.trans (e3.trans e4)) ⟨z, rfl, hz⟩⟩
theorem ev_callB {ok : Rat → Rat → Prop} {f : Rat → Rat → Bool} {E : XK} (ha : EvP ta σ H (IsF r)) (hb : EvP tb σ H (IsF r')) (hk : ok r r') : Ev (tCall (spB2 ok f) [] E (tCons ta (tCons tb tNil))) σ H (.bl (f r r')) := fun H1 e Q q =>
  ha H1 e _ fun x H2 e2 ⟨p, h1, h2⟩ => hb H2 (e.trans e2) _ fun y H3 e3 ⟨p', h1', h2'⟩ => by
    subst h1 h1'
    exact ⟨p, p', r, r', rfl, e3 _ _ h2, h2', hk, q H3 (e2.trans e3)⟩
theorem evF_callI {ok : Int → Int → Prop} {f : Int → Int → Rat} {E : XK} {i j : Int} (ha : Ev ta σ H (.int i)) (hb : Ev tb σ H (.int j)) (hk : ok i j) : EvP (tCall (spI2F ok f) [] E (tCons ta (tCons tb tNil))) σ H (IsF (f i j)) := fun H1 e Q q =>
  ha H1 e _ fun H2 e2 => hb H2 (e.trans e2) _ fun H3 e3 => ⟨i, j, rfl, hk, fun H4 z e4 hz => q _ H4 (e2.trans (e3.trans e4)) ⟨z, rfl, hz⟩⟩
theorem EvP.cast {s s' : Rat} (h : EvP te σ H (IsF s)) (e : s = s') : EvP te σ H (IsF s') := e ▸ h
end
/-! ### floor division by a great divisor of any sign -/
section
variable {X : Cx}
def CDivS (_ j : Int) : Prop := j ≠ 0 ∧ j.natAbs.log2 < 9000
theorem op_fdivWN : OpR X (binaryOp .FloorDiv) (rI CDivS fun i j => .int (i.fdiv j)) := opI fun i j _ _ _ _ _ hc q => floordiv_int hc.1 q (.inl (PyProof.noPylong_of_log2 hc.2))
theorem cdivS {i j : Int} {b : Nat} (h : j ≠ 0) (hb : j.natAbs < 2 ^ b) (h0 : 0 < b) (h9 : b ≤ 9000) : CDivS i j := ⟨h, Nat.lt_of_lt_of_le (PySem.Flt.log2_lt_of h0 hb) h9⟩
end
end Fx
/-! ### list.count over truth values; a tuple times 1 -/
namespace Fx
open PySem PySem.Spec PyProof.Rows L2
def eqb (k : Bool) (v : Value) : Bool := match v with
  | .bool b => b == k
  | _ => false
theorem vals_bl : ∀ {bs : List Bool} {us : List Value}, Vals (bs.map V.bl) us → us = bs.map Value.bool
  | [], _, h => by
    cases h
    rfl
  | b :: r, _, h => by
    cases h with
    | cons a t =>
      have e := vals_bl t
      rw [e, show _ = Value.bool b from a]
      rfl
theorem eqb_count (k : Bool) : ∀ bs : List Bool, (bs.map Value.bool).countP (eqb k) = bs.count k
  | [] => rfl
  | b :: r => by
    rw [List.map_cons, List.countP_cons, List.count_cons, eqb_count k r] <;> rfl
section
variable {X : Cx}
def rCntB (K : PySem.W.Frag) : V → List V → Hp → VK → Prop := fun x xs H Q => ∃ (p : Addr) (bs : List Bool) (k : Bool), x = .ref p ∧ xs = [.bl k] ∧ SqL K H p (bs.map V.bl) ∧ Q (.int (bs.count k : Nat)) H
theorem mt_countB : MtR X "list.count" (rCntB X.K) := by
  intro pins s σ H x xs v us Q I rx rxs h
  obtain ⟨p, bs, k, rfl, rfl, hs, q⟩ := h
  cases rx
  obtain ⟨u, rfl, ru⟩ := rxs.one
  cases (show u = Value.bool k from ru)
  obtain ⟨its, rv, ⟨⟨cls, dd, data, sl⟩, n, ho, hc, hdn, hd⟩, hlen⟩ := I.list hs
  simp only at hc hd
  subst hc hd
  have ei := vals_bl rv
  subst ei
  refine call_meets PySem.F.slot_list_count ⟨_, ho, rfl⟩ PySem.F.entry_list_count (PySem.F.args_list_count_2 _ _)
    (SeqAt.list_countAt p (bs.map Value.bool).toArray n dd sl (.bool k) (eqb k)) ⟨ho, fun y hy => ?_, ?_⟩
  · obtain ⟨b, _, e⟩ := List.mem_map.mp (show y ∈ bs.map Value.bool by simpa using hy)
    subst e
    exact SeqAt.EqAt.bool_bool b k
  · have ec : (bs.map Value.bool).toArray.toList.countP (eqb k) = bs.count k := eqb_count k bs
    refine ⟨.int (bs.count k : Nat), H, I.tok _, ⟨s.toks, ?_⟩, q⟩
    show Value.int (((bs.map Value.bool).toArray.toList.countP (eqb k) : Nat) : Int) s.toks = Value.int ((bs.count k : Nat) : Int) s.toks
    rw [ec]
end
theorem tuple_mul1 (l : Addr) (items : Array Value) (n : Nat) (dd : Option Addr) (sl : Array (Option Value)) (x : Int) (u : Tok) (c0 : (decide (x < -(2 ^ 63)) || decide (x ≥ 2 ^ 63)) = false) (c1 : (items.isEmpty || x == 1) = true) :
    Meets (Builtin.«tuple.__mul__» ⟨[.ref l, .int x u], []⟩) (fun _ R s => s.heap.get? l = some { cls := .type "tuple", dict := dd, data := .seq items n, slots := sl } ∧
      R (.ok (.ret (Value.ref l))) s) :=
  .of_wp fun prog w A R s h => by
    obtain ⟨hp, g, d, tk, os⟩ := s
    obtain ⟨hl, h⟩ := h
    have f1 := AutoSeq1.idx_int
    wp_walk using wpAny_loadPart' hl
    repeat (first
      | (refine wpAny_ite_false (decide_eq_false (by rw [c0]; exact Bool.false_ne_true)) ?_; wp_walk using wpAny_loadPart' hl)
      | (refine wpAny_ite_true (decide_eq_true c1) ?_; wp_walk using wpAny_loadPart' hl))
    exact ⟨_, rfl, h⟩
def rRepT1 (K : PySem.W.Frag) : R2 := fun x y H Q => ∃ l xs, x = .ref l ∧ y = .int 1 ∧ SqT K H l xs ∧ Q (.ref l) H
section
variable {X : Cx}
theorem op_repT1 : OpR X (binaryOp .Mult) (rRepT1 X.K) := by
  intro pins s σ H x y v u Q I rx ry h
  obtain ⟨l, xs, rfl, rfl, hT, q⟩ := h
  cases rx
  obtain ⟨t, rfl⟩ := ry
  obtain ⟨its, r, ⟨⟨cls, dd, data, sl⟩, ho, hc, n, hd⟩, hs⟩ := I.tuple hT
  simp only at hc hd
  subst hc hd
  have c0 : (decide ((1 : Int) < -(2 ^ 63)) || decide ((1 : Int) ≥ 2 ^ 63)) = false := by decide
  have c1 : (its.toArray.isEmpty || (1 : Int) == 1) = true := by simp
  refine wpAny_binaryOp_repeat_ref (T := "tuple") (U := "int") (by decide) ⟨_, ho, rfl⟩ (fun s' => typeIs_int s' 1 t) noFill_tuple_mul F.fills_int_mul F.slot_int_rmul repeat_tuple F.slot_int_index.lookup
    (call_meets F.slot_int_rmul (typeIs_int s 1 t) F.entry_int_rmul (F.args_int_rmul_2 _ _) (int_rmul_tuple 1 t l its.toArray n dd sl)
      ⟨ho, rfl, ⟨_, ho, rfl⟩, call_meets F.slot_tuple_mul ⟨_, ho, rfl⟩ F.entry_tuple_mul (F.args_tuple_mul_2 _ _) (tuple_mul1 l its.toArray n dd sl 1 t c0 c1) ⟨ho, ?_⟩⟩)
  exact ⟨.ref l, H, I, rfl, q⟩
end
end Fx
/-! ### more evaluations -/
namespace Fx
open PySem PySem.Spec PyProof.Rows L2 Evl Fr
section
variable {te ta tb tl : TE} {t : TT} {σ : L2.St} {H : Hp} {K : PySem.W.Frag} {v x y z : V}
theorem ev_neB {a b : Bool} (ha : Ev ta σ H (.bl a)) (hb : Ev tb σ H (.bl b)) : Ev (tOp rNe ta tb) σ H (.bl (!decide (a = b))) := by
  have h := ev_op (z := .bl (!decide (V.bl a = V.bl b))) ha hb (rv_ne rfl)
  have e : decide (V.bl a = V.bl b) = decide (a = b) := decide_eq_decide.mpr ⟨fun h => V.bl.inj h, fun h => by rw [h]⟩
  rw [e] at h
  exact h
theorem ev_neI {a b : Int} (ha : Ev ta σ H (.int a)) (hb : Ev tb σ H (.int b)) : Ev (tOp rNe ta tb) σ H (.bl (!decide (a = b))) := by
  have h := ev_op (z := .bl (!decide (V.int a = V.int b))) ha hb (rv_ne rfl)
  have e : decide (V.int a = V.int b) = decide (a = b) := decide_eq_decide.mpr ⟨fun h => V.int.inj h, fun h => by rw [h]⟩
  rw [e] at h
  exact h
theorem ev_eqI {a b : Int} (ha : Ev ta σ H (.int a)) (hb : Ev tb σ H (.int b)) : Ev (tOp rEq ta tb) σ H (.bl (decide (a = b))) := by
  have h := ev_op (z := .bl (decide (V.int a = V.int b))) ha hb (rv_eq rfl)
  have e : decide (V.int a = V.int b) = decide (a = b) := decide_eq_decide.mpr ⟨fun h => V.int.inj h, fun h => by rw [h]⟩
  rw [e] at h
  exact h
theorem ev_countB {bs : List Bool} {k : Bool} (h : EvL ta σ H (bs.map V.bl)) : Ev (tBM K "list" (rCntB K) ta (tCons (tC (.bl k)) tNil)) σ H (.int (bs.count k : Nat)) := fun H1 e Q q =>
  h H1 e _ fun p H2 _ e2 hp => ⟨.inl ⟨rfl, _, sq_of hp⟩, p, bs, k, rfl, rfl, sq_of hp, q H2 e2⟩
/-- a comprehension over a new tuple of which no item passes the test -/
theorem el_lcTno {Pe : VP} {j : Nat} {vs : List Nat} (mP : Mono Pe) (h : EvP tl σ H (fun v H' => ∃ p ps, v = .ref p ∧ H' p = some (.tup ps) ∧ ∀ x ∈ ps, Pe x H')) (hw : ∀ x, wipe ((wipe σ vs).set j (some x)) vs = wipe σ vs)
    (hno : ∀ x H1, Ex H H1 → Pe x H1 → EvT t ((wipe σ vs).set j (some x)) H1 false) : EvL (tLc (iTup K tl) (gName j) t te vs) σ H [] := fun H0 e Q q => h H0 e _ fun v H1 e1 ⟨p, ps, ev, hp, hel⟩ => by
  subst ev
  exact ⟨p, rfl, ⟨ps, st_of hp⟩, fun Dl hD => lc_tup (xs := ps) (fun i H' => Ex H1 H' ∧ H' Dl = some (.lst [])) ⟨Ex.new hD, upd_same⟩ (fun i H' _ w => st_of (w.1 p _ hp))
    (fun i x H' hi w => ⟨hw x, hno x H' (e.trans (e1.trans w.1)) (mP _ _ _ w.1 (hel x (List.mem_of_getElem? hi))) H' (Ex.refl _) _ fun H3 e3 => iteF ⟨w.1.trans e3, e3 _ _ w.2⟩⟩) (fun H' w => q Dl H' (fresh_back e1 hD) (e1.trans w.1) w.2)⟩
theorem evp_tup3 {P : VP} (mP : Mono P) (ha : EvP ta σ H P) (hb : EvP tb σ H P) (hc : EvP tl σ H P) : EvP (tTup (tCons ta (tCons tb (tCons tl tNil)))) σ H (fun v H' => ∃ p ps, v = .ref p ∧ H' p = some (.tup ps) ∧ ∀ x ∈ ps, P x H') := fun H1 e Q q =>
  ha H1 e _ fun x H2 e2 p2 => hb H2 (e.trans e2) _ fun y H3 e3 p3 => hc H3 (e.trans (e2.trans e3)) _ fun z H4 e4 p4 => ⟨by show 3 ≤ sizeLine; decide, fun p hp => by
    have n := Ex.new (o := .tup [x, y, z]) hp
    refine q _ _ (e2.trans (e3.trans (e4.trans n))) ⟨p, _, rfl, upd_same, fun u hu => ?_⟩
    simp only [List.mem_cons, List.not_mem_nil, or_false] at hu
    rcases hu with rfl | rfl | rfl
    · exact mP _ _ _ (e3.trans (e4.trans n)) p2
    · exact mP _ _ _ (e4.trans n) p3
    · exact mP _ _ _ n p4⟩
theorem ev_neL0 (ha : EvL ta σ H []) (hb : EvL tb σ H []) : Ev (tOp (rNeD K) ta tb) σ H (.bl false) := ev_opLL ha hb fun p q H1 hp hq e => fun H2 e2 Q k =>
  ⟨.list [], .list [], .lst (sq_of (e2 _ _ hp)) .nil, .lst (sq_of (e2 _ _ hq)) .nil, rfl, rfl, k H2 (Ex.refl _)⟩
theorem IsF.ofP {te : TE} {r : Rat} (h : EvP te σ H (IsF r)) : EvP te σ H (fun v H' => ∃ s : Rat, IsF s v H') := h.imp fun _ _ _ p => ⟨r, p⟩
theorem IsF.monoE : Mono (fun v H' => ∃ s : Rat, IsF s v H') := fun _ _ _ e ⟨s, p⟩ => ⟨s, IsF.mono _ _ _ e p⟩
end
/-! ### the mathematics of the rules of reckoning -/
theorem bd0 : Bd 1 (0 : Rat) := ⟨by decide, by decide⟩
theorem bd1 : Bd 1 (1 : Rat) := ⟨by decide, by decide⟩
theorem num_pos {z : Rat} : (0 < z.num) ↔ 0 < z := by
  rw [Rat.lt_iff]
  simp
theorem num_neg {z : Rat} : (z.num < 0) ↔ z < 0 := by
  rw [Rat.lt_iff]
  simp
theorem dd {p q : Prop} [Decidable p] [Decidable q] (h : p ↔ q) : (decide p = decide q) := decide_eq_decide.mpr h
theorem nf {b : Bool} (h : b = true) : (!b) = false := by rw [h]; rfl
theorem lt_add (x y z : Rat) : x < y ↔ x + z < y + z := by grind
theorem lt_mul {x y z : Rat} (h : 0 < z) : x < y ↔ x * z < y * z := (Rat.mul_lt_mul_right h).symm
theorem lt_mul_neg {x y z : Rat} (h : z < 0) : x < y ↔ y * z < x * z := by
  have h' : 0 < -z := by grind
  have k := Rat.mul_lt_mul_right (a := x) (b := y) h'
  rw [← k]
  grind
end Fx
/-! ### the reader of the draws -/
namespace Fx
open PySem PySem.Spec PyProof.Rows L2 Evl
def rdK (l : Addr) (spot rest calls : Int) : List (Key × V) := [(.inr "cells", .ref l), (.inr "spot", .int spot), (.inr "rest", .int rest), (.inr "calls", .int calls)]
theorem n1 : ¬ ((Sum.inr "cells" : Key) = (Sum.inr "spot" : Key)) := by decide +kernel
theorem n2 : ¬ ((Sum.inr "cells" : Key) = (Sum.inr "rest" : Key)) := by decide +kernel
theorem n3 : ¬ ((Sum.inr "cells" : Key) = (Sum.inr "calls" : Key)) := by decide +kernel
theorem n4 : ¬ ((Sum.inr "spot" : Key) = (Sum.inr "rest" : Key)) := by decide +kernel
theorem n5 : ¬ ((Sum.inr "spot" : Key) = (Sum.inr "calls" : Key)) := by decide +kernel
theorem n6 : ¬ ((Sum.inr "rest" : Key) = (Sum.inr "calls" : Key)) := by decide +kernel
theorem n4' : ¬ ((Sum.inr "rest" : Key) = (Sum.inr "spot" : Key)) := by decide +kernel
theorem n5' : ¬ ((Sum.inr "calls" : Key) = (Sum.inr "spot" : Key)) := by decide +kernel
theorem n6' : ¬ ((Sum.inr "calls" : Key) = (Sum.inr "rest" : Key)) := by decide +kernel
section
variable {l : Addr} {s r c z : Int}
theorem val_cells : valV (rdK l s r c) (.inr "cells") = some (.ref l) := valV_pos rfl
theorem val_spot : valV (rdK l s r c) (.inr "spot") = some (.int s) := (valV_neg n1).trans (valV_pos rfl)
theorem val_rest : valV (rdK l s r c) (.inr "rest") = some (.int r) := (valV_neg n2).trans ((valV_neg n4).trans (valV_pos rfl))
theorem val_calls : valV (rdK l s r c) (.inr "calls") = some (.int c) := (valV_neg n3).trans ((valV_neg n5).trans ((valV_neg n6).trans (valV_pos rfl)))
theorem put_spot : putK (rdK l s r c) (.inr "spot") (.int z) = rdK l z r c := by
  unfold putK
  rw [if_pos (by rw [valV_any, val_spot]; rfl)]
  show [(if _ then _ else _), (if _ then _ else _), (if _ then _ else _), (if _ then _ else _)] = rdK l z r c
  rw [if_neg n1, if_pos rfl, if_neg n4', if_neg n5']
  rfl
theorem put_rest : putK (rdK l s r c) (.inr "rest") (.int z) = rdK l s z c := by
  unfold putK
  rw [if_pos (by rw [valV_any, val_rest]; rfl)]
  show [(if _ then _ else _), (if _ then _ else _), (if _ then _ else _), (if _ then _ else _)] = rdK l s z c
  rw [if_neg n2, if_neg n4, if_pos rfl, if_neg n6']
  rfl
theorem put_calls : putK (rdK l s r c) (.inr "calls") (.int z) = rdK l s r z := by
  unfold putK
  rw [if_pos (by rw [valV_any, val_calls]; rfl)]
  show [(if _ then _ else _), (if _ then _ else _), (if _ then _ else _), (if _ then _ else _)] = rdK l s r z
  rw [if_neg n3, if_neg n5, if_neg n6, if_pos rfl]
  rfl
end
section
variable {H : Hp} {d l : Addr} {s r c z : Int}
theorem get_cells (h : H d = some (.dK (rdK l s r c))) : DGet H d (.str "cells") (some (.ref l)) := by
  rw [← val_cells (l := l) (s := s) (r := r) (c := c)]
  exact DGet.k (k := .inr "cells") h
theorem get_spot (h : H d = some (.dK (rdK l s r c))) : DGet H d (.str "spot") (some (.int s)) := by
  rw [← val_spot (l := l) (s := s) (r := r) (c := c)]
  exact DGet.k (k := .inr "spot") h
theorem get_rest (h : H d = some (.dK (rdK l s r c))) : DGet H d (.str "rest") (some (.int r)) := by
  rw [← val_rest (l := l) (s := s) (r := r) (c := c)]
  exact DGet.k (k := .inr "rest") h
theorem get_calls (h : H d = some (.dK (rdK l s r c))) : DGet H d (.str "calls") (some (.int c)) := by
  rw [← val_calls (l := l) (s := s) (r := r) (c := c)]
  exact DGet.k (k := .inr "calls") h
theorem rd_len : (rdK l s r c).length < sizeLine := by show 4 < sizeLine; decide
theorem dput_spot : DPut (upd H d (.dK (rdK l s r c))) d (.str "spot") (.int z) (upd H d (.dK (rdK l z r c))) := by
  have h := DPut.k (H := upd H d (.dK (rdK l s r c))) (a := d) (k := .inr "spot") (v := .int z) upd_same rd_len
  rw [put_spot, upd_upd] at h
  exact h
theorem dput_rest : DPut (upd H d (.dK (rdK l s r c))) d (.str "rest") (.int z) (upd H d (.dK (rdK l s z c))) := by
  have h := DPut.k (H := upd H d (.dK (rdK l s r c))) (a := d) (k := .inr "rest") (v := .int z) upd_same rd_len
  rw [put_rest, upd_upd] at h
  exact h
theorem dput_calls (h : H d = some (.dK (rdK l s r c))) : DPut H d (.str "calls") (.int z) (upd H d (.dK (rdK l s r z))) := by
  have h := DPut.k (k := .inr "calls") (v := .int z) h rd_len
  rw [put_calls] at h
  exact h
end
/-- the reader at d, its cells at l, after at most n draws -/
def RdAt (H : Hp) (d l : Addr) (n : Nat) : Prop := ∃ (ns : List Int) (s r c : Int), H d = some (.dK (rdK l s r c)) ∧ H l = some (.lst (ns.map V.int)) ∧ ns.length ≤ 63 ∧ 0 ≤ s ∧ 0 ≤ c ∧ c ≤ n
/-- all but what stands at d is as it was -/
def Kp (d : Addr) (H H' : Hp) : Prop := ∀ b o, H b = some o → b ≠ d → H' b = some o
theorem Kp.refl (d : Addr) (H : Hp) : Kp d H H := fun _ _ h _ => h
theorem Kp.trans {d : Addr} {H H1 H2 : Hp} (a : Kp d H H1) (b : Kp d H1 H2) : Kp d H H2 := fun x o h n => b x o (a x o h n) n
theorem Kp.ex {d : Addr} {H H1 : Hp} (e : Ex H H1) : Kp d H H1 := fun x o h _ => e x o h
theorem Kp.upd {d : Addr} {H : Hp} {o : HO} : Kp d H (upd H d o) := fun b u h n => by
  rw [upd_ne n]
  exact h
/-- what H does not know may change -/
theorem Kp.mut {d p : Addr} {H H1 : Hp} {o : HO} (k : Kp d H H1) (h : H p = none) : Kp d H (L2.upd H1 p o) := fun b u hb n => by
  rw [upd_ne (ne_of_none hb h)]
  exact k b u hb n
section
variable {H H' : Hp} {d l : Addr} {n m : Nat}
theorem RdAt.ex (h : RdAt H d l n) (e : Ex H H') : RdAt H' d l n := by
  obtain ⟨ns, s, r, c, h1, h2, h3⟩ := h
  exact ⟨ns, s, r, c, e _ _ h1, e _ _ h2, h3⟩
theorem RdAt.mono (h : RdAt H d l n) (e : n ≤ m) : RdAt H d l m := by
  obtain ⟨ns, s, r, c, h1, h2, h3, h4, h5, h6⟩ := h
  exact ⟨ns, s, r, c, h1, h2, h3, h4, h5, by omega⟩
theorem RdAt.is (h : RdAt H d l n) : ∃ kvs, H d = some (.dK kvs) := by
  obtain ⟨ns, s, r, c, h1, _⟩ := h
  exact ⟨_, h1⟩
theorem RdAt.isL (h : RdAt H d l n) : ∃ o, H l = some o := by
  obtain ⟨ns, s, r, c, _, h1, _⟩ := h
  exact ⟨_, h1⟩
theorem RdAt.upd (h : RdAt H d l n) {p : Addr} {o : HO} (h1 : p ≠ d) (h2 : p ≠ l) : RdAt (L2.upd H p o) d l n := by
  obtain ⟨ns, s, r, c, q1, q2, q3⟩ := h
  exact ⟨ns, s, r, c, by rw [upd_ne h1.symm]; exact q1, by rw [upd_ne h2.symm]; exact q2, q3⟩
theorem RdAt.neT (h : RdAt H d l n) {a : Addr} {xs : List V} (ha : H a = some (.tup xs)) : a ≠ d := by
  obtain ⟨kvs, h1⟩ := h.is
  exact ne_of ha h1 (by intro z; cases z)
theorem RdAt.neL (h : RdAt H d l n) {a : Addr} {xs : List V} (ha : H a = some (.lst xs)) : a ≠ d := by
  obtain ⟨kvs, h1⟩ := h.is
  exact ne_of ha h1 (by intro z; cases z)
theorem RdAt.neN (h : RdAt H d l n) {a : Addr} (ha : H a = none) : a ≠ l := by
  obtain ⟨o, h1⟩ := h.isL
  exact (ne_of_none h1 ha).symm
end
def spDraw : Sp := fun vs H Q _ => ∃ (d l : Addr) (many : Int) (n : Nat), vs = [.ref d, .int many] ∧ RdAt H d l n ∧ n ≤ 1000000 ∧ 0 < many ∧ many < 2 ^ 60 ∧ ∀ H' r, Kp d H H' → RdAt H' d l (n + 1) → 0 ≤ r → r < many → Q (.int r) H'
end Fx
/-! ### tuples of ints; comprehensions over range; draws in comprehensions -/
namespace Fx
open PySem PySem.Spec PyProof.Rows L2 Evl
def dot : List Int → List Int → Int
  | x :: xs, y :: ys => x * y + dot xs ys
  | _, _ => 0
theorem dot_add : ∀ xs ys zs : List Int, xs.length = ys.length → ys.length = zs.length → dot xs (List.zipWith (· + ·) ys zs) = dot xs ys + dot xs zs
  | [], _, _, _, _ => rfl
  | _ :: _, [], _, h, _ => nomatch h
  | _ :: _, _ :: _, [], _, h => nomatch h
  | x :: xs, y :: ys, z :: zs, h1, h2 => by
    have ih := dot_add xs ys zs (Nat.succ.inj h1) (Nat.succ.inj h2)
    show x * (y + z) + dot xs (List.zipWith (· + ·) ys zs) = (x * y + dot xs ys) + (x * z + dot xs zs)
    rw [ih]
    grind
theorem dot_sub : ∀ xs ys zs : List Int, xs.length = ys.length → ys.length = zs.length → dot (List.zipWith (· - ·) xs ys) zs = dot xs zs - dot ys zs
  | [], [], _, _, _ => by
    simp [dot]
  | [], _ :: _, _, h, _ => nomatch h
  | _ :: _, [], _, h, _ => nomatch h
  | _ :: _, _ :: _, [], _, h => nomatch h
  | x :: xs, y :: ys, z :: zs, h1, h2 => by
    have ih := dot_sub xs ys zs (Nat.succ.inj h1) (Nat.succ.inj h2)
    show (x - y) * z + dot (List.zipWith (· - ·) xs ys) zs = (x * z + dot xs zs) - (y * z + dot ys zs)
    rw [ih]
    grind
theorem dot_zero : ∀ (n : Nat) (ys : List Int), dot (List.replicate n 0) ys = 0
  | 0, _ => rfl
  | n + 1, [] => rfl
  | n + 1, y :: ys => by
    show 0 * y + dot (List.replicate n 0) ys = 0
    rw [dot_zero n ys]
    omega
theorem dot_one : ∀ (n : Nat) (ys : List Int), ys.length = n → dot (List.replicate n 1) ys = ys.sum
  | 0, [], _ => rfl
  | 0, _ :: _, h => nomatch h
  | n + 1, [], h => nomatch h
  | n + 1, y :: ys, h => by
    show 1 * y + dot (List.replicate n 1) ys = (y :: ys).sum
    rw [dot_one n ys (Nat.succ.inj h), List.sum_cons]
    omega
theorem dot_app : ∀ xs xs' ys ys' : List Int, xs.length = ys.length → dot (xs ++ xs') (ys ++ ys') = dot xs ys + dot xs' ys'
  | [], _, [], _, _ => by
    simp [dot]
  | [], _, _ :: _, _, h => nomatch h
  | _ :: _, _, [], _, h => nomatch h
  | x :: xs, xs', y :: ys, ys', h => by
    have ih := dot_app xs xs' ys ys' (Nat.succ.inj h)
    show x * y + dot (xs ++ xs') (ys ++ ys') = (x * y + dot xs ys) + dot xs' ys'
    rw [ih]
    omega
theorem dot_sum : ∀ xs ys : List Int, (List.zipWith (· * ·) xs ys).sum = dot xs ys
  | [], _ => by simp [dot]
  | _ :: _, [] => by simp [dot]
  | x :: xs, y :: ys => by
    show (x * y :: List.zipWith (· * ·) xs ys).sum = x * y + dot xs ys
    rw [List.sum_cons, dot_sum xs ys]
theorem range_zip (f : Int → Int → Int) {m : Nat} {xs ys : List Int} (h1 : xs.length = m) (h2 : ys.length = m) : (List.range m).map (fun i => V.int (f (xs.getD i 0) (ys.getD i 0))) = (List.zipWith f xs ys).map V.int := by
  refine List.ext_getElem ?_ fun i g1 g2 => ?_
  · rw [List.length_map, List.length_range, List.length_map, List.length_zipWith, h1, h2, Nat.min_self]
  · rw [List.length_map, List.length_range] at g1
    have a1 : i < xs.length := by omega
    have a2 : i < ys.length := by omega
    rw [List.getElem_map, List.getElem_map, List.getElem_range, List.getElem_zipWith, List.getD_eq_getElem?_getD, List.getD_eq_getElem?_getD, List.getElem?_eq_getElem a1, List.getElem?_eq_getElem a2]
    rfl
theorem given_all (n : Nat) (v : Nat → V) : given n (fun _ => true) v = (List.range n).map v := by
  unfold given
  rw [List.filter_eq_self.mpr (fun _ _ => rfl)]
def rTupOf (K : PySem.W.Frag) : List V → Hp → VK → Prop := fun xs H Q => ∃ p ys, xs = [.ref p] ∧ ((SqL K H p ys ∧ ∀ l, H l = none → Q (.ref l) (upd H l (.tup ys))) ∨ (SqT K H p ys ∧ Q (.ref p) H))
theorem call_tupleOf {X : Cx} : CallR X (.type "tuple") (rTupOf X.K) := call_tuple_of
/-- a tuple of ints -/
def IsT (xs : List Int) : VP := fun v H => ∃ p, v = .ref p ∧ H p = some (.tup (xs.map V.int))
theorem IsT.mono {xs : List Int} : Mono (IsT xs) := fun _ _ _ e ⟨p, h1, h2⟩ => ⟨p, h1, e p _ h2⟩
/-- the bound of what is multiplied -/
def Sm (xs : List Int) : Prop := ∀ x ∈ xs, x.natAbs < 2 ^ 400
def spTot : Sp := fun vs H Q _ => ∃ (a b : Addr) (xs ys : List Int), vs = [.ref a, .ref b] ∧ H a = some (.tup (xs.map V.int)) ∧ H b = some (.tup (ys.map V.int)) ∧ xs.length = ys.length ∧ xs.length ≤ 1000 ∧ Sm xs ∧ Sm ys ∧ ∀ H', Ex H H' → Q (.int (dot xs ys)) H'
section
variable {te ta tb tl : TE} {σ : L2.St} {H : Hp} {K : PySem.W.Frag} {v x y z : V} {xs ys : List Int}
theorem evT_var {i : Nat} {p : Addr} (h : σ[i]? = some (some (.ref p))) (hp : H p = some (.tup (xs.map V.int))) : EvP (tVar i) σ H (IsT xs) := fun H1 e Q q => ⟨.ref p, h, q _ H1 (Ex.refl _) ⟨p, rfl, e p _ hp⟩⟩
theorem ev_tot {E : XK} (ha : EvP ta σ H (IsT xs)) (hb : EvP tb σ H (IsT ys)) (hl : xs.length = ys.length) (h1 : xs.length ≤ 1000) (sx : Sm xs) (sy : Sm ys) : Ev (tCall spTot [] E (tCons ta (tCons tb tNil))) σ H (.int (dot xs ys)) := fun H1 e Q q =>
  ha H1 e _ fun x H2 e2 ⟨p, g1, g2⟩ => hb H2 (e.trans e2) _ fun y H3 e3 ⟨p', g1', g2'⟩ => by
    subst g1 g1'
    exact ⟨p, p', xs, ys, rfl, e3 _ _ g2, g2', hl, h1, sx, sy, fun H4 e4 => q H4 (e2.trans (e3.trans e4))⟩
theorem ev_ixT {i : Nat} (ha : EvP ta σ H (IsT xs)) (hb : Ev tb σ H (.int (i : Int))) (hi : i < xs.length) : Ev (tOp (rIxT K) ta tb) σ H (.int (xs.getD i 0)) := ev_op1 ha hb IsT.mono fun x H1 _ ⟨p, e, hp⟩ => by
  subst e
  refine rv_ixT (st_of hp) (atI_nat ?_)
  rw [List.getElem?_map, List.getElem?_eq_getElem hi, List.getD_eq_getElem?_getD, List.getElem?_eq_getElem hi]
  rfl
/-- tuple([..]) -/
theorem evT_of (h : EvL ta σ H (xs.map V.int)) : EvP (tCB (rTupOf K) (tCons ta tNil)) σ H (IsT xs) := fun H1 e Q q =>
  h H1 e _ fun p H2 _ e2 hp => ⟨p, _, rfl, .inl ⟨sq_of hp, fun l hl => q _ _ (e2.trans (Ex.new hl)) ⟨l, rfl, upd_same⟩⟩⟩
theorem evT_rep {n : Int} {m : Nat} (hm : 1 ≤ m) (hm2 : m ≤ 1000) (hb : Ev tb σ H (.int (m : Int))) : EvP (tOp (fun x y H Q => rRepT K x y H Q ∨ rRepT1 K x y H Q) (tTup (tCons (tC (.int n)) tNil)) tb) σ H (IsT (List.replicate m n)) := fun H1 e Q q =>
  (EvP.ofU (eu_tup (ea_cons ev_c ea_nil) (by show 1 ≤ 100000; decide))) H1 e _ fun x H2 e2 ⟨p, ex, hp⟩ => by
    subst ex
    refine hb H2 (e.trans e2) _ fun H3 e3 => ?_
    by_cases h : m = 1
    · subst h
      exact .inr ⟨p, _, rfl, rfl, st_of (e3 _ _ hp), q _ _ (e2.trans e3) ⟨p, rfl, e3 _ _ hp⟩⟩
    · refine .inl ⟨p, (m : Int), _, rfl, rfl, st_of (e3 _ _ hp), (by intro z; cases z), by omega, by omega, by show 1 ≤ 1000; decide, fun l hl => q _ _ (e2.trans (e3.trans (Ex.new hl))) ⟨l, rfl, ?_⟩⟩
      rw [upd_same]
      congr 2
      have : ∀ k : Nat, (List.replicate k [V.int n]).flatten = (List.replicate k n).map V.int := fun k => by
        induction k with
        | zero => rfl
        | succ k ih =>
          rw [List.replicate_succ, List.flatten_cons, ih, List.replicate_succ, List.map_cons]
          rfl
      rw [Int.toNat_natCast]
      exact this m
theorem evT_cat (ha : EvP ta σ H (IsT xs)) (hb : EvP tb σ H (IsT ys)) (hx : xs ≠ []) (hy : ys ≠ []) (hl : xs.length + ys.length ≤ 1000) : EvP (tOp (rCatT K) ta tb) σ H (IsT (xs ++ ys)) := fun H1 e Q q =>
  ha H1 e _ fun x H2 e2 ⟨p, g1, g2⟩ => hb H2 (e.trans e2) _ fun y H3 e3 ⟨p', g1', g2'⟩ => by
    subst g1 g1'
    refine ⟨p, p', _, _, rfl, rfl, st_of (e3 _ _ g2), st_of g2', fun z => hx (List.map_eq_nil_iff.mp z), ?_, fun z => absurd (List.map_eq_nil_iff.mp z) hy, fun _ l hl => q _ _ (e2.trans (e3.trans (Ex.new hl))) ⟨l, rfl, ?_⟩⟩
    · rw [List.length_map, List.length_map]
      exact Nat.le_trans hl (by decide)
    · rw [upd_same, List.map_append]
end
/-! ### sum of a tuple -/
section
variable {X : Cx}
def rSumT (K : PySem.W.Frag) : List V → Hp → VK → Prop := fun vs H Q => ∃ (a : Addr) (ns : List Int), vs = [V.ref a] ∧ SqT K H a (ns.map V.int) ∧ Q (.int ns.sum) H
theorem cr_sumT (hc : X.calm = true) : CallR X (.builtin "sum") (rSumT X.K) := by
  intro pins s σ H vs us Q I r h
  obtain ⟨a, ns, rfl, hs, q⟩ := h
  obtain ⟨its, rv, hl, _⟩ := I.tuple hs
  rw [Vals.ref1 r]
  have hi := rv.ints
  obtain ⟨xs, e⟩ := hi.allInts.items
  have hn : numsOf (intItems xs).toList = ns := by rw [← e]; exact hi.numsOf
  rw [nums_intItems] at hn
  have hl2 : s.heap.IsTuple a (intItems xs) := by rw [← e]; exact hl
  refine PySem.W.ktm_sumG (I.ok.hd hc) hl2 fun h' tk t' hk => ⟨.int _, H, I.kept hk, ⟨_, rfl⟩, ?_⟩
  rw [preSum_eq, List.take_of_length_le (by simp), hn]
  exact q
end
theorem ev_sumT {ta : TE} {σ : L2.St} {H : Hp} {K : PySem.W.Frag} {xs : List Int} (ha : EvP ta σ H (IsT xs)) : Ev (tCB (rSumT K) (tCons ta tNil)) σ H (.int xs.sum) := fun H1 e Q q =>
  ha H1 e _ fun x H2 e2 ⟨p, g1, g2⟩ => by
    subst g1
    exact ⟨p, xs, rfl, st_of g2, q _ e2⟩
/-! ### draws in comprehensions -/
def Drawn (te : TE) (σ : L2.St) (d l : Addr) (lo hi : Int) : Prop := ∀ H n, RdAt H d l n → n ≤ 900000 → ∀ Q : VK, (∀ H' v, Kp d H H' → RdAt H' d l (n + 1) → lo ≤ v → v ≤ hi → Q (.int v) H') → te σ H Q
theorem lc_drawn {ta : TA} {σ : L2.St} {H : Hp} {te : TE} {j m n : Nat} {vs : List Nat} {d l : Addr} {lo hi : Int} {Q : VK} (h : EvA ta σ H [.int (m : Int)]) (hm : m ≤ 1000) (hR : RdAt H d l n) (hn : n + m ≤ 900000)
    (hw : ∀ x, wipe ((wipe σ vs).set j (some x)) vs = wipe σ vs) (hd : ∀ x, Drawn te ((wipe σ vs).set j (some x)) d l lo hi)
    (q : ∀ D H' (js : List Int), H D = none → Kp d H H' → RdAt H' d l (n + m) → H' D = some (.lst (js.map V.int)) → js.length = m → (∀ v ∈ js, lo ≤ v ∧ v ≤ hi) → Q (.ref D) H') : tLc (iRng1 ta) (gName j) tYes te vs σ H Q := by
  refine h H (Ex.refl H) _ fun H1 e1 => ⟨(m : Int), rfl, by omega, by omega, fun Dl hD => ?_⟩
  have hD0 : H Dl = none := fresh_back e1 hD
  have hDl : Dl ≠ l := hR.neN hD0
  refine lc_range (lo := 0) (n := (m : Int).toNat) (fun i H' => Kp d H H' ∧ RdAt H' d l (n + i) ∧ ∃ js : List Int, H' Dl = some (.lst (js.map V.int)) ∧ js.length = i ∧ ∀ v ∈ js, lo ≤ v ∧ v ≤ hi) ?_ (fun i H' hi' p => ?_) (fun H' p => ?_)
  · exact ⟨(Kp.ex e1).mut hD0, (hR.ex e1).ex (Ex.new hD), [], upd_same, rfl, fun _ hv => nomatch hv⟩
  · obtain ⟨k1, R1, js, g1, g2, g3⟩ := p
    have nd : Dl ≠ d := R1.neL g1
    refine ⟨hw _, ?_⟩
    show te _ _ _
    refine hd _ H' (n + i) R1 (by omega) _ fun H2 v k2 R2 a1 a2 => ⟨js.map V.int, k2 _ _ g1 nd, ?_, (k1.trans k2).mut hD0, R2.upd nd hDl, js ++ [v], ?_, ?_, fun u hu => ?_⟩
    · rw [List.length_map]
      exact sz_lt (by omega)
    · rw [upd_same, List.map_append]
      rfl
    · rw [List.length_append, g2]
      rfl
    · rcases List.mem_append.mp hu with hu | hu
      · exact g3 u hu
      · rw [List.mem_singleton.mp hu]
        exact ⟨a1, a2⟩
  · obtain ⟨k1, R1, js, g1, g2, g3⟩ := p
    rw [Int.toNat_natCast] at R1 g2
    exact q Dl H' js hD0 k1 R1 g1 g2 g3
/-- tuple([.. for k in range(m)]) of draws, by an element's word -/
def DrawnT (te : TE) (σ : L2.St) (d l : Addr) (m : Nat) (lo hi : Int) : Prop := ∀ H n, RdAt H d l n → n ≤ 800000 → ∀ Q : VK, (∀ H' p (js : List Int), Kp d H H' → RdAt H' d l (n + m) → H' p = some (.tup (js.map V.int)) → js.length = m → (∀ v ∈ js, lo ≤ v ∧ v ≤ hi) → Q (.ref p) H') → te σ H Q
theorem drawnT_of {ta : TA} {σ : L2.St} {te : TE} {j m : Nat} {vs : List Nat} {d l : Addr} {lo hi : Int} (h : ∀ H, EvA ta σ H [.int (m : Int)]) (hm : m ≤ 1000)
    (hw : ∀ x, wipe ((wipe σ vs).set j (some x)) vs = wipe σ vs) (hd : ∀ x, Drawn te ((wipe σ vs).set j (some x)) d l lo hi) {K : PySem.W.Frag} :
    DrawnT (tCB (rTupOf K) (tCons (tLc (iRng1 ta) (gName j) tYes te vs) tNil)) σ d l m lo hi := fun H n hR hn Q q => by
  have z := lc_drawn (Q := fun v H1 => ∃ p ys, [v] = [V.ref p] ∧ ((SqL K H1 p ys ∧ ∀ l, H1 l = none → Q (.ref l) (upd H1 l (.tup ys))) ∨ (SqT K H1 p ys ∧ Q (.ref p) H1))) (h H) hm hR (by omega) hw hd fun D H' js hD k R g1 g2 g3 => ⟨D, _, rfl, .inl ⟨sq_of g1, fun t ht => q _ t js (k.trans (Kp.ex (Ex.new ht))) (R.ex (Ex.new ht)) upd_same g2 g3⟩⟩
  exact z
/-- a list of two such tuples -/
theorem lc_two {σ : L2.St} {H : Hp} {te : TE} {j m n : Nat} {vs : List Nat} {d l : Addr} {lo hi : Int} {Q : VK} (hm : m ≤ 1000) (hR : RdAt H d l n) (hn : n + 2 * m ≤ 700000)
    (hw : ∀ x, wipe ((wipe σ vs).set j (some x)) vs = wipe σ vs) (hd : ∀ x, DrawnT te ((wipe σ vs).set j (some x)) d l m lo hi)
    (q : ∀ D H' (p1 p2 : Addr) (xs ys : List Int), Kp d H H' → RdAt H' d l (n + 2 * m) → H' D = some (.lst [.ref p1, .ref p2]) → H' p1 = some (.tup (xs.map V.int)) → H' p2 = some (.tup (ys.map V.int)) → xs.length = m → ys.length = m →
      (∀ v ∈ xs, lo ≤ v ∧ v ≤ hi) → (∀ v ∈ ys, lo ≤ v ∧ v ≤ hi) → Q (.ref D) H') : tLc (iRng1 (tCons (tC (.int 2)) tNil)) (gName j) tYes te vs σ H Q := by
  refine ⟨2, rfl, by decide, by decide, fun Dl hD => ?_⟩
  have hDl : Dl ≠ l := hR.neN hD
  refine lc_range (lo := 0) (n := (2 : Int).toNat) (fun i H' => Kp d H H' ∧ RdAt H' d l (n + i * m) ∧ ∃ ps : List Addr, H' Dl = some (.lst (ps.map V.ref)) ∧ ps.length = i ∧ ∀ p ∈ ps, ∃ js : List Int, H' p = some (.tup (js.map V.int)) ∧ js.length = m ∧ ∀ v ∈ js, lo ≤ v ∧ v ≤ hi) ?_ (fun i H' hi' p => ?_) (fun H' p => ?_)
  · exact ⟨(Kp.refl d H).mut hD, by simpa using hR.ex (Ex.new hD), [], upd_same, rfl, fun _ hv => nomatch hv⟩
  · obtain ⟨k1, R1, ps, g1, g2, g3⟩ := p
    have nd : Dl ≠ d := R1.neL g1
    have hi2 : i < 2 := hi'
    have him : i * m ≤ 2 * m := Nat.mul_le_mul_right m (by omega)
    refine ⟨hw _, ?_⟩
    show te _ _ _
    refine hd _ H' (n + i * m) R1 (by omega) _ fun H2 p js k2 R2 f1 f2 f3 => ⟨ps.map V.ref, k2 _ _ g1 nd, ?_, (k1.trans k2).mut hD, ?_, ps ++ [p], ?_, ?_, fun u hu => ?_⟩
    · rw [List.length_map]
      exact sz_lt (by omega)
    · have := R2.upd (o := HO.lst (ps.map V.ref ++ [.ref p])) nd hDl
      rw [Nat.add_mul, Nat.one_mul, ← Nat.add_assoc]
      exact this
    · rw [upd_same, List.map_append]
      rfl
    · rw [List.length_append, g2]
      rfl
    · have keep : ∀ (a : Addr) (xs : List V), H2 a = some (.tup xs) → (upd H2 Dl (.lst (ps.map V.ref ++ [.ref p]))) a = some (.tup xs) := fun a xs ha => by
        rw [upd_ne (ne_of ha (k2 _ _ g1 nd) (by intro z; cases z))]
        exact ha
      rcases List.mem_append.mp hu with hu | hu
      · obtain ⟨js', z1, z2⟩ := g3 u hu
        exact ⟨js', keep u _ (k2 _ _ z1 (R1.neT z1)), z2⟩
      · rw [List.mem_singleton.mp hu]
        exact ⟨js, keep p _ f1, f2, f3⟩
  · obtain ⟨k1, R1, ps, g1, g2, g3⟩ := p
    have g2' : ps.length = 2 := g2
    match ps, g2' with
    | [p1, p2], _ =>
      obtain ⟨xs, x1, x2, x3⟩ := g3 p1 (by simp)
      obtain ⟨ys, y1, y2, y3⟩ := g3 p2 (by simp)
      exact q Dl H' p1 p2 xs ys k1 R1 g1 x1 y1 x2 y2 x3 y3
end Fx
/-! ### zip of two tuples in a comprehension; lists of one length -/
namespace Fx
open PySem PySem.Spec PyProof.Rows L2 Evl
theorem lc_zipT {K : PySem.W.Frag} {a b : Addr} {xs ys : List V} {g : TG} {tt : TT} {te : TE} {vs : List Nat} {σ : L2.St} {H1 : Hp} {D : Addr} {Qd : Hp → Prop} (hl : xs.length = ys.length) (Pv : Nat → Hp → Prop) (h0 : Pv 0 (upd H1 D (.lst []))) (hq : ∀ i H, Pv i H → SqT K H a xs ∧ SqT K H b ys)
    (hs : ∀ (i : Nat) (x y : V) (T : Addr) (H : Hp), xs[i]? = some x → ys[i]? = some y → Pv i H → H T = none → g (.ref T) (wipe σ vs) (upd H T (.tup [x, y])) fun σ2 H2 => wipe σ2 vs = wipe σ vs ∧ tt σ2 H2 fun b H3 =>
      if b = true then te σ2 H3 fun y H4 => ∃ acc, H4 D = some (.lst acc) ∧ acc.length < sizeLine ∧ Pv (i + 1) (upd H4 D (.lst (acc ++ [y]))) else Pv (i + 1) H3) (hd : ∀ H, Pv xs.length H → Qd H) :
    ∃ W : Nat → Nat → Hp → Prop, (∃ m, W 0 m (upd H1 D (.lst []))) ∧ ∀ i m H, W i m H →
      ((RZ.ItzT K a b).stop i H ∧ Qd H) ∨ ((RZ.ItzT K a b).go i H ∧ ∃ Nx : Hp → Prop, (∀ H', Nx H' → ∃ m', m' < m ∧ W (i + 1) m' H') ∧ ∀ x H', (RZ.ItzT K a b).yld i H x H' → g x (wipe σ vs) H' fun σ2 H2 => wipe σ2 vs = wipe σ vs ∧ tt σ2 H2 fun b H3 =>
        if b = true then te σ2 H3 fun y H4 => ∃ acc, H4 D = some (.lst acc) ∧ acc.length < sizeLine ∧ Nx (upd H4 D (.lst (acc ++ [y]))) else Nx H3) := by
  refine ⟨fun i m H => m = xs.length - i ∧ i ≤ xs.length ∧ Pv i H, ⟨xs.length, by simp, Nat.zero_le _, h0⟩, ?_⟩
  rintro i m H ⟨rfl, hi, p⟩
  obtain ⟨qx, qy⟩ := hq i H p
  by_cases hlt : i < xs.length
  · have hx : xs[i]? = some xs[i] := List.getElem?_eq_getElem hlt
    have hlt2 : i < ys.length := by omega
    have hy : ys[i]? = some ys[i] := List.getElem?_eq_getElem hlt2
    refine .inr ⟨⟨xs, ys, _, _, qx, qy, hx, hy⟩, Pv (i + 1), fun H' p' => ⟨xs.length - (i + 1), by omega, rfl, hlt, p'⟩, fun v H' y => ?_⟩
    obtain ⟨T, x', y', rfl, hT, rfl, f1, f2⟩ := y
    exact hs i x' y' T H (f1 xs qx) (f2 ys qy) p hT
  · have e : i = xs.length := by omega
    subst e
    exact .inl ⟨⟨xs, ys, qx, qy, Or.inl (Nat.le_refl _)⟩, hd H p⟩
def Lm (m : Nat) (xs : List Int) : Prop := xs.length = m ∧ Sm xs
theorem sm_of {xs : List Int} (h : ∀ v ∈ xs, -1000 ≤ v ∧ v ≤ 1000) : Sm xs := fun v hv => Nat.lt_of_lt_of_le (show v.natAbs < 2 ^ 10 by have := h v hv; omega) (Nat.pow_le_pow_right (by decide) (by decide))
theorem zw_mem {f : Int → Int → Int} : ∀ {xs ys : List Int} {v : Int}, v ∈ List.zipWith f xs ys → ∃ x y, x ∈ xs ∧ y ∈ ys ∧ v = f x y
  | [], _, _, h => by simp at h
  | _ :: _, [], _, h => by simp at h
  | x :: xs, y :: ys, v, h => by
    rcases List.mem_cons.mp (show v ∈ f x y :: List.zipWith f xs ys from h) with h | h
    · exact ⟨x, y, by simp, by simp, h⟩
    · obtain ⟨x', y', h1, h2, h3⟩ := zw_mem h
      exact ⟨x', y', List.mem_cons_of_mem _ h1, List.mem_cons_of_mem _ h2, h3⟩
theorem lm_zw {f : Int → Int → Int} {m : Nat} {xs ys : List Int} {a b : Int} (hf : ∀ x y, x ∈ xs → y ∈ ys → -1000 ≤ f x y ∧ f x y ≤ 1000) (h1 : xs.length = m) (h2 : ys.length = m) : Lm m (List.zipWith f xs ys) := by
  refine ⟨by rw [List.length_zipWith, h1, h2, Nat.min_self], sm_of fun v hv => ?_⟩
  obtain ⟨x, y, hx, hy, e⟩ := zw_mem hv
  rw [e]
  exact hf x y hx hy
theorem lm_rep {m : Nat} {n : Int} (h : -1000 ≤ n ∧ n ≤ 1000) : Lm m (List.replicate m n) := ⟨List.length_replicate, sm_of fun v hv => by rw [List.eq_of_mem_replicate hv]; exact h⟩
theorem lm_app {m k : Nat} {xs ys : List Int} (h1 : Lm m xs) (h2 : Lm k ys) : Lm (m + k) (xs ++ ys) := ⟨by rw [List.length_append, h1.1, h2.1], fun v hv => (List.mem_append.mp hv).elim (h1.2 v) (h2.2 v)⟩
section
variable {te ta tb tl : TE} {tz : TS} {D : Ends} {t : TT} {σ : L2.St} {H : Hp} {K : PySem.W.Frag} {v x y z : V} {xs ys : List Int}
theorem ev_totL {E : XK} {m : Nat} (ha : EvP ta σ H (IsT xs)) (hb : EvP tb σ H (IsT ys)) (lx : Lm m xs) (ly : Lm m ys) (hm : m ≤ 1000) : Ev (tCall spTot [] E (tCons ta (tCons tb tNil))) σ H (.int (dot xs ys)) :=
  ev_tot ha hb (lx.1.trans ly.1.symm) (by rw [lx.1]; exact hm) lx.2 ly.2
theorem q_asgP {P : VP} {i : Nat} (h : EvP te σ H P) (k : ∀ v H1, Ex H H1 → P v H1 → tz D (σ.set i (some v)) H1) : tSeq (tAsg te (gName i)) tz D σ H := h H (Ex.refl H) _ fun v H1 e p => k v H1 e p
/-- [f(xs[k], ys[k]) for k in range(m)] -/
theorem el_zw {ta : TA} {j m : Nat} {vs : List Nat} {f : Int → Int → Int} (h : EvA ta σ H [.int (m : Int)]) (hm : m ≤ 1000) (hx : xs.length = m) (hy : ys.length = m) (hw : ∀ x, wipe ((wipe σ vs).set j (some x)) vs = wipe σ vs)
    (he : ∀ (i : Nat) H1, Ex H H1 → i < m → Ev te ((wipe σ vs).set j (some (.int (i : Int)))) H1 (.int (f (xs.getD i 0) (ys.getD i 0)))) : EvL (tLc (iRng1 ta) (gName j) tYes te vs) σ H ((List.zipWith f xs ys).map V.int) := by
  have z := el_lcR1 (t := tYes) (te := te) (j := j) (vs := vs) (fun _ => true) (fun i => V.int (f (xs.getD i 0) (ys.getD i 0))) h (by omega) hw (fun i H1 _ _ => fun H2 _ Q q => q H2 (Ex.refl _)) (fun i H1 e hi _ => he i H1 e (by omega))
  rw [given_all, Int.toNat_natCast, range_zip f hx hy] at z
  exact z
end
end Fx
/-! ### the head's facts, with built-ins that the top imports under a name -/
namespace Hx
open PySem PySem.Spec PyProof.Rows L2 He
abbrev AlE : Type := Bool × AlD
def bltB (K : PySem.W.Frag) (bs : List (Str × String)) : Bool := bs.all fun p => eqO (PySem.W.nsIn K mainGlobals p.1) (some (some (.builtin p.2)))
def obsE (fa : List Fa) (fn : List DefD) (bs : List (Str × String)) (K : PySem.W.Frag) : AlE := (bltB K bs, obsD fa fn K)
def valE (fn : List DefD) : AlE := (true, valD fn)
def SaysE (fa : List Fa) (fn : List DefD) (bs : List (Str × String)) (K : PySem.W.Frag) : Prop := obsE fa fn bs K = valE fn
def obsEG (n : Nat) (fa : List Fa) (fn : List DefD) (bs : List (Str × String)) (g : Addr → Option Obj) : AlE := obsE fa fn bs (frG g (asD g n))
def hookE (n : Nat) (fa : List Fa) (fn : List DefD) (bs : List (Str × String)) : PySem.W.Hook where
  α := AlE
  obs := fun s => obsEG n fa fn bs s.heap.get?
  val := fun _ => valE fn
  says := fun _ h => ∃ K : PySem.W.Frag, K.In h ∧ SaysE fa fn bs K
  of := fun _ _ e => ⟨_, frG_in, e⟩
  keeps := fun _ _ _ ⟨K, hK, c⟩ k => ⟨K, PySem.W.Frag.In.keeps hK k, c⟩
theorem obsEG_eq {n : Nat} {fa : List Fa} {fn : List DefD} {bs : List (Str × String)} {g : Addr → Option Obj} {s : Shared} (h : ∀ a, g a = s.heap.get? a) : obsEG n fa fn bs g = (hookE n fa fn bs).obs s := by
  have e : g = s.heap.get? := funext h
  rw [e] <;> rfl
section
variable {fa : List Fa} {fn : List DefD} {bs : List (Str × String)} {K : PySem.W.Frag} {h : Heap} {mg : Str → Option Value}
theorem SaysE.d (c : SaysE fa fn bs K) : SaysD fa fn K := congrArg (fun z : AlE => z.2) c
theorem SaysE.blt (c : SaysE fa fn bs K) (X : K.In h) (G : h.Ns mainGlobals mg) (i : Nat) {x : Str} {id : String} (e : bs[i]? = some (x, id) := by rfl) : mg x = some (.builtin id) := by
  have c1 : bltB K bs = true := congrArg (fun z : AlE => z.1) c
  exact PySem.W.mg_of X G (eqO_ok (List.all_eq_true.mp c1 (x, id) (List.mem_of_getElem? e)))
end
/-- a def without defaults, as Words has it -/
theorem toFun {K : PySem.W.Frag} {x qual : Str} {st : Stmt} {f : Addr} {fd : FuncData} (F : FunD K x qual (defArgs st) (defBody st) (defScope st) [] [] f fd) : Fun K x qual st f fd := by
  obtain ⟨⟨oc, od, dV, kV, doc, pm, an, cdv, ct, osl, e, l, c, d, k⟩, kp⟩ := F
  rcases d with ⟨_, d⟩ | ⟨d, _⟩
  · subst d
    exact ⟨⟨oc, od, kV, doc, pm, an, cdv, ct, osl, e, l, c⟩, kp⟩
  · exact absurd rfl d
/-- a law's end over the facts of a head -/
theorem walk_ofEB {l : PySem.W.OpenLaw} {n k : Nat} {q : Program} {loose : List Str} {XP : (Str → Option Value) → Heap → Prop} {YP : World → Heap → Prop} {d : DefRec} {CX : CXT} {x : Str}
    (hn : l.most = some n) (hn2 : n ≤ sizeLine) (hdf : d.params.defaults = []) (hr : Room k callerA)
    (F : ∀ (w : World) (mg : Str → Option Value) (fa : Addr) (h : Heap), YP w h → h.Ns mainGlobals mg → mg d.name = some (.ref fa) →
      ∃ (K : PySem.W.Frag) (fd : FuncData) (sp : Sp), K.In h ∧ (∀ (s : Shared) (u : Value), BindsTo s fd ⟨[u], []⟩ [(x, u)]) ∧
        (∀ (H : Hp) (a : Addr) (ns : List Int), ns.length ≤ n → (∀ z ∈ ns, Builtin.Int.intBits z ≤ 1048576) → Only H → SqL K H a (ns.map V.int) → sp [.ref a] H (fun v _ => v = .bl true) fun _ _ _ => False) ∧
        ∀ base : Heap, K.In base → base.Ns mainGlobals mg → FnOk l.prog w K mg base CX k fa fd [x] sp)
    (hCX : ∀ (H : Hp) (s : Shared) (e : Value) (s' : Shared), CX [] H s (fun _ _ _ => False) e s' → False) :
    PySem.W.WalkO q loose XP YP l.row.toRowW d [] (fun f vs => PySem.call f vs) := by
  refine Att.attach_callB hn hdf fun w s₀ s₁ mg mb fa o pm cd doc a vs ns G Y ho hd hcd hmg hobj hints hlen hbits hg => ?_
  obtain ⟨K, fd, sp, KX, hb, hsp, hF⟩ := F w mg fa _ Y G.T.g hmg
  exact law_call KX G.T.g G.T.b G.T.builtins G.T.nolimit hg hobj hints (Nat.le_trans hlen hn2) hr hF hb (fun H hO hS => hsp H a ns hlen hbits hO hS) fun H e s' => hCX H s₁ e s'
end Hx
namespace K5
open PySem PySem.Spec PyProof.Rows L2
def topS (i : Nat) : Stmt := PySem.Challenge.pw_thinspans_k05_whole_fractions.main.body.getD i (.Pass ⟨0, 0, 0, 0⟩)
end K5
namespace K5
open PySem PySem.Spec PyProof.Rows L2 Evl Fx Fr
abbrev sWhole : Stmt := topS 6
abbrev sInteger : Stmt := topS 8
abbrev sFraction : Stmt := topS 9
abbrev sMade : Stmt := topS 11
abbrev sReduced : Stmt := topS 12
abbrev sPlus : Stmt := topS 13
abbrev sMinus : Stmt := topS 14
abbrev sTimes : Stmt := topS 15
abbrev sOver : Stmt := topS 16
abbrev sLess : Stmt := topS 17
theorem scWhole : FnScope ["thing"] ["thing"] (defScope sWhole) := ⟨rfl, rfl, rfl, by decide +kernel, rfl, by decide +kernel, by decide +kernel⟩
theorem scInteger : FnScope ["thing"] ["thing"] (defScope sInteger) := ⟨rfl, rfl, rfl, by decide +kernel, rfl, by decide +kernel, by decide +kernel⟩
theorem scFraction : FnScope ["thing", "p", "q"] ["thing"] (defScope sFraction) := ⟨rfl, rfl, rfl, by decide +kernel, rfl, by decide +kernel, by decide +kernel⟩
theorem scMade : FnScope ["p", "q"] ["p", "q"] (defScope sMade) := ⟨rfl, rfl, rfl, by decide +kernel, rfl, by decide +kernel, by decide +kernel⟩
theorem scReduced : FnScope ["p", "q", "common"] ["p", "q"] (defScope sReduced) := ⟨rfl, rfl, rfl, by decide +kernel, rfl, by decide +kernel, by decide +kernel⟩
theorem scPlus : FnScope ["one", "other"] ["one", "other"] (defScope sPlus) := ⟨rfl, rfl, rfl, by decide +kernel, rfl, by decide +kernel, by decide +kernel⟩
theorem scMinus : FnScope ["one", "other"] ["one", "other"] (defScope sMinus) := ⟨rfl, rfl, rfl, by decide +kernel, rfl, by decide +kernel, by decide +kernel⟩
theorem scTimes : FnScope ["one", "other"] ["one", "other"] (defScope sTimes) := ⟨rfl, rfl, rfl, by decide +kernel, rfl, by decide +kernel, by decide +kernel⟩
theorem scOver : FnScope ["one", "other"] ["one", "other"] (defScope sOver) := ⟨rfl, rfl, rfl, by decide +kernel, rfl, by decide +kernel, by decide +kernel⟩
theorem scLess : FnScope ["one", "other"] ["one", "other"] (defScope sLess) := ⟨rfl, rfl, rfl, by decide +kernel, rfl, by decide +kernel, by decide +kernel⟩
section
variable {P : Program} {w : World} {K : PySem.W.Frag} {mg : Str → Option Value} {base : Heap} {f f2 f3 : Addr} {fd fd2 fd3 : FuncData} {CX : CXT}
/-! ### whole numbers -/
/-- of any value whose kind is known: whether it is an int, not a bool -/
def spWhole (K : PySem.W.Frag) : Sp := fun vs H Q _ => ∃ (x : V) (T : String) (a b : Bool), vs = [x] ∧ TyX K H x (.type T) ∧ kitB T "int" = some a ∧ kitB T "bool" = some b ∧ Q (.bl (a && !b)) H
theorem ok_whole (F : Fun K "is_whole" "is_whole" sWhole f fd) (mI : mg "isinstance" = none) (mi : mg "int" = none) (mb : mg "bool" = none) : FnOk P w K mg base CX0 1 f fd ["thing"] (spWhole K) := by
  refine F.ok scWhole (fun vs H Q E h => ?_) (fun cdv A outer s H vs Q E hr h => ?_)
  · obtain ⟨x, T, a, b, rfl, _⟩ := h
    rfl
  · obtain ⟨x, T, a, b, rfl, ty, e1, e2, q⟩ := h
    refine ⟨_, pss_one (ps_ret (pe_and (pe_callB call_isi (by rfl) mI (by decide +kernel) (pa_cons (pv 0) (pa_cons (pe_bltn (v := .ty "int") (by rfl) mi (by decide +kernel) rfl) pa_nil)))
      (pe_one (pe_not (pe_callB call_isi (by rfl) mI (by decide +kernel) (pa_cons (pv 0) (pa_cons (pe_bltn (v := .ty "bool") (by rfl) mb (by decide +kernel) rfl) pa_nil))))))), ?_⟩
    refine ⟨_, rfl, x, .ty "int", _, _, a, rfl, .ty "int", ty, kit_ty e1, a, rfl, ?_⟩
    cases a with
    | false => exact iteF q
    | true => exact iteT ⟨_, rfl, x, .ty "bool", _, _, b, rfl, .ty "bool", ty, kit_ty e2, b, rfl, q⟩
theorem ok_integer (F : Fun K "is_integer" "is_integer" sInteger f fd) (G : FnOk P w K mg base CX0 1 f2 fd2 ["thing"] (spWhole K)) (k2 : PySem.W.keepIn K (.ref f2) = true) (b2 : Binds K fd2 ["thing"] []) (g2 : mg "is_whole" = some (.ref f2)) : FnOk P w K mg base CX0 2 f fd ["thing"] (spWhole K) := by
  refine F.ok scInteger (fun vs H Q E h => ?_) (fun cdv A outer s H vs Q E hr h => ?_)
  · obtain ⟨x, T, a, b, rfl, _⟩ := h
    rfl
  · have h0 := h
    obtain ⟨x, T, a, b, rfl, ty, e1, e2, q⟩ := h
    exact ⟨_, pss_one (ps_ret (pe_call G hr (by rfl) g2 k2 b2 .nil pass0 (pa_cons (pv 0) pa_nil))), _, rfl, x, T, a, b, rfl, ty, e1, e2, q⟩
theorem tyI (K : PySem.W.Frag) (H : Hp) (i : Int) : TyX K H (.int i) (.type "int") := .base (.int i)
theorem kII : kitB "int" "int" = some true := by decide +kernel
theorem kIB : kitB "int" "bool" = some false := by decide +kernel
/-! ### reduced pairs -/
def okR (i j : Int) : Prop := j ≠ 0 ∧ i.natAbs < 2 ^ 4000 ∧ j.natAbs < 2 ^ 4000
theorem comm_lt {p q : Int} (h : q ≠ 0) (hq : q.natAbs < 2 ^ 4000) : (comm p q).natAbs < 2 ^ 4000 ∧ comm p q ≠ 0 := by
  have g := gcd_pos (p := p) h
  have l : Nat.gcd p.natAbs q.natAbs ≤ q.natAbs := Nat.gcd_le_right _ (by omega)
  unfold comm
  split <;> omega
theorem ok_reduced (F : Fun K "reduced_pair" "reduced_pair" sReduced f fd) (gG : mg "gcd" = some (.builtin "math.gcd")) : FnOk P w K mg base CX0 1 f fd ["p", "q"] (spI2F okR Rat.divInt) := by
  refine F.ok scReduced (fun vs H Q E h => ?_) (fun cdv A outer s H vs Q E hr h => ?_)
  · obtain ⟨i, j, rfl, _⟩ := h
    rfl
  · obtain ⟨i, j, rfl, ⟨h0, h1, h2⟩, q⟩ := h
    obtain ⟨c1, c2⟩ := comm_lt (p := i) h0 h2
    have cd1 : CDivS i (comm i j) := cdivS c2 c1 (by decide) (by decide)
    have cd2 : CDivS j (comm i j) := cdivS c2 c1 (by decide) (by decide)
    refine ⟨_, pss_cons (ps_set (i := 2) scReduced.nd rfl (.inl rfl) (pe_callBfun cr_gcd (by rfl) gG (pa_cons (pv 0) (pa_cons (pv 1) pa_nil))))
      (pss_cons (ps_if (pt_cmpR op_lt (pv 1) pe_int (nomark _)) (pss_one (ps_set (i := 2) scReduced.nd rfl (.inl rfl) (pe_un un_neg (pv 2)))) pss_nil)
      (pss_one (ps_ret (pe_tup (pa_cons (pe_op op_fdivWN (pv 0) (pv 2)) (pa_cons (pe_op op_fdivWN (pv 1) (pv 2)) pa_nil)))))), ?_⟩
    refine ⟨_, rfl, _, rfl, _, _, rfl, _, rfl, _, _, rfl, rfl, _, rfl, ?_⟩
    have fin : ∀ p, H p = none → Q (.ref p) (upd H p (.tup [.int (i.fdiv (comm i j)), .int (j.fdiv (comm i j))])) := fun p hp => by
      refine q _ p (Ex.new hp) ?_
      rw [upd_same, red_num h0, red_den h0]
      rfl
    by_cases hj : j < 0
    · rw [decide_eq_true hj]
      refine iteT ?_
      rw [comm_neg hj] at fin cd1 cd2
      exact ⟨_, rfl, _, rfl, _, rfl, _, rfl, _, _, rfl, rfl, cd1, _, rfl, _, rfl, _, _, rfl, rfl, cd2, (by show 2 ≤ sizeLine; decide), fin⟩
    · rw [decide_eq_false hj]
      refine iteF ?_
      rw [comm_pos hj] at fin cd1 cd2
      exact ⟨_, rfl, _, rfl, _, _, rfl, rfl, cd1, _, rfl, _, rfl, _, _, rfl, rfl, cd2, (by show 2 ≤ sizeLine; decide), fin⟩
theorem ok_made (F : Fun K "made" "made" sMade f fd) (G : FnOk P w K mg base CX0 2 f2 fd2 ["thing"] (spWhole K)) (k2 : PySem.W.keepIn K (.ref f2) = true) (b2 : Binds K fd2 ["thing"] []) (g2 : mg "is_integer" = some (.ref f2))
    (G3 : FnOk P w K mg base CX0 1 f3 fd3 ["p", "q"] (spI2F okR Rat.divInt)) (k3 : PySem.W.keepIn K (.ref f3) = true) (b3 : Binds K fd3 ["p", "q"] []) (g3 : mg "reduced_pair" = some (.ref f3)) : FnOk P w K mg base CX0 3 f fd ["p", "q"] (spI2F okR Rat.divInt) := by
  refine F.ok scMade (fun vs H Q E h => ?_) (fun cdv A outer s H vs Q E hr h => ?_)
  · obtain ⟨i, j, rfl, _⟩ := h
    rfl
  · obtain ⟨i, j, rfl, hk, q⟩ := h
    refine ⟨_, pss_cons (ps_if (PW.pt (pw_or (pt_not (pt_val (pe_call G hr (by rfl) g2 k2 b2 .nil pass0 (pa_cons (pv 0) pa_nil)))) (pw_or1 (pt_not (pt_val (pe_call G hr (by rfl) g2 k2 b2 .nil pass0 (pa_cons (pv 1) pa_nil))))))) pss_never pss_nil)
      (pss_cons (ps_if (pt_cmpR op_eq (pv 1) pe_int (nomark _)) pss_never pss_nil)
      (pss_one (ps_ret (pe_call G3 (hr.mono (by decide)) (by rfl) g3 k3 b3 .nil pass0 (pa_cons (pv 0) (pa_cons (pv 1) pa_nil)))))), ?_⟩
    refine ⟨_, rfl, _, "int", true, false, rfl, tyI K H i, kII, kIB, true, rfl, ?_⟩
    refine iteF ⟨_, rfl, _, "int", true, false, rfl, tyI K H j, kII, kIB, true, rfl, ?_⟩
    refine iteF ⟨_, rfl, rfl, _, rfl, ?_⟩
    refine ite2 (fun e => absurd (V.int.inj (of_decide_eq_true e)) hk.1) (fun _ => ?_)
    exact ⟨_, rfl, _, rfl, i, j, rfl, hk, q⟩
/-! ### reckoning -/
def okB (s : Nat) (x y : Rat) : Prop := ∃ n m, Bd n x ∧ Bd m y ∧ n + m + s ≤ 4000
theorem mulW {i j : Int} {n m : Nat} (h1 : i.natAbs < 2 ^ n) (h2 : j.natAbs < 2 ^ m) (h : n + m ≤ 4000) : CMulW i j := wide_mul (lt_up h1 (Nat.le_succ n)) (lt_up h2 (Nat.le_succ m)) (by omega) (by omega) (by omega)
theorem ev_mul {ta tb : TE} {σ : L2.St} {H : Hp} {i j : Int} {n m : Nat} (ha : Ev ta σ H (.int i)) (hb : Ev tb σ H (.int j)) (h1 : i.natAbs < 2 ^ n) (h2 : j.natAbs < 2 ^ m) (h : n + m ≤ 4000) : Ev (tOp (rI CMulW fun i j => .int (i * j)) ta tb) σ H (.int (i * j)) := ev_op ha hb (rv_I (g := fun i j => .int (i * j)) (mulW h1 h2 h))
theorem ev_add {ta tb : TE} {σ : L2.St} {H : Hp} {i j : Int} (ha : Ev ta σ H (.int i)) (hb : Ev tb σ H (.int j)) : Ev (tOp (rI0 fun i j => .int (i + j)) ta tb) σ H (.int (i + j)) := ev_op ha hb (rv_I0 (g := fun i j => .int (i + j)))
theorem ev_sub {ta tb : TE} {σ : L2.St} {H : Hp} {i j : Int} (ha : Ev ta σ H (.int i)) (hb : Ev tb σ H (.int j)) : Ev (tOp (rI0 fun i j => .int (i - j)) ta tb) σ H (.int (i - j)) := ev_op ha hb (rv_I0 (g := fun i j => .int (i - j)))
theorem ev_lt {ta tb : TE} {σ : L2.St} {H : Hp} {i j : Int} (ha : Ev ta σ H (.int i)) (hb : Ev tb σ H (.int j)) : Ev (tOp (rI0 fun i j => .bl (decide (i < j))) ta tb) σ H (.bl (decide (i < j))) := ev_op ha hb (rv_I0 (g := fun i j => .bl (decide (i < j))))
theorem ev_gt {ta tb : TE} {σ : L2.St} {H : Hp} {i j : Int} (ha : Ev ta σ H (.int i)) (hb : Ev tb σ H (.int j)) : Ev (tOp (rI0 fun i j => .bl (decide (j < i))) ta tb) σ H (.bl (decide (j < i))) := ev_op ha hb (rv_I0 (g := fun i j => .bl (decide (j < i))))
/-- what a def hands back that hands on a pair -/
theorem retF {te : TE} {σ : L2.St} {H : Hp} {D : Ends} {r : Rat} (h : EvP te σ H (IsF r)) (k : ∀ H' p, Ex H H' → H' p = some (frO r) → D.rt (.ref p) H') : tRet te D σ H := h H (Ex.refl H) _ fun v H1 e ⟨p, e1, hp⟩ => by
  subst e1
  exact k H1 p e hp
theorem ok_plus (F : Fun K "plus" "plus" sPlus f fd) (G : FnOk P w K mg base CX0 1 f2 fd2 ["p", "q"] (spI2F okR Rat.divInt)) (k2 : PySem.W.keepIn K (.ref f2) = true) (b2 : Binds K fd2 ["p", "q"] []) (g2 : mg "reduced_pair" = some (.ref f2)) : FnOk P w K mg base CX0 2 f fd ["one", "other"] (spF2 (okB 1) (· + ·)) := by
  refine F.ok scPlus (fun vs H Q E h => ?_) (fun cdv A outer s H vs Q E hr h => ?_)
  · obtain ⟨a, b, x, y, rfl, _⟩ := h
    rfl
  · obtain ⟨a, b, x, y, rfl, ha, hb, ⟨n, m, h1, h2, hs⟩, q⟩ := h
    refine ⟨_, pss_one (ps_ret (pe_call G hr (by rfl) g2 k2 b2 .nil pass0 (pa_cons (pe_op op_add (pe_op op_mulW (pe_ix ix_tup (pv 0) pe_int (fun _ _ => rfl)) (pe_ix ix_tup (pv 1) pe_int (fun _ _ => rfl))) (pe_op op_mulW (pe_ix ix_tup (pv 1) pe_int (fun _ _ => rfl)) (pe_ix ix_tup (pv 0) pe_int (fun _ _ => rfl))))
      (pa_cons (pe_op op_mulW (pe_ix ix_tup (pv 0) pe_int (fun _ _ => rfl)) (pe_ix ix_tup (pv 1) pe_int (fun _ _ => rfl))) pa_nil)))), ?_⟩
    have d1 : (x.den : Int).natAbs < 2 ^ n := h1.2
    have d2 : (y.den : Int).natAbs < 2 ^ m := h2.2
    have va : EvP (tVar 0) (start ["one", "other"] [.ref a, .ref b]) H (IsF x) := evF_var rfl ha
    have vb : EvP (tVar 1) (start ["one", "other"] [.ref a, .ref b]) H (IsF y) := evF_var rfl hb
    have dd := im_lt d1 d2
    refine retF ((evF_callI (ev_add (ev_mul (ev_ix0 va) (ev_ix1 vb) h1.1 d2 (by omega)) (ev_mul (ev_ix0 vb) (ev_ix1 va) h2.1 d1 (by omega))) (ev_mul (ev_ix1 va) (ev_ix1 vb) d1 d2 (by omega)) ⟨Int.mul_ne_zero (den_ne x) (den_ne y), ?_, lt_up dd (by omega)⟩).cast (add_eq x y)) q
    have t2 := im_lt h2.1 d1
    rw [Nat.add_comm m n] at t2
    exact lt_up (ia_lt (im_lt h1.1 d2) t2) (by omega)
theorem ok_minus (F : Fun K "minus" "minus" sMinus f fd) (G : FnOk P w K mg base CX0 1 f2 fd2 ["p", "q"] (spI2F okR Rat.divInt)) (k2 : PySem.W.keepIn K (.ref f2) = true) (b2 : Binds K fd2 ["p", "q"] []) (g2 : mg "reduced_pair" = some (.ref f2)) : FnOk P w K mg base CX0 2 f fd ["one", "other"] (spF2 (okB 1) (· - ·)) := by
  refine F.ok scMinus (fun vs H Q E h => ?_) (fun cdv A outer s H vs Q E hr h => ?_)
  · obtain ⟨a, b, x, y, rfl, _⟩ := h
    rfl
  · obtain ⟨a, b, x, y, rfl, ha, hb, ⟨n, m, h1, h2, hs⟩, q⟩ := h
    refine ⟨_, pss_one (ps_ret (pe_call G hr (by rfl) g2 k2 b2 .nil pass0 (pa_cons (pe_op op_sub (pe_op op_mulW (pe_ix ix_tup (pv 0) pe_int (fun _ _ => rfl)) (pe_ix ix_tup (pv 1) pe_int (fun _ _ => rfl))) (pe_op op_mulW (pe_ix ix_tup (pv 1) pe_int (fun _ _ => rfl)) (pe_ix ix_tup (pv 0) pe_int (fun _ _ => rfl))))
      (pa_cons (pe_op op_mulW (pe_ix ix_tup (pv 0) pe_int (fun _ _ => rfl)) (pe_ix ix_tup (pv 1) pe_int (fun _ _ => rfl))) pa_nil)))), ?_⟩
    have d1 : (x.den : Int).natAbs < 2 ^ n := h1.2
    have d2 : (y.den : Int).natAbs < 2 ^ m := h2.2
    have va : EvP (tVar 0) (start ["one", "other"] [.ref a, .ref b]) H (IsF x) := evF_var rfl ha
    have vb : EvP (tVar 1) (start ["one", "other"] [.ref a, .ref b]) H (IsF y) := evF_var rfl hb
    have dd := im_lt d1 d2
    refine retF ((evF_callI (ev_sub (ev_mul (ev_ix0 va) (ev_ix1 vb) h1.1 d2 (by omega)) (ev_mul (ev_ix0 vb) (ev_ix1 va) h2.1 d1 (by omega))) (ev_mul (ev_ix1 va) (ev_ix1 vb) d1 d2 (by omega)) ⟨Int.mul_ne_zero (den_ne x) (den_ne y), ?_, lt_up dd (by omega)⟩).cast (sub_eq x y)) q
    have t2 := im_lt h2.1 d1
    rw [Nat.add_comm m n] at t2
    exact lt_up (is_lt (im_lt h1.1 d2) t2) (by omega)
theorem ok_times (F : Fun K "times" "times" sTimes f fd) (G : FnOk P w K mg base CX0 1 f2 fd2 ["p", "q"] (spI2F okR Rat.divInt)) (k2 : PySem.W.keepIn K (.ref f2) = true) (b2 : Binds K fd2 ["p", "q"] []) (g2 : mg "reduced_pair" = some (.ref f2)) : FnOk P w K mg base CX0 2 f fd ["one", "other"] (spF2 (okB 1) (· * ·)) := by
  refine F.ok scTimes (fun vs H Q E h => ?_) (fun cdv A outer s H vs Q E hr h => ?_)
  · obtain ⟨a, b, x, y, rfl, _⟩ := h
    rfl
  · obtain ⟨a, b, x, y, rfl, ha, hb, ⟨n, m, h1, h2, hs⟩, q⟩ := h
    refine ⟨_, pss_one (ps_ret (pe_call G hr (by rfl) g2 k2 b2 .nil pass0 (pa_cons (pe_op op_mulW (pe_ix ix_tup (pv 0) pe_int (fun _ _ => rfl)) (pe_ix ix_tup (pv 1) pe_int (fun _ _ => rfl)))
      (pa_cons (pe_op op_mulW (pe_ix ix_tup (pv 0) pe_int (fun _ _ => rfl)) (pe_ix ix_tup (pv 1) pe_int (fun _ _ => rfl))) pa_nil)))), ?_⟩
    have d1 : (x.den : Int).natAbs < 2 ^ n := h1.2
    have d2 : (y.den : Int).natAbs < 2 ^ m := h2.2
    have va : EvP (tVar 0) (start ["one", "other"] [.ref a, .ref b]) H (IsF x) := evF_var rfl ha
    have vb : EvP (tVar 1) (start ["one", "other"] [.ref a, .ref b]) H (IsF y) := evF_var rfl hb
    exact retF ((evF_callI (ev_mul (ev_ix0 va) (ev_ix0 vb) h1.1 h2.1 (by omega)) (ev_mul (ev_ix1 va) (ev_ix1 vb) d1 d2 (by omega)) ⟨Int.mul_ne_zero (den_ne x) (den_ne y), lt_up (im_lt h1.1 h2.1) (by omega), lt_up (im_lt d1 d2) (by omega)⟩).cast (mul_eq x y)) q
def okD (x y : Rat) : Prop := okB 1 x y ∧ y ≠ 0
theorem ok_over (F : Fun K "over" "over" sOver f fd) (G : FnOk P w K mg base CX0 1 f2 fd2 ["p", "q"] (spI2F okR Rat.divInt)) (k2 : PySem.W.keepIn K (.ref f2) = true) (b2 : Binds K fd2 ["p", "q"] []) (g2 : mg "reduced_pair" = some (.ref f2)) : FnOk P w K mg base CX0 2 f fd ["one", "other"] (spF2 okD (· / ·)) := by
  refine F.ok scOver (fun vs H Q E h => ?_) (fun cdv A outer s H vs Q E hr h => ?_)
  · obtain ⟨a, b, x, y, rfl, _⟩ := h
    rfl
  · obtain ⟨a, b, x, y, rfl, ha, hb, ⟨⟨n, m, h1, h2, hs⟩, hy⟩, q⟩ := h
    refine ⟨_, pss_cons (ps_if (pt_cmpR op_eq (pe_ix ix_tup (pv 1) pe_int (fun _ _ => rfl)) pe_int (nomark _)) pss_never pss_nil)
      (pss_one (ps_ret (pe_call G hr (by rfl) g2 k2 b2 .nil pass0 (pa_cons (pe_op op_mulW (pe_ix ix_tup (pv 0) pe_int (fun _ _ => rfl)) (pe_ix ix_tup (pv 1) pe_int (fun _ _ => rfl)))
      (pa_cons (pe_op op_mulW (pe_ix ix_tup (pv 0) pe_int (fun _ _ => rfl)) (pe_ix ix_tup (pv 1) pe_int (fun _ _ => rfl))) pa_nil))))), ?_⟩
    have d1 : (x.den : Int).natAbs < 2 ^ n := h1.2
    have d2 : (y.den : Int).natAbs < 2 ^ m := h2.2
    have va : EvP (tVar 0) (start ["one", "other"] [.ref a, .ref b]) H (IsF x) := evF_var rfl ha
    have vb : EvP (tVar 1) (start ["one", "other"] [.ref a, .ref b]) H (IsF y) := evF_var rfl hb
    refine ev_ix0 vb H (Ex.refl H) _ fun H1 e1 => ⟨rfl, _, rfl, ?_⟩
    refine ite2 (fun e => absurd (V.int.inj (of_decide_eq_true e)) (num_ne hy)) (fun _ => ?_)
    have va1 := va.mono e1
    have vb1 := vb.mono e1
    exact retF ((evF_callI (ev_mul (ev_ix0 va1) (ev_ix1 vb1) h1.1 d2 (by omega)) (ev_mul (ev_ix1 va1) (ev_ix0 vb1) d1 h2.1 (by omega)) ⟨Int.mul_ne_zero (den_ne x) (num_ne hy), lt_up (im_lt h1.1 d2) (by omega), lt_up (im_lt d1 h2.1) (by omega)⟩).cast (div_eq x y)) fun H' p e => q H' p (e1.trans e)
theorem ok_less (F : Fun K "is_less" "is_less" sLess f fd) : FnOk P w K mg base CX0 1 f fd ["one", "other"] (spB2 (okB 1) (fun x y => decide (x < y))) := by
  refine F.ok scLess (fun vs H Q E h => ?_) (fun cdv A outer s H vs Q E hr h => ?_)
  · obtain ⟨a, b, x, y, rfl, _⟩ := h
    rfl
  · obtain ⟨a, b, x, y, rfl, ha, hb, ⟨n, m, h1, h2, hs⟩, q⟩ := h
    refine ⟨_, pss_one (ps_ret (pe_cmpR op_lt (pe_op op_mulW (pe_ix ix_tup (pv 0) pe_int (fun _ _ => rfl)) (pe_ix ix_tup (pv 1) pe_int (fun _ _ => rfl))) (pe_op op_mulW (pe_ix ix_tup (pv 1) pe_int (fun _ _ => rfl)) (pe_ix ix_tup (pv 0) pe_int (fun _ _ => rfl))) (nomark _))), ?_⟩
    have d1 : (x.den : Int).natAbs < 2 ^ n := h1.2
    have d2 : (y.den : Int).natAbs < 2 ^ m := h2.2
    have fin : Q (.bl (decide (x.num * y.den < y.num * x.den))) H := by
      rw [lt_eq]
      exact q
    exact ⟨_, rfl, a, _, 0, _, rfl, rfl, IsF.sq ha, rfl, _, rfl, b, _, 1, _, rfl, rfl, IsF.sq hb, rfl, _, _, rfl, rfl, mulW h1.1 d2 (by omega),
      _, rfl, b, _, 0, _, rfl, rfl, IsF.sq hb, rfl, _, rfl, a, _, 1, _, rfl, rfl, IsF.sq ha, rfl, _, _, rfl, rfl, mulW h2.1 d1 (by omega), _, _, rfl, rfl, fin⟩
/-! ### is_fraction, of a reduced pair -/
def spFraction : Sp := fun vs H Q _ => ∃ (a : Addr) (x : Rat), vs = [.ref a] ∧ H a = some (frO x) ∧ Q (.bl true) H
theorem kTT : kitB "tuple" "tuple" = some true := by decide +kernel
theorem ok_fraction (F : Fun K "is_fraction" "is_fraction" sFraction f fd) (G : FnOk P w K mg base CX0 1 f2 fd2 ["thing"] (spWhole K)) (k2 : PySem.W.keepIn K (.ref f2) = true) (b2 : Binds K fd2 ["thing"] []) (g2 : mg "is_whole" = some (.ref f2))
    (gG : mg "gcd" = some (.builtin "math.gcd")) (mI : mg "isinstance" = none) (mt : mg "tuple" = none) (ml : mg "len" = none) : FnOk P w K mg base CX0 2 f fd ["thing"] spFraction := by
  refine F.ok scFraction (fun vs H Q E h => ?_) (fun cdv A outer s H vs Q E hr h => ?_)
  · obtain ⟨a, x, rfl, _⟩ := h
    rfl
  · obtain ⟨a, x, rfl, ha, q⟩ := h
    have hd : 0 < x.den := Nat.pos_of_ne_zero x.den_nz
    refine ⟨_, pss_cons (ps_if (PW.pt (pw_or (pt_not (pt_val (pe_callB call_isi (by rfl) mI (by decide +kernel) (pa_cons (pv 0) (pa_cons (pe_bltn (v := .ty "tuple") (by rfl) mt (by decide +kernel) rfl) pa_nil)))))
        (pw_or1 (pt_cmpR op_ne (pe_callB call_len (by rfl) ml PySem.boot_len (pa_cons (pv 0) pa_nil)) pe_int (nomark _))))) (pss_one (ps_ret pe_bl)) pss_nil)
      (pss_cons (ps_asg (pv 0) (pg_tup (by rfl) (pgs_cons (pg_name (i := 1) scFraction.nd rfl (.inl rfl)) (pgs_cons (pg_name (i := 2) scFraction.nd rfl (.inl rfl)) pgs_nil))))
      (pss_one (ps_ret (pe_and (pe_call G hr (by rfl) g2 k2 b2 .nil pass0 (pa_cons (pv 1) pa_nil)) (pe_and (pe_call G hr (by rfl) g2 k2 b2 .nil pass0 (pa_cons (pv 2) pa_nil)) (pe_and (pe_cmpR op_ge (pv 2) pe_int (nomark _))
        (pe_one (pe_cmpR op_eq (pe_callBfun cr_gcd (by rfl) gG (pa_cons (pv 1) (pa_cons (pv 2) pa_nil))) pe_int (nomark _))))))))), ?_⟩
    refine ⟨_, rfl, .ref a, .ty "tuple", _, _, true, rfl, .ty "tuple", .base (.tup ha), kit_ty kTT, true, rfl, ?_⟩
    refine iteF ⟨_, rfl, .ref a, 2, rfl, .inr ⟨_, IsF.sq ha, rfl⟩, rfl, _, rfl, iteF ?_⟩
    refine ⟨_, rfl, a, _, rfl, IsF.sq ha, rfl, _, _, rfl, _, _, rfl, rfl, ?_⟩
    refine ⟨_, rfl, _, "int", true, false, rfl, tyI K H _, kII, kIB, true, rfl, iteT ?_⟩
    refine ⟨_, rfl, _, "int", true, false, rfl, tyI K H _, kII, kIB, true, rfl, iteT ?_⟩
    refine ⟨_, rfl, _, _, rfl, rfl, true, ?_, iteT ?_⟩
    · show V.bl (decide ((1 : Int) ≤ x.den)) = V.bl true
      rw [decide_eq_true (show (1 : Int) ≤ x.den by omega)]
    · refine ⟨_, rfl, _, rfl, _, _, rfl, rfl, ?_⟩
      rw [show Nat.gcd x.num.natAbs (x.den : Int).natAbs = 1 from red_self, decide_eq_true (by rfl)]
      exact q
end
end K5
namespace K5
open PySem PySem.Spec PyProof.Rows L2 Evl Fx Fr
abbrev sTwo : Stmt := topS 23
abbrev sThree : Stmt := topS 24
theorem scTwo : FnScope ["_law_a", "_law_b", "_law_part"] ["_law_a", "_law_b"] (defScope sTwo) := ⟨rfl, rfl, rfl, by decide +kernel, rfl, by decide +kernel, by decide +kernel⟩
theorem scThree : FnScope ["_law_a", "_law_b", "_law_c"] ["_law_a", "_law_b", "_law_c"] (defScope sThree) := ⟨rfl, rfl, rfl, by decide +kernel, rfl, by decide +kernel, by decide +kernel⟩
section
variable {P : Program} {w : World} {K : PySem.W.Frag} {mg : Str → Option Value} {base : Heap} {f : Addr} {fd : FuncData}
/-- the checks: of pairs within bounds, True -/
def spThree : Sp := fun vs H Q _ => ∃ (a b c : Addr) (x y z : Rat), vs = [.ref a, .ref b, .ref c] ∧ H a = some (frO x) ∧ H b = some (frO y) ∧ H c = some (frO z) ∧ Bd 60 x ∧ Bd 60 y ∧ Bd 60 z ∧ ∀ H', Ex H H' → Q (.bl true) H'
def spTwo : Sp := fun vs H Q _ => ∃ (a b : Addr) (x y : Rat), vs = [.ref a, .ref b] ∧ H a = some (frO x) ∧ H b = some (frO y) ∧ Bd 60 x ∧ Bd 60 y ∧ ∀ H', Ex H H' → Q (.bl true) H'

theorem ok_three (F : Fun K "_law_check_three" "_law_check_three" sThree f fd) (cP : C8.Cal P w K mg base 2 "plus" (spF2 (okB 1) (· + ·)) []) (cM : C8.Cal P w K mg base 2 "minus" (spF2 (okB 1) (· - ·)) [])
    (cT : C8.Cal P w K mg base 2 "times" (spF2 (okB 1) (· * ·)) []) (cL : C8.Cal P w K mg base 1 "is_less" (spB2 (okB 1) (fun x y => decide (x < y))) []) : FnOk P w K mg base CX0 3 f fd ["_law_a", "_law_b", "_law_c"] spThree := by
  refine F.ok scThree (fun vs H Q E h => ?_) (fun cdv A outer s H vs Q E hr h => ?_)
  · obtain ⟨a, b, c, x, y, z, rfl, _⟩ := h
    rfl
  · obtain ⟨a, b, c, x, y, z, rfl, ha, hb, hc, hx, hy, hz, q⟩ := h
    refine ⟨_, (pss_cons (ps_if (PW.pt (pw_or (pt_cmpR (op_neD hr.units) (C8.pe_c cP hr (by decide) (by rfl) (pa_cons (C8.pe_c cP hr (by decide) (by rfl) (pa_cons (pv 0) (pa_cons (pv 1) pa_nil))) (pa_cons (pv 2) pa_nil))) (C8.pe_c cP hr (by decide) (by rfl) (pa_cons (pv 0) (pa_cons (C8.pe_c cP hr (by decide) (by rfl) (pa_cons (pv 1) (pa_cons (pv 2) pa_nil))) pa_nil))) (nomark _)) (pw_or1 (pt_cmpR (op_neD hr.units) (C8.pe_c cT hr (by decide) (by rfl) (pa_cons (C8.pe_c cT hr (by decide) (by rfl) (pa_cons (pv 0) (pa_cons (pv 1) pa_nil))) (pa_cons (pv 2) pa_nil))) (C8.pe_c cT hr (by decide) (by rfl) (pa_cons (pv 0) (pa_cons (C8.pe_c cT hr (by decide) (by rfl) (pa_cons (pv 1) (pa_cons (pv 2) pa_nil))) pa_nil))) (nomark _))))) (pss_one (ps_ret pe_bl)) pss_nil)
      (pss_cons (ps_if (pt_cmpR (op_neD hr.units) (C8.pe_c cT hr (by decide) (by rfl) (pa_cons (pv 0) (pa_cons (C8.pe_c cP hr (by decide) (by rfl) (pa_cons (pv 1) (pa_cons (pv 2) pa_nil))) pa_nil))) (C8.pe_c cP hr (by decide) (by rfl) (pa_cons (C8.pe_c cT hr (by decide) (by rfl) (pa_cons (pv 0) (pa_cons (pv 1) pa_nil))) (pa_cons (C8.pe_c cT hr (by decide) (by rfl) (pa_cons (pv 0) (pa_cons (pv 2) pa_nil))) pa_nil))) (nomark _)) (pss_one (ps_ret pe_bl)) pss_nil)
      (pss_cons (ps_if (pt_cmpR (op_neD hr.units) (C8.pe_c cT hr (by decide) (by rfl) (pa_cons (C8.pe_c cM hr (by decide) (by rfl) (pa_cons (pv 0) (pa_cons (pv 1) pa_nil))) (pa_cons (pv 2) pa_nil))) (C8.pe_c cM hr (by decide) (by rfl) (pa_cons (C8.pe_c cT hr (by decide) (by rfl) (pa_cons (pv 0) (pa_cons (pv 2) pa_nil))) (pa_cons (C8.pe_c cT hr (by decide) (by rfl) (pa_cons (pv 1) (pa_cons (pv 2) pa_nil))) pa_nil))) (nomark _)) (pss_one (ps_ret pe_bl)) pss_nil)
      (pss_cons (ps_if (pt_cmpR op_ne (C8.pe_c cL hr (by decide) (by rfl) (pa_cons (pv 0) (pa_cons (pv 1) pa_nil))) (C8.pe_c cL hr (by decide) (by rfl) (pa_cons (C8.pe_c cP hr (by decide) (by rfl) (pa_cons (pv 0) (pa_cons (pv 2) pa_nil))) (pa_cons (C8.pe_c cP hr (by decide) (by rfl) (pa_cons (pv 1) (pa_cons (pv 2) pa_nil))) pa_nil))) (nomark _)) (pss_one (ps_ret pe_bl)) pss_nil)
      (pss_cons (ps_if (PW.pt (pw_and (pt_cmpR op_gt (pe_ix ix_tup (pv 2) pe_int (fun _ _ => rfl)) pe_int (nomark _)) (pw_and1 (pt_cmpR op_ne (C8.pe_c cL hr (by decide) (by rfl) (pa_cons (pv 0) (pa_cons (pv 1) pa_nil))) (C8.pe_c cL hr (by decide) (by rfl) (pa_cons (C8.pe_c cT hr (by decide) (by rfl) (pa_cons (pv 0) (pa_cons (pv 2) pa_nil))) (pa_cons (C8.pe_c cT hr (by decide) (by rfl) (pa_cons (pv 1) (pa_cons (pv 2) pa_nil))) pa_nil))) (nomark _))))) (pss_one (ps_ret pe_bl)) pss_nil)
      (pss_cons (ps_if (PW.pt (pw_and (pt_cmpR op_lt (pe_ix ix_tup (pv 2) pe_int (fun _ _ => rfl)) pe_int (nomark _)) (pw_and1 (pt_cmpR op_ne (C8.pe_c cL hr (by decide) (by rfl) (pa_cons (pv 0) (pa_cons (pv 1) pa_nil))) (C8.pe_c cL hr (by decide) (by rfl) (pa_cons (C8.pe_c cT hr (by decide) (by rfl) (pa_cons (pv 1) (pa_cons (pv 2) pa_nil))) (pa_cons (C8.pe_c cT hr (by decide) (by rfl) (pa_cons (pv 0) (pa_cons (pv 2) pa_nil))) pa_nil))) (nomark _))))) (pss_one (ps_ret pe_bl)) pss_nil)
      (pss_one (ps_ret (pe_or (pe_not (C8.pe_c cL hr (by decide) (by rfl) (pa_cons (pv 0) (pa_cons (pv 1) pa_nil)))) (pe_or (pe_not (C8.pe_c cL hr (by decide) (by rfl) (pa_cons (pv 1) (pa_cons (pv 2) pa_nil)))) (pe_one (C8.pe_c cL hr (by decide) (by rfl) (pa_cons (pv 0) (pa_cons (pv 2) pa_nil)))))))))))))), ?_⟩
    have va : EvP (tVar 0) (start ["_law_a", "_law_b", "_law_c"] [.ref a, .ref b, .ref c]) H (IsF x) := evF_var rfl ha
    have vb : EvP (tVar 1) (start ["_law_a", "_law_b", "_law_c"] [.ref a, .ref b, .ref c]) H (IsF y) := evF_var rfl hb
    have vc : EvP (tVar 2) (start ["_law_a", "_law_b", "_law_c"] [.ref a, .ref b, .ref c]) H (IsF z) := evF_var rfl hc
    have f0 : ((!decide (((x + y) + z) = (x + (y + z)))) || (!decide (((x * y) * z) = (x * (y * z))))) = false := by
      rw [decide_eq_true (Rat.add_assoc x y z), decide_eq_true (Rat.mul_assoc x y z)]
      rfl
    refine q_when (et_is (et_or (et_test (ev_neF (evF_call (evF_call va vb ⟨_, _, hx, hy, by decide⟩) vc ⟨_, _, (bd_add hx hy), hz, by decide⟩) (evF_call va (evF_call vb vc ⟨_, _, hy, hz, by decide⟩) ⟨_, _, hx, (bd_add hy hz), by decide⟩))) fun _ => (et_test (ev_neF (evF_call (evF_call va vb ⟨_, _, hx, hy, by decide⟩) vc ⟨_, _, (bd_mul hx hy), hz, by decide⟩) (evF_call va (evF_call vb vc ⟨_, _, hy, hz, by decide⟩) ⟨_, _, hx, (bd_mul hy hz), by decide⟩)))) f0) (fun h => Bool.noConfusion h) (fun _ H1 e1 => ?_)
    replace va := va.mono e1
    replace vb := vb.mono e1
    replace vc := vc.mono e1
    have f1 : (!decide ((x * (y + z)) = ((x * y) + (x * z)))) = false := nf (decide_eq_true (by grind))
    refine q_when (et_is (et_test (ev_neF (evF_call va (evF_call vb vc ⟨_, _, hy, hz, by decide⟩) ⟨_, _, hx, (bd_add hy hz), by decide⟩) (evF_call (evF_call va vb ⟨_, _, hx, hy, by decide⟩) (evF_call va vc ⟨_, _, hx, hz, by decide⟩) ⟨_, _, (bd_mul hx hy), (bd_mul hx hz), by decide⟩))) f1) (fun h => Bool.noConfusion h) (fun _ H2 e2 => ?_)
    replace va := va.mono e2
    replace vb := vb.mono e2
    replace vc := vc.mono e2
    have f2 : (!decide (((x - y) * z) = ((x * z) - (y * z)))) = false := nf (decide_eq_true (by grind))
    refine q_when (et_is (et_test (ev_neF (evF_call (evF_call va vb ⟨_, _, hx, hy, by decide⟩) vc ⟨_, _, (bd_sub hx hy), hz, by decide⟩) (evF_call (evF_call va vc ⟨_, _, hx, hz, by decide⟩) (evF_call vb vc ⟨_, _, hy, hz, by decide⟩) ⟨_, _, (bd_mul hx hz), (bd_mul hy hz), by decide⟩))) f2) (fun h => Bool.noConfusion h) (fun _ H3 e3 => ?_)
    replace va := va.mono e3
    replace vb := vb.mono e3
    replace vc := vc.mono e3
    have f3 : (!decide ((decide (x < y)) = (decide ((x + z) < (y + z))))) = false := nf (decide_eq_true (dd (lt_add x y z)))
    refine q_when (et_is (et_test (ev_neB (ev_callB va vb ⟨_, _, hx, hy, by decide⟩) (ev_callB (evF_call va vc ⟨_, _, hx, hz, by decide⟩) (evF_call vb vc ⟨_, _, hy, hz, by decide⟩) ⟨_, _, (bd_add hx hz), (bd_add hy hz), by decide⟩))) f3) (fun h => Bool.noConfusion h) (fun _ H4 e4 => ?_)
    replace va := va.mono e4
    replace vb := vb.mono e4
    replace vc := vc.mono e4
    have f4 : ((decide (0 < z.num)) && (!decide ((decide (x < y)) = (decide ((x * z) < (y * z)))))) = false := by
      by_cases h : 0 < z.num
      · rw [decide_eq_true (dd (lt_mul (num_pos.mp h)))]
        simp
      · rw [decide_eq_false h]
        rfl
    refine q_when (et_is (et_and (et_test (ev_gt (ev_ix0 vc) ev_c)) fun _ => (et_test (ev_neB (ev_callB va vb ⟨_, _, hx, hy, by decide⟩) (ev_callB (evF_call va vc ⟨_, _, hx, hz, by decide⟩) (evF_call vb vc ⟨_, _, hy, hz, by decide⟩) ⟨_, _, (bd_mul hx hz), (bd_mul hy hz), by decide⟩)))) f4) (fun h => Bool.noConfusion h) (fun _ H5 e5 => ?_)
    replace va := va.mono e5
    replace vb := vb.mono e5
    replace vc := vc.mono e5
    have f5 : ((decide (z.num < 0)) && (!decide ((decide (x < y)) = (decide ((y * z) < (x * z)))))) = false := by
      by_cases h : z.num < 0
      · rw [decide_eq_true (dd (lt_mul_neg (num_neg.mp h)))]
        simp
      · rw [decide_eq_false h]
        rfl
    refine q_when (et_is (et_and (et_test (ev_lt (ev_ix0 vc) ev_c)) fun _ => (et_test (ev_neB (ev_callB va vb ⟨_, _, hx, hy, by decide⟩) (ev_callB (evF_call vb vc ⟨_, _, hy, hz, by decide⟩) (evF_call va vc ⟨_, _, hx, hz, by decide⟩) ⟨_, _, (bd_mul hy hz), (bd_mul hx hz), by decide⟩)))) f5) (fun h => Bool.noConfusion h) (fun _ H6 e6 => ?_)
    replace va := va.mono e6
    replace vb := vb.mono e6
    replace vc := vc.mono e6
    have fz : ((!(decide (x < y))) || ((!(decide (y < z))) || (decide (x < z)))) = true := by
      by_cases h1 : x < y
      · by_cases h2 : y < z
        · rw [decide_eq_true (show x < z by grind)]
          simp
        · rw [decide_eq_false h2]
          simp
      · rw [decide_eq_false h1]
        rfl
    exact s_ret (ev_is (ev_orV (ev_notV (ev_callB va vb ⟨_, _, hx, hy, by decide⟩)) fun _ => (ev_orV (ev_notV (ev_callB vb vc ⟨_, _, hy, hz, by decide⟩)) fun _ => (ev_callB va vc ⟨_, _, hx, hz, by decide⟩))) (congrArg V.bl fz)) fun H9 e9 => q H9 (e1.trans (e2.trans (e3.trans (e4.trans (e5.trans (e6.trans e9))))))

theorem ok_two (F : Fun K "_law_check_two" "_law_check_two" sTwo f fd) (cP : C8.Cal P w K mg base 2 "plus" (spF2 (okB 1) (· + ·)) []) (cM : C8.Cal P w K mg base 2 "minus" (spF2 (okB 1) (· - ·)) [])
    (cT : C8.Cal P w K mg base 2 "times" (spF2 (okB 1) (· * ·)) []) (cO : C8.Cal P w K mg base 2 "over" (spF2 okD (· / ·)) []) (cL : C8.Cal P w K mg base 1 "is_less" (spB2 (okB 1) (fun x y => decide (x < y))) []) (cD : C8.Cal P w K mg base 3 "made" (spI2F okR Rat.divInt) [])
    (cF : C8.Cal P w K mg base 2 "is_fraction" spFraction []) : FnOk P w K mg base CX0 4 f fd ["_law_a", "_law_b"] spTwo := by
  refine F.ok scTwo (fun vs H Q E h => ?_) (fun cdv A outer s H vs Q E hr h => ?_)
  · obtain ⟨a, b, x, y, rfl, _⟩ := h
    rfl
  · obtain ⟨a, b, x, y, rfl, ha, hb, hx, hy, q⟩ := h
    refine ⟨_, (pss_cons (ps_if (pt_cmpR (op_neD hr.units) (pe_lc (own := [("_law_part", 2)]) (g := gName 2) (by rfl) scTwo.nd (pi_tup (pe_tup (pa_cons (C8.pe_c cP hr (by decide) (by rfl) (pa_cons (pv 0) (pa_cons (pv 1) pa_nil))) (pa_cons (C8.pe_c cM hr (by decide) (by rfl) (pa_cons (pv 0) (pa_cons (pv 1) pa_nil))) (pa_cons (C8.pe_c cT hr (by decide) (by rfl) (pa_cons (pv 0) (pa_cons (pv 1) pa_nil))) pa_nil))))) (blkOk_by (own := [("_law_part", 2)]) (N := ["_law_a", "_law_b", "_law_part"]) (sc := defScope sTwo) (by decide +kernel)) (fun _ _ _ _ _ => pg_name (i := 2) scTwo.nd rfl (Or.inl rfl)) (fun _ _ _ _ _ => pts_one (pt_not (pt_val (C8.pe_c cF hr (by decide) (by rfl) (pa_cons (pv 2) pa_nil))))) (fun _ _ _ _ _ => (pv 2))) (pe_lst pa_nil) (nomark _)) (pss_one (ps_ret pe_bl)) pss_nil)
      (pss_cons (ps_if (PW.pt (pw_or (pt_cmpR (op_neD hr.units) (C8.pe_c cP hr (by decide) (by rfl) (pa_cons (pv 0) (pa_cons (pv 1) pa_nil))) (C8.pe_c cP hr (by decide) (by rfl) (pa_cons (pv 1) (pa_cons (pv 0) pa_nil))) (nomark _)) (pw_or (pt_cmpR (op_neD hr.units) (C8.pe_c cT hr (by decide) (by rfl) (pa_cons (pv 0) (pa_cons (pv 1) pa_nil))) (C8.pe_c cT hr (by decide) (by rfl) (pa_cons (pv 1) (pa_cons (pv 0) pa_nil))) (nomark _)) (pw_or1 (pt_cmpR (op_neD hr.units) (C8.pe_c cM hr (by decide) (by rfl) (pa_cons (C8.pe_c cP hr (by decide) (by rfl) (pa_cons (pv 0) (pa_cons (pv 1) pa_nil))) (pa_cons (pv 1) pa_nil))) (pv 0) (nomark _)))))) (pss_one (ps_ret pe_bl)) pss_nil)
      (pss_cons (ps_if (pt_cmpR (op_neD hr.units) (C8.pe_c cP hr (by decide) (by rfl) (pa_cons (C8.pe_c cM hr (by decide) (by rfl) (pa_cons (pv 0) (pa_cons (pv 1) pa_nil))) (pa_cons (pv 1) pa_nil))) (pv 0) (nomark _)) (pss_one (ps_ret pe_bl)) pss_nil)
      (pss_cons (ps_if (PW.pt (pw_or (pt_cmpR (op_neD hr.units) (C8.pe_c cM hr (by decide) (by rfl) (pa_cons (pv 0) (pa_cons (pv 1) pa_nil))) (C8.pe_c cM hr (by decide) (by rfl) (pa_cons (pe_tup (pa_cons pe_int (pa_cons pe_int pa_nil))) (pa_cons (C8.pe_c cM hr (by decide) (by rfl) (pa_cons (pv 1) (pa_cons (pv 0) pa_nil))) pa_nil))) (nomark _)) (pw_or1 (pt_cmpR op_ne (pe_cmpR (op_eqD hr.units) (pv 0) (pv 1) (nomark _)) (pe_cmpR (op_eqD hr.units) (C8.pe_c cM hr (by decide) (by rfl) (pa_cons (pv 0) (pa_cons (pv 1) pa_nil))) (pe_tup (pa_cons pe_int (pa_cons pe_int pa_nil))) (nomark _)) (nomark _))))) (pss_one (ps_ret pe_bl)) pss_nil)
      (pss_cut (ps_if (pt_cmpR (op_neD hr.units) (pv 1) (pe_tup (pa_cons pe_int (pa_cons pe_int pa_nil))) (nomark _)) (pss_cons (ps_if (PW.pt (pw_or (pt_cmpR (op_neD hr.units) (C8.pe_c cO hr (by decide) (by rfl) (pa_cons (C8.pe_c cT hr (by decide) (by rfl) (pa_cons (pv 0) (pa_cons (pv 1) pa_nil))) (pa_cons (pv 1) pa_nil))) (pv 0) (nomark _)) (pw_or (pt_cmpR (op_neD hr.units) (C8.pe_c cT hr (by decide) (by rfl) (pa_cons (C8.pe_c cO hr (by decide) (by rfl) (pa_cons (pv 0) (pa_cons (pv 1) pa_nil))) (pa_cons (pv 1) pa_nil))) (pv 0) (nomark _)) (pw_or1 (pt_cmpR (op_neD hr.units) (C8.pe_c cO hr (by decide) (by rfl) (pa_cons (pv 1) (pa_cons (pv 1) pa_nil))) (pe_tup (pa_cons pe_int (pa_cons pe_int pa_nil))) (nomark _)))))) (pss_one (ps_ret pe_bl)) pss_nil)
      (pss_one (ps_if (pt_cmpR (op_neD hr.units) (C8.pe_c cO hr (by decide) (by rfl) (pa_cons (pv 0) (pa_cons (pv 1) pa_nil))) (C8.pe_c cT hr (by decide) (by rfl) (pa_cons (pv 0) (pa_cons (C8.pe_c cO hr (by decide) (by rfl) (pa_cons (pe_tup (pa_cons pe_int (pa_cons pe_int pa_nil))) (pa_cons (pv 1) pa_nil))) pa_nil))) (nomark _)) (pss_one (ps_ret pe_bl)) pss_nil))) pss_nil)
      (pss_cons (ps_if (pt_cmpR op_ne (pe_bm PySem.F.plainAttrs_list PySem.F.slot_list_count PySem.F.type_list_count mt_countB (pe_lst (pa_cons (C8.pe_c cL hr (by decide) (by rfl) (pa_cons (pv 0) (pa_cons (pv 1) pa_nil))) (pa_cons (pe_cmpR (op_eqD hr.units) (pv 0) (pv 1) (nomark _)) (pa_cons (C8.pe_c cL hr (by decide) (by rfl) (pa_cons (pv 1) (pa_cons (pv 0) pa_nil))) pa_nil)))) (pa_cons pe_bl pa_nil)) pe_int (nomark _)) (pss_one (ps_ret pe_bl)) pss_nil)
      (pss_cons (ps_if (pt_cmpR op_ne (C8.pe_c cL hr (by decide) (by rfl) (pa_cons (pv 0) (pa_cons (pv 1) pa_nil))) (pe_cmpR op_lt (pe_ix ix_tup (C8.pe_c cM hr (by decide) (by rfl) (pa_cons (pv 0) (pa_cons (pv 1) pa_nil))) pe_int (fun _ _ => rfl)) pe_int (nomark _)) (nomark _)) (pss_one (ps_ret pe_bl)) pss_nil)
      (pss_cons (ps_if (PW.pt (pw_or (pt_cmpR (op_neD hr.units) (C8.pe_c cD hr (by decide) (by rfl) (pa_cons (pe_op op_mulW (pe_ix ix_tup (pv 0) pe_int (fun _ _ => rfl)) (pe_ix ix_tup (pv 1) pe_int (fun _ _ => rfl))) (pa_cons (pe_op op_mulW (pe_ix ix_tup (pv 0) pe_int (fun _ _ => rfl)) (pe_ix ix_tup (pv 1) pe_int (fun _ _ => rfl))) pa_nil))) (pv 0) (nomark _)) (pw_or1 (pt_cmpR (op_neD hr.units) (C8.pe_c cD hr (by decide) (by rfl) (pa_cons (pe_op op_sub pe_int (pe_ix ix_tup (pv 0) pe_int (fun _ _ => rfl))) (pa_cons (pe_op op_sub pe_int (pe_ix ix_tup (pv 0) pe_int (fun _ _ => rfl))) pa_nil))) (pv 0) (nomark _))))) (pss_one (ps_ret pe_bl)) pss_nil)
      (pss_one (ps_ret (pe_and (pe_cmpR (op_eqD hr.units) (C8.pe_c cT hr (by decide) (by rfl) (pa_cons (pv 0) (pa_cons (pe_tup (pa_cons pe_int (pa_cons pe_int pa_nil))) pa_nil))) (pv 0) (nomark _)) (pe_one (pe_cmpR (op_eqD hr.units) (C8.pe_c cT hr (by decide) (by rfl) (pa_cons (pv 0) (pa_cons (pe_tup (pa_cons pe_int (pa_cons pe_int pa_nil))) pa_nil))) (pe_tup (pa_cons pe_int (pa_cons pe_int pa_nil))) (nomark _)))))))))))))), ?_⟩
    have va : EvP (tVar 0) (start ["_law_a", "_law_b", "_law_part"] [.ref a, .ref b]) H (IsF x) := evF_var rfl ha
    have vb : EvP (tVar 1) (start ["_law_a", "_law_b", "_law_part"] [.ref a, .ref b]) H (IsF y) := evF_var rfl hb
    have l0 := el_lcTno (K := K) (te := tVar 2) (t := tNot (tB (tCall spFraction [] E0 (tCons (tVar 2) tNil)))) (j := 2) (vs := [2]) IsF.monoE (evp_tup3 IsF.monoE (IsF.ofP (evF_call (ok := okB 1) (f := (· + ·)) (E := E0) va vb ⟨_, _, hx, hy, by decide⟩)) (IsF.ofP (evF_call (ok := okB 1) (f := (· - ·)) (E := E0) va vb ⟨_, _, hx, hy, by decide⟩)) (IsF.ofP (evF_call (ok := okB 1) (f := (· * ·)) (E := E0) va vb ⟨_, _, hx, hy, by decide⟩))) (fun _ => rfl)
      (fun x0 H1 _ ⟨r, p, ep, hp⟩ => by
        subst ep
        exact et_not (a := true) (et_B fun H2 e2 Q2 q2 => ⟨_, rfl, p, r, rfl, e2 _ _ hp, q2 H2 (Ex.refl _)⟩))
    refine q_when (et_test (ev_neL0 l0 (el_lst ea_nil (by show 0 ≤ 100000; decide)))) (fun h => Bool.noConfusion h) (fun _ H1 e1 => ?_)
    replace va := va.mono e1
    replace vb := vb.mono e1
    have f1 : ((!decide ((x + y) = (y + x))) || ((!decide ((x * y) = (y * x))) || (!decide (((x + y) - y) = x)))) = false := by
      rw [decide_eq_true (Rat.add_comm x y), decide_eq_true (Rat.mul_comm x y), decide_eq_true (show x + y - y = x by grind)]
      rfl
    refine q_when (et_is (et_or (et_test (ev_neF (evF_call va vb ⟨_, _, hx, hy, by decide⟩) (evF_call vb va ⟨_, _, hy, hx, by decide⟩))) fun _ => (et_or (et_test (ev_neF (evF_call va vb ⟨_, _, hx, hy, by decide⟩) (evF_call vb va ⟨_, _, hy, hx, by decide⟩))) fun _ => (et_test (ev_neF (evF_call (evF_call va vb ⟨_, _, hx, hy, by decide⟩) vb ⟨_, _, (bd_add hx hy), hy, by decide⟩) va)))) f1) (fun h => Bool.noConfusion h) (fun _ H2 e2 => ?_)
    replace va := va.mono e2
    replace vb := vb.mono e2
    have f2 : (!decide (((x - y) + y) = x)) = false := nf (decide_eq_true (by grind))
    refine q_when (et_is (et_test (ev_neF (evF_call (evF_call va vb ⟨_, _, hx, hy, by decide⟩) vb ⟨_, _, (bd_sub hx hy), hy, by decide⟩) va)) f2) (fun h => Bool.noConfusion h) (fun _ H3 e3 => ?_)
    replace va := va.mono e3
    replace vb := vb.mono e3
    have f3 : ((!decide ((x - y) = ((0 : Rat) - (y - x)))) || (!decide ((decide (x = y)) = (decide ((x - y) = (0 : Rat)))))) = false := by
      rw [decide_eq_true (show x - y = 0 - (y - x) by grind), decide_eq_true (dd (show x = y ↔ x - y = 0 by grind))]
      rfl
    refine q_when (et_is (et_or (et_test (ev_neF (evF_call va vb ⟨_, _, hx, hy, by decide⟩) (evF_call (evF_tup (r := 0) rfl rfl ev_c ev_c) (evF_call vb va ⟨_, _, hy, hx, by decide⟩) ⟨_, _, bd0, (bd_sub hy hx), by decide⟩))) fun _ => (et_test (ev_neB (ev_eqF va vb) (ev_eqF (evF_call va vb ⟨_, _, hx, hy, by decide⟩) (evF_tup (r := 0) rfl rfl ev_c ev_c))))) f3) (fun h => Bool.noConfusion h) (fun _ H4 e4 => ?_)
    replace va := va.mono e4
    replace vb := vb.mono e4
    refine q_cut (M := fun σ' H' => σ' = start ["_law_a", "_law_b", "_law_part"] [.ref a, .ref b] ∧ Ex H4 H') (s_when (et_test (ev_neF vb (evF_tup (r := 0) rfl rfl ev_c ev_c))) (fun h H5 e5 => ?_) (fun _ H5 e5 => ⟨rfl, e5⟩)) ?_
    · have nz : y ≠ 0 := fun z => by
        rw [decide_eq_true z] at h
        exact Bool.noConfusion h
      replace va := va.mono e5
      replace vb := vb.mono e5
      have g1 : ((!decide (((x * y) / y) = x)) || ((!decide (((x / y) * y) = x)) || (!decide ((y / y) = (1 : Rat))))) = false := by
        rw [decide_eq_true (show x * y / y = x by grind), decide_eq_true (show x / y * y = x by grind), decide_eq_true (show y / y = 1 by grind)]
        rfl
      refine q_when (et_is (et_or (et_test (ev_neF (evF_call (evF_call va vb ⟨_, _, hx, hy, by decide⟩) vb ⟨⟨_, _, (bd_mul hx hy), hy, by decide⟩, nz⟩) va)) fun _ => (et_or (et_test (ev_neF (evF_call (evF_call va vb ⟨⟨_, _, hx, hy, by decide⟩, nz⟩) vb ⟨_, _, (bd_quo hx hy nz), hy, by decide⟩) va)) fun _ => (et_test (ev_neF (evF_call vb vb ⟨⟨_, _, hy, hy, by decide⟩, nz⟩) (evF_tup (r := 1) rfl rfl ev_c ev_c))))) g1) (fun h => Bool.noConfusion h) (fun _ H6 e6 => ?_)
      replace va := va.mono e6
      replace vb := vb.mono e6
      have nz1 := nz
      have g2 : (!decide ((x / y) = (x * ((1 : Rat) / y)))) = false := nf (decide_eq_true (by grind))
      exact s_when (et_is (et_test (ev_neF (evF_call va vb ⟨⟨_, _, hx, hy, by decide⟩, nz⟩) (evF_call va (evF_call (evF_tup (r := 1) rfl rfl ev_c ev_c) vb ⟨⟨_, _, bd1, hy, by decide⟩, nz⟩) ⟨_, _, hx, (bd_quo bd1 hy nz), by decide⟩))) g2) (fun h => Bool.noConfusion h) (fun _ H7 e7 => ⟨rfl, e5.trans (e6.trans e7)⟩)
    rintro σ5 H5 ⟨rfl, e5⟩
    replace va := va.mono e5
    replace vb := vb.mono e5
    have cl : EvL (tLst (tCons _ (tCons _ (tCons _ tNil)))) (start ["_law_a", "_law_b", "_law_part"] [.ref a, .ref b]) H5 ([(decide (x < y)), (decide (x = y)), (decide (y < x))].map V.bl) := el_lst (ea_cons (ev_callB (ok := okB 1) (f := fun x y => decide (x < y)) (E := E0) va vb ⟨_, _, hx, hy, by decide⟩) (ea_cons (ev_eqF (K := K) va vb) (ea_cons (ev_callB (ok := okB 1) (f := fun x y => decide (x < y)) (E := E0) vb va ⟨_, _, hy, hx, by decide⟩) ea_nil))) (by show 3 ≤ 100000; decide)
    have g5 : (!decide (((([(decide (x < y)), (decide (x = y)), (decide (y < x))] : List Bool).count true : Nat) : Int) = 1)) = false := by
      rcases (show x < y ∨ x = y ∨ y < x by grind) with h | h | h
      · rw [decide_eq_true h, decide_eq_false (show ¬ x = y by grind), decide_eq_false (show ¬ y < x by grind)]
        rfl
      · rw [decide_eq_false (show ¬ x < y by grind), decide_eq_true h, decide_eq_false (show ¬ y < x by grind)]
        rfl
      · rw [decide_eq_false (show ¬ x < y by grind), decide_eq_false (show ¬ x = y by grind), decide_eq_true h]
        rfl
    refine q_when (et_is (et_test (ev_neI (ev_countB cl) ev_c)) g5) (fun h => Bool.noConfusion h) (fun _ H6 e6 => ?_)
    replace va := va.mono e6
    replace vb := vb.mono e6
    have g6 : (!decide ((decide (x < y)) = (decide ((x - y).num < 0)))) = false := nf (decide_eq_true (dd (show x < y ↔ (x - y).num < 0 by
      rw [num_neg]
      grind)))
    refine q_when (et_is (et_test (ev_neB (ev_callB va vb ⟨_, _, hx, hy, by decide⟩) (ev_lt (ev_ix0 (evF_call va vb ⟨_, _, hx, hy, by decide⟩)) ev_c))) g6) (fun h => Bool.noConfusion h) (fun _ H7 e7 => ?_)
    replace va := va.mono e7
    replace vb := vb.mono e7
    have d1 : (x.den : Int).natAbs < 2 ^ 60 := hx.2
    have d2 : (y.den : Int).natAbs < 2 ^ 60 := hy.2
    have m1 := (evF_callI (f := Rat.divInt) (E := E0) (ok := okR) (ev_mul (ev_ix0 (K := K) va) (ev_ix1 (K := K) vb) hx.1 d2 (by decide)) (ev_mul (ev_ix1 (K := K) va) (ev_ix1 (K := K) vb) d1 d2 (by decide)) ⟨Int.mul_ne_zero (den_ne x) (den_ne y), lt_up (im_lt hx.1 d2) (by decide), lt_up (im_lt d1 d2) (by decide)⟩).cast (made_self x (den_ne y))
    have z1 : (0 - x.num).natAbs < 2 ^ 4000 := by
      rw [show (0 - x.num).natAbs = x.num.natAbs by omega]
      exact lt_up hx.1 (by decide)
    have z2 : (0 - (x.den : Int)).natAbs < 2 ^ 4000 := by
      rw [show (0 - (x.den : Int)).natAbs = (x.den : Int).natAbs by omega]
      exact lt_up d1 (by decide)
    have m2 := (evF_callI (f := Rat.divInt) (E := E0) (ok := okR) (ev_sub (ta := tC (.int 0)) ev_c (ev_ix0 (K := K) va)) (ev_sub (ta := tC (.int 0)) ev_c (ev_ix1 (K := K) va)) ⟨by have := den_ne x; omega, z1, z2⟩).cast (made_neg x)
    have g7 : ((!decide (x = x)) || (!decide (x = x))) = false := by
      rw [decide_eq_true rfl]
      rfl
    refine q_when (et_is (et_or (et_test (ev_neF (K := K) m1 va)) fun _ => et_test (ev_neF (K := K) m2 va)) g7) (fun h => Bool.noConfusion h) (fun _ H8 e8 => ?_)
    replace va := va.mono e8
    replace vb := vb.mono e8
    have fz : ((decide ((x * (1 : Rat)) = x)) && (decide ((x * (0 : Rat)) = (0 : Rat)))) = true := by
      rw [decide_eq_true (show x * 1 = x by grind), decide_eq_true (show x * 0 = 0 by grind)]
      rfl
    exact s_ret (ev_is (ev_andV (ev_eqF (evF_call va (evF_tup (r := 1) rfl rfl ev_c ev_c) ⟨_, _, hx, bd1, by decide⟩) va) fun _ => (ev_eqF (evF_call va (evF_tup (r := 0) rfl rfl ev_c ev_c) ⟨_, _, hx, bd0, by decide⟩) (evF_tup (r := 0) rfl rfl ev_c ev_c))) (congrArg V.bl fz)) fun H9 e9 => q H9 (e1.trans (e2.trans (e3.trans (e4.trans (e5.trans (e6.trans (e7.trans (e8.trans e9))))))))

end
end K5
namespace K5
open PySem PySem.Spec PyProof.Rows L2 Evl Fx Fr
abbrev sReader : Stmt := topS 20
abbrev sDraw : Stmt := topS 21
theorem scReader : FnScope ["_law_script"] ["_law_script"] (defScope sReader) := ⟨rfl, rfl, rfl, by decide +kernel, rfl, by decide +kernel, by decide +kernel⟩
theorem scDraw : FnScope ["_law_reader_here", "_law_many", "_law_calls", "_law_figure", "_law_spot", "_law_cells", "_law_cell", "_law_once"] ["_law_reader_here", "_law_many"] (defScope sDraw) := ⟨rfl, rfl, rfl, by decide +kernel, rfl, by decide +kernel, by decide +kernel⟩
section
variable {P : Program} {w : World} {K : PySem.W.Frag} {mg : Str → Option Value} {base : Heap} {f : Addr} {fd : FuncData}
theorem merge_rd (l : Addr) : mergeK ([] : List (Key × V)) [(.inr "cells", .ref l), (.inr "spot", .int 0), (.inr "rest", .int 0), (.inr "calls", .int 0)] = rdK l 0 0 0 := by
  show putK (putK (putK (putK ([] : List (Key × V)) (.inr "cells") (.ref l)) (.inr "spot") (.int 0)) (.inr "rest") (.int 0)) (.inr "calls") (.int 0) = rdK l 0 0 0
  have e1 : putK ([] : List (Key × V)) (.inr "cells") (.ref l) = [(.inr "cells", .ref l)] := putK_new _ valV_nil
  have e2 : putK ([(.inr "cells", .ref l)] : List (Key × V)) (.inr "spot") (.int 0) = [(.inr "cells", .ref l), (.inr "spot", .int 0)] := putK_new _ ((valV_neg n1).trans valV_nil)
  have e3 : putK ([(.inr "cells", .ref l), (.inr "spot", .int 0)] : List (Key × V)) (.inr "rest") (.int 0) = [(.inr "cells", .ref l), (.inr "spot", .int 0), (.inr "rest", .int 0)] := putK_new _ ((valV_neg n2).trans ((valV_neg n4).trans valV_nil))
  have e4 : putK ([(.inr "cells", .ref l), (.inr "spot", .int 0), (.inr "rest", .int 0)] : List (Key × V)) (.inr "calls") (.int 0) = rdK l 0 0 0 := putK_new _ ((valV_neg n3).trans ((valV_neg n5).trans ((valV_neg n6).trans valV_nil)))
  rw [e1, e2, e3, e4]
def spReader (K : PySem.W.Frag) : Sp := fun vs H Q _ => ∃ (a : Addr) (ns : List Int), vs = [.ref a] ∧ SqL K H a (ns.map V.int) ∧ ∀ H' d l, Ex H H' → RdAt H' d l 0 → Q (.ref d) H'
theorem ok_reader (F : Fun K "_law_reader" "_law_reader" sReader f fd) (m_list : mg "list" = none) : FnOk P w K mg base CX0 1 f fd ["_law_script"] (spReader K) := by
  refine F.ok scReader (fun vs H Q E h => ?_) (fun cdv A outer s H vs Q E hr h => ?_)
  · obtain ⟨a, ns, rfl, _⟩ := h
    rfl
  · obtain ⟨a, ns, rfl, hS, q⟩ := h
    refine ⟨_, pss_one (ps_ret (pe_disp (pps_cons pe_str (pe_callTy call_list_of (by rfl) m_list (by decide +kernel) (pa_cons (pe_slice sl_list (pv 0) po_none (po_some pe_int)) pa_nil)) (pps_cons pe_str pe_int (pps_cons pe_str pe_int (pps_cons pe_str pe_int pps_nil)))) (by rfl) (by rfl) (fun z => by cases z) (by decide))), ?_⟩
    intro p hp
    have s1 : Ex H (upd H p (.dK [])) := Ex.new hp
    -- list(script[:63])
    refine ⟨.ref a, rfl, 63, rfl, a, ns.map V.int, rfl, ex_l s1 hS, fun c hc => ?_⟩
    have s2 := Ex.new (o := HO.lst (cutV (ns.map V.int) none (some 63))) hc
    refine ⟨c, _, rfl, .inl (sq_of upd_same), fun l hl => ?_⟩
    have s3 := Ex.new (o := HO.lst (cutV (ns.map V.int) none (some 63))) hl
    have npc : p ≠ c := ne_of_none upd_same hc
    have npl : p ≠ l := ne_of_none (s2 p _ upd_same) hl
    refine ⟨by rw [upd_ne npl, upd_ne npc, upd_same], [(.inr "cells", .ref l), (.inr "spot", .int 0), (.inr "rest", .int 0), (.inr "calls", .int 0)], rfl, (by show 4 ≤ 15; decide), ?_⟩
    have em := merge_rd l
    have ec : cutV (ns.map V.int) none (some 63) = (ns.take 63).map V.int := by
      unfold cutV
      rw [HT.sIx_none, show HT.sIx (ns.map V.int).length (ns.map V.int).length (some 63) = min 63 (ns.map V.int).length from HT.sIx_nat _ _ 63, List.drop_zero, Nat.sub_zero, List.map_take]
      rw [List.take_eq_take_iff]
      omega
    refine q _ p l (fun b o hb => ?_) ⟨ns.take 63, 0, 0, 0, ?_, ?_, ?_, Int.le_refl 0, Int.le_refl 0, Int.le_refl 0⟩
    · rw [upd_ne (ne_of_none hb hp)]
      exact s3 _ _ (s2 _ _ (s1 _ _ hb))
    · rw [upd_same, em]
    · rw [upd_ne npl.symm, upd_same, ec]
    · rw [List.length_take]
      omega

theorem natAbs_lt64 {x : Int} (h0 : 0 ≤ x) (h : x < 2 ^ 64) : x.natAbs < 2 ^ 64 := by omega
theorem ok_draw (F : Fun K "_law_draw" "_law_draw" sDraw f fd) (m_int : mg "int" = none) (m_len : mg "len" = none) : FnOk P w K mg base CX0 1 f fd ["_law_reader_here", "_law_many"] spDraw := by
  refine F.ok scDraw (fun vs H Q E h => ?_) (fun cdv A outer s H vs Q E hr h => ?_)
  · obtain ⟨d, l, many, n, rfl, _⟩ := h
    rfl
  · obtain ⟨d, l, many, n, rfl, ⟨ns, sp, rest, calls, hd, hl, hn, hs0, hc0, hcn⟩, hn2, hm0, hm1, q⟩ := h
    have hu := hu_of hr
    have dv : ∀ i : Int, CDivW i many := fun i => wide_div (b := 60) hm0 (by omega) (by decide) (by decide)
    have nl : l ≠ d := ne_of hl hd (by intro z; cases z)
    have hL : ∀ o, (upd H d o) l = some (.lst (ns.map V.int)) := fun o => by
      rw [upd_ne nl]
      exact hl
    have rd : ∀ (a b : Int), 0 ≤ a → RdAt (upd H d (.dK (rdK l a b (calls + 1)))) d l (n + 1) := fun a b ha => ⟨ns, a, b, calls + 1, upd_same, hL _, hn, ha, by omega, by omega⟩
    have md : ∀ i : Int, 0 ≤ i % many ∧ i % many < many := fun i => ⟨Int.emod_nonneg i (by omega), Int.emod_lt_of_pos i hm0⟩
    refine ⟨_, (pss_cons (ps_set (i := 2) scDraw.nd rfl (.inl rfl) (pe_op op_add (pe_dget hu (pv 0) pe_str (fun _ _ => rfl)) pe_int))
      (pss_cons (ps_dput hu (pv 0) pe_str (pv 2) rfl)
      (pss_cons (ps_if (pt_cmpR op_gt (pe_dget hu (pv 0) pe_str (fun _ _ => rfl)) pe_int (nomark _)) (pss_cons (ps_set (i := 3) scDraw.nd rfl (.inl rfl) (pe_op op_mod (pe_callTy call_int1 (by rfl) m_int (by decide +kernel) (pa_cons (pe_dget hu (pv 0) pe_str (fun _ _ => rfl)) pa_nil)) (pv 1)))
      (pss_cons (ps_dput hu (pv 0) pe_str (pe_op op_fdivW (pe_dget hu (pv 0) pe_str (fun _ _ => rfl)) (pv 1)) rfl)
      (pss_one (ps_ret (pv 3))))) pss_nil)
      (pss_cons (ps_set (i := 4) scDraw.nd rfl (.inl rfl) (pe_dget hu (pv 0) pe_str (fun _ _ => rfl)))
      (pss_cons (ps_dput hu (pv 0) pe_str (pe_op op_add (pv 4) pe_int) rfl)
      (pss_cons (ps_set (i := 5) scDraw.nd rfl (.inl rfl) (pe_dget hu (pv 0) pe_str (fun _ _ => rfl)))
      (pss_cut (ps_set (i := 6) scDraw.nd rfl (.inl rfl) (pe_ifExp (pt_cmpR op_gt (pe_callB call_len (by rfl) m_len PySem.boot_len (pa_cons (pv 5) pa_nil)) pe_int (nomark _)) (pe_ix ix_list (pv 5) (pe_op op_mod (pe_callTy call_int1 (by rfl) m_int (by decide +kernel) (pa_cons (pv 4) pa_nil)) (pe_callB call_len (by rfl) m_len PySem.boot_len (pa_cons (pv 5) pa_nil))) (fun _ _ => rfl)) pe_int))
      (pss_cut (ps_if (PW.pt (pw_and (pt_cmpR op_lt (pv 4) (pe_callB call_len (by rfl) m_len PySem.boot_len (pa_cons (pv 5) pa_nil)) (nomark _)) (pw_and1 (pt_cmpR op_ge (pv 6) (pe_op op_pow pe_int pe_int) (nomark _))))) (pss_cons (ps_dput hu (pv 0) pe_str (pe_op op_fdivW (pv 6) (pv 1)) rfl)
      (pss_one (ps_ret (pe_op op_mod (pe_callTy call_int1 (by rfl) m_int (by decide +kernel) (pa_cons (pv 6) pa_nil)) (pv 1))))) pss_nil)
      (pss_cons (ps_set (i := 7) scDraw.nd rfl (.inl rfl) (pe_op op_mod (pe_callTy call_int1 (by rfl) m_int (by decide +kernel) (pa_cons (pe_op op_pow (pe_op op_add (pe_op op_add (pe_op op_mod (pe_callTy call_int1 (by rfl) m_int (by decide +kernel) (pa_cons (pv 6) pa_nil)) pe_int) (pe_op op_mulW pe_int (pv 2))) pe_int) pe_int) pa_nil)) pe_int))
      (pss_one (ps_ret (pe_op op_mod (pe_callTy call_int1 (by rfl) m_int (by decide +kernel) (pa_cons (pe_op op_fdivW (pe_op op_mod (pe_callTy call_int1 (by rfl) m_int (by decide +kernel) (pa_cons (pe_op op_pow (pe_op op_add (pv 7) (pe_op op_mulW (pe_op op_mulW pe_int (pv 2)) (pv 2))) pe_int) pa_nil)) pe_int) pe_int) pa_nil)) (pv 1))))))))))))), ?_⟩
    -- calls = reader["calls"] + 1; reader["calls"] = calls
    refine ⟨_, rfl, d, _, rfl, get_calls hd, _, _, rfl, rfl, ?_⟩
    refine ⟨_, rfl, _, rfl, d, _, rfl, dput_calls hd, ?_⟩
    -- if reader["rest"] > 0
    refine ⟨_, rfl, d, _, rfl, get_rest upd_same, _, _, rfl, rfl, _, rfl, ite2 (fun _ => ?_) (fun _ => ?_)⟩
    · refine ⟨_, rfl, d, _, rfl, get_rest upd_same, .inl ⟨_, rfl, _, rfl, _, _, rfl, rfl, hm0, ?_⟩⟩
      refine ⟨_, rfl, d, _, rfl, get_rest upd_same, _, rfl, _, _, rfl, rfl, dv _, _, rfl, d, _, rfl, dput_rest, ?_⟩
      exact ⟨_, rfl, q _ _ Kp.upd (rd _ _ hs0) (md _).1 (md _).2⟩
    · -- spot, cells
      refine ⟨_, rfl, d, _, rfl, get_spot upd_same, ?_⟩
      refine ⟨_, rfl, _, _, rfl, rfl, _, rfl, d, _, rfl, dput_spot, ?_⟩
      refine ⟨_, rfl, d, _, rfl, get_cells upd_same, ?_⟩
      -- cell
      refine q_cut (M := fun σ' H' => ∃ c : Int, σ' = [some (.ref d), some (.int many), some (.int (calls + 1)), none, some (.int sp), some (.ref l), some (.int c), none] ∧ H' = upd H d (.dK (rdK l (sp + 1) rest (calls + 1)))) ?_ ?_
      · refine ⟨_, rfl, .ref l, _, rfl, .inl ⟨_, sq_of (hL _), rfl⟩, _, _, rfl, rfl, _, rfl, ite2 (fun h => ?_) (fun _ => ⟨31, rfl, rfl⟩)⟩
        have hp : (0 : Int) < ((ns.map V.int).length : Int) := of_decide_eq_true h
        refine ⟨_, rfl, _, rfl, .inl ⟨_, rfl, _, rfl, .ref l, _, rfl, .inl ⟨_, sq_of (hL _), rfl⟩, _, _, rfl, rfl, hp, ?_⟩⟩
        have b1 := Int.emod_nonneg sp (show ((ns.map V.int).length : Int) ≠ 0 by omega)
        have b2 := Int.emod_lt_of_pos sp hp
        have hj : (sp % ((ns.map V.int).length : Int)).toNat < ns.length := by
          rw [List.length_map] at b1 b2 ⊢
          omega
        refine ⟨l, _, _, .int (ns[(sp % ((ns.map V.int).length : Int)).toNat]), rfl, rfl, sq_of (hL _), at_of (j := (sp % ((ns.map V.int).length : Int)).toNat) (by omega) ?_, _, rfl, rfl⟩
        rw [List.getElem?_map, List.getElem?_eq_getElem hj]
        rfl
      · rintro σ' H' ⟨c, rfl, rfl⟩
        -- a great cell
        refine q_cut (M := fun σ' H' => σ' = [some (.ref d), some (.int many), some (.int (calls + 1)), none, some (.int sp), some (.ref l), some (.int c), none] ∧ H' = upd H d (.dK (rdK l (sp + 1) rest (calls + 1)))) ?_ ?_
        · refine ⟨_, rfl, _, rfl, .ref l, _, rfl, .inl ⟨_, sq_of (hL _), rfl⟩, _, _, rfl, rfl, _, rfl, ite2 (fun _ => ?_) (fun z => ?_)⟩
          · refine ⟨_, rfl, _, _, rfl, rfl, ⟨by decide, by decide, by decide⟩, _, _, rfl, rfl, _, rfl, ite2 (fun _ => ?_) (fun _ => ⟨rfl, rfl⟩)⟩
            refine ⟨_, rfl, _, rfl, _, _, rfl, rfl, dv _, _, rfl, d, _, rfl, dput_rest, ?_⟩
            exact ⟨_, rfl, .inl ⟨_, rfl, _, rfl, _, _, rfl, rfl, hm0, q _ _ Kp.upd (rd _ _ (by omega)) (md _).1 (md _).2⟩⟩
          · exact iteF ⟨rfl, rfl⟩
        · rintro σ' H' ⟨rfl, rfl⟩
          have c1 := Int.emod_nonneg c (show (2147483629 : Int) ≠ 0 by decide)
          have c2 := Int.emod_lt_of_pos c (show (0 : Int) < 2147483629 by decide)
          have k1 : (c % 2147483629 + 6163 * (calls + 1) + 37).natAbs < 2 ^ 64 := by omega
          refine ⟨_, rfl, .inl ⟨_, rfl, _, _, rfl, rfl, (show (0 : Int) < 2147483629 by decide), _, rfl, _, _, rfl, rfl, mulW (n := 60) (m := 60) (by decide) (by omega) (by decide), _, _, rfl, rfl, _, _, rfl, rfl, _, _, rfl, rfl, ⟨by decide, by decide, k1⟩, .inl ⟨_, rfl, _, _, rfl, rfl, (show (0 : Int) < 2147483647 by decide), ?_⟩⟩⟩
          have q1 : 4211 * (calls + 1) < 2 ^ 40 := by omega
          have q2 : 4211 * (calls + 1) * (calls + 1) ≤ 2 ^ 40 * 2 ^ 20 := Int.mul_le_mul (by omega) (by omega) (by omega) (by decide)
          have q3 : 0 ≤ 4211 * (calls + 1) * (calls + 1) := Int.mul_nonneg (by omega) (by omega)
          have k2 : ∀ x : Int, (x % 2147483647 + 4211 * (calls + 1) * (calls + 1)).natAbs < 2 ^ 64 := fun x => by
            have o1 := Int.emod_nonneg x (show (2147483647 : Int) ≠ 0 by decide)
            have o2 := Int.emod_lt_of_pos x (show (0 : Int) < 2147483647 by decide)
            generalize 4211 * (calls + 1) * (calls + 1) = t at q2 q3
            omega
          exact ⟨_, rfl, _, rfl, _, _, rfl, rfl, mulW (n := 60) (m := 60) (by decide) (by omega) (by decide), _, rfl, _, _, rfl, rfl, mulW (n := 60) (m := 60) (by omega) (by omega) (by decide), _, _, rfl, rfl, _, _, rfl, rfl, ⟨by decide, by decide, k2 _⟩,
            .inl ⟨_, rfl, _, _, rfl, rfl, (show (0 : Int) < 2147483587 by decide), _, _, rfl, rfl, wide_div (b := 60) (by decide) (by decide) (by decide) (by decide), .inl ⟨_, rfl, _, rfl, _, _, rfl, rfl, hm0, q _ _ Kp.upd (rd _ _ (by omega)) (md _).1 (md _).2⟩⟩⟩

end
end K5
namespace K5
open PySem PySem.Spec PyProof.Rows L2 Evl Fx Fr
theorem scPart : FnScope ["_law_reader_here"] ["_law_reader_here"] (defScope (topS 22)) := ⟨rfl, rfl, rfl, by decide +kernel, rfl, by decide +kernel, by decide +kernel⟩
theorem scTot : FnScope ["question", "crowd", "integer", "number"] ["question", "crowd"] (defScope (topS 18)) := ⟨rfl, rfl, rfl, by decide +kernel, rfl, by decide +kernel, by decide +kernel⟩
theorem scTotals : FnScope ["_law_reader_here", "_law_size", "_law_one", "_law_two", "_law_late", "_law_more", "_law_both", "_law_some", "_law_k", "_law_turn"] ["_law_reader_here"] (defScope (topS 25)) := ⟨rfl, rfl, rfl, by decide +kernel, rfl, by decide +kernel, by decide +kernel⟩
theorem scLaw : FnScope ["_law_script", "_law_reader_here", "_law_lots", "_law_a", "_law_b", "_law_turn"] ["_law_script"] (defScope (topS 26)) := ⟨rfl, rfl, rfl, by decide +kernel, rfl, by decide +kernel, by decide +kernel⟩

def lcScope : Expr → Scope
  | .ListComp _ _ sc _ => sc
  | _ => { kind := .function, names := [], isGenerator := false, isCoroutine := false }
def asgVal : Stmt → Expr
  | .Assign _ v _ => v
  | _ => .Constant .none 0 ⟨0, 0, 0, 0⟩
section
variable {P : Program} {w : World} {K : PySem.W.Frag} {mg : Str → Option Value} {base : Heap} {f : Addr} {fd : FuncData}

def spPart : Sp := fun vs H Q _ => ∃ (d l : Addr) (n : Nat), vs = [.ref d] ∧ RdAt H d l n ∧ n ≤ 1000 ∧ ∀ H' p x, Kp d H H' → RdAt H' d l (n + 3) → H' p = some (frO x) → Bd 60 x → Q (.ref p) H'
theorem ok_part (F : Fun K "_law_random_part" "_law_random_part" (topS 22) f fd) (cW : C8.Cal P w K mg base 1 "_law_draw" spDraw []) (cD : C8.Cal P w K mg base 3 "made" (spI2F okR Rat.divInt) []) : FnOk P w K mg base CX0 4 f fd ["_law_reader_here"] spPart := by
  refine F.ok scPart (fun vs H Q E h => ?_) (fun cdv A outer s H vs Q E hr h => ?_)
  · obtain ⟨d, l, n, rfl, _⟩ := h
    rfl
  · obtain ⟨d, l, n, rfl, hR, hn, q⟩ := h
    refine ⟨_, (pss_one (ps_ret (C8.pe_c cD hr (by decide) (by rfl) (pa_cons (pe_op op_sub (C8.pe_c cW hr (by decide) (by rfl) (pa_cons (pv 0) (pa_cons pe_int pa_nil))) pe_int) (pa_cons (pe_ix ix_list (pe_lst (pa_cons (pe_op op_add pe_int (C8.pe_c cW hr (by decide) (by rfl) (pa_cons (pv 0) (pa_cons pe_int pa_nil)))) (pa_cons (pe_un un_neg pe_int) (pa_cons (pe_op op_add (pe_op op_pow pe_int pe_int) pe_int) pa_nil)))) (C8.pe_c cW hr (by decide) (by rfl) (pa_cons (pv 0) (pa_cons pe_int pa_nil))) (fun _ _ => rfl)) pa_nil))))), ?_⟩
    refine ⟨_, rfl, d, l, 41, n, rfl, hR, by omega, by decide, by decide, fun H1 r1 k1 R1 a1 b1 => ⟨_, _, rfl, rfl, ?_⟩⟩
    refine ⟨_, rfl, d, l, 30, n + 1, rfl, R1, by omega, by decide, by decide, fun H2 r2 k2 R2 a2 b2 => ⟨_, _, rfl, rfl, ?_⟩⟩
    refine ⟨_, rfl, _, _, rfl, rfl, ⟨by decide, by decide, by decide⟩, _, _, rfl, rfl, (by show 3 ≤ sizeLine; decide), fun L hL => ?_⟩
    have nL : L ≠ d := fun z => by
      obtain ⟨kvs, hk⟩ := R2.is
      rw [z, hk] at hL
      cases hL
    refine ⟨_, rfl, d, l, 3, n + 2, rfl, R2.upd nL (R2.neN hL), by omega, by decide, by decide, fun H3 r3 k3 R3 a3 b3 => ?_⟩
    have h3 := k3 _ _ (upd_same (H := H2) (a := L)) nL
    have kk : Kp d H H3 := fun b o hb nb => k3 b o (by rw [upd_ne (ne_of_none (k2 _ _ (k1 _ _ hb nb) nb) hL)]; exact k2 _ _ (k1 _ _ hb nb) nb) nb
    have fin : ∀ j : Int, j ≠ 0 → j.natAbs < 2 ^ 60 → (spI2F okR Rat.divInt) [.int (r1 - 20), .int j] H3 Q E0 := fun j j0 jb =>
      ⟨r1 - 20, j, rfl, ⟨j0, lt_up (show (r1 - 20).natAbs < 2 ^ 60 by omega) (by decide), lt_up jb (by decide)⟩, fun H' p e hp => q H' p _ (kk.trans (Kp.ex e)) (R3.ex e) hp (bd_div j0 (by omega) jb)⟩
    rcases (show r3 = 0 ∨ r3 = 1 ∨ r3 = 2 by omega) with rfl | rfl | rfl
    · exact ⟨L, _, 0, .int (1 + r2), rfl, rfl, sq_of h3, rfl, fin _ (by omega) (by omega)⟩
    · exact ⟨L, _, 1, .int (-7), rfl, rfl, sq_of h3, rfl, fin _ (by decide) (by decide)⟩
    · exact ⟨L, _, 2, .int (10 ^ (15 : Int).toNat + 37), rfl, rfl, sq_of h3, rfl, fin _ (by decide) (by decide)⟩

theorem ok_tot (F : Fun K "total_of" "total_of" (topS 18) f fd) (m_len : mg "len" = none) (m_sum : mg "sum" = none) (m_zip : mg "zip" = none) : FnOk P w K mg base CX0 1 f fd ["question", "crowd"] spTot := by
  refine F.ok scTot (fun vs H Q E h => ?_) (fun cdv A outer s H vs Q E hr h => ?_)
  · obtain ⟨a, b, xs, ys, rfl, _⟩ := h
    rfl
  · obtain ⟨a, b, xs, ys, rfl, ha, hb, hl, h1, sx, sy, q⟩ := h
    refine ⟨_, (pss_cons (ps_if (pt_cmpR op_ne (pe_callB call_len (by rfl) m_len PySem.boot_len (pa_cons (pv 0) pa_nil)) (pe_callB call_len (by rfl) m_len PySem.boot_len (pa_cons (pv 1) pa_nil)) (nomark _)) pss_never pss_nil)
      (pss_one (ps_ret (pe_callB (cr_sum rfl) (by rfl) m_sum (by decide +kernel) (pa_cons (pe_lc (own := [("integer", 2), ("number", 3)]) (g := gTup K 2 (gCons (gName 2) (gCons (gName 3) gNil))) (by rfl) scTot.nd (RZ.pi_zipA (by rfl) m_zip (pa_cons (pv 0) (pa_cons (pv 1) pa_nil))) (blkOk_by (own := [("integer", 2), ("number", 3)]) (N := ["question", "crowd", "integer", "number"]) (sc := defScope (topS 18)) (by decide +kernel)) (fun _ _ _ _ _ => pg_tup (by rfl) (pgs_cons (pg_name (i := 2) scTot.nd rfl (Or.inl rfl)) (pgs_cons (pg_name (i := 3) scTot.nd rfl (Or.inl rfl)) pgs_nil))) (fun _ _ _ _ _ => pts_nil) (fun _ _ _ _ _ => pe_op op_mulW (pv 2) (pv 3))) pa_nil))))), ?_⟩
    refine ⟨_, rfl, _, _, rfl, .inr ⟨_, st_of ha, rfl⟩, _, rfl, _, _, rfl, .inr ⟨_, st_of hb, rfl⟩, rfl, _, rfl, ?_⟩
    refine iteNS (by rw [List.length_map, List.length_map, hl]) ?_
    refine ⟨_, rfl, _, rfl, a, b, xs.map V.int, ys.map V.int, rfl, .inr ⟨st_of ha, st_of hb, fun Dl hD => ?_⟩⟩
    refine lc_zipT (by rw [List.length_map, List.length_map, hl]) (fun i H' => Ex H H' ∧ H' Dl = some (.lst (((List.zipWith (· * ·) xs ys).take i).map V.int))) ⟨Ex.new hD, upd_same⟩ (fun i H' p => ⟨st_of (p.1 _ _ ha), st_of (p.1 _ _ hb)⟩) (fun i x y T H' hx hy p hT => ?_) (fun H' p => ?_)
    · rw [List.getElem?_map] at hx hy
      obtain ⟨x', ex, rfl⟩ := Option.map_eq_some_iff.mp hx
      obtain ⟨y', ey, rfl⟩ := Option.map_eq_some_iff.mp hy
      have nT : Dl ≠ T := ne_of_none p.2 hT
      have sT : Ex H' (upd H' T (.tup [.int x', .int y'])) := Ex.new hT
      refine ⟨T, [.int x', .int y'], rfl, st_of upd_same, rfl, _, _, rfl, _, _, rfl, rfl, rfl, ?_⟩
      show tOp (rI CMulW fun i j => V.int (i * j)) (tVar 2) (tVar 3) _ _ _
      refine ⟨_, rfl, _, rfl, x', y', rfl, rfl, wide_mul (a := 400) (b := 400) (sx _ (List.mem_of_getElem? ex)) (sy _ (List.mem_of_getElem? ey)) (by decide) (by decide) (by decide), _, sT _ _ p.2, ?_, Ex.mut (p.1.trans sT) hD, ?_⟩
      · rw [List.length_map, List.length_take]
        have hi : i < ys.length := (List.getElem?_eq_some_iff.mp ey).1
        exact sz_lt (by omega)
      · have gz : (List.zipWith (· * ·) xs ys)[i]? = some (x' * y') := by
          rw [List.getElem?_zipWith, ex, ey]
        rw [upd_same, List.take_add_one, gz, List.map_append]
        rfl
    · refine ⟨Dl, (List.zipWith (· * ·) xs ys), rfl, ?_, ?_⟩
      · have e : (xs.map V.int).length = (List.zipWith (· * ·) xs ys).length := by
          rw [List.length_map, List.length_zipWith, ← hl, Nat.min_self]
        have p2 := p.2
        rw [e, List.take_length] at p2
        exact sq_of p2
      · rw [dot_sum]
        exact q H' p.1

def spTotals : Sp := fun vs H Q _ => ∃ (d l : Addr) (n : Nat), vs = [.ref d] ∧ RdAt H d l n ∧ n ≤ 1000 ∧ ∀ H', Kp d H H' → RdAt H' d l (n + 25) → Q (.bl true) H'
theorem int_eq {a b : Int} (h : a = b) : some (V.int a) = some (V.int b) := by rw [h]
theorem dr_te {σ : L2.St} {d l : Addr} {many : Int} {E : XK} (h : σ[0]? = some (some (.ref d))) (h0 : 0 < many) (h1 : many < 2 ^ 60) : ∀ {hi : Int}, many - 1 = hi → Drawn (tCall spDraw [] E (tCons (tVar 0) (tCons (tC (.int many)) tNil))) σ d l 0 hi := fun e H n R hn Q q =>
  ⟨_, h, d, l, many, n, rfl, R, by omega, h0, h1, fun H' r k R' a1 a2 => q H' r k R' a1 (by omega)⟩
theorem dr_sub {te : TE} {σ : L2.St} {d l : Addr} {lo hi c : Int} (h : Drawn te σ d l lo hi) {lo' hi' : Int} (e1 : lo - c = lo') (e2 : hi - c = hi') : Drawn (tOp (rI0 fun i j => .int (i - j)) te (tC (.int c))) σ d l lo' hi' := fun H n R hn Q q =>
  h H n R hn _ fun H' v k R' a1 a2 => ⟨v, c, rfl, rfl, q H' (v - c) k R' (by omega) (by omega)⟩
theorem ok_totals (F : Fun K "_law_check_totals" "_law_check_totals" (topS 25) f fd) (cW : C8.Cal P w K mg base 1 "_law_draw" spDraw []) (cS : C8.Cal P w K mg base 1 "total_of" spTot []) (m_range : mg "range" = none) (m_tuple : mg "tuple" = none) (m_sum : mg "sum" = none) : FnOk P w K mg base CX0 2 f fd ["_law_reader_here"] spTotals := by
  refine F.ok scTotals (fun vs H Q E h => ?_) (fun cdv A outer s H vs Q E hr h => ?_)
  · obtain ⟨d, l, n, rfl, _⟩ := h
    rfl
  · obtain ⟨d, l, n, rfl, hR, hn, q⟩ := h
    refine ⟨_, (pss_cut (ps_set (i := 1) scTotals.nd rfl (.inr rfl) (pe_op op_add pe_int (C8.pe_c cW hr (by decide) (by rfl) (pa_cons (pv 0) (pa_cons pe_int pa_nil)))))
      (pss_cut (ps_asg (pe_lc (own := [("_law_turn", 9)]) (g := gName 9) (by rfl) scTotals.nd (pi_range1 (by rfl) m_range (pa_cons pe_int pa_nil)) (blkOk_by (own := [("_law_turn", 9)]) (N := ["_law_reader_here", "_law_size", "_law_one", "_law_two", "_law_late", "_law_more", "_law_both", "_law_some", "_law_k", "_law_turn"]) (sc := defScope (topS 25)) (by decide +kernel)) (fun _ _ _ _ _ => pg_name (i := 9) scTotals.nd rfl (Or.inl rfl)) (fun _ _ _ _ _ => pts_nil) (fun _ _ _ _ _ => (pe_callTy (T := "tuple") (r := rTupOf K) call_tupleOf (by rfl) m_tuple (by decide +kernel) (pa_cons (pe_lc (own := [("_law_k", 8)]) (g := gName 8) (by rfl) scTotals.nd (pi_range1 (by rfl) m_range (pa_cons (pv 1) pa_nil)) (blkOk_by (own := [("_law_k", 8)]) (by kernel_rfl)) (fun _ _ _ _ _ => pg_name (i := 8) scTotals.nd rfl (Or.inl rfl)) (fun _ _ _ _ _ => pts_nil) (fun _ _ _ _ _ => (pe_op op_sub (C8.pe_c cW hr (by decide) (by rfl) (pa_cons (pv 0) (pa_cons pe_int pa_nil))) pe_int))) pa_nil)))) (pg_unl (by rfl) (pgs_cons (pg_name (i := 2) scTotals.nd rfl (.inr rfl)) (pgs_cons (pg_name (i := 3) scTotals.nd rfl (.inr rfl)) pgs_nil))))
      (pss_cut (ps_asg (pe_lc (own := [("_law_turn", 9)]) (g := gName 9) (by rfl) scTotals.nd (pi_range1 (by rfl) m_range (pa_cons pe_int pa_nil)) (blkOk_by (own := [("_law_turn", 9)]) (N := ["_law_reader_here", "_law_size", "_law_one", "_law_two", "_law_late", "_law_more", "_law_both", "_law_some", "_law_k", "_law_turn"]) (sc := defScope (topS 25)) (by decide +kernel)) (fun _ _ _ _ _ => pg_name (i := 9) scTotals.nd rfl (Or.inl rfl)) (fun _ _ _ _ _ => pts_nil) (fun _ _ _ _ _ => (pe_callTy (T := "tuple") (r := rTupOf K) call_tupleOf (by rfl) m_tuple (by decide +kernel) (pa_cons (pe_lc (own := [("_law_k", 8)]) (g := gName 8) (by rfl) scTotals.nd (pi_range1 (by rfl) m_range (pa_cons (pv 1) pa_nil)) (blkOk_by (own := [("_law_k", 8)]) (by kernel_rfl)) (fun _ _ _ _ _ => pg_name (i := 8) scTotals.nd rfl (Or.inl rfl)) (fun _ _ _ _ _ => pts_nil) (fun _ _ _ _ _ => (C8.pe_c cW hr (by decide) (by rfl) (pa_cons (pv 0) (pa_cons pe_int pa_nil))))) pa_nil)))) (pg_unl (by rfl) (pgs_cons (pg_name (i := 4) scTotals.nd rfl (.inr rfl)) (pgs_cons (pg_name (i := 5) scTotals.nd rfl (.inr rfl)) pgs_nil))))
      (pss_cons (ps_set (i := 6) scTotals.nd rfl (.inl rfl) (pe_callTy (T := "tuple") (r := rTupOf K) call_tupleOf (by rfl) m_tuple (by decide +kernel) (pa_cons (pe_lc (own := [("_law_k", 8)]) (g := gName 8) (by rfl) scTotals.nd (pi_range1 (by rfl) m_range (pa_cons (pv 1) pa_nil)) (blkOk_by (own := [("_law_k", 8)]) (N := ["_law_reader_here", "_law_size", "_law_one", "_law_two", "_law_late", "_law_more", "_law_both", "_law_some", "_law_k", "_law_turn"]) (sc := defScope (topS 25)) (by decide +kernel)) (fun _ _ _ _ _ => pg_name (i := 8) scTotals.nd rfl (Or.inl rfl)) (fun _ _ _ _ _ => pts_nil) (fun _ _ _ _ _ => (pe_op op_add (pe_ix (r := rIxT K) ix_tup (pv 4) (pv 8) (fun _ _ => rfl)) (pe_ix (r := rIxT K) ix_tup (pv 5) (pv 8) (fun _ _ => rfl))))) pa_nil)))
      (pss_cons (ps_set (i := 7) scTotals.nd rfl (.inl rfl) (pe_callTy (T := "tuple") (r := rTupOf K) call_tupleOf (by rfl) m_tuple (by decide +kernel) (pa_cons (pe_lc (own := [("_law_k", 8)]) (g := gName 8) (by rfl) scTotals.nd (pi_range1 (by rfl) m_range (pa_cons (pv 1) pa_nil)) (blkOk_by (own := [("_law_k", 8)]) (N := ["_law_reader_here", "_law_size", "_law_one", "_law_two", "_law_late", "_law_more", "_law_both", "_law_some", "_law_k", "_law_turn"]) (sc := defScope (topS 25)) (by decide +kernel)) (fun _ _ _ _ _ => pg_name (i := 8) scTotals.nd rfl (Or.inl rfl)) (fun _ _ _ _ _ => pts_nil) (fun _ _ _ _ _ => (pe_op op_sub (pe_ix (r := rIxT K) ix_tup (pv 2) (pv 8) (fun _ _ => rfl)) (pe_ix (r := rIxT K) ix_tup (pv 3) (pv 8) (fun _ _ => rfl))))) pa_nil)))
      (pss_cons (ps_if (pt_cmpR op_ne (C8.pe_c cS hr (by decide) (by rfl) (pa_cons (pv 2) (pa_cons (pv 6) pa_nil))) (pe_op op_add (C8.pe_c cS hr (by decide) (by rfl) (pa_cons (pv 2) (pa_cons (pv 4) pa_nil))) (C8.pe_c cS hr (by decide) (by rfl) (pa_cons (pv 2) (pa_cons (pv 5) pa_nil)))) (nomark _)) (pss_one (ps_ret pe_bl)) pss_nil)
      (pss_cons (ps_if (pt_cmpR op_ne (C8.pe_c cS hr (by decide) (by rfl) (pa_cons (pv 7) (pa_cons (pv 4) pa_nil))) (pe_op op_sub (C8.pe_c cS hr (by decide) (by rfl) (pa_cons (pv 2) (pa_cons (pv 4) pa_nil))) (C8.pe_c cS hr (by decide) (by rfl) (pa_cons (pv 3) (pa_cons (pv 4) pa_nil)))) (nomark _)) (pss_one (ps_ret pe_bl)) pss_nil)
      (pss_cons (ps_if (pt_cmpR op_ne (C8.pe_c cS hr (by decide) (by rfl) (pa_cons (pe_op (OpR.or op_repT op_repT1) (pe_tup (pa_cons pe_int pa_nil)) (pv 1)) (pa_cons (pv 4) pa_nil))) pe_int (nomark _)) (pss_one (ps_ret pe_bl)) pss_nil)
      (pss_cons (ps_if (pt_cmpR op_ne (C8.pe_c cS hr (by decide) (by rfl) (pa_cons (pe_op (OpR.or op_repT op_repT1) (pe_tup (pa_cons pe_int pa_nil)) (pv 1)) (pa_cons (pv 4) pa_nil))) (pe_callB (cr_sumT rfl) (by rfl) m_sum (by decide +kernel) (pa_cons (pv 4) pa_nil)) (nomark _)) (pss_one (ps_ret pe_bl)) pss_nil)
      (pss_one (ps_ret (pe_cmpR op_eq (C8.pe_c cS hr (by decide) (by rfl) (pa_cons (pe_op op_catT (pv 2) (pv 3)) (pa_cons (pe_op op_catT (pv 4) (pv 5)) pa_nil))) (pe_op op_add (C8.pe_c cS hr (by decide) (by rfl) (pa_cons (pv 2) (pa_cons (pv 4) pa_nil))) (C8.pe_c cS hr (by decide) (by rfl) (pa_cons (pv 3) (pa_cons (pv 5) pa_nil)))) (nomark _))))))))))))), ?_⟩
    -- the size
    refine q_cut (M := fun σ' H' => ∃ m : Nat, σ' = [some (.ref d), some (.int (m : Int)), none, none, none, none, none, none, none, none] ∧ 1 ≤ m ∧ m ≤ 6 ∧ Kp d H H' ∧ RdAt H' d l (n + 1)) ?_ ?_
    · refine ⟨_, rfl, d, l, 6, n, rfl, hR, by omega, by decide, by decide, fun H1 r k R a1 a2 => ⟨_, _, rfl, rfl, (1 + r).toNat, ?_, by omega, by omega, k, R⟩⟩
      have e : (((1 + r).toNat : Nat) : Int) = 1 + r := by omega
      rw [e]
      rfl
    rintro σ1 H1 ⟨m, rfl, hm1, hm6, k1, R1⟩
    -- one, two
    refine q_cut (M := fun σ' H' => ∃ (p1 p2 : Addr) (xs ys : List Int), σ' = [some (.ref d), some (.int (m : Int)), some (.ref p1), some (.ref p2), none, none, none, none, none, none] ∧ Kp d H H' ∧ RdAt H' d l (n + 1 + 2 * m) ∧ H' p1 = some (.tup (xs.map V.int)) ∧ H' p2 = some (.tup (ys.map V.int)) ∧ xs.length = m ∧ ys.length = m ∧ (∀ v ∈ xs, -9 ≤ v ∧ v ≤ 9) ∧ (∀ v ∈ ys, -9 ≤ v ∧ v ≤ 9)) ?_ ?_
    · refine lc_two (m := m) (lo := -9) (hi := 9) (by omega) R1 (by omega) (fun _ => rfl) (fun x => drawnT_of (K := K) (j := 8) (vs := [8]) (m := m) (fun H => ea_cons (ev_var rfl) ea_nil) (by omega) (fun _ => rfl) (fun x' => dr_sub (lo := 0) (hi := 18) (c := 9) (dr_te (many := 19) rfl (by decide) (by decide) rfl) rfl rfl)) ?_
      exact fun Dl H' p1 p2 xs ys k R g1 g2 g3 g4 g5 g6 g7 => ⟨Dl, _, rfl, sq_of g1, rfl, _, _, rfl, _, _, rfl, rfl, p1, p2, xs, ys, rfl, k1.trans k, R, g2, g3, g4, g5, g6, g7⟩
    rintro σ2 H2 ⟨p1, p2, xs, ys, rfl, k2, R2, hx, hy, lx, ly, bx, by_⟩
    -- late, more
    refine q_cut (M := fun σ' H' => ∃ (p3 p4 : Addr) (us ws : List Int), σ' = [some (.ref d), some (.int (m : Int)), some (.ref p1), some (.ref p2), some (.ref p3), some (.ref p4), none, none, none, none] ∧ Kp d H H' ∧ RdAt H' d l (n + 1 + 2 * m + 2 * m) ∧ H' p1 = some (.tup (xs.map V.int)) ∧ H' p2 = some (.tup (ys.map V.int)) ∧ H' p3 = some (.tup (us.map V.int)) ∧ H' p4 = some (.tup (ws.map V.int)) ∧ us.length = m ∧ ws.length = m ∧ (∀ v ∈ us, 0 ≤ v ∧ v ≤ 98) ∧ (∀ v ∈ ws, 0 ≤ v ∧ v ≤ 98)) ?_ ?_
    · refine lc_two (m := m) (lo := 0) (hi := 98) (by omega) R2 (by omega) (fun _ => rfl) (fun x => drawnT_of (K := K) (j := 8) (vs := [8]) (m := m) (fun H => ea_cons (ev_var rfl) ea_nil) (by omega) (fun _ => rfl) (fun x' => dr_te (many := 99) rfl (by decide) (by decide) rfl)) ?_
      exact fun Dl H' p3 p4 us ws k R g1 g2 g3 g4 g5 g6 g7 => ⟨Dl, _, rfl, sq_of g1, rfl, _, _, rfl, _, _, rfl, rfl, p3, p4, us, ws, rfl, k2.trans k, R, k _ _ hx (R2.neT hx), k _ _ hy (R2.neT hy), g2, g3, g4, g5, g6, g7⟩
    rintro σ3 H3 ⟨p3, p4, us, ws, rfl, k3, R3, hx, hy, hu, hw, lu, lw, bu, bw⟩
    have l1 : Lm m xs := ⟨lx, sm_of fun v hv => by have := bx v hv; omega⟩
    have l2 : Lm m ys := ⟨ly, sm_of fun v hv => by have := by_ v hv; omega⟩
    have l3 : Lm m us := ⟨lu, sm_of fun v hv => by have := bu v hv; omega⟩
    have l4 : Lm m ws := ⟨lw, sm_of fun v hv => by have := bw v hv; omega⟩
    have l5 : Lm m (List.zipWith (· + ·) us ws) := lm_zw (a := 0) (b := 0) (fun x y hx hy => by have := bu x hx; have := bw y hy; omega) lu lw
    have l6 : Lm m (List.zipWith (· - ·) xs ys) := lm_zw (a := 0) (b := 0) (fun x y hx hy => by have := bx x hx; have := by_ y hy; omega) lx ly
    have l0 : Lm m (List.replicate m 0) := lm_rep (by decide)
    have l7 : Lm m (List.replicate m 1) := lm_rep (by decide)
    have l8 := lm_app l1 l2
    have l9 := lm_app l3 l4
    have n1 : xs ≠ [] := fun z => by rw [z] at lx; exact absurd lx (by show ¬ 0 = m; omega)
    have n2 : ys ≠ [] := fun z => by rw [z] at ly; exact absurd ly (by show ¬ 0 = m; omega)
    have n3 : us ≠ [] := fun z => by rw [z] at lu; exact absurd lu (by show ¬ 0 = m; omega)
    have n4 : ws ≠ [] := fun z => by rw [z] at lw; exact absurd lw (by show ¬ 0 = m; omega)
    -- both
    refine q_asgP (evT_of (el_zw (m := m) (f := (· + ·)) (xs := us) (ys := ws) (ea_cons (ev_var rfl) ea_nil) (by omega) lu lw (fun _ => rfl) (fun i G e hi => ev_add (ev_ixT (evT_var rfl (e _ _ hu)) (ev_var rfl) (by omega)) (ev_ixT (evT_var rfl (e _ _ hw)) (ev_var rfl) (by omega))))) ?_
    rintro _ H4 e4 ⟨p5, rfl, h5⟩
    refine q_asgP (evT_of (el_zw (m := m) (f := (· - ·)) (xs := xs) (ys := ys) (ea_cons (ev_var rfl) ea_nil) (by omega) lx ly (fun _ => rfl) (fun i G e hi => ev_sub (ev_ixT (evT_var rfl (e _ _ (e4 _ _ hx))) (ev_var rfl) (by omega)) (ev_ixT (evT_var rfl (e _ _ (e4 _ _ hy))) (ev_var rfl) (by omega))))) ?_
    rintro _ H5 e5 ⟨p6, rfl, h6⟩
    have e45 := e4.trans e5
    generalize es : List.set _ 7 _ = σ
    replace es : σ = [some (.ref d), some (.int (m : Int)), some (.ref p1), some (.ref p2), some (.ref p3), some (.ref p4), some (.ref p5), some (.ref p6), none, none] := es.symm
    have vm : ∀ {G : Hp}, Ev (tVar 1) σ G (.int (m : Int)) := fun {G} => ev_var (by rw [es]; rfl)
    have v1 : EvP (tVar 2) σ H5 (IsT xs) := evT_var (by rw [es]; rfl) (e45 _ _ hx)
    have v2 : EvP (tVar 3) σ H5 (IsT ys) := evT_var (by rw [es]; rfl) (e45 _ _ hy)
    have v3 : EvP (tVar 4) σ H5 (IsT us) := evT_var (by rw [es]; rfl) (e45 _ _ hu)
    have v4 : EvP (tVar 5) σ H5 (IsT ws) := evT_var (by rw [es]; rfl) (e45 _ _ hw)
    have v5 : EvP (tVar 6) σ H5 (IsT (List.zipWith (· + ·) us ws)) := evT_var (by rw [es]; rfl) (e5 _ _ h5)
    have v6 : EvP (tVar 7) σ H5 (IsT (List.zipWith (· - ·) xs ys)) := evT_var (by rw [es]; rfl) h6
    have g0 : (!decide ((dot xs (List.zipWith (· + ·) us ws)) = ((dot xs us) + (dot xs ws)))) = false := nf (decide_eq_true (dot_add xs us ws (l1.1.trans l3.1.symm) (l3.1.trans l4.1.symm)))
    refine q_when (et_is (et_test (ev_neI (ev_totL v1 v5 l1 l5 (by omega)) (ev_add (ev_totL v1 v3 l1 l3 (by omega)) (ev_totL v1 v4 l1 l4 (by omega))))) g0) (fun h => Bool.noConfusion h) (fun _ G0 x0 => ?_)
    replace v1 := v1.mono x0
    replace v2 := v2.mono x0
    replace v3 := v3.mono x0
    replace v4 := v4.mono x0
    replace v5 := v5.mono x0
    replace v6 := v6.mono x0
    have g1 : (!decide ((dot (List.zipWith (· - ·) xs ys) us) = ((dot xs us) - (dot ys us)))) = false := nf (decide_eq_true (dot_sub xs ys us (l1.1.trans l2.1.symm) (l2.1.trans l3.1.symm)))
    refine q_when (et_is (et_test (ev_neI (ev_totL v6 v3 l6 l3 (by omega)) (ev_sub (ev_totL v1 v3 l1 l3 (by omega)) (ev_totL v2 v3 l2 l3 (by omega))))) g1) (fun h => Bool.noConfusion h) (fun _ G1 x1 => ?_)
    replace v1 := v1.mono x1
    replace v2 := v2.mono x1
    replace v3 := v3.mono x1
    replace v4 := v4.mono x1
    replace v5 := v5.mono x1
    replace v6 := v6.mono x1
    have g2 : (!decide ((dot (List.replicate m 0) us) = 0)) = false := nf (decide_eq_true (dot_zero m us))
    refine q_when (et_is (et_test (ev_neI (ev_totL (evT_rep (n := 0) hm1 (by omega) vm) v3 l0 l3 (by omega)) ev_c)) g2) (fun h => Bool.noConfusion h) (fun _ G2 x2 => ?_)
    replace v1 := v1.mono x2
    replace v2 := v2.mono x2
    replace v3 := v3.mono x2
    replace v4 := v4.mono x2
    replace v5 := v5.mono x2
    replace v6 := v6.mono x2
    have g3 : (!decide ((dot (List.replicate m 1) us) = us.sum)) = false := nf (decide_eq_true (dot_one m us l3.1))
    refine q_when (et_is (et_test (ev_neI (ev_totL (evT_rep (n := 1) hm1 (by omega) vm) v3 l7 l3 (by omega)) (ev_sumT v3))) g3) (fun h => Bool.noConfusion h) (fun _ G3 x3 => ?_)
    replace v1 := v1.mono x3
    replace v2 := v2.mono x3
    replace v3 := v3.mono x3
    replace v4 := v4.mono x3
    replace v5 := v5.mono x3
    replace v6 := v6.mono x3
    have gz : decide ((dot (xs ++ ys) (us ++ ws)) = ((dot xs us) + (dot ys ws))) = true := decide_eq_true (dot_app xs ys us ws (l1.1.trans l3.1.symm))
    exact s_ret (ev_is (ev_eqI (ev_totL (evT_cat v1 v2 n1 n2 (by omega)) (evT_cat v3 v4 n3 n4 (by omega)) l8 l9 (by omega)) (ev_add (ev_totL v1 v3 l1 l3 (by omega)) (ev_totL v2 v4 l2 l4 (by omega)))) (congrArg V.bl gz)) fun G9 x9 => q G9 (k3.trans (Kp.ex (e45.trans (x0.trans (x1.trans (x2.trans (x3.trans x9))))))) ((R3.ex (e45.trans (x0.trans (x1.trans (x2.trans (x3.trans x9)))))).mono (by omega))

end
end K5
namespace K5
open PySem PySem.Spec PyProof.Rows L2 Evl Fx Fr
/-- the list of the pairs -/
def Lots (H : Hp) (L : Addr) (ps : List Addr) : Prop := H L = some (.lst (ps.map V.ref)) ∧ ∀ p ∈ ps, ∃ x, H p = some (frO x) ∧ Bd 60 x
theorem Lots.ex {H H' : Hp} {L : Addr} {ps : List Addr} (h : Lots H L ps) (e : Ex H H') : Lots H' L ps := ⟨e _ _ h.1, fun p hp => by
  obtain ⟨x, h1, h2⟩ := h.2 p hp
  exact ⟨x, e _ _ h1, h2⟩⟩
theorem Lots.kp {H H' : Hp} {L d l : Addr} {n : Nat} {ps : List Addr} (h : Lots H L ps) (R : RdAt H d l n) (e : Kp d H H') : Lots H' L ps := ⟨e _ _ h.1 (R.neL h.1), fun p hp => by
  obtain ⟨x, h1, h2⟩ := h.2 p hp
  exact ⟨x, e _ _ h1 (R.neT h1), h2⟩⟩
theorem Lots.at {H : Hp} {L : Addr} {ps : List Addr} (h : Lots H L ps) {i : Nat} {v : V} (e : (ps.map V.ref)[i]? = some v) : ∃ p x, v = .ref p ∧ H p = some (frO x) ∧ Bd 60 x := by
  rw [List.getElem?_map] at e
  obtain ⟨p, hp, rfl⟩ := Option.map_eq_some_iff.mp e
  obtain ⟨x, h1, h2⟩ := h.2 p (List.mem_of_getElem? hp)
  exact ⟨p, x, rfl, h1, h2⟩
/-- [_law_random_part(reader) for turn in range(6)] -/
theorem lc_parts {te : TE} {σ : L2.St} {H : Hp} {j n : Nat} {vs : List Nat} {d l : Addr} {Q : VK} (hR : RdAt H d l n) (hn : n ≤ 100)
    (hw : ∀ x, wipe ((wipe σ vs).set j (some x)) vs = wipe σ vs)
    (hd : ∀ x H n, RdAt H d l n → n ≤ 1000 → ∀ Q : VK, (∀ H' p x, Kp d H H' → RdAt H' d l (n + 3) → H' p = some (frO x) → Bd 60 x → Q (.ref p) H') → te ((wipe σ vs).set j (some x)) H Q)
    (q : ∀ D H' (ps : List Addr), H D = none → Kp d H H' → RdAt H' d l (n + 18) → Lots H' D ps → ps.length = 6 → Q (.ref D) H') : tLc (iRng1 (tCons (tC (.int 6)) tNil)) (gName j) tYes te vs σ H Q := by
  refine ⟨6, rfl, by decide, by decide, fun Dl hD => ?_⟩
  have hDl : Dl ≠ l := hR.neN hD
  refine lc_range (lo := 0) (n := (6 : Int).toNat) (fun i H' => Kp d H H' ∧ RdAt H' d l (n + 3 * i) ∧ ∃ ps : List Addr, Lots H' Dl ps ∧ ps.length = i) ?_ (fun i H' hi' p => ?_) (fun H' p => ?_)
  · exact ⟨(Kp.refl d H).mut hD, hR.ex (Ex.new hD), [], ⟨upd_same, fun _ h => nomatch h⟩, rfl⟩
  · obtain ⟨k1, R1, ps, g1, g2⟩ := p
    have nd : Dl ≠ d := R1.neL g1.1
    have hi6 : i < 6 := hi'
    refine ⟨hw _, ?_⟩
    show te _ _ _
    refine hd _ H' (n + 3 * i) R1 (by omega) _ fun H2 p x k2 R2 f1 f2 => ⟨ps.map V.ref, k2 _ _ g1.1 nd, ?_, (k1.trans k2).mut hD, R2.upd nd hDl, ps ++ [p], ⟨?_, fun u hu => ?_⟩, ?_⟩
    · rw [List.length_map]
      exact sz_lt (by omega)
    · rw [upd_same, List.map_append]
      rfl
    · have keep : ∀ (a : Addr) (x : Rat), H2 a = some (frO x) → (upd H2 Dl (.lst (ps.map V.ref ++ [.ref p]))) a = some (frO x) := fun a x ha => by
        rw [upd_ne (ne_of ha (k2 _ _ g1.1 nd) (by intro z; cases z))]
        exact ha
      rcases List.mem_append.mp hu with hu | hu
      · obtain ⟨y, y1, y2⟩ := g1.2 u hu
        exact ⟨y, keep u _ (k2 _ _ y1 (R1.neT y1)), y2⟩
      · rw [List.mem_singleton.mp hu]
        exact ⟨x, keep p _ f1, f2⟩
    · rw [List.length_append, g2]
      rfl
  · obtain ⟨k1, R1, ps, g1, g2⟩ := p
    exact q Dl H' ps hD k1 R1 g1 g2
section
variable {P : Program} {w : World} {K : PySem.W.Frag} {mg : Str → Option Value} {base : Heap} {f : Addr} {fd : FuncData}
def spLaw (K : PySem.W.Frag) : Sp := fun vs H Q _ => ∃ (a : Addr) (ns : List Int), vs = [.ref a] ∧ SqL K H a (ns.map V.int) ∧ ∀ H', Q (.bl true) H'

theorem ok_law (F : Fun K "law" "law" (topS 26) f fd) (cR : C8.Cal P w K mg base 1 "_law_reader" (spReader K) []) (cW : C8.Cal P w K mg base 1 "_law_draw" spDraw []) (cA : C8.Cal P w K mg base 4 "_law_random_part" spPart []) (c2 : C8.Cal P w K mg base 4 "_law_check_two" spTwo [])
    (c3 : C8.Cal P w K mg base 3 "_law_check_three" spThree []) (c4 : C8.Cal P w K mg base 2 "_law_check_totals" spTotals []) (m_range : mg "range" = none) : FnOk P w K mg base CX0 5 f fd ["_law_script"] (spLaw K) := by
  refine F.ok scLaw (fun vs H Q E h => ?_) (fun cdv A outer s H vs Q E hr h => ?_)
  · obtain ⟨a, ns, rfl, _⟩ := h
    rfl
  · obtain ⟨a, ns, rfl, hS, q⟩ := h
    refine ⟨_, (pss_cons (ps_set (i := 1) scLaw.nd rfl (.inr rfl) (C8.pe_c cR hr (by decide) (by rfl) (pa_cons (pv 0) pa_nil)))
      (pss_cut (ps_set (i := 2) scLaw.nd rfl (.inl rfl) (pe_op op_cat (pe_lst (pa_cons (pe_tup (pa_cons pe_int (pa_cons pe_int pa_nil))) (pa_cons (pe_tup (pa_cons pe_int (pa_cons pe_int pa_nil))) (pa_cons (pe_tup (pa_cons (pe_un un_neg pe_int) (pa_cons pe_int pa_nil))) pa_nil)))) (pe_lc (own := [("_law_turn", 5)]) (g := gName 5) (by rfl) scLaw.nd (pi_range1 (by rfl) m_range (pa_cons pe_int pa_nil)) (blkOk_by (own := [("_law_turn", 5)]) (N := ["_law_script", "_law_reader_here", "_law_lots", "_law_a", "_law_b", "_law_turn"]) (sc := defScope (topS 26)) (by decide +kernel)) (fun _ _ _ _ _ => pg_name (i := 5) scLaw.nd rfl (Or.inl rfl)) (fun _ _ _ _ _ => pts_nil) (fun _ _ _ _ _ => (C8.pe_c cA hr (by decide) (by rfl) (pa_cons (pv 1) pa_nil))))))
      (pss_cons (ps_for PassesOwn.never rfl (pi_list (pv 2)) (pg_name (i := 3) scLaw.nd rfl (.inl rfl)) (pss_cons (ps_for PassesOwn.never rfl (pi_list (pv 2)) (pg_name (i := 4) scLaw.nd rfl (.inl rfl)) (pss_one (ps_if (pt_not (pt_val (C8.pe_c c2 hr (by decide) (by rfl) (pa_cons (pv 3) (pa_cons (pv 4) pa_nil))))) (pss_one (ps_ret pe_bl)) pss_nil)))
      (pss_one (ps_if (pt_not (pt_val (C8.pe_c c3 hr (by decide) (by rfl) (pa_cons (pv 3) (pa_cons (pe_ix ix_list (pv 2) (C8.pe_c cW hr (by decide) (by rfl) (pa_cons (pv 1) (pa_cons pe_int pa_nil))) (fun _ _ => rfl)) (pa_cons (pe_ix ix_list (pv 2) (C8.pe_c cW hr (by decide) (by rfl) (pa_cons (pv 1) (pa_cons pe_int pa_nil))) (fun _ _ => rfl)) pa_nil)))))) (pss_one (ps_ret pe_bl)) pss_nil))))
      (pss_one (ps_ret (pe_and (C8.pe_c c4 hr (by decide) (by rfl) (pa_cons (pv 1) pa_nil)) (pe_one (C8.pe_c c4 hr (by decide) (by rfl) (pa_cons (pv 1) pa_nil))))))))), ?_⟩
    -- the reader
    refine ⟨_, rfl, a, ns, rfl, hS, fun H1 d l e1 R1 => ?_⟩
    -- the lots
    refine q_cut (M := fun σ' H' => ∃ (L : Addr) (ps : List Addr), σ' = [some (.ref a), some (.ref d), some (.ref L), none, none, none] ∧ RdAt H' d l 18 ∧ Lots H' L ps ∧ ps.length = 9) ?_ ?_
    · have z3 : ((-1 : Rat) / 3).num = -1 ∧ (((-1 : Rat) / 3).den : Int) = 3 := by decide +kernel
      refine ⟨by show 2 ≤ sizeLine; decide, fun p1 h1 => ?_⟩
      refine ⟨by show 2 ≤ sizeLine; decide, fun p2 h2 => ?_⟩
      refine ⟨1, rfl, by show 2 ≤ sizeLine; decide, fun p3 h3 => ?_⟩
      refine ⟨by show 3 ≤ sizeLine; decide, fun L1 hL1 => ?_⟩
      generalize eH : upd _ L1 _ = H2
      have x12 := Ex.new (o := .tup [.int 1, .int 1]) h2
      have x23 := Ex.new (o := .tup [.int (-1), .int 3]) h3
      have x34 := Ex.new (o := .lst [.ref p1, .ref p2, .ref p3]) hL1
      have t3 : H2 p3 = some (frO ((-1 : Rat) / 3)) := by
        rw [← eH]
        refine x34 _ _ ?_
        rw [upd_same, frO, z3.1, z3.2]
      have t2 : H2 p2 = some (frO 1) := by
        rw [← eH]
        exact x34 _ _ (x23 _ _ upd_same)
      have t1 : H2 p1 = some (frO 0) := by
        rw [← eH]
        exact x34 _ _ (x23 _ _ (x12 _ _ upd_same))
      have tL : H2 L1 = some (.lst [.ref p1, .ref p2, .ref p3]) := by
        rw [← eH]
        exact upd_same
      have R2 : RdAt H2 d l 0 := by
        rw [← eH]
        exact (((R1.ex (Ex.new h1)).ex x12).ex x23).ex x34
      refine lc_parts R2 (by decide) (fun _ => rfl) (fun x G n R hn Q k => ⟨_, rfl, d, l, n, rfl, R, hn, k⟩) fun Dl H3 ps hD k3 R3 LL hlen => ?_
      have nL1 := R2.neL tL
      refine ⟨L1, Dl, [.ref p1, .ref p2, .ref p3], ps.map V.ref, rfl, rfl, k3 _ _ tL nL1, LL.1, ?_, fun L hL => ⟨L, p1 :: p2 :: p3 :: ps, rfl, R3.ex (Ex.new hL), ⟨?_, fun p hp => ?_⟩, ?_⟩⟩
      · rw [List.length_map, hlen]
        show 9 ≤ sizeLine
        decide
      · rw [upd_same]
        rfl
      · have up : ∀ (u : Addr) (x : Rat), H3 u = some (frO x) → (upd H3 L (.lst ([.ref p1, .ref p2, .ref p3] ++ ps.map V.ref))) u = some (frO x) := fun u x hu => Ex.new hL _ _ hu
        simp only [List.mem_cons] at hp
        rcases hp with rfl | rfl | rfl | hp
        · exact ⟨0, up _ _ (k3 _ _ t1 (R2.neT t1)), bd0.mono (by decide)⟩
        · exact ⟨1, up _ _ (k3 _ _ t2 (R2.neT t2)), bd1.mono (by decide)⟩
        · exact ⟨_, up _ _ (k3 _ _ t3 (R2.neT t3)), by
            refine ⟨?_, ?_⟩
            · rw [z3.1]
              decide
            · have := z3.2
              omega⟩
        · obtain ⟨x, x1, x2⟩ := LL.2 p hp
          exact ⟨x, up _ _ x1, x2⟩
      · show ps.length + 3 = 9
        omega
    rintro σ2 H2 ⟨L, ps, rfl, R2, LL, hlen⟩
    -- for a in lots
    refine ⟨_, rfl, L, rfl, ⟨_, sq_of LL.1⟩, for_list (K := K) (a := L) (xs := ps.map V.ref) (fun i σ H' => ∃ x3 x4 : Option V, σ = [some (.ref a), some (.ref d), some (.ref L), x3, x4, none] ∧ RdAt H' d l (18 + 2 * i) ∧ Lots H' L ps)
      ⟨none, none, rfl, R2, LL⟩ (fun i σ H' _ ⟨_, _, _, _, z⟩ => sq_of z.1) ?_ ?_⟩
    · rintro i y σ H3 hi ⟨x3, x4, rfl, R3, L3⟩
      have hi9 : i < 9 := by
        have := (List.getElem?_eq_some_iff.mp hi).1
        rw [List.length_map, hlen] at this
        exact this
      obtain ⟨pa, xa, rfl, ha, ba⟩ := L3.at hi
      -- for b in lots
      refine ⟨_, rfl, L, rfl, ⟨_, sq_of L3.1⟩, for_list (K := K) (a := L) (xs := ps.map V.ref) (fun j σ H' => ∃ x4 : Option V, σ = [some (.ref a), some (.ref d), some (.ref L), some (.ref pa), x4, none] ∧ Ex H3 H')
        ⟨x4, rfl, Ex.refl _⟩ (fun j σ H' _ ⟨_, _, e⟩ => sq_of (e _ _ L3.1)) ?_ ?_⟩
      · rintro j y σ H4 hj ⟨x4, rfl, e4⟩
        obtain ⟨pb, xb, rfl, hb, bb⟩ := L3.at hj
        refine ⟨_, rfl, _, rfl, pa, pb, xa, xb, rfl, e4 _ _ ha, e4 _ _ hb, ba, bb, fun H5 e5 => ⟨true, rfl, iteF ⟨_, rfl, e4.trans e5⟩⟩⟩
      · rintro σ H4 ⟨x4, rfl, e4⟩
        have R4 := R3.ex e4
        have L4 := L3.ex e4
        have key : ∀ r : Int, 0 ≤ r → r < 9 → ∃ p, ∃ x, atI (ps.map V.ref) r = some (.ref p) ∧ (∀ G, Lots G L ps → ∃ x', G p = some (frO x') ∧ Bd 60 x') := fun r r0 r1 => by
          have hk : r.toNat < ps.length := by omega
          refine ⟨ps[r.toNat], 0, at_of (j := r.toNat) (by omega) ?_, fun G hG => hG.2 _ (List.getElem_mem hk)⟩
          rw [List.getElem?_map, List.getElem?_eq_getElem hk]
          rfl
        refine ⟨_, rfl, _, rfl, _, rfl, d, l, 9, 18 + 2 * i, rfl, R4, by omega, by decide, by decide, fun H5 r k5 R5 a5 b5 => ?_⟩
        obtain ⟨p5, _, g5, f5⟩ := key r a5 b5
        have L5 := L4.kp R4 k5
        refine ⟨L, _, r, _, rfl, rfl, sq_of L5.1, g5, _, rfl, _, rfl, d, l, 9, 18 + 2 * i + 1, rfl, R5, by omega, by decide, by decide, fun H6 r6 k6 R6 a6 b6 => ?_⟩
        obtain ⟨p6, _, g6, f6⟩ := key r6 a6 b6
        have L6 := L5.kp R5 k6
        obtain ⟨y5, hy5, by5⟩ := f5 H6 L6
        obtain ⟨y6, hy6, by6⟩ := f6 H6 L6
        have ha6 : H6 pa = some (frO xa) := by
          have z4 := e4 _ _ ha
          have z5 := k5 _ _ z4 (R4.neT z4)
          exact k6 _ _ z5 (R5.neT z5)
        refine ⟨L, _, r6, _, rfl, rfl, sq_of L6.1, g6, pa, p5, p6, xa, y5, y6, rfl, ha6, hy5, hy6, ba, by5, by6, fun H7 e7 => ⟨true, rfl, iteF ?_⟩⟩
        exact ⟨_, _, rfl, R6.ex e7, L6.ex e7⟩
    · rintro σ H3 ⟨x3, x4, rfl, R3, L3⟩
      have h36 : 18 + 2 * (ps.map V.ref).length = 36 := by rw [List.length_map, hlen]
      rw [h36] at R3
      refine ⟨_, rfl, d, l, 36, rfl, R3, by decide, fun H4 k4 R4 => ⟨true, rfl, iteT ?_⟩⟩
      exact ⟨_, rfl, d, l, 61, rfl, R4, by decide, fun H5 _ _ => q H5⟩

end
end K5
namespace K5
open PySem PySem.Spec PyProof.Rows L2 Evl Fx Fr
def dN (x : Str) (i : Nat) : He.DefD := ⟨(x, none), x, x, defArgs (topS i), defBody (topS i), defScope (topS i), [], []⟩
def fn : List He.DefD := [dN "is_whole" 6, dN "is_integer" 8, dN "is_fraction" 9, dN "made" 11, dN "reduced_pair" 12, dN "plus" 13, dN "minus" 14, dN "times" 15, dN "over" 16, dN "is_less" 17, dN "total_of" 18, dN "_law_reader" 20, dN "_law_draw" 21, dN "_law_random_part" 22, dN "_law_check_two" 23, dN "_law_check_three" 24, dN "_law_check_totals" 25, dN "law" 26]
def fa : List He.Fa := [.glo "is_whole", .glo "is_integer", .glo "is_fraction", .glo "made", .glo "reduced_pair", .glo "plus", .glo "minus", .glo "times", .glo "over", .glo "is_less", .glo "total_of", .glo "_law_reader", .glo "_law_draw", .glo "_law_random_part", .glo "_law_check_two", .glo "_law_check_three", .glo "_law_check_totals", .glo "law",
  .free "isinstance", .free "int", .free "bool", .free "tuple", .free "list", .free "len", .free "range", .free "sum", .free "zip"]
def bs : List (Str × String) := [("gcd", "math.gcd")]
abbrev R : PySem.W.OpenRow := PySem.W.OpenLaw.row PySem.Challenge.rw_thinspans_k05_whole_fractions
abbrev hk : PySem.W.Hook := Hx.hookE 3 fa fn bs
def ob (s : PySem.W.SharedT) : Hx.AlE := Hx.obsEG 3 fa fn bs (HandSHeadRun.getT s)
theorem ob_eq (s : PySem.W.SharedT) : ob s = hk.obs s.abs := Hx.obsEG_eq (HandSHeadRun.getT_eq s)
def loose : List Str := ["ThinError", "TraceError", "NotUsable", "is_whole", "is_integer", "is_fraction", "made", "reduced_pair", "plus", "minus", "times", "over", "is_less", "total_of", "_law_reader", "_law_draw", "_law_random_part", "_law_check_two", "_law_check_three", "_law_check_totals"]
set_option maxHeartbeats 0 in
theorem run (w : World) : HandSHeadRun.RunEqI R (PySem.W.view R.prog [0, 26]) hk ob 200000 loose w := by
  unfold HandSHeadRun.RunEqI
  kernel_rfl
/-- a def as a constant of the module -/
theorem cal {P : Program} {w : World} {K : PySem.W.Frag} {mg : Str → Option Value} {base : Heap} {x : Str} {st : Stmt} {f : Addr} {fd : FuncData} {k : Nat} {ps : List Str} {sp : Sp} (F : Fun K x x st f fd) (G : FnOk P w K mg base CX0 k f fd ps sp) (g : mg x = some (.ref f)) (b : Binds K fd ps []) : C8.Cal P w K mg base k x sp [] := ⟨f, fd, ps, [], G, g, F.kp, b, .nil⟩
theorem facts {P : Program} {w : World} {K : PySem.W.Frag} {h : Heap} {mg : Str → Option Value} {f : Addr} (X : K.In h) (G : h.Ns mainGlobals mg) (hfa : mg ("law" : Str) = some (.ref f)) (c : Hx.SaysE fa fn bs K) :
    ∃ fd : FuncData, (∀ (s : Shared) (v : Value), BindsTo s fd ⟨[v], []⟩ [("_law_script", v)]) ∧ ∀ base : Heap, K.In base → base.Ns mainGlobals mg → FnOk P w K mg base CX0 5 f fd ["_law_script"] (spLaw K) := by
  have cd := c.d
  have gl : ∀ (i : Nat) {x : Str}, fa[i]? = some (.glo x) → mg x = some (.ref (He.ga K x)) := fun i x e => He.glo_ok X G (cd.fact i e)
  have fr : ∀ (i : Nat) {x : Str}, fa[i]? = some (.free x) → mg x = none := fun i x e => He.free_ok X G (cd.fact i e)
  obtain ⟨_, Q0⟩ := cd.def_ 0 (d := dN "is_whole" 6) rfl
  obtain ⟨_, Q1⟩ := cd.def_ 1 (d := dN "is_integer" 8) rfl
  obtain ⟨_, Q2⟩ := cd.def_ 2 (d := dN "is_fraction" 9) rfl
  obtain ⟨_, Q3⟩ := cd.def_ 3 (d := dN "made" 11) rfl
  obtain ⟨_, Q4⟩ := cd.def_ 4 (d := dN "reduced_pair" 12) rfl
  obtain ⟨_, Q5⟩ := cd.def_ 5 (d := dN "plus" 13) rfl
  obtain ⟨_, Q6⟩ := cd.def_ 6 (d := dN "minus" 14) rfl
  obtain ⟨_, Q7⟩ := cd.def_ 7 (d := dN "times" 15) rfl
  obtain ⟨_, Q8⟩ := cd.def_ 8 (d := dN "over" 16) rfl
  obtain ⟨_, Q9⟩ := cd.def_ 9 (d := dN "is_less" 17) rfl
  obtain ⟨_, Q10⟩ := cd.def_ 10 (d := dN "total_of" 18) rfl
  obtain ⟨_, Q11⟩ := cd.def_ 11 (d := dN "_law_reader" 20) rfl
  obtain ⟨_, Q12⟩ := cd.def_ 12 (d := dN "_law_draw" 21) rfl
  obtain ⟨_, Q13⟩ := cd.def_ 13 (d := dN "_law_random_part" 22) rfl
  obtain ⟨_, Q14⟩ := cd.def_ 14 (d := dN "_law_check_two" 23) rfl
  obtain ⟨_, Q15⟩ := cd.def_ 15 (d := dN "_law_check_three" 24) rfl
  obtain ⟨_, Q16⟩ := cd.def_ 16 (d := dN "_law_check_totals" 25) rfl
  obtain ⟨fd, Q17⟩ := cd.def_ 17 (d := dN "law" 26) rfl
  have F0 := Hx.toFun (st := topS 6) Q0
  have F1 := Hx.toFun (st := topS 8) Q1
  have F2 := Hx.toFun (st := topS 9) Q2
  have F3 := Hx.toFun (st := topS 11) Q3
  have F4 := Hx.toFun (st := topS 12) Q4
  have F5 := Hx.toFun (st := topS 13) Q5
  have F6 := Hx.toFun (st := topS 14) Q6
  have F7 := Hx.toFun (st := topS 15) Q7
  have F8 := Hx.toFun (st := topS 16) Q8
  have F9 := Hx.toFun (st := topS 17) Q9
  have F10 := Hx.toFun (st := topS 18) Q10
  have F11 := Hx.toFun (st := topS 20) Q11
  have F12 := Hx.toFun (st := topS 21) Q12
  have F13 := Hx.toFun (st := topS 22) Q13
  have F14 := Hx.toFun (st := topS 23) Q14
  have F15 := Hx.toFun (st := topS 24) Q15
  have F16 := Hx.toFun (st := topS 25) Q16
  have F17 := Hx.toFun (st := topS 26) Q17
  have e := hfa.symm.trans (gl 17 rfl)
  cases e
  have gG : mg ("gcd" : Str) = some (.builtin "math.gcd") := c.blt X G 0 rfl
  have b1 : ∀ {x : Str} {st : Stmt} {f : Addr} {fd : FuncData} {p : Str}, Fun K x x st f fd → (∀ (kV doc pm : Value) (an : Option Addr) (cdv ct : Value) (us : List Value), us.length = 1 → bindArgs (PySem.W.fnOf x x (defArgs st) (defBody st) (defScope st) .none kV doc pm an cdv ct) ⟨us, []⟩ = pure ([p].zip us)) → Binds K fd [p] [] := fun F h => F.binds (ps := [_]) h
  have b := FunD.bindsA (ps := ["_law_script"]) Q17 fun _ _ _ _ _ _ us hl => match us, hl with | [_], _ => rfl
  refine ⟨fd, fun s v => b s [v] rfl, fun base _ _ => ?_⟩
  have B0 : Binds K _ ["thing"] [] := F0.binds (ps := ["thing"]) fun _ _ _ _ _ _ us hl => match us, hl with | [_], _ => rfl
  have B1 : Binds K _ ["thing"] [] := F1.binds (ps := ["thing"]) fun _ _ _ _ _ _ us hl => match us, hl with | [_], _ => rfl
  have B2 : Binds K _ ["thing"] [] := F2.binds (ps := ["thing"]) fun _ _ _ _ _ _ us hl => match us, hl with | [_], _ => rfl
  have B3 : Binds K _ ["p", "q"] [] := F3.binds (ps := ["p", "q"]) fun _ _ _ _ _ _ us hl => match us, hl with | [_, _], _ => rfl
  have B4 : Binds K _ ["p", "q"] [] := F4.binds (ps := ["p", "q"]) fun _ _ _ _ _ _ us hl => match us, hl with | [_, _], _ => rfl
  have B5 : Binds K _ ["one", "other"] [] := F5.binds (ps := ["one", "other"]) fun _ _ _ _ _ _ us hl => match us, hl with | [_, _], _ => rfl
  have B6 : Binds K _ ["one", "other"] [] := F6.binds (ps := ["one", "other"]) fun _ _ _ _ _ _ us hl => match us, hl with | [_, _], _ => rfl
  have B7 : Binds K _ ["one", "other"] [] := F7.binds (ps := ["one", "other"]) fun _ _ _ _ _ _ us hl => match us, hl with | [_, _], _ => rfl
  have B8 : Binds K _ ["one", "other"] [] := F8.binds (ps := ["one", "other"]) fun _ _ _ _ _ _ us hl => match us, hl with | [_, _], _ => rfl
  have B9 : Binds K _ ["one", "other"] [] := F9.binds (ps := ["one", "other"]) fun _ _ _ _ _ _ us hl => match us, hl with | [_, _], _ => rfl
  have B10 : Binds K _ ["question", "crowd"] [] := F10.binds (ps := ["question", "crowd"]) fun _ _ _ _ _ _ us hl => match us, hl with | [_, _], _ => rfl
  have B11 : Binds K _ ["_law_script"] [] := F11.binds (ps := ["_law_script"]) fun _ _ _ _ _ _ us hl => match us, hl with | [_], _ => rfl
  have B12 : Binds K _ ["_law_reader_here", "_law_many"] [] := F12.binds (ps := ["_law_reader_here", "_law_many"]) fun _ _ _ _ _ _ us hl => match us, hl with | [_, _], _ => rfl
  have B13 : Binds K _ ["_law_reader_here"] [] := F13.binds (ps := ["_law_reader_here"]) fun _ _ _ _ _ _ us hl => match us, hl with | [_], _ => rfl
  have B14 : Binds K _ ["_law_a", "_law_b"] [] := F14.binds (ps := ["_law_a", "_law_b"]) fun _ _ _ _ _ _ us hl => match us, hl with | [_, _], _ => rfl
  have B15 : Binds K _ ["_law_a", "_law_b", "_law_c"] [] := F15.binds (ps := ["_law_a", "_law_b", "_law_c"]) fun _ _ _ _ _ _ us hl => match us, hl with | [_, _, _], _ => rfl
  have B16 : Binds K _ ["_law_reader_here"] [] := F16.binds (ps := ["_law_reader_here"]) fun _ _ _ _ _ _ us hl => match us, hl with | [_], _ => rfl
  have G0 : FnOk P w K mg base CX0 1 _ _ ["thing"] (spWhole K) := ok_whole F0 (fr 18 rfl) (fr 19 rfl) (fr 20 rfl)
  have G1 : FnOk P w K mg base CX0 2 _ _ ["thing"] (spWhole K) := ok_integer F1 G0 F0.kp B0 (gl 0 rfl)
  have G2 : FnOk P w K mg base CX0 2 _ _ ["thing"] spFraction := ok_fraction F2 G0 F0.kp B0 (gl 0 rfl) gG (fr 18 rfl) (fr 21 rfl) (fr 23 rfl)
  have G4 : FnOk P w K mg base CX0 1 _ _ ["p", "q"] (spI2F okR Rat.divInt) := ok_reduced F4 gG
  have G3 : FnOk P w K mg base CX0 3 _ _ ["p", "q"] (spI2F okR Rat.divInt) := ok_made F3 G1 F1.kp B1 (gl 1 rfl) G4 F4.kp B4 (gl 4 rfl)
  have G5 := ok_plus (P := P) (w := w) (base := base) F5 G4 F4.kp B4 (gl 4 rfl)
  have G6 := ok_minus (P := P) (w := w) (base := base) F6 G4 F4.kp B4 (gl 4 rfl)
  have G7 := ok_times (P := P) (w := w) (base := base) F7 G4 F4.kp B4 (gl 4 rfl)
  have G8 := ok_over (P := P) (w := w) (base := base) F8 G4 F4.kp B4 (gl 4 rfl)
  have G9 := ok_less (P := P) (w := w) (mg := mg) (base := base) F9
  have G10 := ok_tot (P := P) (w := w) (base := base) F10 (fr 23 rfl) (fr 25 rfl) (fr 26 rfl)
  have G11 := ok_reader (P := P) (w := w) (base := base) F11 (fr 22 rfl)
  have G12 := ok_draw (P := P) (w := w) (base := base) F12 (fr 19 rfl) (fr 23 rfl)
  have cW := cal F12 G12 (gl 12 rfl) B12
  have cD := cal F3 G3 (gl 3 rfl) B3
  have cP := cal F5 G5 (gl 5 rfl) B5
  have cM := cal F6 G6 (gl 6 rfl) B6
  have cT := cal F7 G7 (gl 7 rfl) B7
  have cO := cal F8 G8 (gl 8 rfl) B8
  have cL := cal F9 G9 (gl 9 rfl) B9
  have G13 := ok_part (P := P) (w := w) (base := base) F13 cW cD
  have G14 := ok_two (P := P) (w := w) (base := base) F14 cP cM cT cO cL cD (cal F2 G2 (gl 2 rfl) B2)
  have G15 := ok_three (P := P) (w := w) (base := base) F15 cP cM cT cL
  have G16 := ok_totals (P := P) (w := w) (base := base) F16 cW (cal F10 G10 (gl 10 rfl) B10) (fr 24 rfl) (fr 21 rfl) (fr 25 rfl)
  exact ok_law F17 (cal F11 G11 (gl 11 rfl) B11) cW (cal F13 G13 (gl 13 rfl) B13) (cal F14 G14 (gl 14 rfl) B14) (cal F15 G15 (gl 15 rfl) B15) (cal F16 G16 (gl 16 rfl) B16) (fr 24 rfl)
end K5
open PySem PySem.W PySem.Calls PyProof.Rows
set_option maxHeartbeats 0 in
theorem PySem.Challenge.cw_thinspans_k05_whole_fractions_holds : PySem.Challenge.rw_thinspans_k05_whole_fractions.Holds := by
  w_on; o_law
  refine HandSHeadRun.head_imp (r := OpenLaw.row PySem.Challenge.rw_thinspans_k05_whole_fractions) (q := view (OpenLaw.row PySem.Challenge.rw_thinspans_k05_whole_fractions).prog [0, 26]) (H := K5.hk) (ob := K5.ob) (M := 200000) (loose := K5.loose) (d := HandSHeadRun.topDef (OpenLaw.row PySem.Challenge.rw_thinspans_k05_whole_fractions).prog 26) (kwd := []) K5.ob_eq
    K5.run (by kernel_rfl) (by kernel_rfl) (by kernel_rfl) (by rfl) (by first | assumption | decide +kernel) (by decide +kernel) ⟨rfl, rfl, rfl, rfl, rfl, by decide +kernel⟩ ?hw ?hc
  case hw => w_witness2
  case hc =>
    refine Hx.walk_ofEB (l := PySem.Challenge.rw_thinspans_k05_whole_fractions) (n := 63) (k := 5) (x := "_law_script") (CX := L2.CX0) rfl (by decide) (by kernel_rfl) ⟨rfl, by decide, by decide⟩ ?F (fun _ _ _ _ z => z)
    intro w mg fa h Y G hmg0
    obtain ⟨K, KX, c⟩ := Y
    have hmg : mg ("law" : PySem.Str) = some (.ref fa) := by
      have e : (HandSHeadRun.topDef (OpenLaw.row PySem.Challenge.rw_thinspans_k05_whole_fractions).prog 26).name = ("law" : PySem.Str) := by kernel_rfl
      rw [← e]
      exact hmg0
    obtain ⟨fd, hb, hF⟩ := K5.facts (P := (PySem.Challenge.rw_thinspans_k05_whole_fractions).prog) (w := w) KX G hmg c
    exact ⟨K, fd, K5.spLaw K, KX, hb, fun H a ns hl _ _ hS => ⟨a, ns, rfl, hS, fun _ => rfl⟩, hF⟩
