import PyProof.Rows.All
import Wide.All
import OpenK.AllK
import Wide.FinOn
import KE.KStateDown
import HandS.ForMost
import HandS.Evl
import HandS.Gcd
import HandS.Wide
import HandS.TupMul
import HandS.TupAny
import HandS.IsInst
import HandS.Zip
import HandS.Conv
import HandS.NoneIn
import HandS.SetFor
import HandS.Defaults
import HandS.Codes
import HandS.EndBits
import HandS.HeadEnd
import HandS.HeadHook1
import HandS.HeadHook2
import HandS.Head0
import HandS.Head1
import HandS.Head2
import KE.SortData
import HandS.Style
import HandS.Deep
import HandS.Star
import HandS.Head3
import KE.GoesMore
import KE.GoesZip
import PyProof.ReprRoads
import HandS.Ends
import PyProof.ReprLen
import PyProof.FitsInt
import HandS.Keys
import PySem.Challenge.RW_thinspans_k18_kept_spans_told
set_option Elab.async false
set_option linter.all false
set_option maxRecDepth 100000
/-! the mathematics of reduced pairs -/
namespace Fr
theorem gcd_pos {p q : Int} (h : q ≠ 0) : 0 < Nat.gcd p.natAbs q.natAbs := Nat.gcd_pos_of_pos_right _ (by omega)
def comm (p q : Int) : Int := if q < 0 then -((Nat.gcd p.natAbs q.natAbs : Nat) : Int) else ((Nat.gcd p.natAbs q.natAbs : Nat) : Int)
theorem comm_neg {p q : Int} (h : q < 0) : comm p q = -((Nat.gcd p.natAbs q.natAbs : Nat) : Int) := if_pos h
theorem comm_pos {p q : Int} (h : ¬ q < 0) : comm p q = ((Nat.gcd p.natAbs q.natAbs : Nat) : Int) := if_neg h
theorem gcd_eq (p q : Int) : Int.gcd q p = Nat.gcd p.natAbs q.natAbs := by unfold Int.gcd; exact Nat.gcd_comm _ _
theorem fdiv_neg_dvd {a b : Int} (hb : b ≠ 0) (h : b ∣ a) : a.fdiv (-b) = -(a / b) := by
  rw [Int.fdiv_neg hb, if_pos h, Int.fdiv_eq_ediv_of_dvd h]
theorem gdl (p q : Int) : ((Nat.gcd p.natAbs q.natAbs : Nat) : Int) ∣ p := Int.ofNat_dvd_left.mpr (Nat.gcd_dvd_left _ _)
theorem gdr (p q : Int) : ((Nat.gcd p.natAbs q.natAbs : Nat) : Int) ∣ q := Int.ofNat_dvd_left.mpr (Nat.gcd_dvd_right _ _)
theorem red_num {p q : Int} (h : q ≠ 0) : p.fdiv (comm p q) = (Rat.divInt p q).num := by
  have g := gcd_pos (p := p) h
  rw [Rat.num_divInt, gcd_eq]
  by_cases hq : q < 0
  · rw [comm_neg hq, Int.sign_eq_neg_one_of_neg hq, fdiv_neg_dvd (by omega) (gdl p q), show (-1 : Int) * p = -p by omega, Int.neg_ediv_of_dvd (gdl p q)]
  · rw [comm_pos hq, Int.sign_eq_one_of_pos (show 0 < q by omega), Int.one_mul, Int.fdiv_eq_ediv_of_nonneg _ (Int.natCast_nonneg _)]
theorem red_den {p q : Int} (h : q ≠ 0) : q.fdiv (comm p q) = ((Rat.divInt p q).den : Int) := by
  have g := gcd_pos (p := p) h
  rw [Rat.den_divInt, gcd_eq, if_neg h, Int.natCast_ediv]
  by_cases hq : q < 0
  · rw [comm_neg hq, fdiv_neg_dvd (by omega) (gdr p q), ← Int.neg_ediv_of_dvd (gdr p q)]
    congr 1
    omega
  · rw [comm_pos hq, Int.fdiv_eq_ediv_of_nonneg _ (Int.natCast_nonneg _)]
    congr 1
    omega
/-- bounded: both parts below 2 ^ n -/
def Bd (n : Nat) (r : Rat) : Prop := r.num.natAbs < 2 ^ n ∧ r.den < 2 ^ n
theorem Bd.mono {n m : Nat} {r : Rat} (h : Bd n r) (hm : n ≤ m) : Bd m r := ⟨Nat.lt_of_lt_of_le h.1 (Nat.pow_le_pow_right (by decide) hm), Nat.lt_of_lt_of_le h.2 (Nat.pow_le_pow_right (by decide) hm)⟩
theorem bd_div {p q : Int} {n : Nat} (h : q ≠ 0) (hp : p.natAbs < 2 ^ n) (hq : q.natAbs < 2 ^ n) : Bd n (Rat.divInt p q) := by
  have g := gcd_pos (p := p) h
  refine ⟨?_, ?_⟩
  · rw [Rat.num_divInt, gcd_eq]
    have e : (q.sign * p / ((Nat.gcd p.natAbs q.natAbs : Nat) : Int)).natAbs ≤ p.natAbs := by
      refine Nat.le_trans (Int.natAbs_ediv_le_natAbs _ _) ?_
      rw [Int.natAbs_mul, Int.natAbs_sign_of_ne_zero h, Nat.one_mul]
      exact Nat.le_refl _
    omega
  · rw [Rat.den_divInt, if_neg h]
    have e : q.natAbs / Int.gcd q p ≤ q.natAbs := Nat.div_le_self _ _
    omega
theorem nd_lt {a b n m : Nat} (h1 : a < 2 ^ n) (h2 : b < 2 ^ m) : a * b < 2 ^ (n + m) := by
  rw [Nat.pow_add]
  exact Nat.mul_lt_mul'' h1 h2
theorem im_lt {a b : Int} {n m : Nat} (h1 : a.natAbs < 2 ^ n) (h2 : b.natAbs < 2 ^ m) : (a * b).natAbs < 2 ^ (n + m) := by
  rw [Int.natAbs_mul]
  exact nd_lt h1 h2
theorem ia_lt {a b : Int} {n : Nat} (h1 : a.natAbs < 2 ^ n) (h2 : b.natAbs < 2 ^ n) : (a + b).natAbs < 2 ^ (n + 1) := by
  rw [Nat.pow_succ]
  omega
theorem is_lt {a b : Int} {n : Nat} (h1 : a.natAbs < 2 ^ n) (h2 : b.natAbs < 2 ^ n) : (a - b).natAbs < 2 ^ (n + 1) := by
  rw [Nat.pow_succ]
  omega
theorem lt_up {a n m : Nat} (h : a < 2 ^ n) (hm : n ≤ m) : a < 2 ^ m := Nat.lt_of_lt_of_le h (Nat.pow_le_pow_right (by decide) hm)
theorem den_ne (x : Rat) : (x.den : Int) ≠ 0 := by
  have := x.den_nz
  omega
theorem add_eq (x y : Rat) : Rat.divInt (x.num * y.den + y.num * x.den) (x.den * y.den) = x + y := by
  conv => rhs; rw [← Rat.num_divInt_den x, ← Rat.num_divInt_den y]
  rw [Rat.divInt_add_divInt _ _ (den_ne x) (den_ne y)]
theorem sub_eq (x y : Rat) : Rat.divInt (x.num * y.den - y.num * x.den) (x.den * y.den) = x - y := by
  conv => rhs; rw [← Rat.num_divInt_den x, ← Rat.num_divInt_den y]
  rw [Rat.divInt_sub_divInt _ _ (den_ne x) (den_ne y)]
theorem mul_eq (x y : Rat) : Rat.divInt (x.num * y.num) (x.den * y.den) = x * y := by
  conv => rhs; rw [← Rat.num_divInt_den x, ← Rat.num_divInt_den y]
  rw [Rat.divInt_mul_divInt]
theorem div_eq (x y : Rat) : Rat.divInt (x.num * y.den) (x.den * y.num) = x / y := by
  rw [Rat.div_def]
  conv => rhs; rw [← Rat.num_divInt_den x, ← Rat.num_divInt_den y, Rat.inv_divInt]
  rw [Rat.divInt_mul_divInt]
theorem num_ne {x : Rat} (h : x ≠ 0) : x.num ≠ 0 := fun e => h (Rat.num_eq_zero.mp e)
theorem bd_add {x y : Rat} {n m : Nat} (h1 : Bd n x) (h2 : Bd m y) : Bd (n + m + 1) (x + y) := by
  rw [← add_eq]
  have a1 : (x.den : Int).natAbs < 2 ^ n := h1.2
  have a2 : (y.den : Int).natAbs < 2 ^ m := h2.2
  have d := Int.mul_ne_zero (den_ne x) (den_ne y)
  refine bd_div d (ia_lt (im_lt h1.1 a2) ?_) (lt_up (im_lt a1 a2) (by omega))
  have := im_lt h2.1 a1
  rwa [Nat.add_comm m n] at this
theorem bd_sub {x y : Rat} {n m : Nat} (h1 : Bd n x) (h2 : Bd m y) : Bd (n + m + 1) (x - y) := by
  rw [← sub_eq]
  have a1 : (x.den : Int).natAbs < 2 ^ n := h1.2
  have a2 : (y.den : Int).natAbs < 2 ^ m := h2.2
  have d := Int.mul_ne_zero (den_ne x) (den_ne y)
  refine bd_div d (is_lt (im_lt h1.1 a2) ?_) (lt_up (im_lt a1 a2) (by omega))
  have := im_lt h2.1 a1
  rwa [Nat.add_comm m n] at this
theorem bd_mul {x y : Rat} {n m : Nat} (h1 : Bd n x) (h2 : Bd m y) : Bd (n + m) (x * y) := by
  rw [← mul_eq]
  have a1 : (x.den : Int).natAbs < 2 ^ n := h1.2
  have a2 : (y.den : Int).natAbs < 2 ^ m := h2.2
  exact bd_div (Int.mul_ne_zero (den_ne x) (den_ne y)) (im_lt h1.1 h2.1) (im_lt a1 a2)
theorem bd_quo {x y : Rat} {n m : Nat} (h1 : Bd n x) (h2 : Bd m y) (h : y ≠ 0) : Bd (n + m) (x / y) := by
  rw [← div_eq]
  have a1 : (x.den : Int).natAbs < 2 ^ n := h1.2
  have a2 : (y.den : Int).natAbs < 2 ^ m := h2.2
  exact bd_div (Int.mul_ne_zero (den_ne x) (num_ne h)) (im_lt h1.1 a2) (im_lt a1 h2.1)
theorem lt_eq (x y : Rat) : decide (x.num * y.den < y.num * x.den) = decide (x < y) := by
  rw [decide_eq_decide]
  exact (Rat.lt_iff x y).symm
theorem red_self {x : Rat} : Nat.gcd x.num.natAbs (x.den : Int).natAbs = 1 := by
  have := x.reduced
  exact this
theorem made_self (x : Rat) {c : Int} (h : c ≠ 0) : Rat.divInt (x.num * c) (x.den * c) = x := by
  rw [Rat.divInt_mul_right h, Rat.num_divInt_den]
theorem made_neg (x : Rat) : Rat.divInt (0 - x.num) (0 - x.den) = x := by
  rw [show (0 : Int) - x.num = -x.num by omega, show (0 : Int) - x.den = -x.den by omega, Rat.neg_divInt_neg, Rat.num_divInt_den]
theorem ext_iff {x y : Rat} : (x.num = y.num ∧ (x.den : Int) = y.den) ↔ x = y := ⟨fun h => Rat.ext h.1 (by have := h.2; omega), fun h => by rw [h]; exact ⟨rfl, rfl⟩⟩
end Fr
/-! general rules over the layer: what evaluates to a value of which something is known (EvP), reduced pairs as tuples (IsF), the draws' reader (RdAt) -/
namespace Fx
open PySem PySem.Spec PyProof.Rows L2 Evl
abbrev VP := V → Hp → Prop
def Mono (P : VP) : Prop := ∀ v H H', Ex H H' → P v H → P v H'
def EvP (te : TE) (σ : L2.St) (H : Hp) (P : VP) : Prop := ∀ H1, Ex H H1 → ∀ Q : VK, (∀ v H2, Ex H1 H2 → P v H2 → Q v H2) → te σ H1 Q
section
variable {te ta tb : TE} {σ : L2.St} {H : Hp} {P P' : VP} {v x y z : V}
theorem EvP.of (h : Ev te σ H v) : EvP te σ H (fun x _ => x = v) := fun H1 e Q q => h H1 e Q fun H2 e2 => q v H2 e2 rfl
theorem EvP.ofU {xs : List V} (h : EvU te σ H xs) : EvP te σ H (fun x H' => ∃ p, x = .ref p ∧ H' p = some (.tup xs)) := fun H1 e Q q => h H1 e Q fun p H2 _ e2 hp => q _ H2 e2 ⟨p, rfl, hp⟩
theorem EvP.mono {H' : Hp} (e : Ex H H') (h : EvP te σ H P) : EvP te σ H' P := fun H1 a Q q => h H1 (e.trans a) Q q
theorem EvP.imp (h : EvP te σ H P) (k : ∀ v H', Ex H H' → P v H' → P' v H') : EvP te σ H P' := fun H1 e Q q => h H1 e Q fun v H2 e2 p => q v H2 e2 (k v H2 (e.trans e2) p)
theorem ev_op2 {r : R2} (ha : EvP ta σ H P) (mP : Mono P) (hb : EvP tb σ H P') (hr : ∀ x y H1, Ex H H1 → P x H1 → P' y H1 → RV r x y H1 z) : Ev (tOp r ta tb) σ H z := fun H1 e Q q =>
  ha H1 e _ fun x H2 e2 p => hb H2 (e.trans e2) _ fun y H3 e3 p' => hr x y H3 (e.trans (e2.trans e3)) (mP _ _ _ e3 p) p' H3 (Ex.refl _) Q fun H4 e4 => q H4 (e2.trans (e3.trans e4))
theorem ev_op1 {r : R2} (ha : EvP ta σ H P) (hb : Ev tb σ H y) (mP : Mono P) (hr : ∀ x H1, Ex H H1 → P x H1 → RV r x y H1 z) : Ev (tOp r ta tb) σ H z :=
  ev_op2 ha mP (EvP.of hb) fun x y' H1 e p ey => by
    subst ey
    exact hr x H1 e p
end
/-! ### a tuple of two ints that is the reduced pair of a rational -/
def frO (r : Rat) : HO := .tup [.int r.num, .int (r.den : Int)]
def IsF (r : Rat) : VP := fun v H => ∃ p, v = .ref p ∧ H p = some (frO r)
theorem IsF.mono {r : Rat} : Mono (IsF r) := fun _ _ _ e ⟨p, h1, h2⟩ => ⟨p, h1, e p _ h2⟩
section
variable {te ta tb : TE} {σ : L2.St} {H : Hp} {K : PySem.W.Frag} {r r' : Rat} {p : Addr} {v x y z : V}
theorem IsF.sq (h : H p = some (frO r)) : SqT K H p [.int r.num, .int (r.den : Int)] := st_of h
theorem evF_var {i : Nat} (h : σ[i]? = some (some (.ref p))) (hp : H p = some (frO r)) : EvP (tVar i) σ H (IsF r) := fun H1 e Q q => ⟨.ref p, h, q _ H1 (Ex.refl _) ⟨p, rfl, e p _ hp⟩⟩
theorem evF_tup {n d : Int} (hn : r.num = n) (hd : (r.den : Int) = d) (ha : Ev ta σ H (.int n)) (hb : Ev tb σ H (.int d)) : EvP (tTup (tCons ta (tCons tb tNil))) σ H (IsF r) := by
  have h := EvP.ofU (eu_tup (ea_cons ha (ea_cons hb ea_nil)) (by show 2 ≤ 100000; decide))
  refine h.imp fun v H' _ ⟨p, h1, h2⟩ => ⟨p, h1, ?_⟩
  rw [h2, frO, hn, hd]
theorem ev_ix0 (h : EvP te σ H (IsF r)) : Ev (tOp (rIxT K) te (tC (.int 0))) σ H (.int r.num) := ev_op1 h ev_c IsF.mono fun x H1 _ ⟨p, e, hp⟩ => by
  subst e
  exact rv_ixT (IsF.sq hp) rfl
theorem ev_ix1 (h : EvP te σ H (IsF r)) : Ev (tOp (rIxT K) te (tC (.int 1))) σ H (.int (r.den : Int)) := ev_op1 h ev_c IsF.mono fun x H1 _ ⟨p, e, hp⟩ => by
  subst e
  exact rv_ixT (IsF.sq hp) rfl
theorem dpF (h : H p = some (frO r)) : Dp K H (.ref p) (.tuple [.int r.num, .int (r.den : Int)]) := .tup (IsF.sq h) (.cons (.int _) (.cons (.int _) .nil))
theorem eqvF (r r' : Rat) : PyData.eqv (.tuple [.int r.num, .int (r.den : Int)]) (.tuple [.int r'.num, .int (r'.den : Int)]) = decide (r = r') := by
  rw [PyData.eqv, PyData.eqvAll, PyData.eqvAll, PyData.eqvAll, PyData.eqv, PyData.eqv, Bool.and_true]
  by_cases e : r = r'
  · subst e
    simp
  · rw [decide_eq_false e]
    by_cases e1 : r.num = r'.num
    · have e2 : (r.den : Int) ≠ r'.den := fun e2 => e (Rat.ext e1 (by omega))
      simp [beq_eq_false_iff_ne.mpr e2]
    · simp [beq_eq_false_iff_ne.mpr e1]
theorem shF (r : Rat) : SeqAt.shaped (.tuple [.int r.num, .int (r.den : Int)]) = true := rfl
theorem ev_eqF (ha : EvP ta σ H (IsF r)) (hb : EvP tb σ H (IsF r')) : Ev (tOp (rEqD K) ta tb) σ H (.bl (decide (r = r'))) := ev_op2 ha IsF.mono hb fun x y H1 _ ⟨p, e, hp⟩ ⟨q, e', hq⟩ => by
  subst e e'
  refine fun H2 e2 Q k => ⟨_, _, dpF (e2 _ _ hp), dpF (e2 _ _ hq), shF r, shF r', ?_⟩
  rw [eqvF]
  exact k H2 (Ex.refl _)
theorem ev_neF (ha : EvP ta σ H (IsF r)) (hb : EvP tb σ H (IsF r')) : Ev (tOp (rNeD K) ta tb) σ H (.bl (!decide (r = r'))) := ev_op2 ha IsF.mono hb fun x y H1 _ ⟨p, e, hp⟩ ⟨q, e', hq⟩ => by
  subst e e'
  refine fun H2 e2 Q k => ⟨_, _, dpF (e2 _ _ hp), dpF (e2 _ _ hq), shF r, shF r', ?_⟩
  rw [eqvF]
  exact k H2 (Ex.refl _)
/-! ### a def of two pairs: to a pair; to a truth value -/
def spF2 (ok : Rat → Rat → Prop) (f : Rat → Rat → Rat) : Sp := fun vs H Q _ => ∃ (a b : Addr) (x y : Rat), vs = [.ref a, .ref b] ∧ H a = some (frO x) ∧ H b = some (frO y) ∧ ok x y ∧ ∀ H' p, Ex H H' → H' p = some (frO (f x y)) → Q (.ref p) H'
def spB2 (ok : Rat → Rat → Prop) (f : Rat → Rat → Bool) : Sp := fun vs H Q _ => ∃ (a b : Addr) (x y : Rat), vs = [.ref a, .ref b] ∧ H a = some (frO x) ∧ H b = some (frO y) ∧ ok x y ∧ Q (.bl (f x y)) H
def spI2F (ok : Int → Int → Prop) (f : Int → Int → Rat) : Sp := fun vs H Q _ => ∃ (i j : Int), vs = [.int i, .int j] ∧ ok i j ∧ ∀ H' p, Ex H H' → H' p = some (frO (f i j)) → Q (.ref p) H'
theorem evF_call {ok : Rat → Rat → Prop} {f : Rat → Rat → Rat} {E : XK} (ha : EvP ta σ H (IsF r)) (hb : EvP tb σ H (IsF r')) (hk : ok r r') : EvP (tCall (spF2 ok f) [] E (tCons ta (tCons tb tNil))) σ H (IsF (f r r')) := fun H1 e Q q =>
  ha H1 e _ fun x H2 e2 ⟨p, h1, h2⟩ => hb H2 (e.trans e2) _ fun y H3 e3 ⟨p', h1', h2'⟩ => by
    subst h1 h1'
    exact ⟨p, p', r, r', rfl, e3 _ _ h2, h2', hk, fun H4 z e4 hz => q _ H4 (e2.trans (e3.trans e4)) ⟨z, rfl, hz⟩⟩
theorem ev_callB {ok : Rat → Rat → Prop} {f : Rat → Rat → Bool} {E : XK} (ha : EvP ta σ H (IsF r)) (hb : EvP tb σ H (IsF r')) (hk : ok r r') : Ev (tCall (spB2 ok f) [] E (tCons ta (tCons tb tNil))) σ H (.bl (f r r')) := fun H1 e Q q =>
  ha H1 e _ fun x H2 e2 ⟨p, h1, h2⟩ => hb H2 (e.trans e2) _ fun y H3 e3 ⟨p', h1', h2'⟩ => by
    subst h1 h1'
    exact ⟨p, p', r, r', rfl, e3 _ _ h2, h2', hk, q H3 (e2.trans e3)⟩
theorem evF_callI {ok : Int → Int → Prop} {f : Int → Int → Rat} {E : XK} {i j : Int} (ha : Ev ta σ H (.int i)) (hb : Ev tb σ H (.int j)) (hk : ok i j) : EvP (tCall (spI2F ok f) [] E (tCons ta (tCons tb tNil))) σ H (IsF (f i j)) := fun H1 e Q q =>
  ha H1 e _ fun H2 e2 => hb H2 (e.trans e2) _ fun H3 e3 => ⟨i, j, rfl, hk, fun H4 z e4 hz => q _ H4 (e2.trans (e3.trans e4)) ⟨z, rfl, hz⟩⟩
theorem EvP.cast {s s' : Rat} (h : EvP te σ H (IsF s)) (e : s = s') : EvP te σ H (IsF s') := e ▸ h
end
/-! ### floor division by a great divisor of any sign -/
section
variable {X : Cx}
def CDivS (_ j : Int) : Prop := j ≠ 0 ∧ j.natAbs.log2 < 9000
theorem op_fdivWN : OpR X (binaryOp .FloorDiv) (rI CDivS fun i j => .int (i.fdiv j)) := opI fun i j _ _ _ _ _ hc q => floordiv_int hc.1 q (.inl (PyProof.noPylong_of_log2 hc.2))
theorem cdivS {i j : Int} {b : Nat} (h : j ≠ 0) (hb : j.natAbs < 2 ^ b) (h0 : 0 < b) (h9 : b ≤ 9000) : CDivS i j := ⟨h, Nat.lt_of_lt_of_le (PySem.Flt.log2_lt_of h0 hb) h9⟩
end
end Fx
/-! ### list.count over truth values; a tuple times 1 -/
namespace Fx
open PySem PySem.Spec PyProof.Rows L2
def eqb (k : Bool) (v : Value) : Bool := match v with
  | .bool b => b == k
  | _ => false
theorem vals_bl : ∀ {bs : List Bool} {us : List Value}, Vals (bs.map V.bl) us → us = bs.map Value.bool
  | [], _, h => by
    cases h
    rfl
  | b :: r, _, h => by
    cases h with
    | cons a t =>
      have e := vals_bl t
      rw [e, show _ = Value.bool b from a]
      rfl
theorem eqb_count (k : Bool) : ∀ bs : List Bool, (bs.map Value.bool).countP (eqb k) = bs.count k
  | [] => rfl
  | b :: r => by
    rw [List.map_cons, List.countP_cons, List.count_cons, eqb_count k r] <;> rfl
section
variable {X : Cx}
def rCntB (K : PySem.W.Frag) : V → List V → Hp → VK → Prop := fun x xs H Q => ∃ (p : Addr) (bs : List Bool) (k : Bool), x = .ref p ∧ xs = [.bl k] ∧ SqL K H p (bs.map V.bl) ∧ Q (.int (bs.count k : Nat)) H
theorem mt_countB : MtR X "list.count" (rCntB X.K) := by
  intro pins s σ H x xs v us Q I rx rxs h
  obtain ⟨p, bs, k, rfl, rfl, hs, q⟩ := h
  cases rx
  obtain ⟨u, rfl, ru⟩ := rxs.one
  cases (show u = Value.bool k from ru)
  obtain ⟨its, rv, ⟨⟨cls, dd, data, sl⟩, n, ho, hc, hdn, hd⟩, hlen⟩ := I.list hs
  simp only at hc hd
  subst hc hd
  have ei := vals_bl rv
  subst ei
  refine call_meets PySem.F.slot_list_count ⟨_, ho, rfl⟩ PySem.F.entry_list_count (PySem.F.args_list_count_2 _ _)
    (SeqAt.list_countAt p (bs.map Value.bool).toArray n dd sl (.bool k) (eqb k)) ⟨ho, fun y hy => ?_, ?_⟩
  · obtain ⟨b, _, e⟩ := List.mem_map.mp (show y ∈ bs.map Value.bool by simpa using hy)
    subst e
    exact SeqAt.EqAt.bool_bool b k
  · have ec : (bs.map Value.bool).toArray.toList.countP (eqb k) = bs.count k := eqb_count k bs
    refine ⟨.int (bs.count k : Nat), H, I.tok _, ⟨s.toks, ?_⟩, q⟩
    show Value.int (((bs.map Value.bool).toArray.toList.countP (eqb k) : Nat) : Int) s.toks = Value.int ((bs.count k : Nat) : Int) s.toks
    rw [ec]
end
theorem tuple_mul1 (l : Addr) (items : Array Value) (n : Nat) (dd : Option Addr) (sl : Array (Option Value)) (x : Int) (u : Tok) (c0 : (decide (x < -(2 ^ 63)) || decide (x ≥ 2 ^ 63)) = false) (c1 : (items.isEmpty || x == 1) = true) :
    Meets (Builtin.«tuple.__mul__» ⟨[.ref l, .int x u], []⟩) (fun _ R s => s.heap.get? l = some { cls := .type "tuple", dict := dd, data := .seq items n, slots := sl } ∧
      R (.ok (.ret (Value.ref l))) s) :=
  .of_wp fun prog w A R s h => by
    obtain ⟨hp, g, d, tk, os⟩ := s
    obtain ⟨hl, h⟩ := h
    have f1 := AutoSeq1.idx_int
    wp_walk using wpAny_loadPart' hl
    repeat (first
      | (refine wpAny_ite_false (decide_eq_false (by rw [c0]; exact Bool.false_ne_true)) ?_; wp_walk using wpAny_loadPart' hl)
      | (refine wpAny_ite_true (decide_eq_true c1) ?_; wp_walk using wpAny_loadPart' hl))
    exact ⟨_, rfl, h⟩
def rRepT1 (K : PySem.W.Frag) : R2 := fun x y H Q => ∃ l xs, x = .ref l ∧ y = .int 1 ∧ SqT K H l xs ∧ Q (.ref l) H
section
variable {X : Cx}
theorem op_repT1 : OpR X (binaryOp .Mult) (rRepT1 X.K) := by
  intro pins s σ H x y v u Q I rx ry h
  obtain ⟨l, xs, rfl, rfl, hT, q⟩ := h
  cases rx
  obtain ⟨t, rfl⟩ := ry
  obtain ⟨its, r, ⟨⟨cls, dd, data, sl⟩, ho, hc, n, hd⟩, hs⟩ := I.tuple hT
  simp only at hc hd
  subst hc hd
  have c0 : (decide ((1 : Int) < -(2 ^ 63)) || decide ((1 : Int) ≥ 2 ^ 63)) = false := by decide
  have c1 : (its.toArray.isEmpty || (1 : Int) == 1) = true := by simp
  refine wpAny_binaryOp_repeat_ref (T := "tuple") (U := "int") (by decide) ⟨_, ho, rfl⟩ (fun s' => typeIs_int s' 1 t) noFill_tuple_mul F.fills_int_mul F.slot_int_rmul repeat_tuple F.slot_int_index.lookup
    (call_meets F.slot_int_rmul (typeIs_int s 1 t) F.entry_int_rmul (F.args_int_rmul_2 _ _) (int_rmul_tuple 1 t l its.toArray n dd sl)
      ⟨ho, rfl, ⟨_, ho, rfl⟩, call_meets F.slot_tuple_mul ⟨_, ho, rfl⟩ F.entry_tuple_mul (F.args_tuple_mul_2 _ _) (tuple_mul1 l its.toArray n dd sl 1 t c0 c1) ⟨ho, ?_⟩⟩)
  exact ⟨.ref l, H, I, rfl, q⟩
end
end Fx
/-! ### more evaluations -/
namespace Fx
open PySem PySem.Spec PyProof.Rows L2 Evl Fr
section
variable {te ta tb tl : TE} {t : TT} {σ : L2.St} {H : Hp} {K : PySem.W.Frag} {v x y z : V}
theorem ev_neB {a b : Bool} (ha : Ev ta σ H (.bl a)) (hb : Ev tb σ H (.bl b)) : Ev (tOp rNe ta tb) σ H (.bl (!decide (a = b))) := by
  have h := ev_op (z := .bl (!decide (V.bl a = V.bl b))) ha hb (rv_ne rfl)
  have e : decide (V.bl a = V.bl b) = decide (a = b) := decide_eq_decide.mpr ⟨fun h => V.bl.inj h, fun h => by rw [h]⟩
  rw [e] at h
  exact h
theorem ev_neI {a b : Int} (ha : Ev ta σ H (.int a)) (hb : Ev tb σ H (.int b)) : Ev (tOp rNe ta tb) σ H (.bl (!decide (a = b))) := by
  have h := ev_op (z := .bl (!decide (V.int a = V.int b))) ha hb (rv_ne rfl)
  have e : decide (V.int a = V.int b) = decide (a = b) := decide_eq_decide.mpr ⟨fun h => V.int.inj h, fun h => by rw [h]⟩
  rw [e] at h
  exact h
theorem ev_eqI {a b : Int} (ha : Ev ta σ H (.int a)) (hb : Ev tb σ H (.int b)) : Ev (tOp rEq ta tb) σ H (.bl (decide (a = b))) := by
  have h := ev_op (z := .bl (decide (V.int a = V.int b))) ha hb (rv_eq rfl)
  have e : decide (V.int a = V.int b) = decide (a = b) := decide_eq_decide.mpr ⟨fun h => V.int.inj h, fun h => by rw [h]⟩
  rw [e] at h
  exact h
theorem ev_countB {bs : List Bool} {k : Bool} (h : EvL ta σ H (bs.map V.bl)) : Ev (tBM K "list" (rCntB K) ta (tCons (tC (.bl k)) tNil)) σ H (.int (bs.count k : Nat)) := fun H1 e Q q =>
  h H1 e _ fun p H2 _ e2 hp => ⟨.inl ⟨rfl, _, sq_of hp⟩, p, bs, k, rfl, rfl, sq_of hp, q H2 e2⟩
/-- a comprehension over a new tuple of which no item passes the test -/
theorem el_lcTno {Pe : VP} {j : Nat} {vs : List Nat} (mP : Mono Pe) (h : EvP tl σ H (fun v H' => ∃ p ps, v = .ref p ∧ H' p = some (.tup ps) ∧ ∀ x ∈ ps, Pe x H')) (hw : ∀ x, wipe ((wipe σ vs).set j (some x)) vs = wipe σ vs)
    (hno : ∀ x H1, Ex H H1 → Pe x H1 → EvT t ((wipe σ vs).set j (some x)) H1 false) : EvL (tLc (iTup K tl) (gName j) t te vs) σ H [] := fun H0 e Q q => h H0 e _ fun v H1 e1 ⟨p, ps, ev, hp, hel⟩ => by
  subst ev
  exact ⟨p, rfl, ⟨ps, st_of hp⟩, fun Dl hD => lc_tup (xs := ps) (fun i H' => Ex H1 H' ∧ H' Dl = some (.lst [])) ⟨Ex.new hD, upd_same⟩ (fun i H' _ w => st_of (w.1 p _ hp))
    (fun i x H' hi w => ⟨hw x, hno x H' (e.trans (e1.trans w.1)) (mP _ _ _ w.1 (hel x (List.mem_of_getElem? hi))) H' (Ex.refl _) _ fun H3 e3 => iteF ⟨w.1.trans e3, e3 _ _ w.2⟩⟩) (fun H' w => q Dl H' (fresh_back e1 hD) (e1.trans w.1) w.2)⟩
theorem evp_tup3 {P : VP} (mP : Mono P) (ha : EvP ta σ H P) (hb : EvP tb σ H P) (hc : EvP tl σ H P) : EvP (tTup (tCons ta (tCons tb (tCons tl tNil)))) σ H (fun v H' => ∃ p ps, v = .ref p ∧ H' p = some (.tup ps) ∧ ∀ x ∈ ps, P x H') := fun H1 e Q q =>
  ha H1 e _ fun x H2 e2 p2 => hb H2 (e.trans e2) _ fun y H3 e3 p3 => hc H3 (e.trans (e2.trans e3)) _ fun z H4 e4 p4 => ⟨by show 3 ≤ sizeLine; decide, fun p hp => by
    have n := Ex.new (o := .tup [x, y, z]) hp
    refine q _ _ (e2.trans (e3.trans (e4.trans n))) ⟨p, _, rfl, upd_same, fun u hu => ?_⟩
    simp only [List.mem_cons, List.not_mem_nil, or_false] at hu
    rcases hu with rfl | rfl | rfl
    · exact mP _ _ _ (e3.trans (e4.trans n)) p2
    · exact mP _ _ _ (e4.trans n) p3
    · exact mP _ _ _ n p4⟩
theorem ev_neL0 (ha : EvL ta σ H []) (hb : EvL tb σ H []) : Ev (tOp (rNeD K) ta tb) σ H (.bl false) := ev_opLL ha hb fun p q H1 hp hq e => fun H2 e2 Q k =>
  ⟨.list [], .list [], .lst (sq_of (e2 _ _ hp)) .nil, .lst (sq_of (e2 _ _ hq)) .nil, rfl, rfl, k H2 (Ex.refl _)⟩
theorem IsF.ofP {te : TE} {r : Rat} (h : EvP te σ H (IsF r)) : EvP te σ H (fun v H' => ∃ s : Rat, IsF s v H') := h.imp fun _ _ _ p => ⟨r, p⟩
theorem IsF.monoE : Mono (fun v H' => ∃ s : Rat, IsF s v H') := fun _ _ _ e ⟨s, p⟩ => ⟨s, IsF.mono _ _ _ e p⟩
end
/-! ### the mathematics of the rules of reckoning -/
theorem bd0 : Bd 1 (0 : Rat) := ⟨by decide, by decide⟩
theorem bd1 : Bd 1 (1 : Rat) := ⟨by decide, by decide⟩
theorem num_pos {z : Rat} : (0 < z.num) ↔ 0 < z := by
  rw [Rat.lt_iff]
  simp
theorem num_neg {z : Rat} : (z.num < 0) ↔ z < 0 := by
  rw [Rat.lt_iff]
  simp
theorem dd {p q : Prop} [Decidable p] [Decidable q] (h : p ↔ q) : (decide p = decide q) := decide_eq_decide.mpr h
theorem nf {b : Bool} (h : b = true) : (!b) = false := by rw [h]; rfl
theorem lt_add (x y z : Rat) : x < y ↔ x + z < y + z := by grind
theorem lt_mul {x y z : Rat} (h : 0 < z) : x < y ↔ x * z < y * z := (Rat.mul_lt_mul_right h).symm
theorem lt_mul_neg {x y z : Rat} (h : z < 0) : x < y ↔ y * z < x * z := by
  have h' : 0 < -z := by grind
  have k := Rat.mul_lt_mul_right (a := x) (b := y) h'
  rw [← k]
  grind
end Fx
/-! ### the reader of the draws -/
namespace Fx
open PySem PySem.Spec PyProof.Rows L2 Evl
def rdK (l : Addr) (spot rest calls : Int) : List (Key × V) := [(.inr "cells", .ref l), (.inr "spot", .int spot), (.inr "rest", .int rest), (.inr "calls", .int calls)]
theorem n1 : ¬ ((Sum.inr "cells" : Key) = (Sum.inr "spot" : Key)) := by decide +kernel
theorem n2 : ¬ ((Sum.inr "cells" : Key) = (Sum.inr "rest" : Key)) := by decide +kernel
theorem n3 : ¬ ((Sum.inr "cells" : Key) = (Sum.inr "calls" : Key)) := by decide +kernel
theorem n4 : ¬ ((Sum.inr "spot" : Key) = (Sum.inr "rest" : Key)) := by decide +kernel
theorem n5 : ¬ ((Sum.inr "spot" : Key) = (Sum.inr "calls" : Key)) := by decide +kernel
theorem n6 : ¬ ((Sum.inr "rest" : Key) = (Sum.inr "calls" : Key)) := by decide +kernel
theorem n4' : ¬ ((Sum.inr "rest" : Key) = (Sum.inr "spot" : Key)) := by decide +kernel
theorem n5' : ¬ ((Sum.inr "calls" : Key) = (Sum.inr "spot" : Key)) := by decide +kernel
theorem n6' : ¬ ((Sum.inr "calls" : Key) = (Sum.inr "rest" : Key)) := by decide +kernel
section
variable {l : Addr} {s r c z : Int}
theorem val_cells : valV (rdK l s r c) (.inr "cells") = some (.ref l) := valV_pos rfl
theorem val_spot : valV (rdK l s r c) (.inr "spot") = some (.int s) := (valV_neg n1).trans (valV_pos rfl)
theorem val_rest : valV (rdK l s r c) (.inr "rest") = some (.int r) := (valV_neg n2).trans ((valV_neg n4).trans (valV_pos rfl))
theorem val_calls : valV (rdK l s r c) (.inr "calls") = some (.int c) := (valV_neg n3).trans ((valV_neg n5).trans ((valV_neg n6).trans (valV_pos rfl)))
theorem put_spot : putK (rdK l s r c) (.inr "spot") (.int z) = rdK l z r c := by
  unfold putK
  rw [if_pos (by rw [valV_any, val_spot]; rfl)]
  show [(if _ then _ else _), (if _ then _ else _), (if _ then _ else _), (if _ then _ else _)] = rdK l z r c
  rw [if_neg n1, if_pos rfl, if_neg n4', if_neg n5']
  rfl
theorem put_rest : putK (rdK l s r c) (.inr "rest") (.int z) = rdK l s z c := by
  unfold putK
  rw [if_pos (by rw [valV_any, val_rest]; rfl)]
  show [(if _ then _ else _), (if _ then _ else _), (if _ then _ else _), (if _ then _ else _)] = rdK l s z c
  rw [if_neg n2, if_neg n4, if_pos rfl, if_neg n6']
  rfl
theorem put_calls : putK (rdK l s r c) (.inr "calls") (.int z) = rdK l s r z := by
  unfold putK
  rw [if_pos (by rw [valV_any, val_calls]; rfl)]
  show [(if _ then _ else _), (if _ then _ else _), (if _ then _ else _), (if _ then _ else _)] = rdK l s r z
  rw [if_neg n3, if_neg n5, if_neg n6, if_pos rfl]
  rfl
end
section
variable {H : Hp} {d l : Addr} {s r c z : Int}
theorem get_cells (h : H d = some (.dK (rdK l s r c))) : DGet H d (.str "cells") (some (.ref l)) := by
  rw [← val_cells (l := l) (s := s) (r := r) (c := c)]
  exact DGet.k (k := .inr "cells") h
theorem get_spot (h : H d = some (.dK (rdK l s r c))) : DGet H d (.str "spot") (some (.int s)) := by
  rw [← val_spot (l := l) (s := s) (r := r) (c := c)]
  exact DGet.k (k := .inr "spot") h
theorem get_rest (h : H d = some (.dK (rdK l s r c))) : DGet H d (.str "rest") (some (.int r)) := by
  rw [← val_rest (l := l) (s := s) (r := r) (c := c)]
  exact DGet.k (k := .inr "rest") h
theorem get_calls (h : H d = some (.dK (rdK l s r c))) : DGet H d (.str "calls") (some (.int c)) := by
  rw [← val_calls (l := l) (s := s) (r := r) (c := c)]
  exact DGet.k (k := .inr "calls") h
theorem rd_len : (rdK l s r c).length < sizeLine := by show 4 < sizeLine; decide
theorem dput_spot : DPut (upd H d (.dK (rdK l s r c))) d (.str "spot") (.int z) (upd H d (.dK (rdK l z r c))) := by
  have h := DPut.k (H := upd H d (.dK (rdK l s r c))) (a := d) (k := .inr "spot") (v := .int z) upd_same rd_len
  rw [put_spot, upd_upd] at h
  exact h
theorem dput_rest : DPut (upd H d (.dK (rdK l s r c))) d (.str "rest") (.int z) (upd H d (.dK (rdK l s z c))) := by
  have h := DPut.k (H := upd H d (.dK (rdK l s r c))) (a := d) (k := .inr "rest") (v := .int z) upd_same rd_len
  rw [put_rest, upd_upd] at h
  exact h
theorem dput_calls (h : H d = some (.dK (rdK l s r c))) : DPut H d (.str "calls") (.int z) (upd H d (.dK (rdK l s r z))) := by
  have h := DPut.k (k := .inr "calls") (v := .int z) h rd_len
  rw [put_calls] at h
  exact h
end
/-- the reader at d, its cells at l, after at most n draws -/
def RdAt (H : Hp) (d l : Addr) (n : Nat) : Prop := ∃ (ns : List Int) (s r c : Int), H d = some (.dK (rdK l s r c)) ∧ H l = some (.lst (ns.map V.int)) ∧ ns.length ≤ 63 ∧ 0 ≤ s ∧ 0 ≤ c ∧ c ≤ n
/-- all but what stands at d is as it was -/
def Kp (d : Addr) (H H' : Hp) : Prop := ∀ b o, H b = some o → b ≠ d → H' b = some o
theorem Kp.refl (d : Addr) (H : Hp) : Kp d H H := fun _ _ h _ => h
theorem Kp.trans {d : Addr} {H H1 H2 : Hp} (a : Kp d H H1) (b : Kp d H1 H2) : Kp d H H2 := fun x o h n => b x o (a x o h n) n
theorem Kp.ex {d : Addr} {H H1 : Hp} (e : Ex H H1) : Kp d H H1 := fun x o h _ => e x o h
theorem Kp.upd {d : Addr} {H : Hp} {o : HO} : Kp d H (upd H d o) := fun b u h n => by
  rw [upd_ne n]
  exact h
/-- what H does not know may change -/
theorem Kp.mut {d p : Addr} {H H1 : Hp} {o : HO} (k : Kp d H H1) (h : H p = none) : Kp d H (L2.upd H1 p o) := fun b u hb n => by
  rw [upd_ne (ne_of_none hb h)]
  exact k b u hb n
section
variable {H H' : Hp} {d l : Addr} {n m : Nat}
theorem RdAt.ex (h : RdAt H d l n) (e : Ex H H') : RdAt H' d l n := by
  obtain ⟨ns, s, r, c, h1, h2, h3⟩ := h
  exact ⟨ns, s, r, c, e _ _ h1, e _ _ h2, h3⟩
theorem RdAt.mono (h : RdAt H d l n) (e : n ≤ m) : RdAt H d l m := by
  obtain ⟨ns, s, r, c, h1, h2, h3, h4, h5, h6⟩ := h
  exact ⟨ns, s, r, c, h1, h2, h3, h4, h5, by omega⟩
theorem RdAt.is (h : RdAt H d l n) : ∃ kvs, H d = some (.dK kvs) := by
  obtain ⟨ns, s, r, c, h1, _⟩ := h
  exact ⟨_, h1⟩
theorem RdAt.isL (h : RdAt H d l n) : ∃ o, H l = some o := by
  obtain ⟨ns, s, r, c, _, h1, _⟩ := h
  exact ⟨_, h1⟩
theorem RdAt.upd (h : RdAt H d l n) {p : Addr} {o : HO} (h1 : p ≠ d) (h2 : p ≠ l) : RdAt (L2.upd H p o) d l n := by
  obtain ⟨ns, s, r, c, q1, q2, q3⟩ := h
  exact ⟨ns, s, r, c, by rw [upd_ne h1.symm]; exact q1, by rw [upd_ne h2.symm]; exact q2, q3⟩
theorem RdAt.neT (h : RdAt H d l n) {a : Addr} {xs : List V} (ha : H a = some (.tup xs)) : a ≠ d := by
  obtain ⟨kvs, h1⟩ := h.is
  exact ne_of ha h1 (by intro z; cases z)
theorem RdAt.neL (h : RdAt H d l n) {a : Addr} {xs : List V} (ha : H a = some (.lst xs)) : a ≠ d := by
  obtain ⟨kvs, h1⟩ := h.is
  exact ne_of ha h1 (by intro z; cases z)
theorem RdAt.neN (h : RdAt H d l n) {a : Addr} (ha : H a = none) : a ≠ l := by
  obtain ⟨o, h1⟩ := h.isL
  exact (ne_of_none h1 ha).symm
end
def spDraw : Sp := fun vs H Q _ => ∃ (d l : Addr) (many : Int) (n : Nat), vs = [.ref d, .int many] ∧ RdAt H d l n ∧ n ≤ 1000000 ∧ 0 < many ∧ many < 2 ^ 60 ∧ ∀ H' r, Kp d H H' → RdAt H' d l (n + 1) → 0 ≤ r → r < many → Q (.int r) H'
end Fx
/-! ### tuples of ints; comprehensions over range; draws in comprehensions -/
namespace Fx
open PySem PySem.Spec PyProof.Rows L2 Evl
def dot : List Int → List Int → Int
  | x :: xs, y :: ys => x * y + dot xs ys
  | _, _ => 0
theorem dot_add : ∀ xs ys zs : List Int, xs.length = ys.length → ys.length = zs.length → dot xs (List.zipWith (· + ·) ys zs) = dot xs ys + dot xs zs
  | [], _, _, _, _ => rfl
  | _ :: _, [], _, h, _ => nomatch h
  | _ :: _, _ :: _, [], _, h => nomatch h
  | x :: xs, y :: ys, z :: zs, h1, h2 => by
    have ih := dot_add xs ys zs (Nat.succ.inj h1) (Nat.succ.inj h2)
    show x * (y + z) + dot xs (List.zipWith (· + ·) ys zs) = (x * y + dot xs ys) + (x * z + dot xs zs)
    rw [ih]
    grind
theorem dot_sub : ∀ xs ys zs : List Int, xs.length = ys.length → ys.length = zs.length → dot (List.zipWith (· - ·) xs ys) zs = dot xs zs - dot ys zs
  | [], [], _, _, _ => by
    simp [dot]
  | [], _ :: _, _, h, _ => nomatch h
  | _ :: _, [], _, h, _ => nomatch h
  | _ :: _, _ :: _, [], _, h => nomatch h
  | x :: xs, y :: ys, z :: zs, h1, h2 => by
    have ih := dot_sub xs ys zs (Nat.succ.inj h1) (Nat.succ.inj h2)
    show (x - y) * z + dot (List.zipWith (· - ·) xs ys) zs = (x * z + dot xs zs) - (y * z + dot ys zs)
    rw [ih]
    grind
theorem dot_zero : ∀ (n : Nat) (ys : List Int), dot (List.replicate n 0) ys = 0
  | 0, _ => rfl
  | n + 1, [] => rfl
  | n + 1, y :: ys => by
    show 0 * y + dot (List.replicate n 0) ys = 0
    rw [dot_zero n ys]
    omega
theorem dot_one : ∀ (n : Nat) (ys : List Int), ys.length = n → dot (List.replicate n 1) ys = ys.sum
  | 0, [], _ => rfl
  | 0, _ :: _, h => nomatch h
  | n + 1, [], h => nomatch h
  | n + 1, y :: ys, h => by
    show 1 * y + dot (List.replicate n 1) ys = (y :: ys).sum
    rw [dot_one n ys (Nat.succ.inj h), List.sum_cons]
    omega
theorem dot_app : ∀ xs xs' ys ys' : List Int, xs.length = ys.length → dot (xs ++ xs') (ys ++ ys') = dot xs ys + dot xs' ys'
  | [], _, [], _, _ => by
    simp [dot]
  | [], _, _ :: _, _, h => nomatch h
  | _ :: _, _, [], _, h => nomatch h
  | x :: xs, xs', y :: ys, ys', h => by
    have ih := dot_app xs xs' ys ys' (Nat.succ.inj h)
    show x * y + dot (xs ++ xs') (ys ++ ys') = (x * y + dot xs ys) + dot xs' ys'
    rw [ih]
    omega
theorem dot_sum : ∀ xs ys : List Int, (List.zipWith (· * ·) xs ys).sum = dot xs ys
  | [], _ => by simp [dot]
  | _ :: _, [] => by simp [dot]
  | x :: xs, y :: ys => by
    show (x * y :: List.zipWith (· * ·) xs ys).sum = x * y + dot xs ys
    rw [List.sum_cons, dot_sum xs ys]
theorem range_zip (f : Int → Int → Int) {m : Nat} {xs ys : List Int} (h1 : xs.length = m) (h2 : ys.length = m) : (List.range m).map (fun i => V.int (f (xs.getD i 0) (ys.getD i 0))) = (List.zipWith f xs ys).map V.int := by
  refine List.ext_getElem ?_ fun i g1 g2 => ?_
  · rw [List.length_map, List.length_range, List.length_map, List.length_zipWith, h1, h2, Nat.min_self]
  · rw [List.length_map, List.length_range] at g1
    have a1 : i < xs.length := by omega
    have a2 : i < ys.length := by omega
    rw [List.getElem_map, List.getElem_map, List.getElem_range, List.getElem_zipWith, List.getD_eq_getElem?_getD, List.getD_eq_getElem?_getD, List.getElem?_eq_getElem a1, List.getElem?_eq_getElem a2]
    rfl
theorem given_all (n : Nat) (v : Nat → V) : given n (fun _ => true) v = (List.range n).map v := by
  unfold given
  rw [List.filter_eq_self.mpr (fun _ _ => rfl)]
def rTupOf (K : PySem.W.Frag) : List V → Hp → VK → Prop := fun xs H Q => ∃ p ys, xs = [.ref p] ∧ ((SqL K H p ys ∧ ∀ l, H l = none → Q (.ref l) (upd H l (.tup ys))) ∨ (SqT K H p ys ∧ Q (.ref p) H))
theorem call_tupleOf {X : Cx} : CallR X (.type "tuple") (rTupOf X.K) := call_tuple_of
/-- a tuple of ints -/
def IsT (xs : List Int) : VP := fun v H => ∃ p, v = .ref p ∧ H p = some (.tup (xs.map V.int))
theorem IsT.mono {xs : List Int} : Mono (IsT xs) := fun _ _ _ e ⟨p, h1, h2⟩ => ⟨p, h1, e p _ h2⟩
/-- the bound of what is multiplied -/
def Sm (xs : List Int) : Prop := ∀ x ∈ xs, x.natAbs < 2 ^ 400
def spTot : Sp := fun vs H Q _ => ∃ (a b : Addr) (xs ys : List Int), vs = [.ref a, .ref b] ∧ H a = some (.tup (xs.map V.int)) ∧ H b = some (.tup (ys.map V.int)) ∧ xs.length = ys.length ∧ xs.length ≤ 1000 ∧ Sm xs ∧ Sm ys ∧ ∀ H', Ex H H' → Q (.int (dot xs ys)) H'
section
variable {te ta tb tl : TE} {σ : L2.St} {H : Hp} {K : PySem.W.Frag} {v x y z : V} {xs ys : List Int}
theorem evT_var {i : Nat} {p : Addr} (h : σ[i]? = some (some (.ref p))) (hp : H p = some (.tup (xs.map V.int))) : EvP (tVar i) σ H (IsT xs) := fun H1 e Q q => ⟨.ref p, h, q _ H1 (Ex.refl _) ⟨p, rfl, e p _ hp⟩⟩
theorem ev_tot {E : XK} (ha : EvP ta σ H (IsT xs)) (hb : EvP tb σ H (IsT ys)) (hl : xs.length = ys.length) (h1 : xs.length ≤ 1000) (sx : Sm xs) (sy : Sm ys) : Ev (tCall spTot [] E (tCons ta (tCons tb tNil))) σ H (.int (dot xs ys)) := fun H1 e Q q =>
  ha H1 e _ fun x H2 e2 ⟨p, g1, g2⟩ => hb H2 (e.trans e2) _ fun y H3 e3 ⟨p', g1', g2'⟩ => by
    subst g1 g1'
    exact ⟨p, p', xs, ys, rfl, e3 _ _ g2, g2', hl, h1, sx, sy, fun H4 e4 => q H4 (e2.trans (e3.trans e4))⟩
theorem ev_ixT {i : Nat} (ha : EvP ta σ H (IsT xs)) (hb : Ev tb σ H (.int (i : Int))) (hi : i < xs.length) : Ev (tOp (rIxT K) ta tb) σ H (.int (xs.getD i 0)) := ev_op1 ha hb IsT.mono fun x H1 _ ⟨p, e, hp⟩ => by
  subst e
  refine rv_ixT (st_of hp) (atI_nat ?_)
  rw [List.getElem?_map, List.getElem?_eq_getElem hi, List.getD_eq_getElem?_getD, List.getElem?_eq_getElem hi]
  rfl
/-- tuple([..]) -/
theorem evT_of (h : EvL ta σ H (xs.map V.int)) : EvP (tCB (rTupOf K) (tCons ta tNil)) σ H (IsT xs) := fun H1 e Q q =>
  h H1 e _ fun p H2 _ e2 hp => ⟨p, _, rfl, .inl ⟨sq_of hp, fun l hl => q _ _ (e2.trans (Ex.new hl)) ⟨l, rfl, upd_same⟩⟩⟩
theorem evT_rep {n : Int} {m : Nat} (hm : 1 ≤ m) (hm2 : m ≤ 1000) (hb : Ev tb σ H (.int (m : Int))) : EvP (tOp (fun x y H Q => rRepT K x y H Q ∨ rRepT1 K x y H Q) (tTup (tCons (tC (.int n)) tNil)) tb) σ H (IsT (List.replicate m n)) := fun H1 e Q q =>
  (EvP.ofU (eu_tup (ea_cons ev_c ea_nil) (by show 1 ≤ 100000; decide))) H1 e _ fun x H2 e2 ⟨p, ex, hp⟩ => by
    subst ex
    refine hb H2 (e.trans e2) _ fun H3 e3 => ?_
    by_cases h : m = 1
    · subst h
      exact .inr ⟨p, _, rfl, rfl, st_of (e3 _ _ hp), q _ _ (e2.trans e3) ⟨p, rfl, e3 _ _ hp⟩⟩
    · refine .inl ⟨p, (m : Int), _, rfl, rfl, st_of (e3 _ _ hp), (by intro z; cases z), by omega, by omega, by show 1 ≤ 1000; decide, fun l hl => q _ _ (e2.trans (e3.trans (Ex.new hl))) ⟨l, rfl, ?_⟩⟩
      rw [upd_same]
      congr 2
      have : ∀ k : Nat, (List.replicate k [V.int n]).flatten = (List.replicate k n).map V.int := fun k => by
        induction k with
        | zero => rfl
        | succ k ih =>
          rw [List.replicate_succ, List.flatten_cons, ih, List.replicate_succ, List.map_cons]
          rfl
      rw [Int.toNat_natCast]
      exact this m
theorem evT_cat (ha : EvP ta σ H (IsT xs)) (hb : EvP tb σ H (IsT ys)) (hx : xs ≠ []) (hy : ys ≠ []) (hl : xs.length + ys.length ≤ 1000) : EvP (tOp (rCatT K) ta tb) σ H (IsT (xs ++ ys)) := fun H1 e Q q =>
  ha H1 e _ fun x H2 e2 ⟨p, g1, g2⟩ => hb H2 (e.trans e2) _ fun y H3 e3 ⟨p', g1', g2'⟩ => by
    subst g1 g1'
    refine ⟨p, p', _, _, rfl, rfl, st_of (e3 _ _ g2), st_of g2', fun z => hx (List.map_eq_nil_iff.mp z), ?_, fun z => absurd (List.map_eq_nil_iff.mp z) hy, fun _ l hl => q _ _ (e2.trans (e3.trans (Ex.new hl))) ⟨l, rfl, ?_⟩⟩
    · rw [List.length_map, List.length_map]
      exact Nat.le_trans hl (by decide)
    · rw [upd_same, List.map_append]
end
/-! ### sum of a tuple -/
section
variable {X : Cx}
def rSumT (K : PySem.W.Frag) : List V → Hp → VK → Prop := fun vs H Q => ∃ (a : Addr) (ns : List Int), vs = [V.ref a] ∧ SqT K H a (ns.map V.int) ∧ Q (.int ns.sum) H
theorem cr_sumT (hc : X.calm = true) : CallR X (.builtin "sum") (rSumT X.K) := by
  intro pins s σ H vs us Q I r h
  obtain ⟨a, ns, rfl, hs, q⟩ := h
  obtain ⟨its, rv, hl, _⟩ := I.tuple hs
  rw [Vals.ref1 r]
  have hi := rv.ints
  obtain ⟨xs, e⟩ := hi.allInts.items
  have hn : numsOf (intItems xs).toList = ns := by rw [← e]; exact hi.numsOf
  rw [nums_intItems] at hn
  have hl2 : s.heap.IsTuple a (intItems xs) := by rw [← e]; exact hl
  refine PySem.W.ktm_sumG (I.ok.hd hc) hl2 fun h' tk t' hk => ⟨.int _, H, I.kept hk, ⟨_, rfl⟩, ?_⟩
  rw [preSum_eq, List.take_of_length_le (by simp), hn]
  exact q
end
theorem ev_sumT {ta : TE} {σ : L2.St} {H : Hp} {K : PySem.W.Frag} {xs : List Int} (ha : EvP ta σ H (IsT xs)) : Ev (tCB (rSumT K) (tCons ta tNil)) σ H (.int xs.sum) := fun H1 e Q q =>
  ha H1 e _ fun x H2 e2 ⟨p, g1, g2⟩ => by
    subst g1
    exact ⟨p, xs, rfl, st_of g2, q _ e2⟩
/-! ### draws in comprehensions -/
def Drawn (te : TE) (σ : L2.St) (d l : Addr) (lo hi : Int) : Prop := ∀ H n, RdAt H d l n → n ≤ 900000 → ∀ Q : VK, (∀ H' v, Kp d H H' → RdAt H' d l (n + 1) → lo ≤ v → v ≤ hi → Q (.int v) H') → te σ H Q
theorem lc_drawn {ta : TA} {σ : L2.St} {H : Hp} {te : TE} {j m n : Nat} {vs : List Nat} {d l : Addr} {lo hi : Int} {Q : VK} (h : EvA ta σ H [.int (m : Int)]) (hm : m ≤ 1000) (hR : RdAt H d l n) (hn : n + m ≤ 900000)
    (hw : ∀ x, wipe ((wipe σ vs).set j (some x)) vs = wipe σ vs) (hd : ∀ x, Drawn te ((wipe σ vs).set j (some x)) d l lo hi)
    (q : ∀ D H' (js : List Int), H D = none → Kp d H H' → RdAt H' d l (n + m) → H' D = some (.lst (js.map V.int)) → js.length = m → (∀ v ∈ js, lo ≤ v ∧ v ≤ hi) → Q (.ref D) H') : tLc (iRng1 ta) (gName j) tYes te vs σ H Q := by
  refine h H (Ex.refl H) _ fun H1 e1 => ⟨(m : Int), rfl, by omega, by omega, fun Dl hD => ?_⟩
  have hD0 : H Dl = none := fresh_back e1 hD
  have hDl : Dl ≠ l := hR.neN hD0
  refine lc_range (lo := 0) (n := (m : Int).toNat) (fun i H' => Kp d H H' ∧ RdAt H' d l (n + i) ∧ ∃ js : List Int, H' Dl = some (.lst (js.map V.int)) ∧ js.length = i ∧ ∀ v ∈ js, lo ≤ v ∧ v ≤ hi) ?_ (fun i H' hi' p => ?_) (fun H' p => ?_)
  · exact ⟨(Kp.ex e1).mut hD0, (hR.ex e1).ex (Ex.new hD), [], upd_same, rfl, fun _ hv => nomatch hv⟩
  · obtain ⟨k1, R1, js, g1, g2, g3⟩ := p
    have nd : Dl ≠ d := R1.neL g1
    refine ⟨hw _, ?_⟩
    show te _ _ _
    refine hd _ H' (n + i) R1 (by omega) _ fun H2 v k2 R2 a1 a2 => ⟨js.map V.int, k2 _ _ g1 nd, ?_, (k1.trans k2).mut hD0, R2.upd nd hDl, js ++ [v], ?_, ?_, fun u hu => ?_⟩
    · rw [List.length_map]
      exact sz_lt (by omega)
    · rw [upd_same, List.map_append]
      rfl
    · rw [List.length_append, g2]
      rfl
    · rcases List.mem_append.mp hu with hu | hu
      · exact g3 u hu
      · rw [List.mem_singleton.mp hu]
        exact ⟨a1, a2⟩
  · obtain ⟨k1, R1, js, g1, g2, g3⟩ := p
    rw [Int.toNat_natCast] at R1 g2
    exact q Dl H' js hD0 k1 R1 g1 g2 g3
/-- tuple([.. for k in range(m)]) of draws, by an element's word -/
def DrawnT (te : TE) (σ : L2.St) (d l : Addr) (m : Nat) (lo hi : Int) : Prop := ∀ H n, RdAt H d l n → n ≤ 800000 → ∀ Q : VK, (∀ H' p (js : List Int), Kp d H H' → RdAt H' d l (n + m) → H' p = some (.tup (js.map V.int)) → js.length = m → (∀ v ∈ js, lo ≤ v ∧ v ≤ hi) → Q (.ref p) H') → te σ H Q
theorem drawnT_of {ta : TA} {σ : L2.St} {te : TE} {j m : Nat} {vs : List Nat} {d l : Addr} {lo hi : Int} (h : ∀ H, EvA ta σ H [.int (m : Int)]) (hm : m ≤ 1000)
    (hw : ∀ x, wipe ((wipe σ vs).set j (some x)) vs = wipe σ vs) (hd : ∀ x, Drawn te ((wipe σ vs).set j (some x)) d l lo hi) {K : PySem.W.Frag} :
    DrawnT (tCB (rTupOf K) (tCons (tLc (iRng1 ta) (gName j) tYes te vs) tNil)) σ d l m lo hi := fun H n hR hn Q q => by
  have z := lc_drawn (Q := fun v H1 => ∃ p ys, [v] = [V.ref p] ∧ ((SqL K H1 p ys ∧ ∀ l, H1 l = none → Q (.ref l) (upd H1 l (.tup ys))) ∨ (SqT K H1 p ys ∧ Q (.ref p) H1))) (h H) hm hR (by omega) hw hd fun D H' js hD k R g1 g2 g3 => ⟨D, _, rfl, .inl ⟨sq_of g1, fun t ht => q _ t js (k.trans (Kp.ex (Ex.new ht))) (R.ex (Ex.new ht)) upd_same g2 g3⟩⟩
  exact z
/-- a list of two such tuples -/
theorem lc_two {σ : L2.St} {H : Hp} {te : TE} {j m n : Nat} {vs : List Nat} {d l : Addr} {lo hi : Int} {Q : VK} (hm : m ≤ 1000) (hR : RdAt H d l n) (hn : n + 2 * m ≤ 700000)
    (hw : ∀ x, wipe ((wipe σ vs).set j (some x)) vs = wipe σ vs) (hd : ∀ x, DrawnT te ((wipe σ vs).set j (some x)) d l m lo hi)
    (q : ∀ D H' (p1 p2 : Addr) (xs ys : List Int), Kp d H H' → RdAt H' d l (n + 2 * m) → H' D = some (.lst [.ref p1, .ref p2]) → H' p1 = some (.tup (xs.map V.int)) → H' p2 = some (.tup (ys.map V.int)) → xs.length = m → ys.length = m →
      (∀ v ∈ xs, lo ≤ v ∧ v ≤ hi) → (∀ v ∈ ys, lo ≤ v ∧ v ≤ hi) → Q (.ref D) H') : tLc (iRng1 (tCons (tC (.int 2)) tNil)) (gName j) tYes te vs σ H Q := by
  refine ⟨2, rfl, by decide, by decide, fun Dl hD => ?_⟩
  have hDl : Dl ≠ l := hR.neN hD
  refine lc_range (lo := 0) (n := (2 : Int).toNat) (fun i H' => Kp d H H' ∧ RdAt H' d l (n + i * m) ∧ ∃ ps : List Addr, H' Dl = some (.lst (ps.map V.ref)) ∧ ps.length = i ∧ ∀ p ∈ ps, ∃ js : List Int, H' p = some (.tup (js.map V.int)) ∧ js.length = m ∧ ∀ v ∈ js, lo ≤ v ∧ v ≤ hi) ?_ (fun i H' hi' p => ?_) (fun H' p => ?_)
  · exact ⟨(Kp.refl d H).mut hD, by simpa using hR.ex (Ex.new hD), [], upd_same, rfl, fun _ hv => nomatch hv⟩
  · obtain ⟨k1, R1, ps, g1, g2, g3⟩ := p
    have nd : Dl ≠ d := R1.neL g1
    have hi2 : i < 2 := hi'
    have him : i * m ≤ 2 * m := Nat.mul_le_mul_right m (by omega)
    refine ⟨hw _, ?_⟩
    show te _ _ _
    refine hd _ H' (n + i * m) R1 (by omega) _ fun H2 p js k2 R2 f1 f2 f3 => ⟨ps.map V.ref, k2 _ _ g1 nd, ?_, (k1.trans k2).mut hD, ?_, ps ++ [p], ?_, ?_, fun u hu => ?_⟩
    · rw [List.length_map]
      exact sz_lt (by omega)
    · have := R2.upd (o := HO.lst (ps.map V.ref ++ [.ref p])) nd hDl
      rw [Nat.add_mul, Nat.one_mul, ← Nat.add_assoc]
      exact this
    · rw [upd_same, List.map_append]
      rfl
    · rw [List.length_append, g2]
      rfl
    · have keep : ∀ (a : Addr) (xs : List V), H2 a = some (.tup xs) → (upd H2 Dl (.lst (ps.map V.ref ++ [.ref p]))) a = some (.tup xs) := fun a xs ha => by
        rw [upd_ne (ne_of ha (k2 _ _ g1 nd) (by intro z; cases z))]
        exact ha
      rcases List.mem_append.mp hu with hu | hu
      · obtain ⟨js', z1, z2⟩ := g3 u hu
        exact ⟨js', keep u _ (k2 _ _ z1 (R1.neT z1)), z2⟩
      · rw [List.mem_singleton.mp hu]
        exact ⟨js, keep p _ f1, f2, f3⟩
  · obtain ⟨k1, R1, ps, g1, g2, g3⟩ := p
    have g2' : ps.length = 2 := g2
    match ps, g2' with
    | [p1, p2], _ =>
      obtain ⟨xs, x1, x2, x3⟩ := g3 p1 (by simp)
      obtain ⟨ys, y1, y2, y3⟩ := g3 p2 (by simp)
      exact q Dl H' p1 p2 xs ys k1 R1 g1 x1 y1 x2 y2 x3 y3
end Fx
/-! ### zip of two tuples in a comprehension; lists of one length -/
namespace Fx
open PySem PySem.Spec PyProof.Rows L2 Evl
theorem lc_zipT {K : PySem.W.Frag} {a b : Addr} {xs ys : List V} {g : TG} {tt : TT} {te : TE} {vs : List Nat} {σ : L2.St} {H1 : Hp} {D : Addr} {Qd : Hp → Prop} (hl : xs.length = ys.length) (Pv : Nat → Hp → Prop) (h0 : Pv 0 (upd H1 D (.lst []))) (hq : ∀ i H, Pv i H → SqT K H a xs ∧ SqT K H b ys)
    (hs : ∀ (i : Nat) (x y : V) (T : Addr) (H : Hp), xs[i]? = some x → ys[i]? = some y → Pv i H → H T = none → g (.ref T) (wipe σ vs) (upd H T (.tup [x, y])) fun σ2 H2 => wipe σ2 vs = wipe σ vs ∧ tt σ2 H2 fun b H3 =>
      if b = true then te σ2 H3 fun y H4 => ∃ acc, H4 D = some (.lst acc) ∧ acc.length < sizeLine ∧ Pv (i + 1) (upd H4 D (.lst (acc ++ [y]))) else Pv (i + 1) H3) (hd : ∀ H, Pv xs.length H → Qd H) :
    ∃ W : Nat → Nat → Hp → Prop, (∃ m, W 0 m (upd H1 D (.lst []))) ∧ ∀ i m H, W i m H →
      ((RZ.ItzT K a b).stop i H ∧ Qd H) ∨ ((RZ.ItzT K a b).go i H ∧ ∃ Nx : Hp → Prop, (∀ H', Nx H' → ∃ m', m' < m ∧ W (i + 1) m' H') ∧ ∀ x H', (RZ.ItzT K a b).yld i H x H' → g x (wipe σ vs) H' fun σ2 H2 => wipe σ2 vs = wipe σ vs ∧ tt σ2 H2 fun b H3 =>
        if b = true then te σ2 H3 fun y H4 => ∃ acc, H4 D = some (.lst acc) ∧ acc.length < sizeLine ∧ Nx (upd H4 D (.lst (acc ++ [y]))) else Nx H3) := by
  refine ⟨fun i m H => m = xs.length - i ∧ i ≤ xs.length ∧ Pv i H, ⟨xs.length, by simp, Nat.zero_le _, h0⟩, ?_⟩
  rintro i m H ⟨rfl, hi, p⟩
  obtain ⟨qx, qy⟩ := hq i H p
  by_cases hlt : i < xs.length
  · have hx : xs[i]? = some xs[i] := List.getElem?_eq_getElem hlt
    have hlt2 : i < ys.length := by omega
    have hy : ys[i]? = some ys[i] := List.getElem?_eq_getElem hlt2
    refine .inr ⟨⟨xs, ys, _, _, qx, qy, hx, hy⟩, Pv (i + 1), fun H' p' => ⟨xs.length - (i + 1), by omega, rfl, hlt, p'⟩, fun v H' y => ?_⟩
    obtain ⟨T, x', y', rfl, hT, rfl, f1, f2⟩ := y
    exact hs i x' y' T H (f1 xs qx) (f2 ys qy) p hT
  · have e : i = xs.length := by omega
    subst e
    exact .inl ⟨⟨xs, ys, qx, qy, Or.inl (Nat.le_refl _)⟩, hd H p⟩
def Lm (m : Nat) (xs : List Int) : Prop := xs.length = m ∧ Sm xs
theorem sm_of {xs : List Int} (h : ∀ v ∈ xs, -1000 ≤ v ∧ v ≤ 1000) : Sm xs := fun v hv => Nat.lt_of_lt_of_le (show v.natAbs < 2 ^ 10 by have := h v hv; omega) (Nat.pow_le_pow_right (by decide) (by decide))
theorem zw_mem {f : Int → Int → Int} : ∀ {xs ys : List Int} {v : Int}, v ∈ List.zipWith f xs ys → ∃ x y, x ∈ xs ∧ y ∈ ys ∧ v = f x y
  | [], _, _, h => by simp at h
  | _ :: _, [], _, h => by simp at h
  | x :: xs, y :: ys, v, h => by
    rcases List.mem_cons.mp (show v ∈ f x y :: List.zipWith f xs ys from h) with h | h
    · exact ⟨x, y, by simp, by simp, h⟩
    · obtain ⟨x', y', h1, h2, h3⟩ := zw_mem h
      exact ⟨x', y', List.mem_cons_of_mem _ h1, List.mem_cons_of_mem _ h2, h3⟩
theorem lm_zw {f : Int → Int → Int} {m : Nat} {xs ys : List Int} {a b : Int} (hf : ∀ x y, x ∈ xs → y ∈ ys → -1000 ≤ f x y ∧ f x y ≤ 1000) (h1 : xs.length = m) (h2 : ys.length = m) : Lm m (List.zipWith f xs ys) := by
  refine ⟨by rw [List.length_zipWith, h1, h2, Nat.min_self], sm_of fun v hv => ?_⟩
  obtain ⟨x, y, hx, hy, e⟩ := zw_mem hv
  rw [e]
  exact hf x y hx hy
theorem lm_rep {m : Nat} {n : Int} (h : -1000 ≤ n ∧ n ≤ 1000) : Lm m (List.replicate m n) := ⟨List.length_replicate, sm_of fun v hv => by rw [List.eq_of_mem_replicate hv]; exact h⟩
theorem lm_app {m k : Nat} {xs ys : List Int} (h1 : Lm m xs) (h2 : Lm k ys) : Lm (m + k) (xs ++ ys) := ⟨by rw [List.length_append, h1.1, h2.1], fun v hv => (List.mem_append.mp hv).elim (h1.2 v) (h2.2 v)⟩
section
variable {te ta tb tl : TE} {tz : TS} {D : Ends} {t : TT} {σ : L2.St} {H : Hp} {K : PySem.W.Frag} {v x y z : V} {xs ys : List Int}
theorem ev_totL {E : XK} {m : Nat} (ha : EvP ta σ H (IsT xs)) (hb : EvP tb σ H (IsT ys)) (lx : Lm m xs) (ly : Lm m ys) (hm : m ≤ 1000) : Ev (tCall spTot [] E (tCons ta (tCons tb tNil))) σ H (.int (dot xs ys)) :=
  ev_tot ha hb (lx.1.trans ly.1.symm) (by rw [lx.1]; exact hm) lx.2 ly.2
theorem q_asgP {P : VP} {i : Nat} (h : EvP te σ H P) (k : ∀ v H1, Ex H H1 → P v H1 → tz D (σ.set i (some v)) H1) : tSeq (tAsg te (gName i)) tz D σ H := h H (Ex.refl H) _ fun v H1 e p => k v H1 e p
/-- [f(xs[k], ys[k]) for k in range(m)] -/
theorem el_zw {ta : TA} {j m : Nat} {vs : List Nat} {f : Int → Int → Int} (h : EvA ta σ H [.int (m : Int)]) (hm : m ≤ 1000) (hx : xs.length = m) (hy : ys.length = m) (hw : ∀ x, wipe ((wipe σ vs).set j (some x)) vs = wipe σ vs)
    (he : ∀ (i : Nat) H1, Ex H H1 → i < m → Ev te ((wipe σ vs).set j (some (.int (i : Int)))) H1 (.int (f (xs.getD i 0) (ys.getD i 0)))) : EvL (tLc (iRng1 ta) (gName j) tYes te vs) σ H ((List.zipWith f xs ys).map V.int) := by
  have z := el_lcR1 (t := tYes) (te := te) (j := j) (vs := vs) (fun _ => true) (fun i => V.int (f (xs.getD i 0) (ys.getD i 0))) h (by omega) hw (fun i H1 _ _ => fun H2 _ Q q => q H2 (Ex.refl _)) (fun i H1 e hi _ => he i H1 e (by omega))
  rw [given_all, Int.toNat_natCast, range_zip f hx hy] at z
  exact z
end
end Fx
/-! ### the head's facts, with built-ins that the top imports under a name -/
namespace Hx
open PySem PySem.Spec PyProof.Rows L2 He
abbrev AlE : Type := Bool × AlD
def bltB (K : PySem.W.Frag) (bs : List (Str × String)) : Bool := bs.all fun p => eqO (PySem.W.nsIn K mainGlobals p.1) (some (some (.builtin p.2)))
def obsE (fa : List Fa) (fn : List DefD) (bs : List (Str × String)) (K : PySem.W.Frag) : AlE := (bltB K bs, obsD fa fn K)
def valE (fn : List DefD) : AlE := (true, valD fn)
def SaysE (fa : List Fa) (fn : List DefD) (bs : List (Str × String)) (K : PySem.W.Frag) : Prop := obsE fa fn bs K = valE fn
def obsEG (n : Nat) (fa : List Fa) (fn : List DefD) (bs : List (Str × String)) (g : Addr → Option Obj) : AlE := obsE fa fn bs (frG g (asD g n))
def hookE (n : Nat) (fa : List Fa) (fn : List DefD) (bs : List (Str × String)) : PySem.W.Hook where
  α := AlE
  obs := fun s => obsEG n fa fn bs s.heap.get?
  val := fun _ => valE fn
  says := fun _ h => ∃ K : PySem.W.Frag, K.In h ∧ SaysE fa fn bs K
  of := fun _ _ e => ⟨_, frG_in, e⟩
  keeps := fun _ _ _ ⟨K, hK, c⟩ k => ⟨K, PySem.W.Frag.In.keeps hK k, c⟩
theorem obsEG_eq {n : Nat} {fa : List Fa} {fn : List DefD} {bs : List (Str × String)} {g : Addr → Option Obj} {s : Shared} (h : ∀ a, g a = s.heap.get? a) : obsEG n fa fn bs g = (hookE n fa fn bs).obs s := by
  have e : g = s.heap.get? := funext h
  rw [e] <;> rfl
section
variable {fa : List Fa} {fn : List DefD} {bs : List (Str × String)} {K : PySem.W.Frag} {h : Heap} {mg : Str → Option Value}
theorem SaysE.d (c : SaysE fa fn bs K) : SaysD fa fn K := congrArg (fun z : AlE => z.2) c
theorem SaysE.blt (c : SaysE fa fn bs K) (X : K.In h) (G : h.Ns mainGlobals mg) (i : Nat) {x : Str} {id : String} (e : bs[i]? = some (x, id) := by rfl) : mg x = some (.builtin id) := by
  have c1 : bltB K bs = true := congrArg (fun z : AlE => z.1) c
  exact PySem.W.mg_of X G (eqO_ok (List.all_eq_true.mp c1 (x, id) (List.mem_of_getElem? e)))
end
/-- a def without defaults, as Words has it -/
theorem toFun {K : PySem.W.Frag} {x qual : Str} {st : Stmt} {f : Addr} {fd : FuncData} (F : FunD K x qual (defArgs st) (defBody st) (defScope st) [] [] f fd) : Fun K x qual st f fd := by
  obtain ⟨⟨oc, od, dV, kV, doc, pm, an, cdv, ct, osl, e, l, c, d, k⟩, kp⟩ := F
  rcases d with ⟨_, d⟩ | ⟨d, _⟩
  · subst d
    exact ⟨⟨oc, od, kV, doc, pm, an, cdv, ct, osl, e, l, c⟩, kp⟩
  · exact absurd rfl d
/-- a law's end over the facts of a head -/
theorem walk_ofEB {l : PySem.W.OpenLaw} {n k : Nat} {q : Program} {loose : List Str} {XP : (Str → Option Value) → Heap → Prop} {YP : World → Heap → Prop} {d : DefRec} {CX : CXT} {x : Str}
    (hn : l.most = some n) (hn2 : n ≤ sizeLine) (hdf : d.params.defaults = []) (hr : Room k callerA)
    (F : ∀ (w : World) (mg : Str → Option Value) (fa : Addr) (h : Heap), YP w h → h.Ns mainGlobals mg → mg d.name = some (.ref fa) →
      ∃ (K : PySem.W.Frag) (fd : FuncData) (sp : Sp), K.In h ∧ (∀ (s : Shared) (u : Value), BindsTo s fd ⟨[u], []⟩ [(x, u)]) ∧
        (∀ (H : Hp) (a : Addr) (ns : List Int), ns.length ≤ n → (∀ z ∈ ns, Builtin.Int.intBits z ≤ 1048576) → Only H → SqL K H a (ns.map V.int) → sp [.ref a] H (fun v _ => v = .bl true) fun _ _ _ => False) ∧
        ∀ base : Heap, K.In base → base.Ns mainGlobals mg → FnOk l.prog w K mg base CX k fa fd [x] sp)
    (hCX : ∀ (H : Hp) (s : Shared) (e : Value) (s' : Shared), CX [] H s (fun _ _ _ => False) e s' → False) :
    PySem.W.WalkO q loose XP YP l.row.toRowW d [] (fun f vs => PySem.call f vs) := by
  refine Att.attach_callB hn hdf fun w s₀ s₁ mg mb fa o pm cd doc a vs ns G Y ho hd hcd hmg hobj hints hlen hbits hg => ?_
  obtain ⟨K, fd, sp, KX, hb, hsp, hF⟩ := F w mg fa _ Y G.T.g hmg
  exact law_call KX G.T.g G.T.b G.T.builtins G.T.nolimit hg hobj hints (Nat.le_trans hlen hn2) hr hF hb (fun H hO hS => hsp H a ns hlen hbits hO hS) fun H e s' => hCX H s₁ e s'
end Hx
/-! ### data of tuples, and readings beside things that change -/
namespace Dt
open PySem PySem.Spec PyProof.Rows L2 Evl Fx
mutual
/-- data without lists and dicts -/
def flat : PyData → Bool
  | .none => true
  | .bool _ => true
  | .int _ => true
  | .str _ => true
  | .list _ => false
  | .tuple ds => flats ds
  | .dict _ => false
def flats : List PyData → Bool
  | [] => true
  | d :: ds => flat d && flats ds
end
theorem flats_cons {d : PyData} {ds : List PyData} : flats (d :: ds) = true ↔ flat d = true ∧ flats ds = true := by
  rw [flats, Bool.and_eq_true]
theorem flats_all : ∀ {ds : List PyData}, flats ds = true ↔ ∀ d ∈ ds, flat d = true
  | [] => by simp [flats]
  | d :: ds => by rw [flats_cons, flats_all, List.forall_mem_cons]
theorem flat_tup {ds : List PyData} : flat (.tuple ds) = flats ds := by rw [flat]
section
variable {K : PySem.W.Frag} {H H' : Hp}
/-- tuples are kept -/
def KT (K : PySem.W.Frag) (H H' : Hp) : Prop := ∀ a xs, SqT K H a xs → SqT K H' a xs
mutual
theorem dp_kt (k : KT K H H') : ∀ (d : PyData) (v : V), flat d = true → Dp K H v d → Dp K H' v d
  | .none, _, _, h => by cases h; exact .non
  | .bool _, _, _, h => by cases h; exact .bl _
  | .int _, _, _, h => by cases h; exact .int _
  | .str _, _, _, h => by cases h; exact .str _
  | .list _, _, f, _ => by simp [flat] at f
  | .tuple ds, _, f, h => by
    cases h with
    | tup h1 h2 => exact .tup (k _ _ h1) (dps_kt k ds _ (by rwa [flat] at f) h2)
  | .dict _, _, f, _ => by simp [flat] at f
theorem dps_kt (k : KT K H H') : ∀ (ds : List PyData) (vs : List V), flats ds = true → DpAll K H vs ds → DpAll K H' vs ds
  | [], _, _, h => by cases h; exact .nil
  | d :: ds, _, f, h => by
    have f' := flats_cons.mp f
    cases h with
    | cons h1 h2 => exact .cons (dp_kt k d _ f'.1 h1) (dps_kt k ds _ f'.2 h2)
end
mutual
theorem dp_ex (e : Ex H H') : ∀ (d : PyData) (v : V), Dp K H v d → Dp K H' v d
  | .none, _, h => by cases h; exact .non
  | .bool _, _, h => by cases h; exact .bl _
  | .int _, _, h => by cases h; exact .int _
  | .str _, _, h => by cases h; exact .str _
  | .list ds, _, h => by
    cases h with
    | lst h1 h2 => exact .lst (ex_l e h1) (dps_ex e ds _ h2)
  | .tuple ds, _, h => by
    cases h with
    | tup h1 h2 => exact .tup (ex_t e h1) (dps_ex e ds _ h2)
  | .dict _, _, h => nomatch h
theorem dps_ex (e : Ex H H') : ∀ (ds : List PyData) (vs : List V), DpAll K H vs ds → DpAll K H' vs ds
  | [], _, h => by cases h; exact .nil
  | d :: ds, _, h => by
    cases h with
    | cons h1 h2 => exact .cons (dp_ex e d _ h1) (dps_ex e ds _ h2)
end
theorem dps_len : ∀ {ds : List PyData} {vs : List V}, DpAll K H vs ds → vs.length = ds.length
  | [], _, h => by cases h; rfl
  | d :: ds, _, h => by
    cases h with
    | cons h1 h2 => simp [dps_len h2]
theorem dps_get : ∀ {ds : List PyData} {vs : List V} {i : Nat} {d : PyData}, DpAll K H vs ds → ds[i]? = some d → ∃ v, vs[i]? = some v ∧ Dp K H v d
  | [], _, _, _, _, e => by simp at e
  | d :: ds, _, i, d', h, e => by
    cases h with
    | @cons v vs _ _ h1 h2 =>
      cases i with
      | zero =>
        rw [List.getElem?_cons_zero] at e
        cases e
        exact ⟨v, rfl, h1⟩
      | succ i =>
        rw [List.getElem?_cons_succ] at e
        obtain ⟨u, q1, q2⟩ := dps_get h2 e
        exact ⟨u, by rw [List.getElem?_cons_succ]; exact q1, q2⟩
theorem dps_app : ∀ {ds es : List PyData} {vs us : List V}, DpAll K H vs ds → DpAll K H us es → DpAll K H (vs ++ us) (ds ++ es)
  | [], _, _, _, h, h' => by cases h; exact h'
  | d :: ds, _, _, _, h, h' => by
    cases h with
    | cons h1 h2 => exact .cons h1 (dps_app h2 h')
theorem dps_snoc {ds : List PyData} {d : PyData} {vs : List V} {v : V} (h : DpAll K H vs ds) (h' : Dp K H v d) : DpAll K H (vs ++ [v]) (ds ++ [d]) := dps_app h (.cons h' .nil)
theorem dps_rev : ∀ {ds : List PyData} {vs : List V}, DpAll K H vs ds → DpAll K H vs.reverse ds.reverse
  | [], _, h => by cases h; exact .nil
  | d :: ds, _, h => by
    cases h with
    | cons h1 h2 =>
      rw [List.reverse_cons, List.reverse_cons]
      exact dps_snoc (dps_rev h2) h1
theorem dps_take : ∀ {n : Nat} {ds : List PyData} {vs : List V}, DpAll K H vs ds → DpAll K H (vs.take n) (ds.take n)
  | 0, _, _, _ => by rw [List.take_zero, List.take_zero]; exact .nil
  | n + 1, [], _, h => by cases h; exact .nil
  | n + 1, d :: ds, _, h => by
    cases h with
    | cons h1 h2 => exact .cons h1 (dps_take h2)
theorem dps_drop : ∀ {n : Nat} {ds : List PyData} {vs : List V}, DpAll K H vs ds → DpAll K H (vs.drop n) (ds.drop n)
  | 0, _, _, h => by rw [List.drop_zero, List.drop_zero]; exact h
  | n + 1, [], _, h => by cases h; exact .nil
  | n + 1, d :: ds, _, h => by
    cases h with
    | cons h1 h2 =>
      rw [List.drop_succ_cons, List.drop_succ_cons]
      exact dps_drop h2
theorem dps_last {ds : List PyData} {d : PyData} {vs : List V} (h : DpAll K H vs (ds ++ [d])) : ∃ us u, vs = us ++ [u] ∧ DpAll K H us ds ∧ Dp K H u d := by
  have hl := dps_len h
  rw [List.length_append, List.length_singleton] at hl
  have hv : vs ≠ [] := by intro e; rw [e] at hl; simp at hl
  have e := List.dropLast_concat_getLast hv
  have h1 := dps_take (n := ds.length) h
  have h2 := dps_drop (n := ds.length) h
  rw [List.take_left] at h1
  rw [List.drop_left] at h2
  have e1 : vs.take ds.length = vs.dropLast := by rw [List.dropLast_eq_take, hl, Nat.add_sub_cancel]
  have e2 : vs.drop ds.length = [vs.getLast hv] := by
    have q : (vs.dropLast ++ [vs.getLast hv]).drop ds.length = [vs.getLast hv] := by
      have l1 : vs.dropLast.length = ds.length := by rw [List.length_dropLast, hl, Nat.add_sub_cancel]
      rw [← l1]
      exact List.drop_left
    rwa [e] at q
  rw [e1] at h1
  rw [e2] at h2
  cases h2 with
  | cons h3 h4 => exact ⟨_, _, e.symm, h1, h3⟩
/-- a value that reads as d -/
def IsD (K : PySem.W.Frag) (d : PyData) : VP := fun v H => Dp K H v d
end
/-- all but S is kept -/
def Kx (S : Addr → Prop) (H H' : Hp) : Prop := ∀ b o, H b = some o → ¬ S b → H' b = some o
theorem Kx.refl {S : Addr → Prop} {H : Hp} : Kx S H H := fun _ _ h _ => h
theorem Kx.trans {S : Addr → Prop} {H H1 H2 : Hp} (a : Kx S H H1) (b : Kx S H1 H2) : Kx S H H2 := fun x o h n => b x o (a x o h n) n
theorem Kx.ex {S : Addr → Prop} {H H1 : Hp} (e : Ex H H1) : Kx S H H1 := fun x o h _ => e x o h
theorem Kx.mut {S : Addr → Prop} {H H1 : Hp} {p : Addr} {o : HO} (k : Kx S H H1) (h : H p = none) : Kx S H (upd H1 p o) := fun b u hb n => by
  have : b ≠ p := by rintro rfl; rw [h] at hb; cases hb
  rw [upd_ne this]
  exact k b u hb n
theorem Kx.at {S : Addr → Prop} {H H1 : Hp} {p : Addr} {o : HO} (k : Kx S H H1) (h : S p) : Kx S H (upd H1 p o) := fun b u hb n => by
  have : b ≠ p := by rintro rfl; exact n h
  rw [upd_ne this]
  exact k b u hb n
def mutO (o : HO) : Prop := (∃ xs, o = .lst xs) ∨ ∃ kvs, o = .dK kvs
/-- what may change (S), where what is told of it stands (T), what is told (G, after so many turns), how many turns there may be -/
structure Fd where
  S : Addr → Prop
  T : Addr → Prop
  G : Nat → Hp → Prop
  N : Nat
structure Fd.Ok (F : Fd) : Prop where
  sub : ∀ {a}, F.S a → F.T a
  at_ : ∀ {n H a}, F.G n H → F.T a → ∃ o, H a = some o ∧ mutO o
  loc : ∀ {n H H'}, F.G n H → (∀ a o, F.T a → H a = some o → H' a = some o) → F.G n H'
  up : ∀ {n m H}, F.G n H → n ≤ m → F.G m H
/-- nothing changes -/
def F0 : Fd := ⟨fun _ => False, fun _ => False, fun _ _ => True, 0⟩
theorem F0.ok : F0.Ok := ⟨fun h => h, fun _ h => h.elim, fun _ _ => trivial, fun _ _ => trivial⟩
theorem F0.g {n : Nat} {H : Hp} : F0.G n H := trivial
theorem F0.ex {H H' : Hp} (e : Kx F0.S H H') : Ex H H' := fun a o h => e a o h fun z => z
def MonoF (F : Fd) (P : VP) : Prop := ∀ n v H H', F.G n H → Kx F.S H H' → P v H → P v H'
def MonoA (F : Fd) (P : List V → Hp → Prop) : Prop := ∀ n v H H', F.G n H → Kx F.S H H' → P v H → P v H'
def EvR (F : Fd) (te : TE) (σ : L2.St) (H : Hp) (k : Nat) (P : VP) : Prop := ∀ n H1, n + k ≤ F.N → F.G n H1 → Kx F.S H H1 → ∀ Q : VK, (∀ v H2, Kx F.S H1 H2 → F.G (n + k) H2 → P v H2 → Q v H2) → te σ H1 Q
def EvRA (F : Fd) (ta : TA) (σ : L2.St) (H : Hp) (k : Nat) (P : List V → Hp → Prop) : Prop := ∀ n H1, n + k ≤ F.N → F.G n H1 → Kx F.S H H1 → ∀ Q : List V → Hp → Prop, (∀ v H2, Kx F.S H1 H2 → F.G (n + k) H2 → P v H2 → Q v H2) → ta σ H1 Q
def EvRT (F : Fd) (tt : TT) (σ : L2.St) (H : Hp) (k : Nat) (b : Bool) : Prop := ∀ n H1, n + k ≤ F.N → F.G n H1 → Kx F.S H H1 → ∀ Q : Bool → Hp → Prop, (∀ H2, Kx F.S H1 H2 → F.G (n + k) H2 → Q b H2) → tt σ H1 Q
section
variable {F : Fd} {K : PySem.W.Frag} {te ta tb tc : TE} {tr : TA} {tt tu : TT} {σ : L2.St} {H H' : Hp} {P P' R : VP} {PA : List V → Hp → Prop} {d d' d2 : PyData} {ds : List PyData} {n k ka kb : Nat} {v : V}
theorem Fd.Ok.ex (o : F.Ok) (g : F.G n H) (e : Ex H H') : F.G n H' := o.loc g fun a u _ h => e a u h
theorem Fd.Ok.kt (o : F.Ok) (g : F.G n H) (e : Kx F.S H H') : KT K H H' := fun a xs h => by
  rcases h with (h | ⟨u, h⟩) | h
  · refine .inl (.inl (e a _ h fun hs => ?_))
    obtain ⟨w, q, m⟩ := o.at_ g (o.sub hs)
    rw [h] at q
    cases q
    rcases m with ⟨_, m⟩ | ⟨_, m⟩ <;> cases m
  · refine .inl (.inr ⟨u, e a _ h fun hs => ?_⟩)
    obtain ⟨w, q, m⟩ := o.at_ g (o.sub hs)
    rw [h] at q
    cases q
    rcases m with ⟨_, m⟩ | ⟨_, m⟩ <;> cases m
  · exact .inr h
theorem Fd.Ok.new (o : F.Ok) (g : F.G n H) {p : Addr} (h : H p = none) : ¬ F.T p := fun t => by
  obtain ⟨w, q, _⟩ := o.at_ g t
  rw [h] at q
  cases q
/-- at an address that was new, something else may be put -/
theorem Fd.Ok.put (o : F.Ok) {m : Nat} (g0 : F.G m H) {p : Addr} (h : H p = none) {u : HO} (g : F.G n H') : F.G n (upd H' p u) := o.loc g fun a w t q => by
  have : a ≠ p := by rintro rfl; exact o.new g0 h t
  rw [upd_ne this]
  exact q
theorem mono_d (o : F.Ok) (f : flat d = true) : MonoF F (IsD K d) := fun n v H H' g e p => dp_kt (o.kt g e) d v f p
theorem mono_ds (o : F.Ok) (f : flats ds = true) : MonoA F (fun vs H => DpAll K H vs ds) := fun n v H H' g e p => dps_kt (o.kt g e) ds v f p
theorem mono_eq {x : V} : MonoF F (fun v _ => v = x) := fun _ _ _ _ _ _ p => p
theorem EvR.mono (h : EvR F te σ H k P) (e : Kx F.S H H') : EvR F te σ H' k P := fun n H1 hn g e1 Q q => h n H1 hn g (e.trans e1) Q q
theorem EvRT.mono {b : Bool} (h : EvRT F tt σ H k b) (e : Kx F.S H H') : EvRT F tt σ H' k b := fun n H1 hn g e1 Q q => h n H1 hn g (e.trans e1) Q q
theorem EvRA.mono (h : EvRA F tr σ H k PA) (e : Kx F.S H H') : EvRA F tr σ H' k PA := fun n H1 hn g e1 Q q => h n H1 hn g (e.trans e1) Q q
theorem EvR.imp (h : EvR F te σ H k P) (i : ∀ n v H', F.G n H' → Kx F.S H H' → P v H' → P' v H') : EvR F te σ H k P' := fun n H1 hn g e1 Q q => h n H1 hn g e1 Q fun v H2 e2 g2 p => q v H2 e2 g2 (i _ v H2 g2 (e1.trans e2) p)
theorem EvR.cast (h : EvR F te σ H k (IsD K d)) (e : d = d') : EvR F te σ H k (IsD K d') := e ▸ h
theorem EvR.up {k' : Nat} (o : F.Ok) (h : EvR F te σ H k P) (hk : k ≤ k') : EvR F te σ H k' P := fun n H1 hn g e1 Q q => h n H1 (by omega) g e1 Q fun v H2 e2 g2 p => q v H2 e2 (o.up g2 (by omega)) p
theorem EvRT.up {k' : Nat} {b : Bool} (o : F.Ok) (h : EvRT F tt σ H k b) (hk : k ≤ k') : EvRT F tt σ H k' b := fun n H1 hn g e1 Q q => h n H1 (by omega) g e1 Q fun H2 e2 g2 => q H2 e2 (o.up g2 (by omega))
theorem r_var {i : Nat} (m : MonoF F P) (g0 : F.G n H) (h : σ[i]? = some (some v)) (p : P v H) : EvR F (tVar i) σ H 0 P := fun n1 H1 hn g e Q q => ⟨v, h, q v H1 Kx.refl g (m n v H H1 g0 e p)⟩
theorem rd_var (o : F.Ok) (g0 : F.G n H) {i : Nat} (h : σ[i]? = some (some v)) (p : Dp K H v d) (f : flat d = true := by rfl) : EvR F (tVar i) σ H 0 (IsD K d) := r_var (mono_d o f) g0 h p
theorem rv_var {i : Nat} (h : σ[i]? = some (some v)) : EvR F (tVar i) σ H 0 (fun x _ => x = v) := fun n1 H1 hn g e Q q => ⟨v, h, q v H1 Kx.refl g rfl⟩
theorem rv_c : EvR F (tC v) σ H 0 (fun x _ => x = v) := fun n1 H1 hn g e Q q => q v H1 Kx.refl g rfl
theorem rd_int {i : Int} : EvR F (tC (.int i)) σ H 0 (IsD K (.int i)) := fun n1 H1 hn g e Q q => q _ H1 Kx.refl g (.int i)
theorem rd_str {i : Str} : EvR F (tC (.str i)) σ H 0 (IsD K (.str i)) := fun n1 H1 hn g e Q q => q _ H1 Kx.refl g (.str i)
theorem rd_bl {i : Bool} : EvR F (tC (.bl i)) σ H 0 (IsD K (.bool i)) := fun n1 H1 hn g e Q q => q _ H1 Kx.refl g (.bl i)
theorem rv_int {i : Int} (h : EvR F te σ H k (IsD K (.int i))) : EvR F te σ H k (fun x _ => x = .int i) := h.imp fun _ v _ _ _ p => by cases p; rfl
theorem rv_str {i : Str} (h : EvR F te σ H k (IsD K (.str i))) : EvR F te σ H k (fun x _ => x = .str i) := h.imp fun _ v _ _ _ p => by cases p; rfl
theorem rv_bl {i : Bool} (h : EvR F te σ H k (IsD K (.bool i))) : EvR F te σ H k (fun x _ => x = .bl i) := h.imp fun _ v _ _ _ p => by cases p; rfl
theorem rd_ofI {i : Int} (h : EvR F te σ H k (fun x _ => x = .int i)) : EvR F te σ H k (IsD K (.int i)) := h.imp fun _ v _ _ _ p => by subst p; exact .int i
theorem rd_ofB {i : Bool} (h : EvR F te σ H k (fun x _ => x = .bl i)) : EvR F te σ H k (IsD K (.bool i)) := h.imp fun _ v _ _ _ p => by subst p; exact .bl i
theorem rd_ofS {i : Str} (h : EvR F te σ H k (fun x _ => x = .str i)) : EvR F te σ H k (IsD K (.str i)) := h.imp fun _ v _ _ _ p => by subst p; exact .str i
theorem r_op {r : R2} (o : F.Ok) (mP : MonoF F P) (ha : EvR F ta σ H ka P) (hb : EvR F tb σ H kb P') (hr : ∀ x y n H1, F.G n H1 → Kx F.S H H1 → P x H1 → P' y H1 → ∀ Q : VK, (∀ z H2, Ex H1 H2 → R z H2 → Q z H2) → r x y H1 Q) : EvR F (tOp r ta tb) σ H (ka + kb) R :=
  fun n H1 hn g e Q q => ha n H1 (by omega) g e _ fun x H2 e2 g2 p => hb (n + ka) H2 (by omega) g2 (e.trans e2) _ fun y H3 e3 g3 p' => hr x y _ H3 g3 (e.trans (e2.trans e3)) (mP _ _ _ _ g2 e3 p) p' Q fun z H4 e4 pz =>
    q z H4 (e2.trans (e3.trans (Kx.ex e4))) (by rw [← Nat.add_assoc]; exact o.ex g3 e4) pz
theorem ra_nil : EvRA F tNil σ H 0 (fun vs H => DpAll K H vs []) := fun n1 H1 hn g e Q q => q _ H1 Kx.refl g .nil
theorem ra_cons (o : F.Ok) (h : EvR F te σ H ka (IsD K d)) (hr : EvRA F tr σ H kb (fun vs H => DpAll K H vs ds)) (f : flat d = true := by rfl) : EvRA F (tCons te tr) σ H (ka + kb) (fun vs H => DpAll K H vs (d :: ds)) :=
  fun n H1 hn g e Q q => h n H1 (by omega) g e _ fun x H2 e2 g2 p => hr (n + ka) H2 (by omega) g2 (e.trans e2) _ fun vs H3 e3 g3 p' => q (x :: vs) H3 (e2.trans e3) (by rw [← Nat.add_assoc]; exact g3) (.cons (mono_d o f _ _ _ _ g2 e3 p) p')
theorem rd_tup (o : F.Ok) (h : EvRA F tr σ H k (fun vs H => DpAll K H vs ds)) (f : flats ds = true := by rfl) (hl : ds.length ≤ 100000 := by simp) : EvR F (tTup tr) σ H k (IsD K (.tuple ds)) :=
  fun n H1 hn g e Q q => h n H1 hn g e _ fun vs H2 e2 g2 p => ⟨sz_of (by rw [dps_len p]; exact hl), fun a ha => q (.ref a) _ (e2.trans (Kx.ex (Ex.new ha))) (o.ex g2 (Ex.new ha)) (.tup (st_of upd_same) (dps_ex (Ex.new ha) _ _ p))⟩
theorem rd_ix {i : Int} (o : F.Ok) (ha : EvR F ta σ H ka (IsD K (.tuple ds))) (hb : EvR F tb σ H kb (fun x _ => x = .int i)) (j : Nat) (hj : ixN ds.length i = some j) (hd : ds[j]? = some d) (f : flat (.tuple ds) = true := by rfl) : EvR F (tOp (rIxT K) ta tb) σ H (ka + kb) (IsD K d) :=
  r_op o (mono_d o f) ha hb fun x y n H1 g e px py Q q => by
    subst py
    cases px with
    | tup h1 h2 =>
      obtain ⟨u, hu, hdu⟩ := dps_get h2 hd
      exact ⟨_, _, i, u, rfl, rfl, h1, by unfold atI; rw [dps_len h2, hj]; exact hu, q u H1 (Ex.refl _) hdu⟩
theorem rb_eq (o : F.Ok) (ha : EvR F ta σ H ka (IsD K d)) (hb : EvR F tb σ H kb (IsD K d')) (sd : SeqAt.shaped d = true) (sd' : SeqAt.shaped d' = true) (f : flat d = true := by rfl) : EvR F (tOp (rEqD K) ta tb) σ H (ka + kb) (fun x _ => x = .bl (PyData.eqv d d')) :=
  r_op o (mono_d o f) ha hb fun x y n H1 g e px py Q q => ⟨d, d', px, py, sd, sd', q _ H1 (Ex.refl _) rfl⟩
theorem rb_ne (o : F.Ok) (ha : EvR F ta σ H ka (IsD K d)) (hb : EvR F tb σ H kb (IsD K d')) (sd : SeqAt.shaped d = true) (sd' : SeqAt.shaped d' = true) (f : flat d = true := by rfl) : EvR F (tOp (rNeD K) ta tb) σ H (ka + kb) (fun x _ => x = .bl (!PyData.eqv d d')) :=
  r_op o (mono_d o f) ha hb fun x y n H1 g e px py Q q => ⟨d, d', px, py, sd, sd', q _ H1 (Ex.refl _) rfl⟩
/-- tests -/
theorem rt_val {b : Bool} (h : EvR F te σ H k (fun x _ => x = .bl b)) : EvRT F (tTest te) σ H k b := fun n H1 hn g e Q q => h n H1 hn g e _ fun v H2 e2 g2 p => ⟨b, p, q H2 e2 g2⟩
theorem rt_B {b : Bool} (h : EvR F te σ H k (fun x _ => x = .bl b)) : EvRT F (tB te) σ H k b := fun n H1 hn g e Q q => h n H1 hn g e _ fun v H2 e2 g2 p => ⟨b, p, q H2 e2 g2⟩
theorem rt_not {a : Bool} (h1 : EvRT F tt σ H k a) : EvRT F (tNot tt) σ H k (!a) := fun n H1 hn g e _ q => h1 n H1 hn g e _ fun H2 e2 g2 => q H2 e2 g2
theorem rt_is {a b : Bool} (h : EvRT F tt σ H k a) (e : a = b) : EvRT F tt σ H k b := e ▸ h
theorem rt_and {a b : Bool} (o : F.Ok) (h1 : EvRT F tt σ H ka a) (h2 : a = true → EvRT F tu σ H kb b) : EvRT F (tAnd tt tu) σ H (ka + kb) (a && b) := fun n H1 hn g e Q q => h1 n H1 (by omega) g e _ fun H2 e2 g2 => by
  cases a with
  | false => exact q H2 e2 (o.up g2 (by omega))
  | true => exact h2 rfl (n + ka) H2 (by omega) g2 (e.trans e2) _ fun H3 e3 g3 => q H3 (e2.trans e3) (by rw [← Nat.add_assoc]; exact g3)
theorem rt_or {a b : Bool} (o : F.Ok) (h1 : EvRT F tt σ H ka a) (h2 : a = false → EvRT F tu σ H kb b) : EvRT F (tOr tt tu) σ H (ka + kb) (a || b) := fun n H1 hn g e Q q => h1 n H1 (by omega) g e _ fun H2 e2 g2 => by
  cases a with
  | true => exact q H2 e2 (o.up g2 (by omega))
  | false => exact h2 rfl (n + ka) H2 (by omega) g2 (e.trans e2) _ fun H3 e3 g3 => q H3 (e2.trans e3) (by rw [← Nat.add_assoc]; exact g3)
theorem r_if {b : Bool} (o : F.Ok) (h : EvRT F tt σ H ka b) (h1 : b = true → EvR F ta σ H kb P) (h2 : b = false → EvR F tb σ H kb P) : EvR F (tIf tt ta tb) σ H (ka + kb) P := fun n H1 hn g e Q q => h n H1 (by omega) g e _ fun H2 e2 g2 => by
  cases b with
  | true => exact h1 rfl (n + ka) H2 (by omega) g2 (e.trans e2) _ fun v H3 e3 g3 p => q v H3 (e2.trans e3) (by rw [← Nat.add_assoc]; exact g3) p
  | false => exact h2 rfl (n + ka) H2 (by omega) g2 (e.trans e2) _ fun v H3 e3 g3 p => q v H3 (e2.trans e3) (by rw [← Nat.add_assoc]; exact g3) p
theorem rb_and {a b : Bool} (o : F.Ok) (h1 : EvR F ta σ H ka (fun x _ => x = .bl a)) (h2 : a = true → EvR F tb σ H kb (fun x _ => x = .bl b)) : EvR F (tAndV ta tb) σ H (ka + kb) (fun x _ => x = .bl (a && b)) := fun n H1 hn g e Q q => h1 n H1 (by omega) g e _ fun v H2 e2 g2 p => ⟨a, p, by
  cases a with
  | false => exact q _ H2 e2 (o.up g2 (by omega)) rfl
  | true => exact h2 rfl (n + ka) H2 (by omega) g2 (e.trans e2) _ fun v H3 e3 g3 p => q v H3 (e2.trans e3) (by rw [← Nat.add_assoc]; exact g3) p⟩
theorem rb_or {a b : Bool} (o : F.Ok) (h1 : EvR F ta σ H ka (fun x _ => x = .bl a)) (h2 : a = false → EvR F tb σ H kb (fun x _ => x = .bl b)) : EvR F (tOrV ta tb) σ H (ka + kb) (fun x _ => x = .bl (a || b)) := fun n H1 hn g e Q q => h1 n H1 (by omega) g e _ fun v H2 e2 g2 p => ⟨a, p, by
  cases a with
  | true => exact q _ H2 e2 (o.up g2 (by omega)) rfl
  | false => exact h2 rfl (n + ka) H2 (by omega) g2 (e.trans e2) _ fun v H3 e3 g3 p => q v H3 (e2.trans e3) (by rw [← Nat.add_assoc]; exact g3) p⟩
theorem rb_not {a : Bool} (h1 : EvR F ta σ H k (fun x _ => x = .bl a)) : EvR F (tNotV ta) σ H k (fun x _ => x = .bl (!a)) := fun n H1 hn g e _ q => h1 n H1 hn g e _ fun v H2 e2 g2 p => ⟨a, p, q _ H2 e2 g2 rfl⟩
end
end Dt
/-! ### comprehensions, calls and statements beside things that change -/
namespace Dt
open PySem PySem.Spec PyProof.Rows L2 Evl Fx
section
variable {F : Fd} {K : PySem.W.Frag} {te ta tb tl : TE} {tr : TA} {tt tu : TT} {g : TG} {σ : L2.St} {H H' : Hp} {P P' R : VP} {d d' d2 : PyData} {ds es : List PyData} {n k ka kb kt ke : Nat} {v : V}
/-- a list of its own that reads as these data -/
def IsL (F : Fd) (K : PySem.W.Frag) (ds : List PyData) : VP := fun v H => ∃ p xs, v = .ref p ∧ ¬ F.T p ∧ H p = some (.lst xs) ∧ DpAll K H xs ds
theorem mono_l (o : F.Ok) (f : flats ds = true) : MonoF F (IsL F K ds) := fun n v H H' g e ⟨p, xs, e1, h1, h2, h3⟩ => ⟨p, xs, e1, h1, e _ _ h2 fun s => h1 (o.sub s), mono_ds o f n _ _ _ g e h3⟩
theorem IsL.dp (h : IsL F K ds v H) : Dp K H v (.list ds) := by
  obtain ⟨p, xs, rfl, _, h2, h3⟩ := h
  exact .lst (sq_of h2) h3
/-- where a value is put, on a heap that stays -/
def Gv (g : TG) (x : V) (σ : L2.St) (H : Hp) (σ2 : L2.St) : Prop := ∀ Q : L2.St → Hp → Prop, Q σ2 H → g x σ H Q
theorem gv_name {i : Nat} {x : V} : Gv (gName i) x σ H (σ.set i (some x)) := fun Q q => q
def outs (f : Nat → Bool) (e : Nat → PyData) (i : Nat) : List PyData := ((List.range i).filter f).map e
theorem outs_yes {f : Nat → Bool} {e : Nat → PyData} {i : Nat} (h : f i = true) : outs f e (i + 1) = outs f e i ++ [e i] := by
  unfold outs
  rw [List.range_succ, List.filter_append, List.map_append, List.filter_cons, if_pos h]
  rfl
theorem outs_no {f : Nat → Bool} {e : Nat → PyData} {i : Nat} (h : f i = false) : outs f e (i + 1) = outs f e i := by
  unfold outs
  rw [List.range_succ, List.filter_append, List.map_append, List.filter_cons, if_neg (by rw [h]; exact Bool.false_ne_true)]
  simp
theorem outs_len {f : Nat → Bool} {e : Nat → PyData} {i : Nat} : (outs f e i).length ≤ i := by
  unfold outs
  rw [List.length_map]
  have h := List.length_filter_le f (List.range i)
  rwa [List.length_range] at h
theorem outs_flat {f : Nat → Bool} {e : Nat → PyData} {i m : Nat} (h : ∀ j, j < m → f j = true → flat (e j) = true) (hi : i ≤ m) : flats (outs f e i) = true := flats_all.mpr fun d hd => by
  unfold outs at hd
  obtain ⟨j, hj, rfl⟩ := List.mem_map.mp hd
  have q := List.mem_filter.mp hj
  exact h j (by have := List.mem_range.mp q.1; omega) q.2
theorem outs_all {e : Nat → PyData} {i : Nat} : outs (fun _ => true) e i = (List.range i).map e := by
  unfold outs
  rw [List.filter_eq_self.mpr fun _ _ => rfl]
/-- within a comprehension -/
def Cd (F : Fd) (K : PySem.W.Frag) (H1 : Hp) (Dl : Addr) (n0 k : Nat) (f : Nat → Bool) (e : Nat → PyData) (i : Nat) (H' : Hp) : Prop :=
  Kx F.S H1 H' ∧ F.G (n0 + i * k) H' ∧ ∃ vs, H' Dl = some (.lst vs) ∧ DpAll K H' vs (outs f e i)
theorem cd_turn (o : F.Ok) {H1 H' : Hp} {Dl : Addr} {n0 m i : Nat} {f : Nat → Bool} {e : Nat → PyData} {σ2 : L2.St} (g1 : F.G n0 H1) (hD : H1 Dl = none) (p : Cd F K H1 Dl n0 (kt + ke) f e i H') (hi : i < m) (hm : m ≤ 40000) (hN : n0 + m * (kt + ke) ≤ F.N)
    (fl : ∀ j, j < m → f j = true → flat (e j) = true) (ht : EvRT F tt σ2 H' kt (f i)) (he : f i = true → EvR F te σ2 H' ke (IsD K (e i))) :
    tt σ2 H' fun b H3 => if b = true then te σ2 H3 fun y H4 => ∃ acc, H4 Dl = some (.lst acc) ∧ acc.length < sizeLine ∧ Cd F K H1 Dl n0 (kt + ke) f e (i + 1) (upd H4 Dl (.lst (acc ++ [y]))) else Cd F K H1 Dl n0 (kt + ke) f e (i + 1) H3 := by
  obtain ⟨p1, p2, vs, p3, p4⟩ := p
  have nS : ¬ F.S Dl := fun s => o.new g1 hD (o.sub s)
  have hk : n0 + (i + 1) * (kt + ke) = n0 + i * (kt + ke) + kt + ke := by rw [Nat.succ_mul]; omega
  have hb : n0 + i * (kt + ke) + (kt + ke) ≤ F.N := by
    have : (i + 1) * (kt + ke) ≤ m * (kt + ke) := Nat.mul_le_mul_right _ hi
    rw [Nat.succ_mul] at this
    omega
  have fo : flats (outs f e i) = true := outs_flat fl (by omega)
  refine ht _ H' (by omega) p2 Kx.refl _ fun H3 e3 g3 => ?_
  cases hf : f i with
  | true =>
    show te σ2 H3 fun y H4 => _
    refine he hf _ H3 (by omega) g3 e3 _ fun y H4 e4 g4 hy => ⟨vs, e4 _ _ (e3 _ _ p3 nS) nS, sz_lt (by rw [dps_len p4]; have := outs_len (f := f) (e := e) (i := i); omega), (p1.trans (e3.trans e4)).mut hD, ?_, vs ++ [y], upd_same, ?_⟩
    · rw [hk]
      exact o.put g1 hD g4
    · rw [outs_yes hf]
      have h4 : DpAll K H4 vs (outs f e i) := mono_ds o fo _ _ _ _ g3 e4 (mono_ds o fo _ _ _ _ p2 e3 p4)
      have kt' : KT K H4 (upd H4 Dl (.lst (vs ++ [y]))) := fun a xs h => by
        have hne : ∀ u, H4 a = some u → (∀ ys, u ≠ .lst ys) → a ≠ Dl := fun u q z => by
          rintro rfl
          rw [e4 _ _ (e3 _ _ p3 nS) nS] at q
          cases q
          exact z _ rfl
        rcases h with (h | ⟨u, h⟩) | h
        · exact .inl (.inl (by rw [upd_ne (hne _ h fun _ z => by cases z)]; exact h))
        · exact .inl (.inr ⟨u, by rw [upd_ne (hne _ h fun _ z => by cases z)]; exact h⟩)
        · exact .inr h
      exact dps_snoc (dps_kt kt' _ _ fo h4) (dp_kt kt' _ _ (fl i hi hf) hy)
  | false =>
    show Cd F K H1 Dl n0 (kt + ke) f e (i + 1) H3
    refine ⟨p1.trans e3, by rw [hk]; exact o.up g3 (by omega), vs, e3 _ _ p3 nS, ?_⟩
    rw [outs_no hf]
    exact mono_ds o fo _ _ _ _ p2 e3 p4
theorem kt_new {H : Hp} {p : Addr} {u : HO} (h : H p = none) : KT K H (upd H p u) := fun a xs q => ex_t (Ex.new h) q
/-- [e for .. in xs if ..], xs a list -/
theorem r_lcL (o : F.Ok) {vs : List Nat} (f : Nat → Bool) (e : Nat → PyData) (h : EvR F tl σ H k (IsL F K ds)) (fd : flats ds = true) (hm : ds.length ≤ 40000) (fl : ∀ j, j < ds.length → f j = true → flat (e j) = true)
    (ht : ∀ i x d n H', ds[i]? = some d → Dp K H' x d → F.G n H' → Kx F.S H H' → ∃ σ2, Gv g x (wipe σ vs) H' σ2 ∧ wipe σ2 vs = wipe σ vs ∧ EvRT F tt σ2 H' kt (f i) ∧ (f i = true → EvR F te σ2 H' ke (IsD K (e i)))) :
    EvR F (tLc (iList K tl) g tt te vs) σ H (k + ds.length * (kt + ke)) (IsL F K (outs f e ds.length)) := fun n H0 hn g0 e0 Q q => h n H0 (by omega) g0 e0 _ fun v H1 e1 g1 ⟨a, xs, ev, hT, ha, hx⟩ => by
  subst ev
  have hl := dps_len hx
  have nS : ¬ F.S a := fun s => hT (o.sub s)
  refine ⟨a, rfl, ⟨xs, sq_of ha⟩, fun Dl hD => lc_list (xs := xs) (Cd F K H1 Dl (n + k) (kt + ke) f e) ?_ (fun i H' _ p => sq_of (p.1 a _ ha nS)) (fun i x H' hi p => ?_) fun H' p => ?_⟩
  · exact ⟨Kx.ex (Ex.new hD), by rw [Nat.zero_mul]; exact o.put g1 hD g1, [], upd_same, .nil⟩
  · have hlt := (List.getElem?_eq_some_iff.mp hi).1
    have hdi : ds[i]? = some ds[i] := List.getElem?_eq_getElem (by omega)
    obtain ⟨u, hu, hdu⟩ := dps_get (mono_ds o fd _ _ _ _ g1 p.1 hx) hdi
    rw [hi] at hu
    cases hu
    obtain ⟨σ2, q1, q2, q3, q4⟩ := ht i x _ _ H' hdi hdu p.2.1 (e0.trans (e1.trans p.1))
    exact q1 _ ⟨q2, cd_turn o g1 hD p (by omega) hm (by rw [Nat.add_assoc]; exact hn) fl q3 q4⟩
  · rw [hl] at p
    obtain ⟨p1, p2, ws, p3, p4⟩ := p
    exact q (.ref Dl) H' (e1.trans p1) (by rw [← Nat.add_assoc]; exact p2) ⟨Dl, ws, rfl, o.new g1 hD, p3, p4⟩
/-- .. xs a tuple -/
theorem r_lcT (o : F.Ok) {vs : List Nat} (f : Nat → Bool) (e : Nat → PyData) (h : EvR F tl σ H k (IsD K (.tuple ds))) (fd : flats ds = true) (hm : ds.length ≤ 40000) (fl : ∀ j, j < ds.length → f j = true → flat (e j) = true)
    (ht : ∀ i x d n H', ds[i]? = some d → Dp K H' x d → F.G n H' → Kx F.S H H' → ∃ σ2, Gv g x (wipe σ vs) H' σ2 ∧ wipe σ2 vs = wipe σ vs ∧ EvRT F tt σ2 H' kt (f i) ∧ (f i = true → EvR F te σ2 H' ke (IsD K (e i)))) :
    EvR F (tLc (iTup K tl) g tt te vs) σ H (k + ds.length * (kt + ke)) (IsL F K (outs f e ds.length)) := fun n H0 hn g0 e0 Q q => h n H0 (by omega) g0 e0 _ fun v H1 e1 g1 hd => by
  cases hd with
  | @tup a xs _ ha hx =>
  have hl := dps_len hx
  refine ⟨a, rfl, ⟨xs, ha⟩, fun Dl hD => lc_tup (xs := xs) (Cd F K H1 Dl (n + k) (kt + ke) f e) ?_ (fun i H' _ p => o.kt g1 p.1 _ _ ha) (fun i x H' hi p => ?_) fun H' p => ?_⟩
  · exact ⟨Kx.ex (Ex.new hD), by rw [Nat.zero_mul]; exact o.put g1 hD g1, [], upd_same, .nil⟩
  · have hlt := (List.getElem?_eq_some_iff.mp hi).1
    have hdi : ds[i]? = some ds[i] := List.getElem?_eq_getElem (by omega)
    obtain ⟨u, hu, hdu⟩ := dps_get (mono_ds o fd _ _ _ _ g1 p.1 hx) hdi
    rw [hi] at hu
    cases hu
    obtain ⟨σ2, q1, q2, q3, q4⟩ := ht i x _ _ H' hdi hdu p.2.1 (e0.trans (e1.trans p.1))
    exact q1 _ ⟨q2, cd_turn o g1 hD p (by omega) hm (by rw [Nat.add_assoc]; exact hn) fl q3 q4⟩
  · rw [hl] at p
    obtain ⟨p1, p2, ws, p3, p4⟩ := p
    exact q (.ref Dl) H' (e1.trans p1) (by rw [← Nat.add_assoc]; exact p2) ⟨Dl, ws, rfl, o.new g1 hD, p3, p4⟩
/-- .. over range(m) -/
theorem r_lcR (o : F.Ok) {vs : List Nat} {m : Nat} (f : Nat → Bool) (e : Nat → PyData) (h : EvRA F tr σ H k (fun us _ => us = [.int (m : Int)])) (hm : m ≤ 40000) (fl : ∀ j, j < m → f j = true → flat (e j) = true)
    (ht : ∀ i n H', i < m → F.G n H' → Kx F.S H H' → ∃ σ2, Gv g (.int (i : Int)) (wipe σ vs) H' σ2 ∧ wipe σ2 vs = wipe σ vs ∧ EvRT F tt σ2 H' kt (f i) ∧ (f i = true → EvR F te σ2 H' ke (IsD K (e i)))) :
    EvR F (tLc (iRng1 tr) g tt te vs) σ H (k + m * (kt + ke)) (IsL F K (outs f e m)) := fun n H0 hn g0 e0 Q q => h n H0 (by omega) g0 e0 _ fun us H1 e1 g1 hd => by
  subst hd
  refine ⟨(m : Int), rfl, by omega, by omega, fun Dl hD => lc_range (lo := 0) (n := (m : Int).toNat) (Cd F K H1 Dl (n + k) (kt + ke) f e) ?_ (fun i H' hi p => ?_) fun H' p => ?_⟩
  · exact ⟨Kx.ex (Ex.new hD), by rw [Nat.zero_mul]; exact o.put g1 hD g1, [], upd_same, .nil⟩
  · have him : i < m := by omega
    have e00 : (0 : Int) + (i : Int) = (i : Int) := Int.zero_add _
    obtain ⟨σ2, q1, q2, q3, q4⟩ := ht i _ H' him p.2.1 (e0.trans (e1.trans p.1))
    rw [e00]
    exact q1 _ ⟨q2, cd_turn o g1 hD p him hm (by rw [Nat.add_assoc]; exact hn) fl q3 q4⟩
  · rw [show (m : Int).toNat = m from Int.toNat_natCast m] at p
    obtain ⟨p1, p2, ws, p3, p4⟩ := p
    exact q (.ref Dl) H' (e1.trans p1) (by rw [← Nat.add_assoc]; exact p2) ⟨Dl, ws, rfl, o.new g1 hD, p3, p4⟩
/-- no test -/
theorem rt_yes {b : Bool} (h : b = true) : EvRT F (fun _ H Q => Q true H) σ H 0 b := fun n H1 hn g e Q q => h ▸ q H1 Kx.refl g
/-- tuple(xs), xs a list of its own -/
theorem rd_tupOf (o : F.Ok) (h : EvR F te σ H k (IsL F K ds)) : EvR F (tCB (rTupOf K) (tCons te tNil)) σ H k (IsD K (.tuple ds)) := fun n H1 hn g e Q q => h n H1 hn g e _ fun v H2 e2 g2 ⟨p, xs, ev, hT, ha, hx⟩ => by
  subst ev
  exact ⟨p, xs, rfl, .inl ⟨sq_of ha, fun l hl => q (.ref l) _ (e2.trans (Kx.ex (Ex.new hl))) (o.ex g2 (Ex.new hl)) (.tup (st_of upd_same) (dps_ex (Ex.new hl) _ _ hx))⟩⟩
/-- the promise of a def that changes nothing: of data, data -/
def spD (K : PySem.W.Frag) (R : List PyData → PyData → Prop) : Sp := fun vs H Q _ => ∃ ds d, DpAll K H vs ds ∧ R ds d ∧ ∀ v H', Ex H H' → Dp K H' v d → Q v H'
/-- .. a new list of data -/
def spL (K : PySem.W.Frag) (R : List PyData → List PyData → Prop) : Sp := fun vs H Q _ => ∃ ds es, DpAll K H vs ds ∧ R ds es ∧ ∀ p xs H', H p = none → Ex H H' → H' p = some (.lst xs) → DpAll K H' xs es → Q (.ref p) H'
theorem rd_call {Rl : List PyData → PyData → Prop} {E : XK} (o : F.Ok) (h : EvRA F tr σ H k (fun vs H => DpAll K H vs ds)) (hR : Rl ds d) : EvR F (tCall (spD K Rl) [] E tr) σ H k (IsD K d) := fun n H1 hn g e Q q => h n H1 hn g e _ fun vs H2 e2 g2 p =>
  ⟨ds, d, by rw [List.append_nil]; exact p, hR, fun v H3 e3 hv => q v H3 (e2.trans (Kx.ex e3)) (o.ex g2 e3) hv⟩
theorem rl_call {Rl : List PyData → List PyData → Prop} {E : XK} (o : F.Ok) (h : EvRA F tr σ H k (fun vs H => DpAll K H vs ds)) (hR : Rl ds es) : EvR F (tCall (spL K Rl) [] E tr) σ H k (IsL F K es) := fun n H1 hn g e Q q => h n H1 hn g e _ fun vs H2 e2 g2 p =>
  ⟨ds, es, by rw [List.append_nil]; exact p, hR, fun a xs H3 ha e3 hv hx => q (.ref a) H3 (e2.trans (Kx.ex e3)) (o.ex g2 e3) ⟨a, xs, rfl, o.new g2 ha, hv, hx⟩⟩
end
end Dt
/-! ### sorted of data, a tuple turned round, a list extended by a tuple -/
namespace HT
open PySem PySem.Calls PyProof.Rows
section
variable {prog : Program} {w : World} {A : Around} {E : Value → Shared → Prop} {s : Shared}
theorem adjust_back (n : Nat) : Builtin.Slice.sliceAdjust none none (-1) (n : Int) = ((n : Int) - 1, -1) := rfl
theorem places_back (n : Nat) : Builtin.Slice.slicePlaces ((n : Int) - 1) (-1) (-1) = n := by
  unfold Builtin.Slice.slicePlaces
  rw [if_neg (by decide)]
  by_cases h : (n : Int) - 1 > -1
  · rw [if_pos h]
    have : ((n : Int) - 1 - -1 - 1) / -(-1) = (n : Int) - 1 := by rw [show -(-1 : Int) = 1 from rfl, Int.ediv_one]; omega
    rw [this]
    omega
  · rw [if_neg h]
    omega
theorem applied_back {sl : Addr} {vl vu vs : Value} {n : Nat} {Q : Int × Int × Nat → Shared → Prop} (hs : s.heap.IsSliceOf sl vl vu vs) (pl : IsPart vl none) (pu : IsPart vu none) (ps : IsPart vs (some (-1)))
    (h : Q ((n : Int) - 1, -1, n) s) : wpAny (model prog w) A (Builtin.Slice.sliceApplied (.ref sl) (pure (n : Int))) Q E s := by
  obtain ⟨os, hos, hcs, hds⟩ := id hs
  unfold Builtin.Slice.sliceApplied Builtin.Slice.sliceFields
  refine wpAny_bind (wpAny_bind (wpAny_field hos hds (x := vl) rfl (wpAny_bind (wpAny_field hos hds (x := vu) rfl (wpAny_bind (wpAny_field hos hds (x := vs) rfl (wpAny_pure ?_)))))))
  refine wpAny_bind (slicePart_ ps ?_)
  show wpAny _ _ (if ((-1 : Int) == 0) = true then _ else _) _ _ s
  rw [if_neg (by decide)]
  refine wpAny_bind (slicePart_ pl (wpAny_bind (slicePart_ pu (wpAny_bind (wpAny_pure ?_)))))
  show wpAny _ _ (match Builtin.Slice.sliceAdjust none none (-1) (n : Int) with | (lo, hi) => pure (lo, (-1 : Int), Builtin.Slice.slicePlaces lo hi (-1))) _ _ s
  rw [adjust_back]
  show wpAny _ _ (pure ((n : Int) - 1, (-1 : Int), Builtin.Slice.slicePlaces ((n : Int) - 1) (-1) (-1))) _ _ s
  rw [places_back]
  exact wpAny_pure h
theorem fm_congr {α β : Type} {f g : α → Option β} : ∀ {l : List α}, (∀ m ∈ l, f m = g m) → l.filterMap f = l.filterMap g
  | [], _ => rfl
  | a :: l, h => by
    rw [List.filterMap_cons, List.filterMap_cons, h a (List.mem_cons_self ..), fm_congr fun m hm => h m (List.mem_cons_of_mem _ hm)]
theorem pick_back (xs : Array Value) : ((List.range xs.size).filterMap fun (m : Nat) => xs[((xs.size : Int) - 1 + (m : Int) * -1).toNat]?) = xs.toList.reverse := by
  have e : ∀ m ∈ List.range xs.size, xs[((xs.size : Int) - 1 + (m : Int) * -1).toNat]? = xs.toList.reverse[m]? := fun m hm => by
    have hm' := List.mem_range.mp hm
    have : ((xs.size : Int) - 1 + (m : Int) * -1).toNat = xs.toList.length - 1 - m := by rw [Array.length_toList]; omega
    rw [this, List.getElem?_reverse (by rw [Array.length_toList]; exact hm'), Array.getElem?_toList]
  rw [fm_congr e]
  have hl : xs.size = xs.toList.reverse.length := by rw [List.length_reverse, Array.length_toList]
  rw [hl]
  generalize xs.toList.reverse = l
  clear e hl
  induction l with
  | nil => rfl
  | cons a l ih =>
    rw [List.length_cons, List.range_succ_eq_map, List.filterMap_cons, List.filterMap_map]
    show a :: _ = _
    congr 1
theorem getItem_tuple_back {t sl : Addr} {items : Array Value} {vl vu vs : Value} {Q : Value → Shared → Prop} (ht : IsTup s.heap t items) (hs : s.heap.IsSliceOf sl vl vu vs) (pl : IsPart vl none) (pu : IsPart vu none) (ps : IsPart vs (some (-1)))
    (h : Q (.ref s.heap.objs.size) { s with heap := s.heap.push { cls := .type "tuple", data := .seq items.toList.reverse.toArray } }) (hsz : items.size ≤ sizeLine) : wpAny (model prog w) A (getItem (.ref t) (.ref sl)) Q E s := by
  have hz : sizeOk (.seq items.toList.reverse.toArray) := by
    show items.toList.reverse.toArray.size ≤ sizeLine
    rw [List.size_toArray, List.length_reverse, Array.length_toList]
    exact hsz
  obtain ⟨os, hos, hcs, hds⟩ := id hs
  have hTs : s.TypeIs (.ref sl) "slice" := ⟨os, hos, hcs⟩
  unfold getItem
  try with_reducible refine wpAny_holding ?_
  first | refine wpAny_bind (wpAny_pure ?_) | skip
  refine wpAny_bind (wpAny_sequenceKey ht.typeIs (by decide) ?_)
  refine wpAny_bind (wpAny_callSpecial?_slot (name := Str.ofString "__getitem__") ht.typeIs PyProof.Rows.slot_tuple_getitem
    (wpAny_call_entry PyProof.Rows.slot_tuple_getitem ht.typeIs entry_tuple_getitem ?_ (args_tuple_getitem _ _)))
  show wpAny _ _ (Builtin.Tuple.tupleItemsOf (.ref t) >>= _) _ _ s
  refine wpAny_bind (tupleItemsOf_ ht ?_)
  refine wpAny_bind (wpAny_typeOf hTs ?_)
  rw [if_pos (by decide)]
  refine wpAny_bind (applied_back hs pl pu ps ?_)
  have hno : ¬ ((((items.size : Int) - 1) == 0 && (-1 : Int) == 1 && items.size == items.size) = true) := by
    intro q
    rw [Bool.and_eq_true, Bool.and_eq_true] at q
    exact absurd q.1.2 (by decide)
  show wpAny _ _ (if (((items.size : Int) - 1) == 0 && (-1 : Int) == 1 && items.size == items.size) = true then _ else _) _ _ s
  rw [if_neg hno, pick_back]
  first
    | exact wpAny_bind (m := Builtin.Tuple.tupleExact _) (wpAny_newObj_type (wpAny_pure ⟨_, rfl, wpAny_pure h⟩) hz)
    | exact wpAny_bind (m := Builtin.Tuple.tupleExact _) (wpAny_newObj_type (wpAny_bind (wpAny_pure (wpAny_pure ⟨_, rfl, wpAny_pure h⟩))) hz)
    | exact wpAny_bind (wpAny_bind (m := Builtin.Tuple.tupleExact _) (wpAny_newObj_type (wpAny_pure (wpAny_pure ⟨_, rfl, wpAny_pure h⟩)) hz))
    | exact wpAny_bind (wpAny_bind (m := Builtin.Tuple.tupleExact _) (wpAny_newObj_type (wpAny_pure ⟨_, rfl, wpAny_pure h⟩) hz))
end
end HT
namespace L2
open PySem PySem.Spec PyProof.Rows
section
variable {X : Cx}
/-- t[::-1] -/
def tRevT (K : PySem.W.Frag) (te : TE) : TE := fun σ H Q => te σ H fun x H1 => ∃ a xs, x = .ref a ∧ SqT K H1 a xs ∧ ∀ p, H1 p = none → Q (.ref p) (upd H1 p (.tup xs.reverse))
theorem pe_revT {e : Expr} {te : TE} {k : Nat} {p1 p2 p3 pos : Pos} (he : PE X e te) : PE X (.Subscript e (.Slice none none (some (.UnaryOp .USub (.Constant (.int 1) k p1) p2)) p3) pos) (tRevT X.K te) := by
  refine ⟨fun pins s σ H Q I h => ?_⟩
  refine Subscript_ (thn (he.run pins s σ H _ I h) fun v s1 ⟨x, H1, I1, r1, q1⟩ => ?_)
  obtain ⟨a, xs, ex, hx, q⟩ := q1
  subst ex
  cases r1
  have hst : PO X (some (.UnaryOp .USub (.Constant (.int 1) k p1) p2)) (tPart (tUn (rU fun i => .int (-i)) (tC (.int 1)))) := po_some (pe_un un_neg pe_int)
  refine wpAny_Slice (thn (po_none.run pins s1 σ H1 (fun o H2 => o = none ∧ H2 = H1) I1 ⟨rfl, rfl⟩) fun vl s2 ⟨l, H2, I2, pl, el, e2⟩ => ?_)
  subst el e2
  refine thn (po_none.run pins s2 σ H2 (fun o H3 => o = none ∧ H3 = H2) I2 ⟨rfl, rfl⟩) fun vu s3 ⟨u, H3, I3, pu, eu, e3⟩ => ?_
  subst eu e3
  refine thn (hst.run pins s3 σ H3 (fun o H4 => o = some (-1) ∧ H4 = H3) I3 ⟨1, rfl, -1, rfl, rfl, rfl⟩) fun vs s4 ⟨o, H4, I4, ps, eo, e4⟩ => ?_
  subst eo e4
  have I5 : Inv X pins σ H4 { s4 with heap := s4.heap.push { cls := .type "slice", data := .fields #[vl, vu, vs] } } := I4.kept (t' := s4.toks) fun b ob q => Heap.get?_push_of_some _ q
  obtain ⟨its, r, ht, hz⟩ := I5.tuple hx
  have hlen := r.length
  show wpAny (model X.prog X.w) X.A (subscriptTail e (.Slice none none (some (.UnaryOp .USub (.Constant (.int 1) k p1) p2)) p3) (.ref a) (.ref s4.heap.objs.size)) (EP X pins σ Q) X.xe { s4 with heap := s4.heap.push { cls := .type "slice", data := .fields #[vl, vu, vs] } }
  refine tail_any (ops := [.ref a, .ref s4.heap.objs.size]) ht.typeIs (PyProof.Rows.slot_tuple_getitem.lookup) ?_ (by with_unfolding_all rfl)
  refine HT.getItem_tuple_back ht (Heap.IsSliceOf.new _ vl vu vs) pl pu ps ?_ (by rw [List.size_toArray]; omega)
  refine ⟨.ref _, _, I5.laid (t' := s4.toks) (o := .tup xs.reverse) (fun b ob q => Heap.get?_push_of_some _ q) (Nat.le_refl _) ?_, rfl, q _ (I5.hok.fresh (Nat.le_refl _))⟩
  exact ⟨by rw [List.length_reverse]; exact hz, its.reverse, r.reverse, ⟨_, Heap.get?_push_size _ rfl, rfl, 0, rfl⟩⟩
/-- sorted(xs): data that are alike -/
def rSortD (K : PySem.W.Frag) : List V → Hp → VK → Prop := fun us H Q => ∃ a vs ds, us = [.ref a] ∧ SqL K H a vs ∧ DpAll K H vs ds ∧ PySem.W.AllAlike ds ∧ PySem.W.Sortable ds ∧ (∀ d ∈ ds, PyData.depth d ≤ 40) ∧
  ∀ l ws, H l = none → DpAll K H ws (ds.mergeSort (PySem.W.dataLe false id)) → Q (.ref l) (upd H l (.lst ws))
theorem each_zip {K : PySem.W.Frag} {H : Hp} : ∀ {us : List Value} {vs : List V} {ds : List PyData}, Vals vs us → DpAll K H vs ds → PySem.W.EachIs (fun u (b : V × PyData) => RelV b.1 u ∧ Dp K H b.1 b.2) us (vs.zip ds)
  | _, _, _, .nil, .nil => .nil
  | _, _, _, .cons r rs, .cons h hs => .cons ⟨r, h⟩ (each_zip rs hs)
theorem zip_snd {K : PySem.W.Frag} {H : Hp} : ∀ {vs : List V} {ds : List PyData}, DpAll K H vs ds → (vs.zip ds).map Prod.snd = ds
  | _, _, .nil => rfl
  | _, _, .cons _ hs => by rw [List.zip_cons_cons, List.map_cons, zip_snd hs]
theorem each_back {K : PySem.W.Frag} {H : Hp} : ∀ {us : List Value} {bs : List (V × PyData)}, PySem.W.EachIs (fun u (b : V × PyData) => RelV b.1 u ∧ Dp K H b.1 b.2) us bs → Vals (bs.map Prod.fst) us ∧ DpAll K H (bs.map Prod.fst) (bs.map Prod.snd)
  | _, _, .nil => ⟨.nil, .nil⟩
  | _, _, .cons h t => ⟨.cons h.1 (each_back t).1, .cons h.2 (each_back t).2⟩
theorem cr_sortedD (hu : X.A.units + 64 < cLine) : CallR X (.builtin "sorted") (rSortD X.K) := by
  intro pins s σ H vs us Q I r h
  obtain ⟨a, xs, ds, rfl, hs, hd, hal, hk, hdp, q⟩ := h
  obtain ⟨its, rv, hl, hz⟩ := I.list hs
  rw [Vals.ref1 r]
  have e := each_zip rv hd
  have ez := zip_snd hd
  have er : PySem.W.EachIs (fun v (b : V × PyData) => ∃ as, Reads s.heap v b.2 as) its (xs.zip ds) := e.mono fun u b ⟨h1, h2⟩ => Dp.reads I b.2 b.1 u h2 h1
  have len : (xs.zip ds).length = xs.length := by
    have := congrArg List.length ez
    rw [List.length_map] at this
    rw [this]
    have l2 := rv.length
    have l3 := e.length
    omega
  refine PySem.W.sorted_data (enc := Prod.snd) hl.isList e er (by rw [ez]; exact hal) (by rw [ez]; exact hk) (by rw [len]; exact hz) (fun b hb => ?_) fun out h1 h2 => ?_
  · have : b.2 ∈ ds := by rw [← ez]; exact List.mem_map.mpr ⟨b, hb, rfl⟩
    have := hdp _ this
    omega
  · obtain ⟨ep, he'⟩ := PyProof.Rows.sortedAll_at s.heap its out.toArray
    obtain ⟨b1, b2⟩ := each_back h2
    have hm : ((xs.zip ds).mergeSort (PySem.W.dataLe false Prod.snd)).map Prod.snd = ds.mergeSort (PySem.W.dataLe false id) := by
      exact (List.map_mergeSort (r := PySem.W.dataLe false Prod.snd) (s := PySem.W.dataLe false id) (f := Prod.snd) (l := xs.zip ds) (fun _ _ _ _ => rfl)).trans (by rw [ez])
    rw [hm] at b2
    have hlen : (((xs.zip ds).mergeSort (PySem.W.dataLe false Prod.snd)).map Prod.fst).length ≤ sizeLine := by rw [List.length_map, List.length_mergeSort, len]; exact hz
    exact ⟨.ref _, upd H (s.heap.objs.size + 1) (.lst _), I.laid (t' := s.toks) (fun _ _ => PyProof.Rows.sortedAll_old) (Nat.le_succ _) ⟨hlen, out, ep, b1, he'⟩, rfl, q _ _ (I.hok.fresh (Nat.le_succ _)) b2⟩
end
end L2
/-! ### lists that are filled and emptied; slices of data -/
namespace PySem.AutoSeq1
open PySem
theorem list_extendT (l : Addr) (items : Array Value) (n : Nat) (b : Addr) (items2 : Array Value) (n2 : Nat) (dd : Option Addr) (sl : Array (Option Value)) (hs0 : ¬(!items.isEmpty && Builtin.List.listTooLong (items.size + items2.size)) = true) (hs1 : items.size ≤ sizeLine) (hs2 : items.size + items2.size ≤ sizeLine + 1) :
    Meets (Builtin.«list.extend» ⟨[.ref l, .ref b], []⟩) (fun _ R s => s.heap.get? l = some { cls := .type "list", dict := none, data := .seq items n, slots := #[] } ∧ s.heap.get? b = some { cls := .type "tuple", dict := dd, data := .seq items2 n2, slots := sl } ∧ R (.ok (.ret Value.none)) { s with heap := s.heap.update l (Obj.mapSeq fun x => x ++ items2), toks := s.toks }) :=
  .of_wp fun prog w A R s h => by
    obtain ⟨hp, g, d, tk, os⟩ := s; obtain ⟨hl, hb, h⟩ := h; have f1 := idx_int; have f2 := sub_tuple_tuple; have f3 := sub_list_list; have f4 := sub_tuple_list; have f5 := sub_list_tuple;
    have hz' : (items ++ items2).size ≤ sizeLine + 1 := by rw [Array.size_append]; exact hs2
    wp_walk using (wpAny_updateSeq hl rfl (hz := hs1) (_hz' := hz')), wpAny_loadPart' hl, wpAny_loadPart' hb; exact ⟨_, rfl, h⟩
end PySem.AutoSeq1
namespace L2
open PySem PySem.Spec PyProof.Rows
section
variable {X : Cx}
/-- xs.extend(t), t a tuple -/
def rExtendT (K : PySem.W.Frag) : V → List V → Hp → VK → Prop := fun x vs H Q => ∃ l b xs zs, x = .ref l ∧ vs = [.ref b] ∧ H l = some (.lst xs) ∧ SqT K H b zs ∧ xs.length + zs.length ≤ sizeLine ∧ Q .non (upd H l (.lst (xs ++ zs)))
theorem mt_extendT : MtM X "list.extend" (rExtendT X.K) := by
  intro pins s σ H x vs v us Q I rx rv h
  obtain ⟨l, b, xs, zs, rfl, rfl, hH, hB, hz, q⟩ := h
  cases rx
  obtain ⟨u, rfl, ru⟩ := rv.one
  cases ru
  obtain ⟨z, its, n, r, hl, e⟩ := I.lstM hH
  obtain ⟨its2, r2, ⟨⟨cls2, dd2, data2, sl2⟩, e2, hc2, n2, hd2⟩, hz2⟩ := I.tuple hB
  simp only at hc2 hd2
  subst hc2 hd2
  have hl2 := r2.length
  have hsz : its.toArray.size + its2.toArray.size ≤ sizeLine := by rw [List.size_toArray, List.size_toArray]; omega
  have hlong : ¬ (!its.toArray.isEmpty && Builtin.List.listTooLong (its.toArray.size + its2.toArray.size)) = true := by
    rw [notLongL hsz, Bool.and_false]
    exact Bool.false_ne_true
  refine call_meets F.slot_list_extend ⟨_, e, rfl⟩ F.entry_list_extend (F.args_list_extend_2 _ _)
    (AutoSeq1.list_extendT l its.toArray n b its2.toArray n2 dd2 sl2 hlong (by rw [List.size_toArray]; omega) (by omega)) ⟨e, e2, ?_⟩
  refine ⟨.non, _, I.lset (its' := its ++ its2) hH e (by simp) (r.append r2) ?_, rfl, q⟩
  rw [List.length_append]
  omega
end
end L2
namespace Dt
open PySem PySem.Spec PyProof.Rows L2 Evl Fx
section
variable {F : Fd} {K : PySem.W.Frag} {te ta tb tl : TE} {tr : TA} {tt : TT} {g : TG} {tu tw tz : TS} {σ : L2.St} {H H' : Hp} {P P' R : VP} {d d' d2 : PyData} {ds es : List PyData} {n k ka kb kt ke : Nat} {v : V} {D : Ends}
/-! statements -/
theorem q_asgR {i : Nat} (h : EvR F te σ H k P) (g0 : F.G n H) (hn : n + k ≤ F.N) (kk : ∀ v H1, Kx F.S H H1 → F.G (n + k) H1 → P v H1 → tz D (σ.set i (some v)) H1) : tSeq (tAsg te (gName i)) tz D σ H := h n H hn g0 Kx.refl _ kk
theorem q_asgG (h : EvR F te σ H k P) (g0 : F.G n H) (hn : n + k ≤ F.N) (kk : ∀ v H1, Kx F.S H H1 → F.G (n + k) H1 → P v H1 → g v σ H1 (tz D)) : tSeq (tAsg te g) tz D σ H := h n H hn g0 Kx.refl _ kk
theorem s_retR (h : EvR F te σ H k P) (g0 : F.G n H) (hn : n + k ≤ F.N) (kk : ∀ v H1, Kx F.S H H1 → F.G (n + k) H1 → P v H1 → D.rt v H1) : tRet te D σ H := h n H hn g0 Kx.refl _ kk
theorem s_ifR {b : Bool} (h : EvRT F tt σ H k b) (g0 : F.G n H) (hn : n + k ≤ F.N) (h1 : b = true → ∀ H1, Kx F.S H H1 → F.G (n + k) H1 → tu D σ H1) (h2 : b = false → ∀ H1, Kx F.S H H1 → F.G (n + k) H1 → tw D σ H1) : tIfS tt tu tw D σ H := h n H hn g0 Kx.refl _ fun H1 e1 g1 => by
  cases b with
  | true => exact h1 rfl H1 e1 g1
  | false => exact h2 rfl H1 e1 g1
/-- if ..: return ..; the rest -/
theorem q_whenR {b : Bool} (h : EvRT F tt σ H k b) (g0 : F.G n H) (hn : n + k ≤ F.N) (h1 : b = true → ∀ H1, Kx F.S H H1 → F.G (n + k) H1 → tu { D with nx := tz D } σ H1) (h2 : b = false → ∀ H1, Kx F.S H H1 → F.G (n + k) H1 → tz D σ H1) : tSeq (tIfS tt tu tNext) tz D σ H :=
  s_ifR (D := { D with nx := tz D }) h g0 hn h1 h2
/-- xs.append(e) -/
theorem q_appR {i : Nat} {l : Addr} {xs : List V} (hv : σ[i]? = some (some (.ref l))) (hl : H l = some (.lst xs)) (hT : ¬ F.S l) (h : EvR F te σ H k P) (g0 : F.G n H) (hn : n + k ≤ F.N) (hz : xs.length < 100000)
    (kk : ∀ v H1, Kx F.S H H1 → F.G (n + k) H1 → P v H1 → H1 l = some (.lst xs) → D.nx σ (upd H1 l (.lst (xs ++ [v])))) : tDrop (tBM K "list" rAppend (tVar i) (tCons te tNil)) D σ H :=
  ⟨.ref l, hv, .inl ⟨rfl, xs, sq_of hl⟩, h n H hn g0 Kx.refl _ fun v H1 e1 g1 p => ⟨l, xs, v, rfl, rfl, e1 _ _ hl hT, sz_lt hz, kk v H1 e1 g1 p (e1 _ _ hl hT)⟩⟩
/-- xs.extend(ys) -/
theorem q_extL {i : Nat} {l : Addr} {xs : List V} (hv : σ[i]? = some (some (.ref l))) (hl : H l = some (.lst xs)) (hT : ¬ F.S l) (h : EvR F te σ H k (IsL F K ds)) (g0 : F.G n H) (hn : n + k ≤ F.N) (hz : xs.length + ds.length ≤ 100000)
    (kk : ∀ zs H1, Kx F.S H H1 → F.G (n + k) H1 → DpAll K H1 zs ds → H1 l = some (.lst xs) → D.nx σ (upd H1 l (.lst (xs ++ zs)))) : tDrop (tBM K "list" rExtend (tVar i) (tCons te tNil)) D σ H :=
  ⟨.ref l, hv, .inl ⟨rfl, xs, sq_of hl⟩, h n H hn g0 Kx.refl _ fun v H1 e1 g1 ⟨b, zs, ev, _, hb, hd⟩ => ⟨l, b, xs, zs, rfl, by rw [ev], e1 _ _ hl hT, hb, by rw [dps_len hd]; exact sz_of hz, kk zs H1 e1 g1 hd (e1 _ _ hl hT)⟩⟩
theorem q_extT {i : Nat} {l : Addr} {xs : List V} (hv : σ[i]? = some (some (.ref l))) (hl : H l = some (.lst xs)) (hT : ¬ F.S l) (h : EvR F te σ H k (IsD K (.tuple ds))) (g0 : F.G n H) (hn : n + k ≤ F.N) (hz : xs.length + ds.length ≤ 100000)
    (kk : ∀ zs H1, Kx F.S H H1 → F.G (n + k) H1 → DpAll K H1 zs ds → H1 l = some (.lst xs) → D.nx σ (upd H1 l (.lst (xs ++ zs)))) : tDrop (tBM K "list" (rExtendT K) (tVar i) (tCons te tNil)) D σ H :=
  ⟨.ref l, hv, .inl ⟨rfl, xs, sq_of hl⟩, h n H hn g0 Kx.refl _ fun v H1 e1 g1 hd => by
    cases hd with
    | @tup b zs _ hb hd => exact ⟨l, b, xs, zs, rfl, rfl, e1 _ _ hl hT, hb, by rw [dps_len hd]; exact sz_of hz, kk zs H1 e1 g1 hd (e1 _ _ hl hT)⟩⟩
/-- .. = xs.pop() -/
theorem q_popR {i : Nat} {l : Addr} {xs : List V} {y : V} (hv : σ[i]? = some (some (.ref l))) (hl : H l = some (.lst (xs ++ [y]))) (kk : g y σ (upd H l (.lst xs)) (tz D)) : tSeq (tAsg (tBM0 K "list" rPop (tVar i)) g) tz D σ H :=
  ⟨.ref l, hv, .inl ⟨rfl, _, sq_of hl⟩, l, xs ++ [y], y, rfl, rfl, hl, by simp, by rw [List.dropLast_concat]; exact kk⟩
/-! expressions -/
theorem rd_revT (o : F.Ok) (h : EvR F te σ H k (IsD K (.tuple ds))) : EvR F (tRevT K te) σ H k (IsD K (.tuple ds.reverse)) := fun n H1 hn g e Q q => h n H1 hn g e _ fun v H2 e2 g2 hd => by
  cases hd with
  | @tup a xs _ ha hd => exact ⟨a, xs, rfl, ha, fun p hp => q _ _ (e2.trans (Kx.ex (Ex.new hp))) (o.ex g2 (Ex.new hp)) (.tup (st_of upd_same) (dps_ex (Ex.new hp) _ _ (dps_rev hd)))⟩
theorem rl_revL (o : F.Ok) (h : EvR F te σ H k (IsL F K ds)) : EvR F (tRevL K te) σ H k (IsL F K ds.reverse) := fun n H1 hn g e Q q => h n H1 hn g e _ fun v H2 e2 g2 ⟨a, xs, ev, hT, ha, hd⟩ => by
  subst ev
  exact ⟨a, xs, rfl, sq_of ha, fun p hp => q _ _ (e2.trans (Kx.ex (Ex.new hp))) (o.ex g2 (Ex.new hp)) ⟨p, _, rfl, o.new g2 hp, upd_same, dps_ex (Ex.new hp) _ _ (dps_rev hd)⟩⟩
theorem rl_lst (o : F.Ok) (h : EvRA F tr σ H k (fun vs H => DpAll K H vs ds)) (hl : ds.length ≤ 100000 := by simp) : EvR F (tLst tr) σ H k (IsL F K ds) :=
  fun n H1 hn g e Q q => h n H1 hn g e _ fun vs H2 e2 g2 p => ⟨sz_of (by rw [dps_len p]; exact hl), fun a ha => q (.ref a) _ (e2.trans (Kx.ex (Ex.new ha))) (o.ex g2 (Ex.new ha)) ⟨a, vs, rfl, o.new g2 ha, upd_same, dps_ex (Ex.new ha) _ _ p⟩⟩
theorem rl_sorted (o : F.Ok) (h : EvR F te σ H k (IsL F K ds)) (hal : PySem.W.AllAlike ds) (hk : PySem.W.Sortable ds) (hd : ∀ d ∈ ds, PyData.depth d ≤ 40) : EvR F (tCB (rSortD K) (tCons te tNil)) σ H k (IsL F K (ds.mergeSort (PySem.W.dataLe false id))) := fun n H1 hn g e Q q =>
  h n H1 hn g e _ fun v H2 e2 g2 ⟨a, xs, ev, hT, ha, hx⟩ => ⟨a, xs, ds, by rw [ev], sq_of ha, hx, hal, hk, hd, fun p ws hp hw => q _ _ (e2.trans (Kx.ex (Ex.new hp))) (o.ex g2 (Ex.new hp)) ⟨p, ws, rfl, o.new g2 hp, upd_same, dps_ex (Ex.new hp) _ _ hw⟩⟩
theorem rv_lenT (h : EvR F te σ H k (IsD K (.tuple ds))) : EvR F (tCB (rLenS K) (tCons te tNil)) σ H k (fun x _ => x = .int (ds.length : Int)) := fun n H1 hn g e Q q => h n H1 hn g e _ fun v H2 e2 g2 hd => by
  cases hd with
  | @tup a xs _ ha hd => exact ⟨a, xs, rfl, .inr ha, q _ H2 e2 g2 (by rw [dps_len hd])⟩
theorem rv_lenL (h : EvR F te σ H k (IsL F K ds)) : EvR F (tCB (rLenS K) (tCons te tNil)) σ H k (fun x _ => x = .int (ds.length : Int)) := fun n H1 hn g e Q q => h n H1 hn g e _ fun v H2 e2 g2 ⟨a, xs, ev, hT, ha, hd⟩ => by
  subst ev
  exact ⟨a, xs, rfl, .inl (sq_of ha), q _ H2 e2 g2 (by rw [dps_len hd])⟩
/-- (*t, e) -/
theorem ra_star (o : F.Ok) (h : EvR F te σ H ka (IsD K (.tuple ds))) (fd : flats ds = true) (hr : EvRA F tr σ H kb (fun vs H => DpAll K H vs es)) : EvRA F (StX.tStar K te tr) σ H (ka + kb) (fun vs H => DpAll K H vs (ds ++ es)) :=
  fun n H1 hn g e Q q => h n H1 (by omega) g e _ fun v H2 e2 g2 hd => by
    cases hd with
    | @tup a xs _ ha hd => exact ⟨a, xs, rfl, .inl ha, hr (n + ka) H2 (by omega) g2 (e.trans e2) _ fun vs H3 e3 g3 p' => q _ H3 (e2.trans e3) (by rw [← Nat.add_assoc]; exact g3) (dps_app (mono_ds o fd _ _ _ _ g2 e3 hd) p')⟩
theorem rd_ixL {i : Int} (o : F.Ok) (ha : EvR F ta σ H ka (IsL F K ds)) (fd : flats ds = true) (hb : EvR F tb σ H kb (fun x _ => x = .int i)) (j : Nat) (hj : ixN ds.length i = some j) (hd : ds[j]? = some d) : EvR F (tOp (rIxL K) ta tb) σ H (ka + kb) (IsD K d) :=
  r_op o (mono_l o fd) ha hb fun x y n H1 g e ⟨p, xs, ex, hT, hp, hx⟩ py Q q => by
    subst py ex
    obtain ⟨u, hu, hdu⟩ := dps_get hx hd
    exact ⟨_, _, i, u, rfl, rfl, sq_of hp, by unfold atI; rw [dps_len hx, hj]; exact hu, q u H1 (Ex.refl _) hdu⟩
/-- x in a list -/
theorem rb_inL (o : F.Ok) (ha : EvR F ta σ H ka (IsD K d)) (hb : EvR F tb σ H kb (IsL F K ds)) (f : flat d = true) (sd : SeqAt.shaped d = true) (se : SeqAt.shaped (.list ds) = true) : EvR F (tOp (rInD K) ta tb) σ H (ka + kb) (fun x _ => x = .bl (ds.any fun z => PyData.eqv z d)) :=
  r_op o (mono_d o f) ha hb fun x y n H1 g e px py Q q => ⟨d, ds, px, py.dp, sd, se, q _ H1 (Ex.refl _) rfl⟩
/-- t[lo:hi] -/
theorem rd_slT {tlo thi : TO} {lo hi : Option Int} (o : F.Ok) (h : EvR F te σ H k (IsD K (.tuple ds))) (h1 : ∀ H1, EvO tlo σ H1 lo) (h2 : ∀ H1, EvO thi σ H1 hi) : EvR F (tSl (rSlA K) te tlo thi) σ H k (IsD K (.tuple ((ds.drop (HT.sIx ds.length 0 lo)).take (HT.sIx ds.length ds.length hi - HT.sIx ds.length 0 lo)))) := fun n H1 hn g e Q q => h n H1 hn g e _ fun v H2 e2 g2 hd => by
  cases hd with
  | @tup a xs _ ha hd =>
    have hl := dps_len hd
    refine h1 H2 H2 (Ex.refl _) _ fun H3 e3 => h2 H3 H3 (Ex.refl _) _ fun H4 e4 => ?_
    have e34 := e3.trans e4
    refine ⟨a, xs, rfl, ex_t e34 ha, fun ⟨w1, w2⟩ => ?_, fun hw p hp => ?_⟩
    · refine q _ H4 (e2.trans (Kx.ex e34)) (o.ex g2 e34) ?_
      rw [hl] at w1 w2
      rw [w1, w2, Nat.sub_zero, List.drop_zero, List.take_length]
      exact .tup (ex_t e34 ha) (dps_ex e34 _ _ hd)
    · refine q _ _ (e2.trans (Kx.ex (e34.trans (Ex.new hp)))) (o.ex g2 (e34.trans (Ex.new hp))) (.tup (st_of upd_same) (dps_ex (e34.trans (Ex.new hp)) _ _ ?_))
      unfold cutV
      rw [hl]
      exact dps_take (dps_drop hd)
end
end Dt
namespace Dt
open PySem PySem.Spec PyProof.Rows L2 Evl Fx
section
variable {K : PySem.W.Frag} {H H' H1 : Hp} {p : Addr} {xs ys : List V} {u : HO} {d : PyData} {ds : List PyData} {v : V} {F : Fd}
theorem kt_lst (h : H p = some (.lst xs)) : KT K H (upd H p u) := fun a zs q => by
  have hne : ∀ o, H a = some o → (∀ ys, o ≠ .lst ys) → a ≠ p := fun o q z => by
    rintro rfl
    rw [h] at q
    cases q
    exact z _ rfl
  rcases q with (q | ⟨o, q⟩) | q
  · exact .inl (.inl (by rw [upd_ne (hne _ q fun _ z => by cases z)]; exact q))
  · exact .inl (.inr ⟨o, by rw [upd_ne (hne _ q fun _ z => by cases z)]; exact q⟩)
  · exact .inr q
theorem kt_ex (e : Ex H H') : KT K H H' := fun a xs h => ex_t e h
theorem kt_trans (a : KT K H H1) (b : KT K H1 H') : KT K H H' := fun x ys h => b x ys (a x ys h)
/-- the truth of a name that holds a list -/
def tTru (K : PySem.W.Frag) (i : Nat) : TT := fun σ H Q => tVar i σ H fun x H' => ∃ k, TruV K x H' k ∧ Q k H'
theorem et_truL {σ : L2.St} {i : Nat} (hv : σ[i]? = some (some (.ref p))) (h : H p = some (.lst xs)) : EvT (tTru K i) σ H (!xs.isEmpty) := fun H1 e Q q => ⟨.ref p, hv, _, .inl ⟨xs, sq_of (e _ _ h), rfl⟩, q H1 (Ex.refl H1)⟩
theorem F0.kx (e : Ex H H') : Kx F0.S H H' := Kx.ex e
theorem ne_addr {q : Addr} {o : HO} (h : H p = none) (h' : H q = some o) : q ≠ p := by
  rintro rfl
  rw [h] at h'
  cases h'
/-- list(range(n)) -/
theorem rl_listRg {te : TE} {σ : L2.St} {k m : Nat} (o : F.Ok) (h : EvR F te σ H k (fun x _ => x = .int (m : Int))) (hm : m ≤ 100000) : EvR F (tLstRg (tRg1 te)) σ H k (IsL F K ((List.range m).map fun (i : Nat) => PyData.int (i : Int))) := fun n H1 hn g e Q q => h n H1 hn g e _ fun v H2 e2 g2 ev => by
  refine ⟨(m : Int), ev, RgOk.of_le (by omega) (by omega) (by omega) (by omega), fun p hp => q _ _ (e2.trans (Kx.ex (Ex.new hp))) (o.ex g2 (Ex.new hp)) ⟨p, _, rfl, o.new g2 hp, upd_same, ?_⟩⟩
  unfold rgV
  rw [show ((m : Int) - 0).toNat = m by omega]
  clear hp
  generalize upd H2 p _ = H3
  have go : ∀ l : List Nat, DpAll K H3 (l.map fun (i : Nat) => V.int (0 + (i : Int))) (l.map fun (i : Nat) => PyData.int (i : Int)) := fun l => by
    induction l with
    | nil => exact .nil
    | cons a l ih =>
      refine .cons ?_ ih
      show Dp K H3 (V.int (0 + (a : Int))) (PyData.int (a : Int))
      rw [Int.zero_add]
      exact .int _
  exact go _
theorem rl_var {σ : L2.St} {n i : Nat} (o : F.Ok) (g0 : F.G n H) (h : σ[i]? = some (some v)) (p : IsL F K ds v H) (f : flats ds = true) : EvR F (tVar i) σ H 0 (IsL F K ds) := r_var (mono_l o f) g0 h p
theorem range_getD {α : Type} (z : α) : ∀ l : List α, (List.range l.length).map (fun i => l.getD i z) = l
  | [] => rfl
  | a :: l => by
    rw [List.length_cons, List.range_succ_eq_map, List.map_cons, List.map_map]
    show a :: _ = a :: l
    congr 1
    exact range_getD z l
theorem outs_getD (z : PyData) (l : List PyData) {m : Nat} (h : l.length = m) : outs (fun _ => true) (fun i => l.getD i z) m = l := by
  subst h
  rw [outs_all]
  exact range_getD z l
/-- a list that H0 doesn't know -/
def IsN (H0 : Hp) (F : Fd) (K : PySem.W.Frag) (ds : List PyData) : VP := fun v H => ∃ p xs, v = .ref p ∧ H0 p = none ∧ ¬ F.T p ∧ H p = some (.lst xs) ∧ DpAll K H xs ds
theorem kx_none {n : Nat} {p : Addr} (o : F.Ok) (g : F.G n H1) (e : Kx F.S H H1) (h : H1 p = none) : H p = none := by
  cases q : H p with
  | none => rfl
  | some u =>
    by_cases s : F.S p
    · obtain ⟨w, z, _⟩ := o.at_ g (o.sub s)
      rw [h] at z
      cases z
    · rw [e _ _ q s] at h
      cases h
theorem rn_lst {tr : TA} {σ : L2.St} {k : Nat} (o : F.Ok) (h : EvRA F tr σ H k (fun vs H => DpAll K H vs ds)) (hl : ds.length ≤ 100000 := by simp) : EvR F (tLst tr) σ H k (IsN H F K ds) :=
  fun n H1 hn g e Q q => h n H1 hn g e _ fun vs H2 e2 g2 p => ⟨sz_of (by rw [dps_len p]; exact hl), fun a ha => q (.ref a) _ (e2.trans (Kx.ex (Ex.new ha))) (o.ex g2 (Ex.new ha)) ⟨a, vs, rfl, kx_none o g2 (e.trans e2) ha, o.new g2 ha, upd_same, dps_ex (Ex.new ha) _ _ p⟩⟩
theorem dps_uncons {vs : List V} (h : DpAll K H vs (d :: ds)) : ∃ v r, vs = v :: r ∧ Dp K H v d ∧ DpAll K H r ds := by
  cases h with
  | cons h1 h2 => exact ⟨_, _, rfl, h1, h2⟩
theorem dps_none {vs : List V} (h : DpAll K H vs []) : vs = [] := by
  cases h
  rfl
theorem dp_two {d e : PyData} (h : Dp K H v (.tuple [d, e])) : ∃ a x y, v = .ref a ∧ SqT K H a [x, y] ∧ Dp K H x d ∧ Dp K H y e := by
  cases h with
  | tup h1 h2 =>
    cases h2 with
    | cons p1 q1 =>
      cases q1 with
      | cons p2 q2 =>
        cases q2
        exact ⟨_, _, _, rfl, h1, p1, p2⟩
theorem dp_three {d e c : PyData} (h : Dp K H v (.tuple [d, e, c])) : ∃ a x y z, v = .ref a ∧ SqT K H a [x, y, z] ∧ Dp K H x d ∧ Dp K H y e ∧ Dp K H z c := by
  cases h with
  | tup h1 h2 =>
    cases h2 with
    | cons p1 q1 =>
      cases q1 with
      | cons p2 q2 =>
        cases q2 with
        | cons p3 q3 =>
          cases q3
          exact ⟨_, _, _, _, rfl, h1, p1, p2, p3⟩
end
theorem call_lenS {X : Cx} : CallR X (.builtin "len") (rLenS X.K) := by
  intro pins s σ H xs us Q I r h
  obtain ⟨p, ys, rfl, hs, q⟩ := h
  exact call_len pins s σ H _ us Q I r ⟨.ref p, ys.length, rfl, hs.elim (fun h => .inl ⟨ys, h, rfl⟩) fun h => .inr ⟨ys, h, rfl⟩, q⟩
theorem pa_starK {X : Cx} {K : PySem.W.Frag} {e : Expr} {te : TE} {es : List Expr} {t : TA} {p : Pos} (hK : X.K = K) (he : PE X e te) (hr : PA X es t) (hs : starEach (.Starred e p :: es) X.env = (true, eval e X.env) :: starEach es X.env := by rfl) : PA X (.Starred e p :: es) (StX.tStar K te t) := by
  subst hK
  exact StX.pa_star he hr hs
end Dt
/-! ### span trees as a type, their data, their spans -/
namespace Tr
open PySem PySem.Spec PyProof.Rows L2 Evl Fx Dt
/-- a span tree: service, mark, calls -/
inductive T where
  | mk (s : Str) (m : Int) (cs : List T)
def T.name : T → Str | .mk s _ _ => s
def T.mark : T → Int | .mk _ m _ => m
def T.calls : T → List T | .mk _ _ cs => cs
mutual
def enc : T → PyData
  | .mk s m cs => .tuple [.str s, .int m, .tuple (encs cs)]
def encs : List T → List PyData
  | [] => []
  | t :: ts => enc t :: encs ts
end
theorem encs_map : ∀ ts : List T, encs ts = ts.map enc
  | [] => by rw [encs]; rfl
  | t :: ts => by rw [encs, encs_map ts]; rfl
theorem enc_eq (t : T) : enc t = .tuple [.str t.name, .int t.mark, .tuple (t.calls.map enc)] := by
  cases t
  rw [enc, encs_map]
  rfl
mutual
theorem enc_flat : ∀ t, flat (enc t) = true
  | .mk s m cs => by rw [enc, flat_tup, flats, flats, flats, flats, flat, flat, flat_tup, encs_flat cs]; rfl
theorem encs_flat : ∀ ts, flats (encs ts) = true
  | [] => by rw [encs, flats]
  | t :: ts => by rw [encs, flats, enc_flat t, encs_flat ts]; rfl
end
theorem maps_flat (ts : List T) : flats (ts.map enc) = true := by rw [← encs_map]; exact encs_flat ts
mutual
def size : T → Nat
  | .mk _ _ cs => sizes cs + 1
def sizes : List T → Nat
  | [] => 0
  | t :: ts => size t + sizes ts
end
theorem size_eq (t : T) : size t = sizes t.calls + 1 := by cases t; rw [size]; rfl
theorem sizes_app : ∀ ts us : List T, sizes (ts ++ us) = sizes ts + sizes us
  | [], us => by rw [List.nil_append, sizes]; omega
  | t :: ts, us => by rw [List.cons_append, sizes, sizes, sizes_app ts us]; omega
theorem sizes_rev : ∀ ts : List T, sizes ts.reverse = sizes ts
  | [] => rfl
  | t :: ts => by rw [List.reverse_cons, sizes_app, sizes_rev ts, sizes, sizes, sizes]; omega
theorem len_sizes : ∀ ts : List T, ts.length ≤ sizes ts
  | [] => by rw [sizes]; exact Nat.le_refl _
  | .mk _ _ cs :: ts => by
    have := len_sizes ts
    rw [sizes, size, List.length_cons]
    omega
mutual
/-- the subtrees, a caller ahead of its calls -/
def subs : T → List T
  | .mk s m cs => .mk s m cs :: subsA cs
def subsA : List T → List T
  | [] => []
  | t :: ts => subs t ++ subsA ts
end
theorem subs_eq (t : T) : subs t = t :: subsA t.calls := by cases t; rw [subs]; rfl
theorem subsA_app : ∀ ts us : List T, subsA (ts ++ us) = subsA ts ++ subsA us
  | [], us => by rw [List.nil_append, subsA]; rfl
  | t :: ts, us => by rw [List.cons_append, subsA, subsA, subsA_app ts us, List.append_assoc]
mutual
theorem subs_len : ∀ t : T, (subs t).length = size t
  | .mk s m cs => by rw [subs, size, List.length_cons, subsA_len cs]
theorem subsA_len : ∀ ts : List T, (subsA ts).length = sizes ts
  | [] => by rw [subsA, sizes]; rfl
  | t :: ts => by rw [subsA, sizes, List.length_append, subs_len t, subsA_len ts]
end
mutual
/-- the paths with the subtrees -/
def placed : List Nat → T → List (List Nat × T)
  | p, .mk s m cs => (p, .mk s m cs) :: placedA p 0 cs
def placedA : List Nat → Nat → List T → List (List Nat × T)
  | _, _, [] => []
  | p, i, t :: ts => placed (p ++ [i]) t ++ placedA p (i + 1) ts
end
theorem placed_eq (p : List Nat) (t : T) : placed p t = (p, t) :: placedA p 0 t.calls := by cases t; rw [placed]; rfl
mutual
theorem placed_snd : ∀ (p : List Nat) (t : T), (placed p t).map Prod.snd = subs t
  | p, .mk s m cs => by rw [placed, subs, List.map_cons, placedA_snd p 0 cs]
theorem placedA_snd : ∀ (p : List Nat) (i : Nat) (ts : List T), (placedA p i ts).map Prod.snd = subsA ts
  | p, i, [] => by rw [placedA, subsA]; rfl
  | p, i, t :: ts => by rw [placedA, subsA, List.map_append, placed_snd, placedA_snd]
end
theorem placed_len (p : List Nat) (t : T) : (placed p t).length = size t := by rw [← subs_len, ← placed_snd p t, List.length_map]
mutual
theorem placed_path : ∀ (q : List Nat) (t : T) (x : List Nat × T), x ∈ placed q t → x.1.length + size x.2 ≤ q.length + size t
  | q, .mk s m cs, x, h => by
    rw [placed, List.mem_cons] at h
    rcases h with rfl | h
    · exact Nat.le_refl _
    · have := placedA_path q 0 cs x h
      rw [size]
      omega
theorem placedA_path : ∀ (q : List Nat) (i : Nat) (ts : List T) (x : List Nat × T), x ∈ placedA q i ts → x.1.length + size x.2 ≤ q.length + 1 + sizes ts
  | q, i, [], x, h => by
    rw [placedA] at h
    cases h
  | q, i, t :: ts, x, h => by
    rw [placedA, List.mem_append] at h
    rw [sizes]
    rcases h with h | h
    · have := placed_path (q ++ [i]) t x h
      rw [List.length_append, List.length_singleton] at this
      omega
    · have := placedA_path q (i + 1) ts x h
      omega
end
/-- what a stack of pairs still gives -/
def placedS : List (List Nat × T) → List (List Nat × T)
  | [] => []
  | (p, t) :: r => placed p t ++ placedS r
theorem placedS_app : ∀ a b : List (List Nat × T), placedS (a ++ b) = placedS a ++ placedS b
  | [], b => rfl
  | (p, t) :: a, b => by rw [List.cons_append, placedS, placedS, placedS_app a b, List.append_assoc]
/-- the calls with their paths -/
def kids (p : List Nat) (i : Nat) : List T → List (List Nat × T)
  | [] => []
  | t :: ts => (p ++ [i], t) :: kids p (i + 1) ts
theorem kids_placed (p : List Nat) : ∀ (i : Nat) (ts : List T), placedS (kids p i ts) = placedA p i ts
  | _, [] => by rw [placedA]; rfl
  | i, t :: ts => by rw [kids, placedS, placedA, kids_placed p (i + 1) ts]
theorem kids_len (p : List Nat) : ∀ (i : Nat) (ts : List T), (kids p i ts).length = ts.length
  | _, [] => rfl
  | i, t :: ts => by rw [kids, List.length_cons, kids_len p (i + 1) ts, List.length_cons]
theorem kids_get (p : List Nat) : ∀ (i : Nat) (ts : List T) (j : Nat), (kids p i ts)[j]? = (ts[j]?).map fun t => (p ++ [i + j], t)
  | _, [], j => by simp [kids]
  | i, t :: ts, 0 => by simp [kids]
  | i, t :: ts, j + 1 => by
    rw [kids, List.getElem?_cons_succ, kids_get p (i + 1) ts j, List.getElem?_cons_succ, show i + 1 + j = i + (j + 1) by omega]
def sizeS : List (List Nat × T) → Nat
  | [] => 0
  | (_, t) :: r => size t + sizeS r
theorem placedS_len : ∀ a : List (List Nat × T), (placedS a).length = sizeS a
  | [] => rfl
  | (p, t) :: r => by rw [placedS, sizeS, List.length_append, placed_len, placedS_len r]
theorem sizeS_app : ∀ a b : List (List Nat × T), sizeS (a ++ b) = sizeS a + sizeS b
  | [], b => by rw [List.nil_append, sizeS]; omega
  | (p, t) :: a, b => by rw [List.cons_append, sizeS, sizeS, sizeS_app a b]; omega
theorem sizeS_rev (a : List (List Nat × T)) : sizeS a.reverse = sizeS a := by
  induction a with
  | nil => rfl
  | cons x a ih =>
    obtain ⟨p, t⟩ := x
    rw [List.reverse_cons, sizeS_app, ih, sizeS, sizeS, sizeS]
    omega
theorem len_sizeS : ∀ a : List (List Nat × T), a.length ≤ sizeS a
  | [] => Nat.le_refl _
  | (p, t) :: a => by
    have := len_sizeS a
    rw [sizeS, List.length_cons, size_eq]
    omega
theorem sizeS_kids (p : List Nat) : ∀ (i : Nat) (ts : List T), sizeS (kids p i ts) = sizes ts
  | _, [] => by rw [sizes]; rfl
  | i, t :: ts => by rw [kids, sizeS, sizes, sizeS_kids p (i + 1) ts]
def pathD (p : List Nat) : PyData := .tuple (p.map fun (i : Nat) => .int (i : Int))
def ptD (x : List Nat × T) : PyData := .tuple [pathD x.1, enc x.2]
theorem path_flats (p : List Nat) : flats (p.map fun (i : Nat) => PyData.int (i : Int)) = true := flats_all.mpr fun d hd => by
  obtain ⟨i, _, rfl⟩ := List.mem_map.mp hd
  rfl
theorem path_flat (p : List Nat) : flat (pathD p) = true := path_flats p
theorem pair_flat (x : List Nat × T) : flat (ptD x) = true := by
  unfold ptD
  rw [flat_tup, flats, flats, flats, path_flat, enc_flat]
  rfl
theorem pairs_flat (xs : List (List Nat × T)) : flats (xs.map ptD) = true := flats_all.mpr fun d hd => by
  obtain ⟨x, _, rfl⟩ := List.mem_map.mp hd
  exact pair_flat x
theorem kids_flat (p : List Nat) (i : Nat) (cs : List T) (j : Nat) : flat (((kids p i cs).reverse.map ptD).getD j .none) = true := by
  rw [List.getD_eq_getElem?_getD]
  cases h : ((kids p i cs).reverse.map ptD)[j]? with
  | none => rfl
  | some d => exact flats_all.mp (pairs_flat _) d (List.mem_of_getElem? h)
/-- the i-th of the calls, from the right -/
theorem kids_back (p : List Nat) (cs : List T) (i : Nat) (hi : i < cs.length) : ∃ (j : Nat) (c : T), cs[j]? = some c ∧ j < cs.length ∧ ((List.range cs.length).map fun (i : Nat) => PyData.int (i : Int)).reverse[i]? = some (.int (j : Int)) ∧ ((kids p 0 cs).reverse.map ptD).getD i .none = ptD (p ++ [j], c) := by
  refine ⟨cs.length - 1 - i, cs[cs.length - 1 - i], List.getElem?_eq_getElem (by omega), by omega, ?_, ?_⟩
  · rw [List.getElem?_reverse (by rw [List.length_map, List.length_range]; exact hi), List.length_map, List.length_range, List.getElem?_map, List.getElem?_range (by omega)]
    rfl
  · rw [List.getD_eq_getElem?_getD, List.getElem?_map, List.getElem?_reverse (by rw [kids_len]; exact hi), kids_len, kids_get, List.getElem?_eq_getElem (show cs.length - 1 - i < cs.length by omega), Nat.zero_add]
    rfl
theorem pathD_snoc (p : List Nat) (j : Nat) : pathD (p ++ [j]) = .tuple ((p.map fun (i : Nat) => PyData.int (i : Int)) ++ [.int (j : Int)]) := by
  unfold pathD
  rw [List.map_append]
  rfl
section
variable {F : Fd} {K : PySem.W.Frag} {te : TE} {σ : L2.St} {H : Hp} {k : Nat} {t : T}
theorem rt_name (o : F.Ok) (h : EvR F te σ H k (IsD K (enc t))) : EvR F (tOp (rIxT K) te (tC (.int 0))) σ H k (IsD K (.str t.name)) :=
  rd_ix (kb := 0) o (h.cast (enc_eq t)) rv_c 0 rfl rfl (by rw [← enc_eq]; exact enc_flat t)
theorem rt_mark (o : F.Ok) (h : EvR F te σ H k (IsD K (enc t))) : EvR F (tOp (rIxT K) te (tC (.int 1))) σ H k (IsD K (.int t.mark)) :=
  rd_ix (kb := 0) o (h.cast (enc_eq t)) rv_c 1 rfl rfl (by rw [← enc_eq]; exact enc_flat t)
theorem rt_calls (o : F.Ok) (h : EvR F te σ H k (IsD K (enc t))) : EvR F (tOp (rIxT K) te (tC (.int 2))) σ H k (IsD K (.tuple (t.calls.map enc))) :=
  rd_ix (kb := 0) o (h.cast (enc_eq t)) rv_c 2 rfl rfl (by rw [← enc_eq]; exact enc_flat t)
end
end Tr
namespace K18
open PySem PySem.Spec PyProof.Rows L2 Evl Fx Dt Tr
def topS (i : Nat) : Stmt := PySem.Challenge.pw_thinspans_k18_kept_spans_told.main.body.getD i (.Pass ⟨0, 0, 0, 0⟩)
theorem scSubs : FnScope ["tree", "found", "waiting", "here"] ["tree"] (defScope (topS 8)) := ⟨rfl, rfl, rfl, by decide +kernel, rfl, by decide +kernel, by decide +kernel⟩
section
variable {P : Program} {w : World} {K : PySem.W.Frag} {mg : Str → Option Value} {base : Heap} {f f2 f3 : Addr} {fd fd2 fd3 : FuncData}
def spSubs (K : PySem.W.Frag) : Sp := spL K fun ds es => ∃ t, size t ≤ 1000 ∧ ds = [enc t] ∧ es = (subs t).map enc
theorem ok_subs (F : Fun K "subtrees_of" "subtrees_of" (topS 8) f fd) : FnOk P w K mg base CX0 1 f fd ["tree"] (spSubs K) := by
  refine F.ok scSubs (fun vs H Q E h => ?_) (fun cdv A outer s H vs Q E hr h => ?_)
  · obtain ⟨ds, es, hd, ⟨t, _, rfl, _⟩, _⟩ := h
    exact dps_len hd
  · obtain ⟨ds, es, hd, ⟨t, hs, rfl, rfl⟩, q⟩ := h
    refine ⟨_, pss_cons (ps_set (i := 1) scSubs.nd rfl (.inl rfl) (pe_lst pa_nil))
      (pss_cons (ps_set (i := 2) scSubs.nd rfl (.inl rfl) (pe_lst (pa_cons (pv 0) pa_nil)))
      (pss_cons (ps_while PassesOwn.never (pt_truth (pv 2) (fun _ => rfl))
        (pss_cons (ps_asg (pe_bm0 PySem.F.plainAttrs_list PySem.F.slot_list_pop PySem.F.type_list_pop mt_pop (pv 2)) (pg_name (i := 3) scSubs.nd rfl (.inl rfl)))
        (pss_cons (ps_expr (pe_bm PySem.F.plainAttrs_list PySem.F.slot_list_append PySem.F.type_list_append mt_append (pv 1) (pa_cons (pv 3) pa_nil)))
        (pss_one (ps_expr (pe_bm PySem.F.plainAttrs_list PySem.F.slot_list_extend PySem.F.type_list_extend mt_extendT (pv 2) (pa_cons (pe_revT (pe_ix ix_tup (pv 3) pe_int (fun _ _ => rfl))) pa_nil)))))))
      (pss_one (ps_ret (pv 1))))), ?_⟩
    show tSeq (tAsg (tLst tNil) (gName 1)) (tSeq (tAsg (tLst (tCons (tVar 0) tNil)) (gName 2)) (tSeq (tWhile (tTru K 2) _) _)) _ _ _
    match vs, hd with
    | [v0], .cons hv0 .nil =>
    refine q_asgL (el_lst ea_nil (by simp)) fun A1 H1 n1 e1 h1 => q_asgL (el_lst (ea_cons (ev_var rfl) ea_nil) (by simp)) fun A2 H2 n2 e2 h2 => ?_
    have hne : A1 ≠ A2 := ne_addr n2 h1
    have n2' : H A2 = none := fresh_back e1 n2
    refine s_while (fun m σ' H' => ∃ (done pend : List T) (xs ys : List V) (u : Option V), σ' = [some v0, some (.ref A1), some (.ref A2), u] ∧ Ex H H' ∧ H' A1 = some (.lst xs) ∧ H' A2 = some (.lst ys) ∧ DpAll K H' xs (done.map enc) ∧ DpAll K H' ys (pend.map enc) ∧
      done ++ subsA pend.reverse = subs t ∧ m = sizes pend) (sizes [t]) ⟨[], [t], [], [v0], none, rfl, e1.trans e2, e2 _ _ h1, h2, .nil, .cons (dp_ex (e1.trans e2) _ _ hv0) .nil, by simp [subsA], rfl⟩ fun m σ' H' ⟨done, pend, xs, ys, u, es, ee, hx, hy, dx, dy, hm, em⟩ => ?_
    subst es em
    have lp : xs.length + ys.length ≤ 1000 := by
      have a1 := dps_len dx
      have a2 := dps_len dy
      have a3 := congrArg List.length hm
      rw [List.length_append, subsA_len, sizes_rev, subs_len] at a3
      have a4 := len_sizes pend
      rw [List.length_map] at a1 a2
      omega
    refine ⟨!ys.isEmpty, et_truL rfl hy, fun hb H3 e3 => ?_, fun hb H3 e3 => ?_⟩
    · have hp : pend ≠ [] := by
        rintro rfl
        cases dy
        simp at hb
      obtain ⟨ps, y, rfl⟩ : ∃ ps y, pend = ps ++ [y] := ⟨_, _, (List.dropLast_concat_getLast hp).symm⟩
      rw [List.map_append, List.map_singleton] at dy
      obtain ⟨zs, v, rfl, dz, dv⟩ := dps_last dy
      refine ⟨fun σ2 H2 => ∃ m', m' < sizes (ps ++ [y]) ∧ ∃ (done pend : List T) (xs ys : List V) (u : Option V), σ2 = [some v0, some (.ref A1), some (.ref A2), u] ∧ Ex H H2 ∧ H2 A1 = some (.lst xs) ∧ H2 A2 = some (.lst ys) ∧ DpAll K H2 xs (done.map enc) ∧ DpAll K H2 ys (pend.map enc) ∧
        done ++ subsA pend.reverse = subs t ∧ m' = sizes pend, fun _ _ h => h, ?_⟩
      refine q_popR rfl (e3 _ _ hy) ?_
      have k1 : KT K H3 (upd H3 A2 (.lst zs)) := kt_lst (e3 _ _ hy)
      have ex1 : Ex H (upd H3 A2 (.lst zs)) := (ee.trans e3).mut n2'
      have hx1 : upd H3 A2 (.lst zs) A1 = some (.lst xs) := by rw [upd_ne hne]; exact e3 _ _ hx
      refine q_appR (F := F0) (n := 0) (k := 0) (P := IsD K (enc y)) (D := _) rfl hx1 (fun z => z) (rd_var F0.ok (n := 0) F0.g rfl (dp_kt (kt_trans (kt_ex e3) k1) _ _ (enc_flat y) dv) (enc_flat y)) F0.g (Nat.le_refl _) (by omega) fun v' H4 e4 _ dv' hx4 => ?_
      replace e4 := F0.ex e4
      have hy4 : H4 A2 = some (.lst zs) := e4 _ _ upd_same
      have hy5 : upd H4 A1 (.lst (xs ++ [v'])) A2 = some (.lst zs) := by rw [upd_ne hne.symm]; exact hy4
      have k5 : KT K H4 (upd H4 A1 (.lst (xs ++ [v']))) := kt_lst hx4
      have ex5 : Ex H (upd H4 A1 (.lst (xs ++ [v']))) := (ex1.trans e4).mut n1
      have kz : KT K H' H4 := kt_trans (kt_ex e3) (kt_trans k1 (kt_ex e4))
      have ly : y.calls.length + ps.length ≤ 1000 := by
        have a3 := congrArg List.length hm
        rw [List.length_append, subsA_len, sizes_rev, subs_len, sizes_app, sizes, sizes, size_eq] at a3
        have a4 := len_sizes ps
        have a5 := len_sizes y.calls
        omega
      have lz := dps_len dz
      rw [List.length_map] at lz
      refine q_extT (F := F0) (n := 0) (k := 0) (ds := (y.calls.map enc).reverse) rfl hy5 (fun z => z) (rd_revT F0.ok (rt_calls F0.ok (rd_var F0.ok (n := 0) F0.g rfl (dp_kt (kt_trans kz k5) _ _ (enc_flat y) dv) (enc_flat y)))) F0.g (Nat.le_refl _) (by rw [List.length_reverse, List.length_map]; omega) fun us H6 e6 _ du hy6 => ?_
      replace e6 := F0.ex e6
      have hx6 : H6 A1 = some (.lst (xs ++ [v'])) := e6 _ _ upd_same
      have k7 : KT K H6 (upd H6 A2 (.lst (zs ++ us))) := kt_lst hy6
      refine ⟨_, ?_, done ++ [y], ps ++ y.calls.reverse, xs ++ [v'], zs ++ us, _, rfl, (ex5.trans e6).mut n2', by rw [upd_ne hne]; exact hx6, upd_same, ?_, ?_, ?_, rfl⟩
      · rw [sizes_app, sizes_app, sizes_rev, sizes, sizes, size_eq]
        omega
      · rw [List.map_append]
        have kk := kt_trans k5 (kt_trans (kt_ex e6) k7)
        exact dps_snoc (dps_kt (kt_trans kz kk) _ _ (maps_flat done) dx) (dp_kt kk _ _ (enc_flat y) dv')
      · rw [List.map_append, List.map_reverse]
        exact dps_app (dps_kt (kt_trans kz (kt_trans k5 (kt_trans (kt_ex e6) k7))) _ _ (maps_flat ps) dz) (dps_kt k7 _ _ (by rw [← List.map_reverse]; exact maps_flat _) du)
      · rw [List.reverse_append, List.reverse_reverse, subsA_app, ← hm, List.reverse_append, List.reverse_singleton, subsA_app, List.append_assoc]
        show _ ++ ([y] ++ _) = _ ++ (subsA [y] ++ _)
        rw [subsA, subsA, subs_eq, List.append_nil]
        rfl
    · have hp : ys = [] := by
        cases ys with
        | nil => rfl
        | cons _ _ => simp at hb
      subst hp
      have hp : pend = [] := by
        cases pend with
        | nil => rfl
        | cons _ _ => cases dy
      subst hp
      rw [List.reverse_nil, subsA, List.append_nil] at hm
      subst hm
      exact s_ret (v := .ref A1) (ev_var rfl) fun H4 e4 => q A1 xs H4 (fresh_back (Ex.refl H) n1) (ee.trans (e3.trans e4)) (e4 _ _ (e3 _ _ hx)) (dps_ex (e3.trans e4) _ _ dx)
end
end K18
namespace K18
open PySem PySem.Spec PyProof.Rows L2 Evl Fx Dt Tr
theorem scPlaced : FnScope ["tree", "found", "waiting", "path", "here", "places", "place"] ["tree"] (defScope (topS 7)) := ⟨rfl, rfl, rfl, by decide +kernel, rfl, by decide +kernel, by decide +kernel⟩
section
variable {P : Program} {w : World} {K : PySem.W.Frag} {mg : Str → Option Value} {base : Heap} {f f2 f3 : Addr} {fd fd2 fd3 : FuncData}
def spPlaced (K : PySem.W.Frag) : Sp := spL K fun ds es => ∃ t, size t ≤ 1000 ∧ ds = [enc t] ∧ es = (placed [] t).map ptD
set_option maxHeartbeats 1000000 in
theorem ok_placed (F : Fun K "placed_subtrees" "placed_subtrees" (topS 7) f fd) (m_range : mg "range" = none) (m_len : mg "len" = none) (m_list : mg "list" = none) : FnOk P w K mg base CX0 1 f fd ["tree"] (spPlaced K) := by
  refine F.ok scPlaced (fun vs H Q E h => ?_) (fun cdv A outer s H vs Q E hr h => ?_)
  · obtain ⟨ds, es, hd, ⟨t, _, rfl, _⟩, _⟩ := h
    exact dps_len hd
  · obtain ⟨ds, es, hd, ⟨t, hs, rfl, rfl⟩, q⟩ := h
    refine ⟨_, pss_cons (ps_set (i := 1) scPlaced.nd rfl (.inl rfl) (pe_lst pa_nil))
      (pss_cons (ps_set (i := 2) scPlaced.nd rfl (.inl rfl) (pe_lst (pa_cons (pe_tup (pa_cons (pe_tup pa_nil) (pa_cons (pv 0) pa_nil))) pa_nil)))
      (pss_cons (ps_while PassesOwn.never (pt_truth (pv 2) (fun _ => rfl))
        (pss_cons (ps_asg (pe_bm0 PySem.F.plainAttrs_list PySem.F.slot_list_pop PySem.F.type_list_pop mt_pop (pv 2)) (pg_tup (by rfl) (pgs_cons (pg_name (i := 3) scPlaced.nd rfl (.inr rfl)) (pgs_cons (pg_name (i := 4) scPlaced.nd rfl (.inr rfl)) pgs_nil))))
        (pss_cons (ps_expr (pe_bm PySem.F.plainAttrs_list PySem.F.slot_list_append PySem.F.type_list_append mt_append (pv 1) (pa_cons (pe_tup (pa_cons (pv 3) (pa_cons (pv 4) pa_nil))) pa_nil)))
        (pss_cons (ps_set (i := 5) scPlaced.nd rfl (.inl rfl) (pe_listRg (by rfl) (by rfl) m_list (prg_1 (by rfl) m_range (pe_callB (r := rLenS K) call_lenS (by rfl) m_len PySem.boot_len (pa_cons (pe_ix ix_tup (pv 4) pe_int (fun _ _ => rfl)) pa_nil)))))
        (pss_one (ps_expr (pe_bm PySem.F.plainAttrs_list PySem.F.slot_list_extend PySem.F.type_list_extend mt_extend (pv 2) (pa_cons
          (pe_lc (own := [("place", 6)]) (g := gName 6) (by rfl) scPlaced.nd (pi_list (pe_revL (pv 5))) (blkOk_by (own := [("place", 6)]) (N := ["tree", "found", "waiting", "path", "here", "places", "place"]) (sc := defScope (topS 7)) (by decide +kernel)) (fun _ _ _ _ _ => pg_name (i := 6) scPlaced.nd rfl (.inl rfl)) (fun _ _ _ _ _ => pts_nil)
            (fun _ _ _ _ _ => pe_tup (pa_cons (pe_tup (pa_starK (K := K) rfl (pv 3) (pa_cons (pv 6) pa_nil))) (pa_cons (pe_ix (r := rIxT K) ix_tup (pe_ix (r := rIxT K) ix_tup (pv 4) pe_int (fun _ _ => rfl)) (pv 6) (fun _ _ => rfl)) pa_nil)))) pa_nil))))))))
      (pss_one (ps_ret (pv 1))))), ?_⟩
    show tSeq (tAsg (tLst tNil) (gName 1)) (tSeq (tAsg (tLst (tCons (tTup (tCons (tTup tNil) (tCons (tVar 0) tNil))) tNil)) (gName 2)) (tSeq (tWhile (tTru K 2) _) _)) _ _ _
    match vs, hd with
    | [v0], .cons hv0 .nil =>
    refine q_asgL (el_lst ea_nil (by simp)) fun A1 H1 n1 e1 h1 => ?_
    refine q_asgR (F := F0) (n := 0) (k := 0) (P := IsN H1 F0 K [ptD ([], t)]) (rn_lst F0.ok (ra_cons (ka := 0) (kb := 0) F0.ok (rd_tup F0.ok (ra_cons (ka := 0) (kb := 0) F0.ok (rd_tup F0.ok ra_nil) (ra_cons (ka := 0) (kb := 0) F0.ok (rd_var F0.ok (n := 0) F0.g rfl (dp_ex e1 _ _ hv0) (enc_flat t)) ra_nil (enc_flat t)) rfl) (pair_flat ([], t))) ra_nil (pair_flat ([], t)))) F0.g (Nat.le_refl _) fun w2 H2 e2 _ ⟨A2, ws, ew, n2, _, h2, dw⟩ => ?_
    subst ew
    replace e2 := F0.ex e2
    have hne : A1 ≠ A2 := ne_addr n2 h1
    have n2' : H A2 = none := fresh_back e1 n2
    refine s_while (fun m σ' H' => ∃ (done pend : List (List Nat × T)) (xs ys : List V) (u3 u4 u5 : Option V), σ' = [some v0, some (.ref A1), some (.ref A2), u3, u4, u5, none] ∧ Ex H H' ∧ H' A1 = some (.lst xs) ∧ H' A2 = some (.lst ys) ∧ DpAll K H' xs (done.map ptD) ∧ DpAll K H' ys (pend.map ptD) ∧
      done ++ placedS pend.reverse = Tr.placed [] t ∧ m = sizeS pend) (sizeS [([], t)]) ⟨[], [([], t)], [], ws, none, none, none, rfl, e1.trans e2, e2 _ _ h1, h2, .nil, dw, by simp [placedS], rfl⟩ fun m σ' H' ⟨done, pend, xs, ys, u3, u4, u5, es, ee, hx, hy, dx, dy, hm, em⟩ => ?_
    subst es em
    have a1 := dps_len dx
    have a2 := dps_len dy
    have a3 := congrArg List.length hm
    rw [List.length_append, placedS_len, sizeS_rev, placed_len] at a3
    have a4 := len_sizeS pend
    rw [List.length_map] at a1 a2
    have lp : xs.length + ys.length ≤ 1000 := by omega
    refine ⟨!ys.isEmpty, et_truL rfl hy, fun hb H3 e3 => ?_, fun hb H3 e3 => ?_⟩
    · have hp : pend ≠ [] := by
        rintro rfl
        cases dy
        simp at hb
      obtain ⟨ps, py, rfl⟩ : ∃ ps y, pend = ps ++ [y] := ⟨_, _, (List.dropLast_concat_getLast hp).symm⟩
      obtain ⟨p, y⟩ := py
      rw [List.map_append, List.map_singleton] at dy
      obtain ⟨zs, v, rfl, dz, dv⟩ := dps_last dy
      refine ⟨fun σ2 H2 => ∃ m', m' < sizeS (ps ++ [(p, y)]) ∧ ∃ (done pend : List (List Nat × T)) (xs ys : List V) (u3 u4 u5 : Option V), σ2 = [some v0, some (.ref A1), some (.ref A2), u3, u4, u5, none] ∧ Ex H H2 ∧ H2 A1 = some (.lst xs) ∧ H2 A2 = some (.lst ys) ∧ DpAll K H2 xs (done.map ptD) ∧ DpAll K H2 ys (pend.map ptD) ∧
        done ++ placedS pend.reverse = Tr.placed [] t ∧ m' = sizeS pend, fun _ _ h => h, ?_⟩
      refine q_popR rfl (e3 _ _ hy) ?_
      have k1 : KT K H3 (upd H3 A2 (.lst zs)) := kt_lst (e3 _ _ hy)
      have ex1 : Ex H (upd H3 A2 (.lst zs)) := (ee.trans e3).mut n2'
      have hx1 : upd H3 A2 (.lst zs) A1 = some (.lst xs) := by rw [upd_ne hne]; exact e3 _ _ hx
      have dv1 : Dp K (upd H3 A2 (.lst zs)) v (ptD (p, y)) := dp_kt (kt_trans (kt_ex e3) k1) _ _ (pair_flat (p, y)) dv
      obtain ⟨a, vp, vy, rfl, ha, dp, dyy⟩ := dp_two dv1
      refine ⟨a, [vp, vy], rfl, ha, rfl, vp, [vy], rfl, vy, [], rfl, rfl, ?_⟩
      refine q_appR (F := F0) (n := 0) (k := 0) (P := IsD K (ptD (p, y))) (D := _) rfl hx1 (fun z => z) (rd_tup F0.ok (ra_cons (ka := 0) (kb := 0) F0.ok (rd_var F0.ok (n := 0) F0.g rfl dp (path_flat p)) (ra_cons (ka := 0) (kb := 0) F0.ok (rd_var F0.ok (n := 0) F0.g rfl dyy (enc_flat y)) ra_nil (enc_flat y)) (path_flat p)) (pair_flat (p, y))) F0.g (Nat.le_refl _) (by omega) fun v' H4 e4 _ dv' hx4 => ?_
      replace e4 := F0.ex e4
      have hy4 : H4 A2 = some (.lst zs) := e4 _ _ upd_same
      have hy5 : upd H4 A1 (.lst (xs ++ [v'])) A2 = some (.lst zs) := by rw [upd_ne hne.symm]; exact hy4
      have k5 : KT K H4 (upd H4 A1 (.lst (xs ++ [v']))) := kt_lst hx4
      have k45 := kt_trans (kt_ex e4) k5
      have ex5 : Ex H (upd H4 A1 (.lst (xs ++ [v']))) := (ex1.trans e4).mut n1
      have kz : KT K H' H4 := kt_trans (kt_ex e3) (kt_trans k1 (kt_ex e4))
      have dp5 := dp_kt k45 _ _ (path_flat p) dp
      have dy5 := dp_kt k45 _ _ (enc_flat y) dyy
      have ly : y.calls.length + ps.length ≤ 1000 := by
        rw [sizeS_app, sizeS, sizeS, size_eq] at a3
        have b1 := len_sizeS ps
        have b2 := len_sizes y.calls
        omega
      have lz := dps_len dz
      rw [List.length_map] at lz
      have ry : EvR F0 (tVar 4) [some v0, some (.ref A1), some (.ref A2), some vp, some vy, u5, none] (upd H4 A1 (.lst (xs ++ [v']))) 0 (IsD K (enc y)) := rd_var F0.ok (n := 0) F0.g rfl dy5 (enc_flat y)
      -- places
      refine q_asgR (F := F0) (n := 0) (k := 0) (P := IsL F0 K ((List.range y.calls.length).map fun (i : Nat) => PyData.int (i : Int))) (rl_listRg F0.ok (EvR.imp (rv_lenT (rt_calls F0.ok ry)) fun _ x _ _ _ hxx => by rw [hxx, List.length_map]) (by omega)) F0.g (Nat.le_refl _) fun vl H6 e6 _ il => ?_
      replace e6 := F0.ex e6
      have hx6 : H6 A1 = some (.lst (xs ++ [v'])) := e6 _ _ upd_same
      have hy6 : H6 A2 = some (.lst zs) := e6 _ _ hy5
      have fr : flats ((List.range y.calls.length).map fun (i : Nat) => PyData.int (i : Int)) = true := path_flats _
      have frr : flats ((List.range y.calls.length).map fun (i : Nat) => PyData.int (i : Int)).reverse = true := flats_all.mpr fun d hd => flats_all.mp fr d (List.mem_reverse.mp hd)
      have lk := kids_len p 0 y.calls
      -- the kids, turned round
      have hl : ((List.range y.calls.length).map fun (i : Nat) => PyData.int (i : Int)).reverse.length = y.calls.length := by rw [List.length_reverse, List.length_map, List.length_range]
      have dp6 := dp_ex e6 _ _ dp5
      have dy6 := dp_ex e6 _ _ dy5
      have hbody : ∀ (i : Nat) (x : V) (d : PyData) (n : Nat) (H8 : Hp), ((List.range y.calls.length).map fun (i : Nat) => PyData.int (i : Int)).reverse[i]? = some d → Dp K H8 x d → F0.G n H8 → Kx F0.S H6 H8 →
          ∃ σ2, Gv (gName 6) x (wipe [some v0, some (.ref A1), some (.ref A2), some vp, some vy, some vl, none] [6]) H8 σ2 ∧ wipe σ2 [6] = wipe [some v0, some (.ref A1), some (.ref A2), some vp, some vy, some vl, none] [6] ∧ EvRT F0 tYes σ2 H8 0 true ∧
            (true = true → EvR F0 (tTup (tCons (tTup (StX.tStar K (tVar 3) (tCons (tVar 6) tNil))) (tCons (tOp (rIxT K) (tOp (rIxT K) (tVar 4) (tC (.int 2))) (tVar 6)) tNil))) σ2 H8 0 (IsD K (((kids p 0 y.calls).reverse.map ptD).getD i .none))) := fun i x d n H8 hd hx8 _ e8 => by
        replace e8 := F0.ex e8
        have hi : i < y.calls.length := by
          have := (List.getElem?_eq_some_iff.mp hd).1
          omega
        obtain ⟨j, c, hc, hj, hr, he⟩ := kids_back p y.calls i hi
        rw [hr] at hd
        cases hd
        refine ⟨_, gv_name, rfl, rt_yes rfl, fun _ => ?_⟩
        rw [he]
        refine rd_tup F0.ok (ra_cons (ka := 0) (kb := 0) F0.ok ?_ (ra_cons (ka := 0) (kb := 0) F0.ok ?_ ra_nil (enc_flat c)) (path_flat _)) (pair_flat (p ++ [j], c))
        · show EvR F0 _ _ _ _ (IsD K (pathD (p ++ [j])))
          rw [pathD_snoc]
          refine rd_tup F0.ok (ra_star (ka := 0) (kb := 0) F0.ok (rd_var F0.ok (n := 0) F0.g rfl (dp_ex e8 _ _ dp6) (path_flat p)) (path_flats p) (ra_cons (ka := 0) (kb := 0) F0.ok (rd_var F0.ok (n := 0) F0.g rfl hx8) ra_nil)) ?_ ?_
          · have := path_flat (p ++ [j])
            rwa [pathD_snoc] at this
          · rw [List.length_append, List.length_map, List.length_singleton]
            have hin : (p, y) ∈ Tr.placed [] t := by
              rw [← hm, List.reverse_append, List.reverse_singleton, placedS_app, placedS, placedS, placed_eq]
              simp
            have := placed_path [] t (p, y) hin
            simp only [List.length_nil] at this
            omega
        · refine rd_ix (ka := 0) (kb := 0) (i := (j : Int)) F0.ok (rt_calls F0.ok (rd_var F0.ok (n := 0) F0.g rfl (dp_ex e8 _ _ dy6) (enc_flat y))) (rv_int (K := K) (rd_var F0.ok (n := 0) F0.g rfl hx8)) j ?_ ?_ (maps_flat _)
          · rw [List.length_map]
            exact ixN_nat hj
          · rw [List.getElem?_map, hc]
            rfl
      have hc := r_lcL (F := F0) (K := K) (k := 0) (kt := 0) (ke := 0) (H := H6) (tl := tRevL K (tVar 5)) (vs := [6]) F0.ok (fun _ => true) (fun i => ((kids p 0 y.calls).reverse.map ptD).getD i .none)
        (rl_revL F0.ok (rl_var F0.ok (n := 0) F0.g rfl il fr)) frr (by rw [hl]; omega) (fun j _ _ => kids_flat _ _ _ j) hbody
      rw [hl, outs_getD .none _ (by rw [List.length_map, List.length_reverse, kids_len])] at hc
      refine q_extL (F := F0) (n := 0) (k := 0 + y.calls.length * (0 + 0)) (ds := (kids p 0 y.calls).reverse.map ptD) rfl hy6 (fun z => z) hc F0.g (by simp) (by rw [List.length_map, List.length_reverse, kids_len]; omega) fun us H9 e9 _ du hy9 => ?_
      replace e9 := F0.ex e9
      have hx9 : H9 A1 = some (.lst (xs ++ [v'])) := e9 _ _ hx6
      have k9 : KT K H9 (upd H9 A2 (.lst (zs ++ us))) := kt_lst hy9
      refine ⟨_, ?_, done ++ [(p, y)], ps ++ (kids p 0 y.calls).reverse, xs ++ [v'], zs ++ us, _, _, _, rfl, ((ex5.trans e6).trans e9).mut n2', by rw [upd_ne hne]; exact hx9, upd_same, ?_, ?_, ?_, rfl⟩
      · rw [sizeS_app, sizeS_app, sizeS_rev, sizeS_kids, sizeS, sizeS, size_eq]
        omega
      · rw [List.map_append]
        have kk := kt_trans k5 (kt_trans (kt_ex (e6.trans e9)) k9)
        exact dps_snoc (dps_kt (kt_trans kz kk) _ _ (pairs_flat done) dx) (dp_kt kk _ _ (pair_flat (p, y)) dv')
      · rw [List.map_append]
        exact dps_app (dps_kt (kt_trans kz (kt_trans k5 (kt_trans (kt_ex (e6.trans e9)) k9))) _ _ (pairs_flat ps) dz) (dps_kt k9 _ _ (pairs_flat _) du)
      · rw [List.reverse_append, List.reverse_reverse, placedS_app, ← hm, List.reverse_append, List.reverse_singleton, placedS_app, List.append_assoc, kids_placed]
        show _ ++ ([(p, y)] ++ _) = _ ++ (placedS [(p, y)] ++ _)
        rw [placedS, placedS, placed_eq, List.append_nil]
        rfl
    · have hp : ys = [] := by
        cases ys with
        | nil => rfl
        | cons _ _ => simp at hb
      subst hp
      have hp : pend = [] := by
        cases pend with
        | nil => rfl
        | cons _ _ => cases dy
      subst hp
      rw [List.reverse_nil, placedS, List.append_nil] at hm
      subst hm
      exact s_ret (v := .ref A1) (ev_var rfl) fun H4 e4 => q A1 xs H4 (fresh_back (Ex.refl H) n1) (ee.trans (e3.trans e4)) (e4 _ _ (e3 _ _ hx)) (dps_ex (e3.trans e4) _ _ dx)
end
end K18
namespace K18
open PySem PySem.Spec PyProof.Rows L2 Evl Fx Fr
abbrev sWhole : Stmt := topS 6
abbrev sInteger : Stmt := topS 10
abbrev sMade : Stmt := topS 14
abbrev sReduced : Stmt := topS 15
abbrev sLess : Stmt := topS 16
theorem scWhole : FnScope ["thing"] ["thing"] (defScope sWhole) := ⟨rfl, rfl, rfl, by decide +kernel, rfl, by decide +kernel, by decide +kernel⟩
theorem scInteger : FnScope ["thing"] ["thing"] (defScope sInteger) := ⟨rfl, rfl, rfl, by decide +kernel, rfl, by decide +kernel, by decide +kernel⟩
theorem scMade : FnScope ["p", "q"] ["p", "q"] (defScope sMade) := ⟨rfl, rfl, rfl, by decide +kernel, rfl, by decide +kernel, by decide +kernel⟩
theorem scReduced : FnScope ["p", "q", "common"] ["p", "q"] (defScope sReduced) := ⟨rfl, rfl, rfl, by decide +kernel, rfl, by decide +kernel, by decide +kernel⟩
theorem scLess : FnScope ["one", "other"] ["one", "other"] (defScope sLess) := ⟨rfl, rfl, rfl, by decide +kernel, rfl, by decide +kernel, by decide +kernel⟩
section
variable {P : Program} {w : World} {K : PySem.W.Frag} {mg : Str → Option Value} {base : Heap} {f f2 f3 : Addr} {fd fd2 fd3 : FuncData} {CX : CXT}
/-! ### whole numbers -/
/-- of any value whose kind is known: whether it is an int, not a bool -/
def spWhole (K : PySem.W.Frag) : Sp := fun vs H Q _ => ∃ (x : V) (T : String) (a b : Bool), vs = [x] ∧ TyX K H x (.type T) ∧ kitB T "int" = some a ∧ kitB T "bool" = some b ∧ Q (.bl (a && !b)) H
theorem ok_whole (F : Fun K "is_whole" "is_whole" sWhole f fd) (mI : mg "isinstance" = none) (mi : mg "int" = none) (mb : mg "bool" = none) : FnOk P w K mg base CX0 1 f fd ["thing"] (spWhole K) := by
  refine F.ok scWhole (fun vs H Q E h => ?_) (fun cdv A outer s H vs Q E hr h => ?_)
  · obtain ⟨x, T, a, b, rfl, _⟩ := h
    rfl
  · obtain ⟨x, T, a, b, rfl, ty, e1, e2, q⟩ := h
    refine ⟨_, pss_one (ps_ret (pe_and (pe_callB call_isi (by rfl) mI (by decide +kernel) (pa_cons (pv 0) (pa_cons (pe_bltn (v := .ty "int") (by rfl) mi (by decide +kernel) rfl) pa_nil)))
      (pe_one (pe_not (pe_callB call_isi (by rfl) mI (by decide +kernel) (pa_cons (pv 0) (pa_cons (pe_bltn (v := .ty "bool") (by rfl) mb (by decide +kernel) rfl) pa_nil))))))), ?_⟩
    refine ⟨_, rfl, x, .ty "int", _, _, a, rfl, .ty "int", ty, kit_ty e1, a, rfl, ?_⟩
    cases a with
    | false => exact iteF q
    | true => exact iteT ⟨_, rfl, x, .ty "bool", _, _, b, rfl, .ty "bool", ty, kit_ty e2, b, rfl, q⟩
theorem ok_integer (F : Fun K "is_integer" "is_integer" sInteger f fd) (G : FnOk P w K mg base CX0 1 f2 fd2 ["thing"] (spWhole K)) (k2 : PySem.W.keepIn K (.ref f2) = true) (b2 : Binds K fd2 ["thing"] []) (g2 : mg "is_whole" = some (.ref f2)) : FnOk P w K mg base CX0 2 f fd ["thing"] (spWhole K) := by
  refine F.ok scInteger (fun vs H Q E h => ?_) (fun cdv A outer s H vs Q E hr h => ?_)
  · obtain ⟨x, T, a, b, rfl, _⟩ := h
    rfl
  · have h0 := h
    obtain ⟨x, T, a, b, rfl, ty, e1, e2, q⟩ := h
    exact ⟨_, pss_one (ps_ret (pe_call G hr (by rfl) g2 k2 b2 .nil pass0 (pa_cons (pv 0) pa_nil))), _, rfl, x, T, a, b, rfl, ty, e1, e2, q⟩
theorem tyI (K : PySem.W.Frag) (H : Hp) (i : Int) : TyX K H (.int i) (.type "int") := .base (.int i)
theorem kII : kitB "int" "int" = some true := by decide +kernel
theorem kIB : kitB "int" "bool" = some false := by decide +kernel
/-! ### reduced pairs -/
def okR (i j : Int) : Prop := j ≠ 0 ∧ i.natAbs < 2 ^ 4000 ∧ j.natAbs < 2 ^ 4000
theorem comm_lt {p q : Int} (h : q ≠ 0) (hq : q.natAbs < 2 ^ 4000) : (comm p q).natAbs < 2 ^ 4000 ∧ comm p q ≠ 0 := by
  have g := gcd_pos (p := p) h
  have l : Nat.gcd p.natAbs q.natAbs ≤ q.natAbs := Nat.gcd_le_right _ (by omega)
  unfold comm
  split <;> omega
theorem ok_reduced (F : Fun K "reduced_pair" "reduced_pair" sReduced f fd) (gG : mg "gcd" = some (.builtin "math.gcd")) : FnOk P w K mg base CX0 1 f fd ["p", "q"] (spI2F okR Rat.divInt) := by
  refine F.ok scReduced (fun vs H Q E h => ?_) (fun cdv A outer s H vs Q E hr h => ?_)
  · obtain ⟨i, j, rfl, _⟩ := h
    rfl
  · obtain ⟨i, j, rfl, ⟨h0, h1, h2⟩, q⟩ := h
    obtain ⟨c1, c2⟩ := comm_lt (p := i) h0 h2
    have cd1 : CDivS i (comm i j) := cdivS c2 c1 (by decide) (by decide)
    have cd2 : CDivS j (comm i j) := cdivS c2 c1 (by decide) (by decide)
    refine ⟨_, pss_cons (ps_set (i := 2) scReduced.nd rfl (.inl rfl) (pe_callBfun cr_gcd (by rfl) gG (pa_cons (pv 0) (pa_cons (pv 1) pa_nil))))
      (pss_cons (ps_if (pt_cmpR op_lt (pv 1) pe_int (nomark _)) (pss_one (ps_set (i := 2) scReduced.nd rfl (.inl rfl) (pe_un un_neg (pv 2)))) pss_nil)
      (pss_one (ps_ret (pe_tup (pa_cons (pe_op op_fdivWN (pv 0) (pv 2)) (pa_cons (pe_op op_fdivWN (pv 1) (pv 2)) pa_nil)))))), ?_⟩
    refine ⟨_, rfl, _, rfl, _, _, rfl, _, rfl, _, _, rfl, rfl, _, rfl, ?_⟩
    have fin : ∀ p, H p = none → Q (.ref p) (upd H p (.tup [.int (i.fdiv (comm i j)), .int (j.fdiv (comm i j))])) := fun p hp => by
      refine q _ p (Ex.new hp) ?_
      rw [upd_same, red_num h0, red_den h0]
      rfl
    by_cases hj : j < 0
    · rw [decide_eq_true hj]
      refine iteT ?_
      rw [comm_neg hj] at fin cd1 cd2
      exact ⟨_, rfl, _, rfl, _, rfl, _, rfl, _, _, rfl, rfl, cd1, _, rfl, _, rfl, _, _, rfl, rfl, cd2, (by show 2 ≤ sizeLine; decide), fin⟩
    · rw [decide_eq_false hj]
      refine iteF ?_
      rw [comm_pos hj] at fin cd1 cd2
      exact ⟨_, rfl, _, rfl, _, _, rfl, rfl, cd1, _, rfl, _, rfl, _, _, rfl, rfl, cd2, (by show 2 ≤ sizeLine; decide), fin⟩
theorem ok_made (F : Fun K "made" "made" sMade f fd) (G : FnOk P w K mg base CX0 2 f2 fd2 ["thing"] (spWhole K)) (k2 : PySem.W.keepIn K (.ref f2) = true) (b2 : Binds K fd2 ["thing"] []) (g2 : mg "is_integer" = some (.ref f2))
    (G3 : FnOk P w K mg base CX0 1 f3 fd3 ["p", "q"] (spI2F okR Rat.divInt)) (k3 : PySem.W.keepIn K (.ref f3) = true) (b3 : Binds K fd3 ["p", "q"] []) (g3 : mg "reduced_pair" = some (.ref f3)) : FnOk P w K mg base CX0 3 f fd ["p", "q"] (spI2F okR Rat.divInt) := by
  refine F.ok scMade (fun vs H Q E h => ?_) (fun cdv A outer s H vs Q E hr h => ?_)
  · obtain ⟨i, j, rfl, _⟩ := h
    rfl
  · obtain ⟨i, j, rfl, hk, q⟩ := h
    refine ⟨_, pss_cons (ps_if (PW.pt (pw_or (pt_not (pt_val (pe_call G hr (by rfl) g2 k2 b2 .nil pass0 (pa_cons (pv 0) pa_nil)))) (pw_or1 (pt_not (pt_val (pe_call G hr (by rfl) g2 k2 b2 .nil pass0 (pa_cons (pv 1) pa_nil))))))) pss_never pss_nil)
      (pss_cons (ps_if (pt_cmpR op_eq (pv 1) pe_int (nomark _)) pss_never pss_nil)
      (pss_one (ps_ret (pe_call G3 (hr.mono (by decide)) (by rfl) g3 k3 b3 .nil pass0 (pa_cons (pv 0) (pa_cons (pv 1) pa_nil)))))), ?_⟩
    refine ⟨_, rfl, _, "int", true, false, rfl, tyI K H i, kII, kIB, true, rfl, ?_⟩
    refine iteF ⟨_, rfl, _, "int", true, false, rfl, tyI K H j, kII, kIB, true, rfl, ?_⟩
    refine iteF ⟨_, rfl, rfl, _, rfl, ?_⟩
    refine ite2 (fun e => absurd (V.int.inj (of_decide_eq_true e)) hk.1) (fun _ => ?_)
    exact ⟨_, rfl, _, rfl, i, j, rfl, hk, q⟩
/-! ### reckoning -/
def okB (s : Nat) (x y : Rat) : Prop := ∃ n m, Bd n x ∧ Bd m y ∧ n + m + s ≤ 4000
theorem mulW {i j : Int} {n m : Nat} (h1 : i.natAbs < 2 ^ n) (h2 : j.natAbs < 2 ^ m) (h : n + m ≤ 4000) : CMulW i j := wide_mul (lt_up h1 (Nat.le_succ n)) (lt_up h2 (Nat.le_succ m)) (by omega) (by omega) (by omega)
theorem ev_mul {ta tb : TE} {σ : L2.St} {H : Hp} {i j : Int} {n m : Nat} (ha : Ev ta σ H (.int i)) (hb : Ev tb σ H (.int j)) (h1 : i.natAbs < 2 ^ n) (h2 : j.natAbs < 2 ^ m) (h : n + m ≤ 4000) : Ev (tOp (rI CMulW fun i j => .int (i * j)) ta tb) σ H (.int (i * j)) := ev_op ha hb (rv_I (g := fun i j => .int (i * j)) (mulW h1 h2 h))
theorem ev_add {ta tb : TE} {σ : L2.St} {H : Hp} {i j : Int} (ha : Ev ta σ H (.int i)) (hb : Ev tb σ H (.int j)) : Ev (tOp (rI0 fun i j => .int (i + j)) ta tb) σ H (.int (i + j)) := ev_op ha hb (rv_I0 (g := fun i j => .int (i + j)))
theorem ev_sub {ta tb : TE} {σ : L2.St} {H : Hp} {i j : Int} (ha : Ev ta σ H (.int i)) (hb : Ev tb σ H (.int j)) : Ev (tOp (rI0 fun i j => .int (i - j)) ta tb) σ H (.int (i - j)) := ev_op ha hb (rv_I0 (g := fun i j => .int (i - j)))
theorem ev_lt {ta tb : TE} {σ : L2.St} {H : Hp} {i j : Int} (ha : Ev ta σ H (.int i)) (hb : Ev tb σ H (.int j)) : Ev (tOp (rI0 fun i j => .bl (decide (i < j))) ta tb) σ H (.bl (decide (i < j))) := ev_op ha hb (rv_I0 (g := fun i j => .bl (decide (i < j))))
theorem ev_gt {ta tb : TE} {σ : L2.St} {H : Hp} {i j : Int} (ha : Ev ta σ H (.int i)) (hb : Ev tb σ H (.int j)) : Ev (tOp (rI0 fun i j => .bl (decide (j < i))) ta tb) σ H (.bl (decide (j < i))) := ev_op ha hb (rv_I0 (g := fun i j => .bl (decide (j < i))))
end
end K18
/-! ### plain rules -/
namespace Tr
open PySem PySem.Spec PyProof.Rows L2 Evl Fx Dt
def frD (r : Rat) : PyData := .tuple [.int r.num, .int (r.den : Int)]
inductive Pl where
  | own (p q : Int)
  | shared (p q : Int)
  | caller
  | bad
  | late
  | never
def Pl.word : Pl → Str
  | .own _ _ => "own"
  | .shared _ _ => "shared"
  | .caller => "caller"
  | .bad => "bad"
  | .late => "late"
  | .never => "never"
def Pl.more : Pl → List PyData
  | .own p q => [.int p, .int q]
  | .shared p q => [.int p, .int q]
  | _ => []
def Pl.D (x : Pl) : PyData := .tuple (.str x.word :: x.more)
def Pl.Ok : Pl → Prop
  | .own p q => 0 < q ∧ p.natAbs < 2 ^ 60 ∧ q.natAbs < 2 ^ 60
  | .shared p q => 0 < q ∧ p.natAbs < 2 ^ 60 ∧ q.natAbs < 2 ^ 60
  | _ => True
theorem Pl.flat (x : Pl) : Dt.flat x.D = true := by cases x <;> rfl
/-- whether it says so by a draw of the trace -/
def Pl.says (bad late called : Bool) (draw : Rat) : Pl → Bool
  | .own _ _ => false
  | .shared p q => decide (draw < Rat.divInt p q)
  | .caller => called
  | .bad => bad
  | .late => late
  | .never => false
def Pl.chance (bad late called : Bool) (draw : Rat) : Pl → Rat
  | .own p q => Rat.divInt p q
  | x => if x.says bad late called draw then 1 else 0
inductive Ru where
  | one (a : Pl)
  | or (a b : Pl)
def Ru.D : Ru → PyData
  | .one a => a.D
  | .or a b => .tuple [.str "or", a.D, b.D]
def Ru.plains : Ru → List Pl
  | .one a => [a]
  | .or a b => [a, b]
def Ru.Ok (r : Ru) : Prop := ∀ p ∈ r.plains, p.Ok
theorem Ru.flat (x : Ru) : Dt.flat x.D = true := by
  cases x with
  | one a => exact a.flat
  | or a b =>
    show Dt.flat (.tuple [.str "or", a.D, b.D]) = true
    rw [flat_tup, flats, flats, flats, flats, a.flat, b.flat]
    rfl
theorem fr_flat (r : Rat) : Dt.flat (frD r) = true := rfl
theorem sh_str {x : Str} (h : PyData.strOk x = true) : SeqAt.shaped (.str x) = true := by simp [SeqAt.shaped, PyData.canLay0, PyData.depth, h]
theorem word_ok (x : Pl) : PyData.strOk x.word = true := by
  cases x with
  | own p q => exact (by decide +kernel : PyData.strOk ("own" : Str) = true)
  | shared p q => exact (by decide +kernel : PyData.strOk ("shared" : Str) = true)
  | caller => decide +kernel
  | bad => decide +kernel
  | late => decide +kernel
  | never => decide +kernel
theorem word_or (x : Pl) : (x.word == ("or" : Str)) = false := by
  cases x with
  | own p q => exact (by decide +kernel : (("own" : Str) == ("or" : Str)) = false)
  | shared p q => exact (by decide +kernel : (("shared" : Str) == ("or" : Str)) = false)
  | caller => decide +kernel
  | bad => decide +kernel
  | late => decide +kernel
  | never => decide +kernel
theorem sh_int (x : Int) : SeqAt.shaped (.int x) = true := by simp [SeqAt.shaped, PyData.canLay0, PyData.depth]
theorem str_eqv (a b : Str) : PyData.eqv (.str a) (.str b) = (a == b) := by simp [PyData.eqv]
theorem int_eqv (a b : Int) : PyData.eqv (.int a) (.int b) = (a == b) := by simp [PyData.eqv]
end Tr
namespace K18
open PySem PySem.Spec PyProof.Rows L2 Evl Fx Fr Dt Tr
section
variable {P : Program} {w : World} {K : PySem.W.Frag} {mg : Str → Option Value} {base : Heap} {f f2 f3 : Addr} {fd fd2 fd3 : FuncData}
def spLess (K : PySem.W.Frag) : Sp := spD K fun ds d => ∃ x y, okB 1 x y ∧ ds = [frD x, frD y] ∧ d = .bool (decide (x < y))
def spMade (K : PySem.W.Frag) : Sp := spD K fun ds d => ∃ i j, okR i j ∧ ds = [.int i, .int j] ∧ d = frD (Rat.divInt i j)
theorem ok_less (F : Fun K "is_less" "is_less" sLess f fd) : FnOk P w K mg base CX0 1 f fd ["one", "other"] (spLess K) := by
  refine F.ok scLess (fun vs H Q E h => ?_) (fun cdv A outer s H vs Q E hr h => ?_)
  · obtain ⟨ds, es, hd, ⟨x, y, _, rfl, _⟩, _⟩ := h
    exact dps_len hd
  · obtain ⟨ds, es, hd, ⟨x, y, ⟨n, m, h1, h2, hs⟩, rfl, rfl⟩, q⟩ := h
    match vs, hd with
    | [v1, v2], .cons p1 (.cons p2 .nil) =>
    obtain ⟨a, x1, x2, rfl, ha, a1, a2⟩ := dp_two p1
    obtain ⟨b, y1, y2, rfl, hb, b1, b2⟩ := dp_two p2
    cases a1
    cases a2
    cases b1
    cases b2
    refine ⟨_, pss_one (ps_ret (pe_cmpR op_lt (pe_op op_mulW (pe_ix ix_tup (pv 0) pe_int (fun _ _ => rfl)) (pe_ix ix_tup (pv 1) pe_int (fun _ _ => rfl))) (pe_op op_mulW (pe_ix ix_tup (pv 1) pe_int (fun _ _ => rfl)) (pe_ix ix_tup (pv 0) pe_int (fun _ _ => rfl))) (nomark _))), ?_⟩
    have d1 : (x.den : Int).natAbs < 2 ^ n := h1.2
    have d2 : (y.den : Int).natAbs < 2 ^ m := h2.2
    have fin : Q (.bl (decide (x.num * y.den < y.num * x.den))) H := by
      rw [lt_eq]
      exact q _ H (Ex.refl _) (.bl _)
    exact ⟨_, rfl, a, _, 0, _, rfl, rfl, ha, rfl, _, rfl, b, _, 1, _, rfl, rfl, hb, rfl, _, _, rfl, rfl, mulW h1.1 d2 (by omega),
      _, rfl, b, _, 0, _, rfl, rfl, hb, rfl, _, rfl, a, _, 1, _, rfl, rfl, ha, rfl, _, _, rfl, rfl, mulW h2.1 d1 (by omega), _, _, rfl, rfl, fin⟩
theorem made_d {k : Nat} (G : FnOk P w K mg base CX0 k f fd ["p", "q"] (spI2F okR Rat.divInt)) : FnOk P w K mg base CX0 k f fd ["p", "q"] (spMade K) := G.imp fun vs H Q E h => by
  obtain ⟨ds, d, hd, ⟨i, j, hk, rfl, rfl⟩, q⟩ := h
  match vs, hd with
  | [v1, v2], .cons p1 (.cons p2 .nil) =>
  cases p1
  cases p2
  exact ⟨i, j, rfl, hk, fun H' p e hp => q _ H' e (.tup (st_of hp) (.cons (.int _) (.cons (.int _) .nil)))⟩
theorem scPlains : FnScope ["rule"] ["rule"] (defScope (topS 20)) := ⟨rfl, rfl, rfl, by decide +kernel, rfl, by decide +kernel, by decide +kernel⟩
theorem scChance : FnScope ["plain", "bad", "late", "called", "draw", "word", "says"] ["plain", "bad", "late", "called", "draw"] (defScope (topS 22)) := ⟨rfl, rfl, rfl, by decide +kernel, rfl, by decide +kernel, by decide +kernel⟩
def spPlains (K : PySem.W.Frag) : Sp := spD K fun ds d => ∃ r : Ru, ds = [r.D] ∧ d = .tuple (r.plains.map Pl.D)
theorem ok_plains (F : Fun K "plains_of" "plains_of" (topS 20) f fd) : FnOk P w K mg base CX0 1 f fd ["rule"] (spPlains K) := by
  refine F.ok scPlains (fun vs H Q E h => ?_) (fun cdv A outer s H vs Q E hr h => ?_)
  · obtain ⟨ds, es, hd, ⟨r, rfl, _⟩, _⟩ := h
    exact dps_len hd
  · obtain ⟨ds, es, hd, ⟨r, rfl, rfl⟩, q⟩ := h
    match vs, hd with
    | [v1], .cons p1 .nil =>
    refine ⟨_, pss_cons (ps_if (pt_cmpR (op_eqD hr.units) (pe_ix ix_tup (pv 0) pe_int (fun _ _ => rfl)) pe_str (nomark _)) (pss_one (ps_ret (pe_tup (pa_cons (pe_ix ix_tup (pv 0) pe_int (fun _ _ => rfl)) (pa_cons (pe_ix ix_tup (pv 0) pe_int (fun _ _ => rfl)) pa_nil))))) pss_nil)
      (pss_one (ps_ret (pe_tup (pa_cons (pv 0) pa_nil)))), ?_⟩
    cases r with
    | one a =>
      have rr : EvR F0 (tVar 0) (start ["rule"] [v1]) H 0 (IsD K a.D) := rd_var F0.ok (n := 0) F0.g rfl p1 a.flat
      refine q_whenR (F := F0) (n := 0) (k := 0) (rt_is (b := false) (rt_val (rb_eq (ka := 0) (kb := 0) F0.ok (rd_ix (ka := 0) (kb := 0) (i := 0) F0.ok rr rv_c 0 (ixN_nat (j := 0) (Nat.succ_pos _)) rfl a.flat) rd_str (sh_str (word_ok a)) (sh_str (by decide +kernel)))) ?_) F0.g (Nat.le_refl _) (fun h => Bool.noConfusion h) fun _ H1 e1 _ => ?_
      · rw [str_eqv]
        exact word_or a
      · exact s_retR (F := F0) (n := 0) (k := 0) (rd_tup F0.ok (ra_cons (ka := 0) (kb := 0) F0.ok (rr.mono e1) ra_nil a.flat) (flats_cons.mpr ⟨a.flat, rfl⟩)) F0.g (Nat.le_refl _) fun v H2 e2 _ p => q v H2 ((F0.ex e1).trans (F0.ex e2)) p
    | or a b =>
      have rr : EvR F0 (tVar 0) (start ["rule"] [v1]) H 0 (IsD K (.tuple [.str "or", a.D, b.D])) := rd_var F0.ok (n := 0) F0.g rfl p1 (Ru.flat (.or a b))
      have fl : flat (.tuple [.str "or", a.D, b.D]) = true := Ru.flat (.or a b)
      refine q_whenR (F := F0) (n := 0) (k := 0) (rt_is (b := true) (rt_val (rb_eq (ka := 0) (kb := 0) F0.ok (rd_ix (ka := 0) (kb := 0) (i := 0) F0.ok rr rv_c 0 rfl rfl fl) rd_str (sh_str (by decide +kernel)) (sh_str (by decide +kernel)))) ?_) F0.g (Nat.le_refl _) (fun _ H1 e1 _ => ?_) fun h => Bool.noConfusion h
      · rw [str_eqv]
        decide +kernel
      · exact s_retR (F := F0) (n := 0) (k := 0) (rd_tup F0.ok (ra_cons (ka := 0) (kb := 0) F0.ok (rd_ix (ka := 0) (kb := 0) (i := 1) F0.ok (rr.mono e1) rv_c 1 rfl rfl fl) (ra_cons (ka := 0) (kb := 0) F0.ok (rd_ix (ka := 0) (kb := 0) (i := 2) F0.ok (rr.mono e1) rv_c 2 rfl rfl fl) ra_nil b.flat) a.flat) (flats_cons.mpr ⟨a.flat, flats_cons.mpr ⟨b.flat, rfl⟩⟩)) F0.g (Nat.le_refl _)
          fun v H2 e2 _ p => q v H2 ((F0.ex e1).trans (F0.ex e2)) p
end
end K18
namespace Tr
open PySem PySem.Spec PyProof.Rows L2 Evl Fx Dt
def Pl.sh (draw : Rat) : Pl → Bool
  | .shared p q => decide (draw < Rat.divInt p q)
  | _ => false
theorem word_own {x : Pl} (h : (x.word == ("own" : Str)) = true) : ∃ p q, x = .own p q := by
  cases x with
  | own p q => exact ⟨p, q, rfl⟩
  | shared p q => exact absurd h (by have : (("shared" : Str) == ("own" : Str)) = false := by decide +kernel
                                     show ¬ (("shared" : Str) == ("own" : Str)) = true
                                     rw [this]
                                     exact Bool.false_ne_true)
  | caller => exact absurd h (by decide +kernel)
  | bad => exact absurd h (by decide +kernel)
  | late => exact absurd h (by decide +kernel)
  | never => exact absurd h (by decide +kernel)
theorem word_shared {x : Pl} (h : (x.word == ("shared" : Str)) = true) : ∃ p q, x = .shared p q := by
  cases x with
  | shared p q => exact ⟨p, q, rfl⟩
  | own p q => exact absurd h (by have : (("own" : Str) == ("shared" : Str)) = false := by decide +kernel
                                  show ¬ (("own" : Str) == ("shared" : Str)) = true
                                  rw [this]
                                  exact Bool.false_ne_true)
  | caller => exact absurd h (by decide +kernel)
  | bad => exact absurd h (by decide +kernel)
  | late => exact absurd h (by decide +kernel)
  | never => exact absurd h (by decide +kernel)
theorem not_own {x : Pl} (h : (x.word == ("own" : Str)) = false) : ∀ p q, x ≠ .own p q := fun p q e => by
  subst e
  exact absurd h (by have : (("own" : Str) == ("own" : Str)) = true := by decide +kernel
                     show ¬ (("own" : Str) == ("own" : Str)) = false
                     rw [this]
                     exact fun z => Bool.noConfusion z)
theorem says_eq (x : Pl) (h : ∀ p q, x ≠ .own p q) (bad late called : Bool) (draw : Rat) : ((x.word == ("shared" : Str)) && x.sh draw || ((x.word == ("caller" : Str)) && called || ((x.word == ("bad" : Str)) && bad || ((x.word == ("late" : Str)) && late)))) = x.says bad late called draw := by
  have w1 : (("shared" : Str) == ("shared" : Str)) = true := by decide +kernel
  have w2 : (("shared" : Str) == ("caller" : Str)) = false := by decide +kernel
  have w3 : (("shared" : Str) == ("bad" : Str)) = false := by decide +kernel
  have w4 : (("shared" : Str) == ("late" : Str)) = false := by decide +kernel
  have c1 : (("caller" : Str) == ("shared" : Str)) = false := by decide +kernel
  have c2 : (("caller" : Str) == ("caller" : Str)) = true := by decide +kernel
  have c3 : (("caller" : Str) == ("bad" : Str)) = false := by decide +kernel
  have c4 : (("caller" : Str) == ("late" : Str)) = false := by decide +kernel
  have b1 : (("bad" : Str) == ("shared" : Str)) = false := by decide +kernel
  have b2 : (("bad" : Str) == ("caller" : Str)) = false := by decide +kernel
  have b3 : (("bad" : Str) == ("bad" : Str)) = true := by decide +kernel
  have b4 : (("bad" : Str) == ("late" : Str)) = false := by decide +kernel
  have l1 : (("late" : Str) == ("shared" : Str)) = false := by decide +kernel
  have l2 : (("late" : Str) == ("caller" : Str)) = false := by decide +kernel
  have l3 : (("late" : Str) == ("bad" : Str)) = false := by decide +kernel
  have l4 : (("late" : Str) == ("late" : Str)) = true := by decide +kernel
  have n1 : (("never" : Str) == ("shared" : Str)) = false := by decide +kernel
  have n2 : (("never" : Str) == ("caller" : Str)) = false := by decide +kernel
  have n3 : (("never" : Str) == ("bad" : Str)) = false := by decide +kernel
  have n4 : (("never" : Str) == ("late" : Str)) = false := by decide +kernel
  cases x with
  | own p q => exact absurd rfl (h p q)
  | shared p q => simp only [Pl.word, Pl.sh, Pl.says, w1, w2, w3, w4, Bool.true_and, Bool.false_and, Bool.or_false]
  | caller => simp only [Pl.word, Pl.sh, Pl.says, c1, c2, c3, c4, Bool.true_and, Bool.false_and, Bool.or_false, Bool.false_or]
  | bad => simp only [Pl.word, Pl.sh, Pl.says, b1, b2, b3, b4, Bool.true_and, Bool.false_and, Bool.or_false, Bool.false_or]
  | late => simp only [Pl.word, Pl.sh, Pl.says, l1, l2, l3, l4, Bool.true_and, Bool.false_and, Bool.or_false, Bool.false_or]
  | never => simp only [Pl.word, Pl.sh, Pl.says, n1, n2, n3, n4, Bool.true_and, Bool.false_and, Bool.or_false, Bool.false_or]
theorem chance_eq (x : Pl) (h : ∀ p q, x ≠ .own p q) (bad late called : Bool) (draw : Rat) : x.chance bad late called draw = if x.says bad late called draw then 1 else 0 := by
  cases x with
  | own p q => exact absurd rfl (h p q)
  | _ => rfl
end Tr
namespace K18
open PySem PySem.Spec PyProof.Rows L2 Evl Fx Fr Dt Tr
section
variable {P : Program} {w : World} {K : PySem.W.Frag} {mg : Str → Option Value} {base : Heap} {f f2 f3 : Addr} {fd fd2 fd3 : FuncData}
/-- a name of the module that holds data written there -/
def Wr (K : PySem.W.Frag) (mg : Str → Option Value) (x : Str) (d : PyData) : Prop := ∃ a, mg x = some (.ref a) ∧ ∀ H, Dp K H (.ref a) d
theorem rd_const {F : Fd} {σ : L2.St} {H : Hp} {a : Addr} {d : PyData} (h : ∀ H, Dp K H (.ref a) d) : EvR F (tC (.ref a)) σ H 0 (IsD K d) := fun n1 H1 hn g e Q q => q _ H1 Kx.refl g (h H1)
def spChance (K : PySem.W.Frag) : Sp := spD K fun ds d => ∃ (x : Pl) (bad late called : Bool) (draw : Rat), x.Ok ∧ Bd 60 draw ∧ ds = [x.D, .bool bad, .bool late, .bool called, frD draw] ∧ d = frD (x.chance bad late called draw)
theorem okR_of {p q : Int} (h : 0 < q ∧ p.natAbs < 2 ^ 60 ∧ q.natAbs < 2 ^ 60) : okR p q := ⟨by omega, lt_up h.2.1 (by decide), lt_up h.2.2 (by decide)⟩
theorem bd_made {p q : Int} (h : 0 < q ∧ p.natAbs < 2 ^ 60 ∧ q.natAbs < 2 ^ 60) : Bd 60 (Rat.divInt p q) := bd_div (by omega) h.2.1 h.2.2
theorem ok_chance (F : Fun K "plain_chance" "plain_chance" (topS 22) f fd) (cM : C8.Cal P w K mg base 3 "made" (spMade K) []) (cL : C8.Cal P w K mg base 1 "is_less" (spLess K) []) (W1 : Wr K mg "ONE" (frD 1)) (W0 : Wr K mg "ZERO" (frD 0)) :
    FnOk P w K mg base CX0 4 f fd ["plain", "bad", "late", "called", "draw"] (spChance K) := by
  refine F.ok scChance (fun vs H Q E h => ?_) (fun cdv A outer s H vs Q E hr h => ?_)
  · obtain ⟨ds, es, hd, ⟨x, bad, late, called, draw, _, _, rfl, _⟩, _⟩ := h
    exact dps_len hd
  · obtain ⟨ds, es, hd, ⟨x, bad, late, called, draw, hx, hdr, rfl, rfl⟩, q⟩ := h
    obtain ⟨a1, g1, w1⟩ := W1
    obtain ⟨a0, g0, w0⟩ := W0
    obtain ⟨v1, vs, rfl, p1, hd⟩ := dps_uncons hd
    obtain ⟨v2, vs, rfl, p2, hd⟩ := dps_uncons hd
    obtain ⟨v3, vs, rfl, p3, hd⟩ := dps_uncons hd
    obtain ⟨v4, vs, rfl, p4, hd⟩ := dps_uncons hd
    obtain ⟨v5, vs, rfl, p5, hd⟩ := dps_uncons hd
    obtain rfl := dps_none hd
    cases p2
    cases p3
    cases p4
    refine ⟨_, pss_cons (ps_set (i := 5) scChance.nd rfl (.inl rfl) (pe_ix ix_tup (pv 0) pe_int (fun _ _ => rfl)))
      (pss_cons (ps_if (pt_cmpR (op_eqD hr.units) (pv 5) pe_str (nomark _)) (pss_one (ps_ret (C8.pe_c cM hr (by decide) (by rfl) (pa_cons (pe_ix ix_tup (pv 0) pe_int (fun _ _ => rfl)) (pa_cons (pe_ix ix_tup (pv 0) pe_int (fun _ _ => rfl)) pa_nil))))) pss_nil)
      (pss_cons (ps_set (i := 6) scChance.nd rfl (.inl rfl) (pe_or (pe_and (pe_cmpR (op_eqD hr.units) (pv 5) pe_str (nomark _)) (pe_one (C8.pe_c cL hr (by decide) (by rfl) (pa_cons (pv 4) (pa_cons (C8.pe_c cM hr (by decide) (by rfl) (pa_cons (pe_ix ix_tup (pv 0) pe_int (fun _ _ => rfl)) (pa_cons (pe_ix ix_tup (pv 0) pe_int (fun _ _ => rfl)) pa_nil))) pa_nil)))))
        (pe_or (pe_and (pe_cmpR (op_eqD hr.units) (pv 5) pe_str (nomark _)) (pe_one (pv 3))) (pe_or (pe_and (pe_cmpR (op_eqD hr.units) (pv 5) pe_str (nomark _)) (pe_one (pv 1))) (pe_one (pe_and (pe_cmpR (op_eqD hr.units) (pv 5) pe_str (nomark _)) (pe_one (pv 2))))))))
      (pss_one (ps_ret (pe_ifExp (pt_val (pv 6)) (pe_glob (v := .ref a1) (by rfl) g1 rfl) (pe_glob (v := .ref a0) (by rfl) g0 rfl)))))), ?_⟩
    have rr : ∀ {s5 s6 : Option V}, EvR F0 (tVar 0) [some v1, some (.bl bad), some (.bl late), some (.bl called), some v5, s5, s6] H 0 (IsD K x.D) := rd_var F0.ok (n := 0) F0.g rfl p1 x.flat
    refine q_asgR (F := F0) (n := 0) (k := 0) (P := IsD K (.str x.word)) (rd_ix (ka := 0) (kb := 0) (i := 0) F0.ok rr rv_c 0 (ixN_nat (j := 0) (Nat.succ_pos _)) rfl x.flat) F0.g (Nat.le_refl _) fun vw H1 e1 _ pw => ?_
    cases pw
    have rw5 : ∀ {s6 : Option V} {H2 : Hp}, EvR F0 (tVar 5) [some v1, some (.bl bad), some (.bl late), some (.bl called), some v5, some (.str x.word), s6] H2 0 (IsD K (.str x.word)) := rd_ofS (rv_var rfl)
    have cmp : ∀ {s6 : Option V} {H2 : Hp} {z : Str}, PyData.strOk z = true → EvR F0 (tOp (rEqD K) (tVar 5) (tC (.str z))) [some v1, some (.bl bad), some (.bl late), some (.bl called), some v5, some (.str x.word), s6] H2 0 (fun u _ => u = .bl (x.word == z)) := fun {s6 H2 z} hz => by
      rw [← str_eqv]
      exact rb_eq (ka := 0) (kb := 0) F0.ok rw5 rd_str (sh_str (word_ok x)) (sh_str hz)
    refine q_whenR (F := F0) (n := 0) (k := 0) (rt_val (cmp (z := "own") (by decide +kernel))) F0.g (Nat.le_refl _) (fun hb H2 e2 _ => ?_) fun hb H2 e2 _ => ?_
    · obtain ⟨i, j, rfl⟩ := word_own hb
      refine s_retR (F := F0) (n := 0) (k := 0) (rd_call F0.ok (ra_cons (ka := 0) (kb := 0) F0.ok (rd_ix (ka := 0) (kb := 0) (i := 1) F0.ok ((rr.mono e1).mono e2) rv_c 1 rfl rfl (Pl.flat (.own i j))) (ra_cons (ka := 0) (kb := 0) F0.ok (rd_ix (ka := 0) (kb := 0) (i := 2) F0.ok ((rr.mono e1).mono e2) rv_c 2 rfl rfl (Pl.flat (.own i j))) ra_nil)) ⟨i, j, okR_of hx, rfl, rfl⟩) F0.g (Nat.le_refl _)
        fun v H3 e3 _ p => q v H3 (((F0.ex e1).trans (F0.ex e2)).trans (F0.ex e3)) p
    · have no := not_own hb
      have r0 : ∀ {s6 : Option V} {H3 : Hp}, Ex H H3 → EvR F0 (tVar 0) [some v1, some (.bl bad), some (.bl late), some (.bl called), some v5, some (.str x.word), s6] H3 0 (IsD K x.D) := fun e => rr.mono (Kx.ex e)
      have ee := (F0.ex e1).trans (F0.ex e2)
      refine q_asgR (F := F0) (n := 0) (k := 0) (P := fun u _ => u = .bl (x.says bad late called draw)) (EvR.imp (rb_or (ka := 0) (kb := 0) F0.ok (rb_and (ka := 0) (kb := 0) (b := x.sh draw) F0.ok (cmp (z := "shared") (by decide +kernel)) fun hsx => ?_)
        fun _ => rb_or (ka := 0) (kb := 0) F0.ok (rb_and (ka := 0) (kb := 0) (b := called) F0.ok (cmp (z := "caller") (by decide +kernel)) fun _ => rv_var rfl)
        fun _ => rb_or (ka := 0) (kb := 0) F0.ok (rb_and (ka := 0) (kb := 0) (b := bad) F0.ok (cmp (z := "bad") (by decide +kernel)) fun _ => rv_var rfl)
        fun _ => rb_and (ka := 0) (kb := 0) (b := late) F0.ok (cmp (z := "late") (by decide +kernel)) fun _ => rv_var rfl) fun _ u _ _ _ hu => by rw [hu, says_eq x no]) F0.g (Nat.le_refl _) fun u H3 e3 _ hu => ?_
      · obtain ⟨i, j, rfl⟩ := word_shared hsx
        refine rv_bl (K := K) (rd_call F0.ok (ra_cons (ka := 0) (kb := 0) F0.ok (rd_var F0.ok (n := 0) F0.g rfl (dp_ex ee _ _ p5)) (ra_cons (ka := 0) (kb := 0) F0.ok (rd_call F0.ok (ra_cons (ka := 0) (kb := 0) F0.ok (rd_ix (ka := 0) (kb := 0) (i := 1) F0.ok (r0 ee) rv_c 1 rfl rfl (Pl.flat (.shared i j))) (ra_cons (ka := 0) (kb := 0) F0.ok (rd_ix (ka := 0) (kb := 0) (i := 2) F0.ok (r0 ee) rv_c 2 rfl rfl (Pl.flat (.shared i j))) ra_nil)) ⟨i, j, okR_of hx, rfl, rfl⟩) ra_nil)) ⟨draw, Rat.divInt i j, ⟨60, 60, hdr, bd_made hx, by decide⟩, rfl, rfl⟩)
      · subst hu
        rw [chance_eq x no] at q
        refine s_retR (F := F0) (n := 0) (k := 0) (P := IsD K (frD (if x.says bad late called draw then 1 else 0))) (r_if (ka := 0) (kb := 0) (b := x.says bad late called draw) F0.ok (rt_val (rv_var rfl)) (fun hs => ?_) fun hs => ?_) F0.g (Nat.le_refl _) fun v H4 e4 _ p => q v H4 ((ee.trans (F0.ex e3)).trans (F0.ex e4)) p
        · rw [if_pos hs]
          exact rd_const w1
        · rw [if_neg (by rw [hs]; exact Bool.false_ne_true)]
          exact rd_const w0
end
end K18
namespace Tr
open PySem PySem.Spec PyProof.Rows L2 Evl Fx Dt
def rowD (x : Str × Ru) : PyData := .tuple [.str x.1, x.2.D]
theorem row_flat (x : Str × Ru) : Dt.flat (rowD x) = true := by
  unfold rowD
  rw [flat_tup, flats, flats, flats, x.2.flat]
  rfl
theorem rows_flat (xs : List (Str × Ru)) : flats (xs.map rowD) = true := flats_all.mpr fun d hd => by
  obtain ⟨x, _, rfl⟩ := List.mem_map.mp hd
  exact row_flat x
/-- the place of a service's rule -/
def RuleAt (rs : List (Str × Ru)) (s : Str) (i : Nat) (r : Ru) : Prop := rs[i]? = some (s, r) ∧ ∀ j x, j < i → rs[j]? = some x → x.1 ≠ s
def Names (rs : List (Str × Ru)) : Prop := ∀ x ∈ rs, PyData.strOk x.1 = true
def spanD (x : List Nat × T) : PyData := .tuple [pathD x.1, .str x.2.name, .int x.2.mark]
theorem span_flat (x : List Nat × T) : Dt.flat (spanD x) = true := by
  unfold spanD
  rw [flat_tup, flats, flats, flats, flats, path_flat]
  rfl
def isBad (t : T) : Bool := (subs t).any fun s => s.mark == 1
end Tr
namespace Dt
open PySem PySem.Spec PyProof.Rows L2 Evl Fx
section
variable {K : PySem.W.Frag} {F : Fd} {te : TE} {σ : L2.St} {H : Hp} {k : Nat}
theorem dps_bools : ∀ {bs : List Bool} {vs : List V}, DpAll K H vs (bs.map PyData.bool) → vs = bs.map V.bl
  | [], _, h => by cases h; rfl
  | b :: bs, _, h => by
    cases h with
    | cons h1 h2 =>
      cases h1
      rw [dps_bools h2]
      rfl
theorem rb_any {bs : List Bool} (h : EvR F te σ H k (IsL F K (bs.map PyData.bool))) : EvR F (tCB (rAny K) (tCons te tNil)) σ H k (fun u _ => u = .bl (bs.any id)) := fun n H1 hn g e Q q => h n H1 hn g e _ fun v H2 e2 g2 ⟨a, xs, ev, hT, ha, hx⟩ => by
  subst ev
  have := dps_bools hx
  subst this
  exact ⟨a, bs, rfl, sq_of ha, q _ H2 e2 g2 rfl⟩
theorem gv_pair {i j : Nat} {a : Addr} {x y : V} (h : SqT K H a [x, y]) : Gv (gTup K 2 (gCons (gName i) (gCons (gName j) gNil))) (.ref a) σ H ((σ.set i (some x)).set j (some y)) := fun Q q => ⟨a, [x, y], rfl, h, rfl, x, [y], rfl, y, [], rfl, rfl, q⟩
end
end Dt
namespace K18
open PySem PySem.Spec PyProof.Rows L2 Evl Fx Fr Dt Tr
theorem scRule : FnScope ["rules", "service", "name", "rule"] ["rules", "service"] (defScope (topS 18)) := ⟨rfl, rfl, rfl, by decide +kernel, rfl, by decide +kernel, by decide +kernel⟩
theorem scBad : FnScope ["tree", "here"] ["tree"] (defScope (topS 21)) := ⟨rfl, rfl, rfl, by decide +kernel, rfl, by decide +kernel, by decide +kernel⟩
theorem scSpans : FnScope ["tree", "path", "here"] ["tree"] (defScope (topS 24)) := ⟨rfl, rfl, rfl, by decide +kernel, rfl, by decide +kernel, by decide +kernel⟩
section
variable {P : Program} {w : World} {K : PySem.W.Frag} {mg : Str → Option Value} {base : Heap} {f f2 f3 : Addr} {fd fd2 fd3 : FuncData}
def spRule (K : PySem.W.Frag) : Sp := spD K fun ds d => ∃ (rs : List (Str × Ru)) (s : Str) (i : Nat) (r : Ru), Names rs ∧ PyData.strOk s = true ∧ RuleAt rs s i r ∧ ds = [.tuple (rs.map rowD), .str s] ∧ d = r.D
theorem ok_rule (F : Fun K "rule_of" "rule_of" (topS 18) f fd) : FnOk P w K mg base CX0 1 f fd ["rules", "service"] (spRule K) := by
  refine F.ok scRule (fun vs H Q E h => ?_) (fun cdv A outer s H vs Q E hr h => ?_)
  · obtain ⟨ds, es, hd, ⟨rs, s, i, r, _, _, _, rfl, _⟩, _⟩ := h
    exact dps_len hd
  · obtain ⟨ds, es, hd, ⟨rs, s, i0, r, hN, hs, ⟨hi, hb⟩, rfl, rfl⟩, q⟩ := h
    obtain ⟨v1, vs, rfl, p1, hd⟩ := dps_uncons hd
    obtain ⟨v2, vs, rfl, p2, hd⟩ := dps_uncons hd
    obtain rfl := dps_none hd
    cases p2
    refine ⟨_, pss_cons (ps_for PassesOwn.never rfl (pi_tup (pv 0)) (pg_tup (by rfl) (pgs_cons (pg_name (i := 2) scRule.nd rfl (.inl rfl)) (pgs_cons (pg_name (i := 3) scRule.nd rfl (.inl rfl)) pgs_nil)))
      (pss_one (ps_if (pt_cmpR (op_eqD hr.units) (pv 2) (pv 1) (nomark _)) (pss_one (ps_ret (pv 3))) pss_nil))) pss_never, ?_⟩
    obtain ⟨a, xs, ha, hx, ev⟩ : ∃ a xs, SqT K H a xs ∧ DpAll K H xs (rs.map rowD) ∧ v1 = .ref a := by
      cases p1 with
      | tup h1 h2 => exact ⟨_, _, h1, h2, rfl⟩
    subst ev
    refine s_forT (ev_var rfl) ha (fun i σ' H' => ∃ u2 u3, σ' = [some (.ref a), some (.str s), u2, u3] ∧ Ex H H' ∧ i ≤ i0) (fun H1 e1 => ⟨none, none, rfl, e1, Nat.zero_le _⟩) (fun i σ' H' _ ⟨_, _, _, e, _⟩ => ex_t e ha) (fun i x σ' H' hx' ⟨u2, u3, es, e, hle⟩ => ?_) fun σ' H' ⟨u2, u3, es, e, hle⟩ => ?_
    · subst es
      have hlt := (List.getElem?_eq_some_iff.mp hx').1
      have hl := dps_len hx
      rw [List.length_map] at hl
      have hri : rs[i]? = some rs[i] := List.getElem?_eq_getElem (by omega)
      obtain ⟨u, hu, hdu⟩ := dps_get (dps_ex e _ _ hx) (show (rs.map rowD)[i]? = some (rowD rs[i]) by rw [List.getElem?_map, hri]; rfl)
      rw [hx'] at hu
      cases hu
      obtain ⟨c, y1, y2, rfl, hc, d1, d2⟩ := dp_two hdu
      cases d1
      refine ⟨c, _, rfl, hc, rfl, _, _, rfl, _, _, rfl, rfl, ?_⟩
      refine s_ifR (F := F0) (n := 0) (k := 0) (b := rs[i].1 == s) (rt_is (rt_val (rb_eq (K := K) (ka := 0) (kb := 0) F0.ok (rd_ofS (rv_var rfl)) (rd_ofS (rv_var rfl)) (sh_str (hN _ (List.getElem_mem _))) (sh_str hs))) (str_eqv _ _)) F0.g (Nat.le_refl _) (fun hbb H1 e1 _ => ?_) fun hbb H1 e1 _ => ?_
      · have he : i = i0 := by
          rcases Nat.lt_or_ge i i0 with hlt' | hge
          · exact absurd (eq_of_beq hbb) (hb i _ hlt' hri)
          · omega
        subst he
        rw [hi] at hri
        have e2 : rs[i].2 = r := by rw [← Option.some.inj hri]
        rw [e2] at d2
        exact s_retR (F := F0) (n := 0) (k := 0) (rd_var F0.ok (n := 0) F0.g rfl (dp_ex (F0.ex e1) _ _ d2) r.flat) F0.g (Nat.le_refl _) fun v H2 e2 _ p => q v H2 ((e.trans (F0.ex e1)).trans (F0.ex e2)) p
      · refine ⟨_, _, rfl, e.trans (F0.ex e1), ?_⟩
        rcases Nat.lt_or_ge i i0 with hlt' | hge
        · exact hlt'
        · have he : i = i0 := by omega
          subst he
          rw [hi] at hri
          have e1' : rs[i].1 = s := by rw [← Option.some.inj hri]
          rw [e1'] at hbb
          simp at hbb
    · have hlt := (List.getElem?_eq_some_iff.mp hi).1
      have hl := dps_len hx
      rw [List.length_map] at hl
      exact absurd hle (by omega)
def spBad (K : PySem.W.Frag) : Sp := spD K fun ds d => ∃ t, size t ≤ 1000 ∧ ds = [enc t] ∧ d = .bool (isBad t)
theorem ok_bad (F : Fun K "has_bad" "has_bad" (topS 21) f fd) (cS : C8.Cal P w K mg base 1 "subtrees_of" (spSubs K) []) (m_any : mg "any" = none) : FnOk P w K mg base CX0 2 f fd ["tree"] (spBad K) := by
  refine F.ok scBad (fun vs H Q E h => ?_) (fun cdv A outer s H vs Q E hr h => ?_)
  · obtain ⟨ds, es, hd, ⟨t, _, rfl, _⟩, _⟩ := h
    exact dps_len hd
  · obtain ⟨ds, es, hd, ⟨t, hs, rfl, rfl⟩, q⟩ := h
    obtain ⟨v1, vs, rfl, p1, hd⟩ := dps_uncons hd
    obtain rfl := dps_none hd
    refine ⟨_, pss_one (ps_ret (pe_callB (cr_any rfl) (by rfl) m_any (by decide +kernel) (pa_cons (pe_lc (own := [("here", 1)]) (g := gName 1) (by rfl) scBad.nd (pi_list (C8.pe_c cS hr (by decide) (by rfl) (pa_cons (pv 0) pa_nil))) (blkOk_by (own := [("here", 1)]) (N := ["tree", "here"]) (sc := defScope (topS 21)) (by decide +kernel)) (fun _ _ _ _ _ => pg_name (i := 1) scBad.nd rfl (.inl rfl)) (fun _ _ _ _ _ => pts_nil)
      (fun _ _ _ _ _ => pe_cmpR (r := rEqD K) (op_eqD hr.units) (pe_ix (r := rIxT K) ix_tup (pv 1) pe_int (fun _ _ => rfl)) pe_int (nomark _))) pa_nil))), ?_⟩
    have hl : ((subs t).map enc).length ≤ 1000 := by rw [List.length_map, subs_len]; exact hs
    have hsrc : EvR F0 (tCall (spSubs K) [] E0 (tCons (tVar 0) tNil)) [some v1, none] H 0 (IsL F0 K ((subs t).map enc)) := rl_call F0.ok (ra_cons (ka := 0) (kb := 0) F0.ok (rd_var F0.ok (n := 0) F0.g rfl p1 (enc_flat t)) ra_nil (enc_flat t)) ⟨t, hs, rfl, rfl⟩
    have hc := r_lcL (F := F0) (K := K) (k := 0) (kt := 0) (ke := 0) (H := H) (σ := [some v1, none]) (g := gName 1) (tt := tYes) (te := tOp (rEqD K) (tOp (rIxT K) (tVar 1) (tC (.int 1))) (tC (.int 1))) (vs := [1]) F0.ok (fun _ => true) (fun i => (((subs t).map fun s => s.mark == 1).map PyData.bool).getD i .none)
      hsrc (maps_flat _) (by omega) (fun j _ _ => by
        rw [List.getD_eq_getElem?_getD, List.getElem?_map, List.getElem?_map]
        cases (subs t)[j]? <;> rfl) fun i x d n H8 hd hx8 _ e8 => by
        have hi : i < (subs t).length := by
          have := (List.getElem?_eq_some_iff.mp hd).1
          rwa [List.length_map] at this
        rw [List.getElem?_map, List.getElem?_eq_getElem hi] at hd
        cases hd
        refine ⟨_, gv_name, rfl, rt_yes rfl, fun _ => ?_⟩
        rw [List.getD_eq_getElem?_getD, List.getElem?_map, List.getElem?_map, List.getElem?_eq_getElem hi]
        refine rd_ofB (EvR.imp (rb_eq (ka := 0) (kb := 0) F0.ok (rt_mark F0.ok (rd_var F0.ok (n := 0) F0.g rfl hx8 (enc_flat _))) rd_int (sh_int _) (sh_int _)) fun _ u _ _ _ hu => ?_)
        rw [hu, int_eqv]
    rw [outs_getD .none _ (by rw [List.length_map, List.length_map, List.length_map])] at hc
    refine s_retR (F := F0) (n := 0) (k := _) (rb_any hc) F0.g (by simp [F0]) fun v H2 e2 _ p => ?_
    subst p
    refine q _ H2 (F0.ex e2) ?_
    have : ((subs t).map fun s => s.mark == 1).any id = isBad t := by
      unfold isBad
      rw [List.any_map]
      rfl
    rw [this]
    exact .bl _
def spSpans (K : PySem.W.Frag) : Sp := spD K fun ds d => ∃ t, size t ≤ 1000 ∧ ds = [enc t] ∧ d = .tuple ((Tr.placed [] t).map spanD)
theorem ok_spans (F : Fun K "spans_of" "spans_of" (topS 24) f fd) (cP : C8.Cal P w K mg base 1 "placed_subtrees" (spPlaced K) []) (m_tuple : mg "tuple" = none) : FnOk P w K mg base CX0 2 f fd ["tree"] (spSpans K) := by
  refine F.ok scSpans (fun vs H Q E h => ?_) (fun cdv A outer s H vs Q E hr h => ?_)
  · obtain ⟨ds, es, hd, ⟨t, _, rfl, _⟩, _⟩ := h
    exact dps_len hd
  · obtain ⟨ds, es, hd, ⟨t, hs, rfl, rfl⟩, q⟩ := h
    obtain ⟨v1, vs, rfl, p1, hd⟩ := dps_uncons hd
    obtain rfl := dps_none hd
    refine ⟨_, pss_one (ps_ret (pe_callTy (T := "tuple") (r := rTupOf K) call_tupleOf (by rfl) m_tuple (by decide +kernel) (pa_cons (pe_lc (own := [("path", 1), ("here", 2)]) (g := gTup K 2 (gCons (gName 1) (gCons (gName 2) gNil))) (by rfl) scSpans.nd (pi_list (C8.pe_c cP hr (by decide) (by rfl) (pa_cons (pv 0) pa_nil))) (blkOk_by (own := [("path", 1), ("here", 2)]) (N := ["tree", "path", "here"]) (sc := defScope (topS 24)) (by decide +kernel))
      (fun _ _ _ _ _ => pg_tup (by rfl) (pgs_cons (pg_name (i := 1) scSpans.nd rfl (.inl rfl)) (pgs_cons (pg_name (i := 2) scSpans.nd rfl (.inl rfl)) pgs_nil))) (fun _ _ _ _ _ => pts_nil)
      (fun _ _ _ _ _ => pe_tup (pa_cons (pv 1) (pa_cons (pe_ix (r := rIxT K) ix_tup (pv 2) pe_int (fun _ _ => rfl)) (pa_cons (pe_ix (r := rIxT K) ix_tup (pv 2) pe_int (fun _ _ => rfl)) pa_nil))))) pa_nil))), ?_⟩
    have hl : ((Tr.placed [] t).map ptD).length ≤ 1000 := by rw [List.length_map, placed_len]; exact hs
    have hsrc : EvR F0 (tCall (spPlaced K) [] E0 (tCons (tVar 0) tNil)) [some v1, none, none] H 0 (IsL F0 K ((Tr.placed [] t).map ptD)) := rl_call F0.ok (ra_cons (ka := 0) (kb := 0) F0.ok (rd_var F0.ok (n := 0) F0.g rfl p1 (enc_flat t)) ra_nil (enc_flat t)) ⟨t, hs, rfl, rfl⟩
    have hc := r_lcL (F := F0) (K := K) (k := 0) (kt := 0) (ke := 0) (H := H) (σ := [some v1, none, none]) (g := gTup K 2 (gCons (gName 1) (gCons (gName 2) gNil))) (tt := tYes) (te := tTup (tCons (tVar 1) (tCons (tOp (rIxT K) (tVar 2) (tC (.int 0))) (tCons (tOp (rIxT K) (tVar 2) (tC (.int 1))) tNil)))) (vs := [1, 2]) F0.ok (fun _ => true) (fun i => ((Tr.placed [] t).map spanD).getD i .none)
      hsrc (pairs_flat _) (by omega) (fun j _ _ => by
        rw [List.getD_eq_getElem?_getD, List.getElem?_map]
        cases (Tr.placed [] t)[j]? with
        | none => rfl
        | some x => exact span_flat x) fun i x d n H8 hd hx8 _ e8 => by
        have hi : i < (Tr.placed [] t).length := by
          have := (List.getElem?_eq_some_iff.mp hd).1
          rwa [List.length_map] at this
        rw [List.getElem?_map, List.getElem?_eq_getElem hi] at hd
        cases hd
        obtain ⟨a, x1, x2, rfl, ha, d1, d2⟩ := dp_two hx8
        refine ⟨_, gv_pair ha, rfl, rt_yes rfl, fun _ => ?_⟩
        rw [List.getD_eq_getElem?_getD, List.getElem?_map, List.getElem?_eq_getElem hi]
        have r2 : EvR F0 (tVar 2) [some v1, some x1, some x2] H8 0 (IsD K (enc (Tr.placed [] t)[i].2)) := rd_var F0.ok (n := 0) F0.g rfl d2 (enc_flat _)
        exact rd_tup F0.ok (ra_cons (ka := 0) (kb := 0) F0.ok (rd_var F0.ok (n := 0) F0.g rfl d1 (path_flat _)) (ra_cons (ka := 0) (kb := 0) F0.ok (rt_name F0.ok r2) (ra_cons (ka := 0) (kb := 0) F0.ok (rt_mark F0.ok r2) ra_nil)) (path_flat _)) (span_flat _)
    rw [outs_getD .none _ (by rw [List.length_map, List.length_map])] at hc
    exact s_retR (F := F0) (n := 0) (k := _) (rd_tupOf F0.ok hc) F0.g (by simp [F0]) fun v H2 e2 _ p => q _ H2 (F0.ex e2) p
end
end K18
namespace Dt
open PySem PySem.Spec PyProof.Rows L2 Evl Fx
/-- zip of two tuples in a comprehension, the first not longer -/
theorem lc_zipLe {K : PySem.W.Frag} {a b : Addr} {xs ys : List V} {g : TG} {tt : TT} {te : TE} {vs : List Nat} {σ : L2.St} {H1 : Hp} {D : Addr} {Qd : Hp → Prop} (hl : xs.length ≤ ys.length) (Pv : Nat → Hp → Prop) (h0 : Pv 0 (upd H1 D (.lst []))) (hq : ∀ i H, Pv i H → SqT K H a xs ∧ SqT K H b ys)
    (hs : ∀ (i : Nat) (x y : V) (T : Addr) (H : Hp), xs[i]? = some x → ys[i]? = some y → Pv i H → H T = none → g (.ref T) (wipe σ vs) (upd H T (.tup [x, y])) fun σ2 H2 => wipe σ2 vs = wipe σ vs ∧ tt σ2 H2 fun b H3 =>
      if b = true then te σ2 H3 fun y H4 => ∃ acc, H4 D = some (.lst acc) ∧ acc.length < sizeLine ∧ Pv (i + 1) (upd H4 D (.lst (acc ++ [y]))) else Pv (i + 1) H3) (hd : ∀ H, Pv xs.length H → Qd H) :
    ∃ W : Nat → Nat → Hp → Prop, (∃ m, W 0 m (upd H1 D (.lst []))) ∧ ∀ i m H, W i m H →
      ((RZ.ItzT K a b).stop i H ∧ Qd H) ∨ ((RZ.ItzT K a b).go i H ∧ ∃ Nx : Hp → Prop, (∀ H', Nx H' → ∃ m', m' < m ∧ W (i + 1) m' H') ∧ ∀ x H', (RZ.ItzT K a b).yld i H x H' → g x (wipe σ vs) H' fun σ2 H2 => wipe σ2 vs = wipe σ vs ∧ tt σ2 H2 fun b H3 =>
        if b = true then te σ2 H3 fun y H4 => ∃ acc, H4 D = some (.lst acc) ∧ acc.length < sizeLine ∧ Nx (upd H4 D (.lst (acc ++ [y]))) else Nx H3) := by
  refine ⟨fun i m H => m = xs.length - i ∧ i ≤ xs.length ∧ Pv i H, ⟨xs.length, by simp, Nat.zero_le _, h0⟩, ?_⟩
  rintro i m H ⟨rfl, hi, p⟩
  obtain ⟨qx, qy⟩ := hq i H p
  by_cases hlt : i < xs.length
  · have hx : xs[i]? = some xs[i] := List.getElem?_eq_getElem hlt
    have hlt2 : i < ys.length := by omega
    have hy : ys[i]? = some ys[i] := List.getElem?_eq_getElem hlt2
    refine .inr ⟨⟨xs, ys, _, _, qx, qy, hx, hy⟩, Pv (i + 1), fun H' p' => ⟨xs.length - (i + 1), by omega, rfl, hlt, p'⟩, fun v H' y => ?_⟩
    obtain ⟨T, x', y', rfl, hT, rfl, f1, f2⟩ := y
    exact hs i x' y' T H (f1 xs qx) (f2 ys qy) p hT
  · have e : i = xs.length := by omega
    subst e
    exact .inl ⟨⟨xs, ys, qx, qy, Or.inl (Nat.le_refl _)⟩, hd H p⟩
section
variable {F : Fd} {K : PySem.W.Frag} {te ta tb tl : TE} {tr : TA} {tt tu : TT} {g : TG} {σ : L2.St} {H H' H1 : Hp} {d d' : PyData} {ds es : List PyData} {n n0 k ka kb kt ke i : Nat} {v : V} {Dl : Addr} {f : Nat → Bool} {e : Nat → PyData}
theorem Cd.new (o : F.Ok) (p : Cd F K H1 Dl n0 k f e i H') {T : Addr} {u : HO} (h : H' T = none) : Cd F K H1 Dl n0 k f e i (upd H' T u) := by
  obtain ⟨p1, p2, vs, p3, p4⟩ := p
  exact ⟨p1.trans (Kx.ex (Ex.new h)), o.ex p2 (Ex.new h), vs, Ex.new h _ _ p3, dps_ex (Ex.new h) _ _ p4⟩
/-- [e for (..) in zip(t, u) if ..], tuples -/
theorem r_lcZ (o : F.Ok) {vs : List Nat} (f : Nat → Bool) (e : Nat → PyData) (h : EvRA F tr σ H k (fun us H => DpAll K H us [.tuple ds, .tuple es])) (fd : flats ds = true) (fe : flats es = true) (hle : ds.length ≤ es.length) (hm : ds.length ≤ 40000) (fl : ∀ j, j < ds.length → f j = true → flat (e j) = true)
    (ht : ∀ i x y T d d' n H', ds[i]? = some d → es[i]? = some d' → Dp K H' x d → Dp K H' y d' → SqT K H' T [x, y] → F.G n H' → Kx F.S H H' → ∃ σ2, Gv g (.ref T) (wipe σ vs) H' σ2 ∧ wipe σ2 vs = wipe σ vs ∧ EvRT F tt σ2 H' kt (f i) ∧ (f i = true → EvR F te σ2 H' ke (IsD K (e i)))) :
    EvR F (tLc (RZ.iZipA K tr) g tt te vs) σ H (k + ds.length * (kt + ke)) (IsL F K (outs f e ds.length)) := fun n H0 hn g0 e0 Q q => h n H0 (by omega) g0 e0 _ fun us H1 e1 g1 hd => by
  obtain ⟨u1, us, rfl, p1, hd⟩ := dps_uncons hd
  obtain ⟨u2, us, rfl, p2, hd⟩ := dps_uncons hd
  obtain rfl := dps_none hd
  cases p1 with
  | @tup a xs _ ha hx =>
  cases p2 with
  | @tup b ys _ hb hy =>
  have hl := dps_len hx
  have hl2 := dps_len hy
  refine ⟨a, b, xs, ys, rfl, .inr ⟨ha, hb, fun Dl hD => lc_zipLe (xs := xs) (by omega) (Cd F K H1 Dl (n + k) (kt + ke) f e) ?_ (fun i H' p => ⟨o.kt g1 p.1 _ _ ha, o.kt g1 p.1 _ _ hb⟩) (fun i x y T H' hi hj p hT => ?_) fun H' p => ?_⟩⟩
  · exact ⟨Kx.ex (Ex.new hD), by rw [Nat.zero_mul]; exact o.put g1 hD g1, [], upd_same, .nil⟩
  · have hlt := (List.getElem?_eq_some_iff.mp hi).1
    have hdi : ds[i]? = some ds[i] := List.getElem?_eq_getElem (by omega)
    have hei : es[i]? = some es[i] := List.getElem?_eq_getElem (by omega)
    have p' : Cd F K H1 Dl (n + k) (kt + ke) f e i (upd H' T (.tup [x, y])) := p.new o hT
    obtain ⟨u, hu, hdu⟩ := dps_get (mono_ds o fd _ _ _ _ g1 p'.1 hx) hdi
    rw [hi] at hu
    cases hu
    obtain ⟨u, hu, hdu'⟩ := dps_get (mono_ds o fe _ _ _ _ g1 p'.1 hy) hei
    rw [hj] at hu
    cases hu
    obtain ⟨σ2, q1, q2, q3, q4⟩ := ht i x y T _ _ _ _ hdi hei hdu hdu' (st_of upd_same) p'.2.1 (e0.trans (e1.trans p'.1))
    exact q1 _ ⟨q2, cd_turn o g1 hD p' (by omega) hm (by rw [Nat.add_assoc]; exact hn) fl q3 q4⟩
  · rw [hl] at p
    obtain ⟨p1, p2, ws, p3, p4⟩ := p
    exact q (.ref Dl) H' (e1.trans p1) (by rw [← Nat.add_assoc]; exact p2) ⟨Dl, ws, rfl, o.new g1 hD, p3, p4⟩
theorem sIx_0 (n d : Nat) : HT.sIx n d none = d := rfl
theorem sIx_last (n : Nat) : HT.sIx n n (some (-1)) = n - 1 := by
  unfold HT.sIx
  simp
  omega
/-- t[:-1] -/
theorem rd_init {σ : L2.St} (o : F.Ok) (h : EvR F te σ H k (IsD K (.tuple ds))) : EvR F (tSl (rSlA K) te tNoPart (tPart (tUn (rU fun i => .int (-i)) (tC (.int 1))))) σ H k (IsD K (.tuple ds.dropLast)) := by
  have z := rd_slT (lo := none) (hi := some (-1)) o h (fun H1 => eo_none) fun H1 => eo_some (ev_un ev_c ru_neg)
  rw [sIx_0, List.drop_zero, sIx_last, Nat.sub_zero, ← List.dropLast_eq_take] at z
  exact z
/-- for .. in zip(t, u), tuples of one length -/
theorem q_forZ {tb tz : TS} {D : Ends} (o : F.Ok) (h : EvRA F tr σ H k (fun us H => DpAll K H us [.tuple ds, .tuple es])) (g0 : F.G n H) (hn : n + k ≤ F.N) (fd : flats ds = true) (fe : flats es = true) (hl : ds.length = es.length) (Pv : Hp → Nat → L2.St → Hp → Prop)
    (h0 : ∀ H1, Kx F.S H H1 → F.G (n + k) H1 → Pv H1 0 σ H1) (hk : ∀ H1 i σ' H', Pv H1 i σ' H' → KT K H1 H')
    (hs : ∀ H1 i x y T d d' σ' H', ds[i]? = some d → es[i]? = some d' → Pv H1 i σ' H' → H' T = none → Dp K (upd H' T (.tup [x, y])) x d → Dp K (upd H' T (.tup [x, y])) y d' → g (.ref T) σ' (upd H' T (.tup [x, y])) fun σ2 H2 => tb { D with nx := Pv H1 (i + 1), ct := Pv H1 (i + 1), bk := tz D } σ2 H2)
    (hd : ∀ H1 σ' H', Kx F.S H H1 → Pv H1 ds.length σ' H' → tz D σ' H') : tSeq (tFor (RZ.iZipA K tr) g tb) tz D σ H := h n H hn g0 Kx.refl _ fun us H1 e1 g1 hu => by
  obtain ⟨u1, us, rfl, p1, hu⟩ := dps_uncons hu
  obtain ⟨u2, us, rfl, p2, hu⟩ := dps_uncons hu
  obtain rfl := dps_none hu
  cases p1 with
  | @tup a xs _ ha hx =>
  cases p2 with
  | @tup b ys _ hb hy =>
  have lx := dps_len hx
  have ly := dps_len hy
  refine ⟨a, b, xs, ys, rfl, .inr ⟨ha, hb, RZ.for_zipT (by omega) (Pv H1) (h0 H1 e1 g1) (fun i σ' H' p => ⟨hk _ _ _ _ p _ _ ha, hk _ _ _ _ p _ _ hb⟩) (fun i x y T σ' H' hi hj p hT => ?_) fun σ' H' p => hd H1 σ' H' e1 (by rw [← lx]; exact p)⟩⟩
  have h1 := (List.getElem?_eq_some_iff.mp hi).1
  have h2 := (List.getElem?_eq_some_iff.mp hj).1
  have hdi : ds[i]? = some ds[i] := List.getElem?_eq_getElem (by omega)
  have hei : es[i]? = some es[i] := List.getElem?_eq_getElem (by omega)
  have kk : KT K H1 (upd H' T (.tup [x, y])) := kt_trans (hk _ _ _ _ p) (kt_ex (Ex.new hT))
  obtain ⟨u, hu, hdu⟩ := dps_get (dps_kt kk _ _ fd hx) hdi
  rw [hi] at hu
  cases hu
  obtain ⟨u, hu, hdu'⟩ := dps_get (dps_kt kk _ _ fe hy) hei
  rw [hj] at hu
  cases hu
  exact hs H1 i x y T _ _ σ' H' hdi hei p hT hdu hdu'
end
end Dt
namespace Tr
open PySem PySem.Spec PyProof.Rows L2 Evl Fx Fr Dt
def mkD (x : Rat × Rat) : PyData := .tuple [frD x.1, frD x.2]
theorem mk_flat (x : Rat × Rat) : Dt.flat (mkD x) = true := rfl
theorem mks_flat (xs : List (Rat × Rat)) : flats (xs.map mkD) = true := flats_all.mpr fun d hd => by
  obtain ⟨x, _, rfl⟩ := List.mem_map.mp hd
  rfl
theorem spans_flat (xs : List (List Nat × T)) : flats (xs.map spanD) = true := flats_all.mpr fun d hd => by
  obtain ⟨x, _, rfl⟩ := List.mem_map.mp hd
  exact span_flat x
theorem paths_flat (xs : List (List Nat)) : flats (xs.map pathD) = true := flats_all.mpr fun d hd => by
  obtain ⟨x, _, rfl⟩ := List.mem_map.mp hd
  exact path_flat x
theorem plains_flat (xs : List Pl) : flats (xs.map Pl.D) = true := flats_all.mpr fun d hd => by
  obtain ⟨x, _, rfl⟩ := List.mem_map.mp hd
  exact x.flat
def saysAny (r : Ru) (bad late called : Bool) (draw : Rat) (own : Rat × Rat) : Bool := (r.plains.zip [own.1, own.2]).any fun z => decide (z.2 < z.1.chance bad late called draw)
def calledIn (acc : List (List Nat)) (p : List Nat) : Bool := !(p == []) && acc.any fun z => z == p.dropLast
def step (ρ : Str → Ru) (late : Bool) (draw : Rat) (acc : List (List Nat)) (x : (List Nat × T) × (Rat × Rat)) : List (List Nat) :=
  if saysAny (ρ x.1.2.name) (x.1.2.mark == 1) late (calledIn acc x.1.1) draw x.2 then acc ++ [x.1.1] else acc
def keptBy (ρ : Str → Ru) (t : T) (draw : Rat) (owns : List (Rat × Rat)) : List (List Nat) := ((placed [] t).zip owns).foldl (step ρ (isBad t) draw) []
theorem eqvs_ints : ∀ p q : List Nat, PyData.eqvAll (p.map fun (i : Nat) => PyData.int (i : Int)) (q.map fun (i : Nat) => PyData.int (i : Int)) = (p == q)
  | [], [] => by simp [PyData.eqvAll]
  | [], _ :: _ => by simp [PyData.eqvAll]
  | _ :: _, [] => by simp [PyData.eqvAll]
  | a :: p, b :: q => by
    rw [List.map_cons, List.map_cons, PyData.eqvAll, eqvs_ints p q, int_eqv, List.cons_beq_cons]
    congr 1
    by_cases h : a = b
    · subst h
      exact (beq_self_eq_true _).trans (beq_self_eq_true _).symm
    · have h' : ¬ ((a : Int) = (b : Int)) := by omega
      exact (beq_eq_false_iff_ne.mpr h').trans (beq_eq_false_iff_ne.mpr h).symm
theorem path_eqv (p q : List Nat) : PyData.eqv (pathD p) (pathD q) = (p == q) := by
  unfold pathD
  rw [PyData.eqv]
  exact eqvs_ints p q
theorem lay_ints : ∀ p : List Nat, PyData.canLayAll0 (p.map fun (i : Nat) => PyData.int (i : Int)) = true
  | [] => by simp [PyData.canLayAll0]
  | a :: p => by rw [List.map_cons, PyData.canLayAll0, lay_ints p]; simp [PyData.canLay0]
theorem depth_nats : ∀ p : List Nat, PyData.depthAll (p.map fun (i : Nat) => PyData.int (i : Int)) = 0
  | [] => by simp [PyData.depthAll]
  | a :: p => by rw [List.map_cons, PyData.depthAll, depth_nats p]; simp [PyData.depth]
theorem path_lay (p : List Nat) : PyData.canLay0 (pathD p) = true := by
  unfold pathD
  rw [PyData.canLay0]
  exact lay_ints p
theorem path_depth (p : List Nat) : PyData.depth (pathD p) = 1 := by
  unfold pathD
  rw [PyData.depth, depth_nats]
theorem sh_path (p : List Nat) : SeqAt.shaped (pathD p) = true := by
  show ((pathD p).canLay0 && decide ((pathD p).depth ≤ 64)) = true
  rw [path_lay, path_depth]
  rfl
theorem lay_paths : ∀ ks : List (List Nat), PyData.canLayAll0 (ks.map pathD) = true
  | [] => by simp [PyData.canLayAll0]
  | a :: p => by rw [List.map_cons, PyData.canLayAll0, lay_paths p, path_lay]; rfl
theorem depth_paths : ∀ ks : List (List Nat), PyData.depthAll (ks.map pathD) ≤ 1
  | [] => by simp [PyData.depthAll]
  | a :: p => by
    have := depth_paths p
    rw [List.map_cons, PyData.depthAll, path_depth]
    omega
theorem sh_paths (ks : List (List Nat)) : SeqAt.shaped (.list (ks.map pathD)) = true := by
  have h := depth_paths ks
  show ((PyData.list (ks.map pathD)).canLay0 && decide ((PyData.list (ks.map pathD)).depth ≤ 64)) = true
  rw [Bool.and_eq_true]
  exact ⟨by rw [PyData.canLay0]; exact lay_paths ks, decide_eq_true (by rw [PyData.depth]; omega)⟩
theorem path_init (p : List Nat) : (p.map fun (i : Nat) => PyData.int (i : Int)).dropLast = p.dropLast.map fun (i : Nat) => PyData.int (i : Int) := by rw [List.map_dropLast]
theorem chance_bd {x : Pl} (h : x.Ok) (bad late called : Bool) (draw : Rat) : Bd 60 (x.chance bad late called draw) := by
  have b0 : Bd 60 (0 : Rat) := bd0.mono (by decide)
  have b1 : Bd 60 (1 : Rat) := bd1.mono (by decide)
  have bi : ∀ c : Bool, Bd 60 (if c = true then (1 : Rat) else 0) := fun c => by cases c <;> simp <;> assumption
  cases x with
  | own p q => exact bd_div (by have := h.1; omega) h.2.1 h.2.2
  | _ => exact bi _
theorem step_len (ρ : Str → Ru) (late : Bool) (draw : Rat) : ∀ (xs : List ((List Nat × T) × (Rat × Rat))) (acc : List (List Nat)), (xs.foldl (step ρ late draw) acc).length ≤ acc.length + xs.length
  | [], acc => Nat.le_refl _
  | x :: xs, acc => by
    have h := step_len ρ late draw xs (step ρ late draw acc x)
    have h2 : (step ρ late draw acc x).length ≤ acc.length + 1 := by
      unfold step
      split <;> simp
    rw [List.foldl_cons, List.length_cons]
    omega
end Tr
namespace K18
open PySem PySem.Spec PyProof.Rows L2 Evl Fx Fr Dt Tr
theorem scKept : FnScope ["tree", "rules", "draw", "pairs", "late", "kept", "path", "service", "mark", "pair", "called", "says", "plain", "own"] ["tree", "rules", "draw", "pairs"] (defScope (topS 26)) := ⟨rfl, rfl, rfl, by decide +kernel, rfl, by decide +kernel, by decide +kernel⟩
section
variable {P : Program} {w : World} {K : PySem.W.Frag} {mg : Str → Option Value} {base : Heap} {f f2 f3 : Addr} {fd fd2 fd3 : FuncData}
structure KeptOk (t : T) (rs : List (Str × Ru)) (ρ : Str → Ru) (draw : Rat) (owns : List (Rat × Rat)) : Prop where
  size : size t ≤ 1000
  len : owns.length = Tr.size t
  draw : Bd 60 draw
  owns : ∀ o ∈ owns, Bd 60 o.1 ∧ Bd 60 o.2
  names : Names rs
  rules : ∀ s ∈ subs t, PyData.strOk s.name = true ∧ (∃ i, RuleAt rs s.name i (ρ s.name)) ∧ (ρ s.name).Ok
def spKept (K : PySem.W.Frag) : Sp := spD K fun ds d => ∃ t rs ρ draw owns, KeptOk t rs ρ draw owns ∧ ds = [enc t, .tuple (rs.map rowD), frD draw, .tuple (owns.map mkD)] ∧ d = .tuple ((keptBy ρ t draw owns).map pathD)
theorem ok_kept (F : Fun K "kept_by" "kept_by" (topS 26) f fd) (cB : C8.Cal P w K mg base 2 "has_bad" (spBad K) []) (cS : C8.Cal P w K mg base 2 "spans_of" (spSpans K) []) (cR : C8.Cal P w K mg base 1 "rule_of" (spRule K) []) (cP : C8.Cal P w K mg base 1 "plains_of" (spPlains K) [])
    (cC : C8.Cal P w K mg base 4 "plain_chance" (spChance K) []) (cL : C8.Cal P w K mg base 1 "is_less" (spLess K) []) (m_zip : mg "zip" = none) (m_any : mg "any" = none) (m_tuple : mg "tuple" = none) : FnOk P w K mg base CX0 5 f fd ["tree", "rules", "draw", "pairs"] (spKept K) := by
  refine F.ok scKept (fun vs H Q E h => ?_) (fun cdv A outer s H vs Q E hr h => ?_)
  · obtain ⟨ds, es, hd, ⟨t, rs, ρ, draw, owns, _, rfl, _⟩, _⟩ := h
    exact dps_len hd
  · obtain ⟨ds, es, hd, ⟨t, rs, ρ, draw, owns, ok, rfl, rfl⟩, q⟩ := h
    obtain ⟨v1, vs, rfl, p1, hd⟩ := dps_uncons hd
    obtain ⟨v2, vs, rfl, p2, hd⟩ := dps_uncons hd
    obtain ⟨v3, vs, rfl, p3, hd⟩ := dps_uncons hd
    obtain ⟨v4, vs, rfl, p4, hd⟩ := dps_uncons hd
    obtain rfl := dps_none hd
    have hu65 : (A.deeper (envOfC ("kept_by" : Str) (defScope (topS 26)) s.heap.objs.size f cdv)).units + 65 < cLine := by
      have := hr.un
      omega
    refine ⟨_, pss_cons (ps_set (i := 4) scKept.nd rfl (.inr rfl) (C8.pe_c cB hr (by decide) (by rfl) (pa_cons (pv 0) pa_nil)))
      (pss_cons (ps_set (i := 5) scKept.nd rfl (.inl rfl) (pe_lst pa_nil))
      (pss_cons (ps_for PassesOwn.never rfl (RZ.pi_zipA (by rfl) m_zip (pa_cons (C8.pe_c cS hr (by decide) (by rfl) (pa_cons (pv 0) pa_nil)) (pa_cons (pv 3) pa_nil)))
          (pg_tup (by rfl) (pgs_cons (pg_tup (by rfl) (pgs_cons (pg_name (i := 6) scKept.nd rfl (.inl rfl)) (pgs_cons (pg_name (i := 7) scKept.nd rfl (.inl rfl)) (pgs_cons (pg_name (i := 8) scKept.nd rfl (.inr rfl)) pgs_nil)))) (pgs_cons (pg_name (i := 9) scKept.nd rfl (.inl rfl)) pgs_nil)))
        (pss_cons (ps_set (i := 10) scKept.nd rfl (.inr rfl) (pe_and (pe_cmpR (op_neD hr.units) (pv 6) (pe_tup pa_nil) (nomark _)) (pe_one (pe_cmpR (op_inD hu65) (pe_slice sl_tupA (pv 6) po_none (po_some (pe_un un_neg pe_int))) (pv 5) (by rfl)))))
        (pss_cons (ps_setLc (i := 11) (own := [("plain", 12), ("own", 13)]) (g := gTup K 2 (gCons (gName 12) (gCons (gName 13) gNil))) (by rfl) scKept.nd rfl rfl (sw_true rfl rfl rfl (by kernel_rfl)) (RZ.pi_zipA (by rfl) m_zip (pa_cons (C8.pe_c cP hr (by decide) (by rfl) (pa_cons (C8.pe_c cR hr (by decide) (by rfl) (pa_cons (pv 1) (pa_cons (pv 7) pa_nil))) pa_nil)) (pa_cons (pv 9) pa_nil)))
          (blkOk_by (own := [("plain", 12), ("own", 13)]) (N := ["tree", "rules", "draw", "pairs", "late", "kept", "path", "service", "mark", "pair", "called", "says", "plain", "own"]) (sc := defScope (topS 26)) (by decide +kernel))
          (fun _ _ _ _ _ => pg_tup (by rfl) (pgs_cons (pg_name (i := 12) scKept.nd rfl (.inl rfl)) (pgs_cons (pg_name (i := 13) scKept.nd rfl (.inl rfl)) pgs_nil))) (fun _ _ _ _ _ => pts_nil)
          (fun _ _ _ _ _ => C8.pe_c cL hr (by decide) (by rfl) (pa_cons (pv 13) (pa_cons (C8.pe_c cC hr (by decide) (by rfl) (pa_cons (pv 12) (pa_cons (pe_cmpR (r := rEqD K) (op_eqD hr.units) (pv 8) pe_int (nomark _)) (pa_cons (pv 4) (pa_cons (pv 10) (pa_cons (pv 2) pa_nil)))))) pa_nil))))
        (pss_one (ps_if (pt_val (pe_callB (cr_any rfl) (by rfl) m_any (by decide +kernel) (pa_cons (pv 11) pa_nil))) (pss_one (ps_expr (pe_bm PySem.F.plainAttrs_list PySem.F.slot_list_append PySem.F.type_list_append mt_append (pv 5) (pa_cons (pv 6) pa_nil)))) pss_nil)))))
      (pss_one (ps_ret (pe_callTy (T := "tuple") (r := rTupOf K) call_tupleOf (by rfl) m_tuple (by decide +kernel) (pa_cons (pv 5) pa_nil)))))), ?_⟩
    let late := isBad t
    let pl := Tr.placed [] t
    have lpl : pl.length = size t := placed_len [] t
    refine q_asgR (F := F0) (n := 0) (k := 0) (P := IsD K (.bool (isBad t))) (rd_call F0.ok (ra_cons (ka := 0) (kb := 0) F0.ok (rd_var F0.ok (n := 0) F0.g rfl p1 (enc_flat t)) ra_nil (enc_flat t)) ⟨t, ok.size, rfl, rfl⟩) F0.g (Nat.le_refl _) fun w5 H1 e1 _ pw => ?_
    cases pw
    replace e1 := F0.ex e1
    refine q_asgL (el_lst ea_nil (by simp)) fun A H2 nA e2 hA => ?_
    have nA' : H A = none := fresh_back e1 nA
    have e12 := e1.trans e2
    have hargs : EvRA F0 (tCons (tCall (spSpans K) [] C8.E0 (tCons (tVar 0) tNil)) (tCons (tVar 3) tNil)) [some v1, some v2, some v3, some v4, some (.bl (isBad t)), some (.ref A), none, none, none, none, none, none, none, none] H2 0 (fun us H => DpAll K H us [.tuple (pl.map spanD), .tuple (owns.map mkD)]) :=
      ra_cons (ka := 0) (kb := 0) F0.ok (rd_call F0.ok (ra_cons (ka := 0) (kb := 0) F0.ok (rd_var F0.ok (n := 0) F0.g rfl (dp_ex e12 _ _ p1) (enc_flat t)) ra_nil (enc_flat t)) ⟨t, ok.size, rfl, rfl⟩) (ra_cons (ka := 0) (kb := 0) F0.ok (rd_var F0.ok (n := 0) F0.g rfl (dp_ex e12 _ _ p4) (mks_flat owns)) ra_nil (mks_flat owns)) (spans_flat pl)
    refine q_forZ (F := F0) (n := 0) (k := 0) F0.ok hargs F0.g (Nat.le_refl _) (spans_flat pl) (mks_flat owns) (by rw [List.length_map, List.length_map, lpl, ok.len]) (fun H3 i σ' H' => ∃ vals u6 u7 u8 u9 u10 u11, σ' = [some v1, some v2, some v3, some v4, some (.bl (isBad t)), some (.ref A), u6, u7, u8, u9, u10, u11, none, none] ∧ Ex H H' ∧ KT K H3 H' ∧ KT K H H' ∧ H' A = some (.lst vals) ∧
      DpAll K H' vals ((((pl.zip owns).take i).foldl (step ρ (isBad t) draw) []).map pathD)) (fun H3 e3 _ => ⟨[], none, none, none, none, none, none, rfl, e12.trans (F0.ex e3), fun _ _ h => h, kt_ex (e12.trans (F0.ex e3)), F0.ex e3 _ _ hA, .nil⟩) (fun H3 i σ' H' ⟨_, _, _, _, _, _, _, _, _, k, _⟩ => k) (fun H3 i x y T' dx dy σ' H' hdi hei ⟨vals, u6, u7, u8, u9, u10, u11, es, e, k, kH, hv, dv⟩ hT hdx hdy => ?_) fun H3 σ' H' _ ⟨vals, u6, u7, u8, u9, u10, u11, es, e, k, kH, hv, dv⟩ => ?_
    · subst es
      have hi1 : i < pl.length := by
        have := (List.getElem?_eq_some_iff.mp hdi).1
        rwa [List.length_map] at this
      have hi2 : i < owns.length := by
        have := (List.getElem?_eq_some_iff.mp hei).1
        rwa [List.length_map] at this
      have eT : Ex H' (upd H' T' (.tup [x, y])) := Ex.new hT
      have k4 : KT K H3 (upd H' T' (.tup [x, y])) := kt_trans k (kt_ex eT)
      rw [List.getElem?_map, List.getElem?_eq_getElem hi1] at hdi
      cases hdi
      rw [List.getElem?_map, List.getElem?_eq_getElem hi2] at hei
      cases hei
      have hmem : pl[i].2 ∈ subs t := by
        rw [← placed_snd [] t]
        exact List.mem_map.mpr ⟨pl[i], List.getElem_mem _, rfl⟩
      have hown := ok.owns owns[i] (List.getElem_mem _)
      have eacc : ((pl.zip owns).take (i + 1)).foldl (step ρ (isBad t) draw) [] = step ρ (isBad t) draw (((pl.zip owns).take i).foldl (step ρ (isBad t) draw) []) (pl[i], owns[i]) := by
        have hz : (pl.zip owns)[i]? = some (pl[i], owns[i]) := List.getElem?_zip_eq_some.mpr ⟨List.getElem?_eq_getElem hi1, List.getElem?_eq_getElem hi2⟩
        rw [List.take_add_one, hz, List.foldl_append]
        rfl
      have lacc : (((pl.zip owns).take i).foldl (step ρ (isBad t) draw) []).length ≤ 1000 := by
        have h1 := step_len ρ (isBad t) draw ((pl.zip owns).take i) []
        have h2 := ok.size
        rw [List.length_take, List.length_zip, lpl, List.length_nil] at h1
        omega
      rw [eacc]
      generalize ((pl.zip owns).take i).foldl (step ρ (isBad t) draw) [] = acc at dv lacc ⊢
      generalize pl[i] = pt at hdx hmem ⊢
      obtain ⟨p, s'⟩ := pt
      generalize owns[i] = ow at hdy hown ⊢
      obtain ⟨c, z1, z2, z3, rfl, hc, d1, d2, d3⟩ := dp_three hdx
      cases d2
      cases d3
      obtain ⟨hnm, ⟨ri, hri⟩, hrok⟩ := ok.rules _ hmem
      have hA4 : upd H' T' (.tup [.ref c, y]) A = some (.lst vals) := eT _ _ hv
      have kH4 := kt_trans kH (kt_ex eT)
      have dv4 := dps_ex eT _ _ dv
      have e04 : Ex H (upd H' T' (.tup [.ref c, y])) := e.trans eT
      refine ⟨T', [.ref c, y], rfl, st_of upd_same, rfl, .ref c, [y], rfl, c, [z1, .str s'.name, .int s'.mark], rfl, hc, rfl, z1, _, rfl, .str s'.name, _, rfl, .int s'.mark, _, rfl, rfl, y, [], rfl, rfl, ?_⟩
      generalize upd H' T' (.tup [.ref c, y]) = H4 at d1 hdy hA4 dv4 e04 k4 kH4 ⊢
      -- called
      refine q_asgR (F := F0) (n := 0) (k := 0) (P := fun u _ => u = .bl (calledIn acc p)) (EvR.imp (rb_and (ka := 0) (kb := 0) F0.ok (rb_ne (ka := 0) (kb := 0) (d' := pathD []) F0.ok (rd_var F0.ok (n := 0) F0.g rfl d1 (path_flat p)) (rd_tup F0.ok ra_nil) (sh_path p) (sh_path []) (path_flat p))
        fun _ => rb_inL (ka := 0) (kb := 0) (d := pathD p.dropLast) (ds := acc.map pathD) F0.ok (EvR.cast (rd_init F0.ok (rd_var F0.ok (n := 0) F0.g rfl d1 (path_flat p))) (by rw [path_init]; rfl)) (rl_var F0.ok (n := 0) F0.g rfl ⟨A, vals, rfl, fun z => z, hA4, dv4⟩ (paths_flat acc)) (path_flat _) (sh_path _) (sh_paths _)) fun _ u _ _ _ hu => ?_) F0.g (Nat.le_refl _) fun u H5 e5 _ hu => ?_
      · rw [hu, path_eqv, List.any_map]
        unfold calledIn
        congr 3
        funext z
        exact path_eqv z p.dropLast
      subst hu
      replace e5 := F0.ex e5
      have d15 := dp_ex e5 _ _ d1
      have hdy5 := dp_ex e5 _ _ hdy
      have k5 : KT K H H5 := kt_trans kH4 (kt_ex e5)
      have hnames : EvRA F0 (tCons (tCall (spPlains K) [] C8.E0 (tCons (tCall (spRule K) [] C8.E0 (tCons (tVar 1) (tCons (tVar 7) tNil))) tNil)) (tCons (tVar 9) tNil)) [some v1, some v2, some v3, some v4, some (.bl (isBad t)), some (.ref A), some z1, some (.str s'.name), some (.int s'.mark), some y, some (.bl (calledIn acc p)), u11, none, none] H5 0
          (fun us H => DpAll K H us [.tuple ((ρ s'.name).plains.map Pl.D), .tuple [frD ow.1, frD ow.2]]) :=
        ra_cons (ka := 0) (kb := 0) F0.ok (rd_call F0.ok (ra_cons (ka := 0) (kb := 0) F0.ok (rd_call F0.ok (ra_cons (ka := 0) (kb := 0) F0.ok (rd_var F0.ok (n := 0) F0.g rfl (dp_kt k5 (.tuple (rs.map rowD)) _ (rows_flat rs) p2) (rows_flat rs)) (ra_cons (ka := 0) (kb := 0) F0.ok (rd_ofS (rv_var rfl)) ra_nil) (rows_flat rs)) ⟨rs, s'.name, ri, ρ s'.name, ok.names, hnm, hri, rfl, rfl⟩) ra_nil (Ru.flat _)) ⟨ρ s'.name, rfl, rfl⟩)
          (ra_cons (ka := 0) (kb := 0) F0.ok (rd_var F0.ok (n := 0) F0.g rfl hdy5) ra_nil) (plains_flat _)
      have lz : ((ρ s'.name).plains.map Pl.D).length ≤ 2 := by
        rw [List.length_map]
        cases ρ s'.name <;> simp [Ru.plains]
      have hbl : (((ρ s'.name).plains.zip [ow.1, ow.2]).map fun z => decide (z.2 < z.1.chance (s'.mark == 1) (isBad t) (calledIn acc p) draw)).length = ((ρ s'.name).plains.map Pl.D).length := by
        rw [List.length_map, List.length_zip, List.length_map]
        rw [List.length_map] at lz
        show min _ 2 = _
        omega
      have hc := r_lcZ (F := F0) (K := K) (k := 0) (kt := 0) (ke := 0) (H := H5) (g := gTup K 2 (gCons (gName 12) (gCons (gName 13) gNil))) (tt := tYes) (te := tCall (spLess K) [] C8.E0 (tCons (tVar 13) (tCons (tCall (spChance K) [] C8.E0 (tCons (tVar 12) (tCons (tOp (rEqD K) (tVar 8) (tC (.int 1))) (tCons (tVar 4) (tCons (tVar 10) (tCons (tVar 2) tNil)))))) tNil))) (vs := [12, 13])
        F0.ok (fun _ => true) (fun i => ((((ρ s'.name).plains.zip [ow.1, ow.2]).map fun z => decide (z.2 < z.1.chance (s'.mark == 1) (isBad t) (calledIn acc p) draw)).map PyData.bool).getD i .none) hnames (plains_flat _) rfl lz (by omega) (fun j _ _ => by
          rw [List.getD_eq_getElem?_getD, List.getElem?_map]
          cases (((ρ s'.name).plains.zip [ow.1, ow.2]).map fun z => decide (z.2 < z.1.chance (s'.mark == 1) (isBad t) (calledIn acc p) draw))[j]? <;> rfl) fun j x1 y1 T1 dd dd' n1 H8 hdd hdd' hx1 hy1 hT1 _ e8 => by
          replace e8 := F0.ex e8
          rw [List.getElem?_map] at hdd
          obtain ⟨pl', hpl, rfl⟩ := Option.map_eq_some_iff.mp hdd
          have hdd2 : ([ow.1, ow.2].map frD)[j]? = some dd' := hdd'
          rw [List.getElem?_map] at hdd2
          obtain ⟨o', ho, rfl⟩ := Option.map_eq_some_iff.mp hdd2
          have hz : ((ρ s'.name).plains.zip [ow.1, ow.2])[j]? = some (pl', o') := List.getElem?_zip_eq_some.mpr ⟨hpl, ho⟩
          have hplok : pl'.Ok := hrok pl' (List.mem_of_getElem? hpl)
          have hob : Bd 60 o' := by
            have := List.mem_of_getElem? ho
            simp only [List.mem_cons, List.not_mem_nil, or_false] at this
            rcases this with rfl | rfl
            · exact hown.1
            · exact hown.2
          refine ⟨_, gv_pair hT1, rfl, rt_yes rfl, fun _ => ?_⟩
          rw [List.getD_eq_getElem?_getD, List.getElem?_map, List.getElem?_map, hz]
          have hm : EvR F0 (tOp (rEqD K) (tVar 8) (tC (.int 1))) [some v1, some v2, some v3, some v4, some (.bl (isBad t)), some (.ref A), some z1, some (.str s'.name), some (.int s'.mark), some y, some (.bl (calledIn acc p)), u11, some x1, some y1] H8 0 (IsD K (.bool (s'.mark == 1))) := by
            rw [← int_eqv]
            exact rd_ofB (rb_eq (K := K) (ka := 0) (kb := 0) F0.ok (rd_ofI (rv_var rfl)) rd_int (sh_int _) (sh_int _))
          exact rd_call F0.ok (ra_cons (ka := 0) (kb := 0) F0.ok (rd_var F0.ok (n := 0) F0.g rfl hy1) (ra_cons (ka := 0) (kb := 0) F0.ok (rd_call F0.ok (ra_cons (ka := 0) (kb := 0) F0.ok (rd_var F0.ok (n := 0) F0.g rfl hx1 pl'.flat) (ra_cons (ka := 0) (kb := 0) F0.ok hm (ra_cons (ka := 0) (kb := 0) F0.ok (rd_ofB (rv_var rfl)) (ra_cons (ka := 0) (kb := 0) F0.ok (rd_ofB (rv_var rfl)) (ra_cons (ka := 0) (kb := 0) F0.ok (rd_var F0.ok (n := 0) F0.g rfl (dp_kt (kt_trans k5 (kt_ex e8)) _ _ (fr_flat _) p3)) ra_nil)))) pl'.flat)
            ⟨pl', _, _, _, draw, hplok, ok.draw, rfl, rfl⟩) ra_nil)) ⟨o', _, ⟨60, 60, hob, chance_bd hplok _ _ _ _, by decide⟩, rfl, rfl⟩
      rw [outs_getD .none _ (by rw [List.length_map]; exact hbl)] at hc
      refine q_asgR (F := F0) (n := 0) (k := _) hc F0.g (by simp [F0]) fun w11 H6 e6 _ il => ?_
      replace e6 := F0.ex e6
      have hA6 : H6 A = some (.lst vals) := e6 _ _ (e5 _ _ hA4)
      have e06 : Ex H H6 := (e04.trans e5).trans e6
      have k6 : KT K H3 H6 := kt_trans k4 (kt_ex (e5.trans e6))
      have dv6 := dps_ex (e5.trans e6) _ _ dv4
      have fb : ∀ bs : List Bool, flats (bs.map PyData.bool) = true := fun bs => flats_all.mpr fun d hd => by
        obtain ⟨b, _, rfl⟩ := List.mem_map.mp hd
        rfl
      have esay : (((ρ s'.name).plains.zip [ow.1, ow.2]).map fun z => decide (z.2 < z.1.chance (s'.mark == 1) (isBad t) (calledIn acc p) draw)).any id = saysAny (ρ s'.name) (s'.mark == 1) (isBad t) (calledIn acc p) draw ow := by
        rw [List.any_map]
        rfl
      refine s_ifR (F := F0) (n := 0) (k := 0) (rt_val (rb_any (rl_var F0.ok (n := 0) F0.g rfl il (fb _)))) F0.g (Nat.le_refl _) (fun hb H7 e7 _ => ?_) fun hb H7 e7 _ => ?_
      · replace e7 := F0.ex e7
        rw [esay] at hb
        have hA7 := e7 _ _ hA6
        refine q_appR (F := F0) (n := 0) (k := 0) (P := IsD K (pathD p)) rfl hA7 (fun z => z) (rd_var F0.ok (n := 0) F0.g rfl (dp_ex (e6.trans e7) _ _ d15) (path_flat p)) F0.g (Nat.le_refl _) (by rw [dps_len dv6, List.length_map]; omega) fun v' H8 e8 _ dv' hA8 => ?_
        replace e8 := F0.ex e8
        have k9 : KT K H8 (upd H8 A (.lst (vals ++ [v']))) := kt_lst hA8
        refine ⟨vals ++ [v'], _, _, _, _, _, _, rfl, ((e06.trans e7).trans e8).mut nA', kt_trans k6 (kt_trans (kt_ex (e7.trans e8)) k9), kt_trans (kt_ex ((e06.trans e7).trans e8)) k9, upd_same, ?_⟩
        have es : Tr.step ρ (isBad t) draw acc ((p, s'), ow) = acc ++ [p] := by
          unfold Tr.step
          exact if_pos hb
        rw [es, List.map_append]
        exact dps_snoc (dps_kt k9 _ _ (paths_flat acc) (dps_ex (e7.trans e8) _ _ dv6)) (dp_kt k9 _ _ (path_flat p) dv')
      · replace e7 := F0.ex e7
        rw [esay] at hb
        have es : Tr.step ρ (isBad t) draw acc ((p, s'), ow) = acc := by
          unfold Tr.step
          exact if_neg (by rw [hb]; exact Bool.false_ne_true)
        refine ⟨vals, _, _, _, _, _, _, rfl, e06.trans e7, kt_trans k6 (kt_ex e7), kt_ex (e06.trans e7), e7 _ _ hA6, ?_⟩
        rw [es]
        exact dps_ex e7 _ _ dv6
    · subst es
      have ht : (pl.zip owns).take ((pl.map spanD).length) = pl.zip owns := by
        rw [List.take_of_length_le]
        rw [List.length_zip, List.length_map]
        omega
      rw [ht] at dv
      exact s_retR (F := F0) (n := 0) (k := 0) (P := IsD K (.tuple ((keptBy ρ t draw owns).map pathD))) (rd_tupOf F0.ok (rl_var F0.ok (n := 0) F0.g rfl ⟨A, vals, rfl, fun z => z, hv, dv⟩ (paths_flat _))) F0.g (Nat.le_refl _) fun v H7 e7 _ p => q v H7 (e.trans (F0.ex e7)) p
end
end K18
/-! ### enumerate(t), a tuple -/
namespace DtE
open PySem PySem.Spec PyProof.Rows L2
theorem meets_enumerate_newT (l : Addr) (items : Array Value) :
    Meets (Builtin.«enumerate.__new__» ⟨[.type "enumerate", .ref l], []⟩) (fun _ R s => s.heap.IsTuple l items ∧
      R (.ok (.ret (.ref (s.heap.push { cls := .type "tuple_iterator", data := .fields #[.ref l, .int 0 0] }).objs.size)))
        { s with heap := (s.heap.push { cls := .type "tuple_iterator", data := .fields #[.ref l, .int 0 0] }).push { cls := .type "enumerate", data := .fields #[.none, .bool false, .ref s.heap.objs.size, rawInt 0, .none, .none] } }) :=
  .of_wp fun prog w A R s h => by
    obtain ⟨hp, g, d, tk, os⟩ := s; obtain ⟨hl, h⟩ := h
    have hsub := sub_enumerate
    have hL : Heap.IsTuple (Shared.heap ⟨hp, g, d, tk, os⟩) l items := hl
    wp_walk using wpAny_pyIter_tuple hL
    refine wpAny_stack_any fun st => wpAny_pure ?_
    split
    · rename_i c _ _ _ _ _
      cases (c == Value.type "enumerate")
      · wp_walk using wpAny_pyIter_tuple hL
        exact ⟨_, rfl, h⟩
      · wp_walk using wpAny_pyIter_tuple hL
        exact ⟨_, rfl, h⟩
    · wp_walk using wpAny_pyIter_tuple hL
      exact ⟨_, rfl, h⟩
section
variable {prog : Program} {w : World} {A : Around} {E : Value → Shared → Prop} {s : Shared}
theorem call_enumerate_tuple {l : Addr} {items : Array Value} {Q : Value → Shared → Prop} (hL : s.heap.IsTuple l items)
    (h : ∀ h', IsEnum h' (s.heap.objs.size + 1) s.heap.objs.size 0 .none → h'.IsTupleIter s.heap.objs.size l 0 → h'.objs.size = s.heap.objs.size + 2 →
      (∀ b o, s.heap.get? b = some o → h'.get? b = some o) → Q (.ref (s.heap.objs.size + 1)) { s with heap := h' }) :
    wpAny (model prog w) A (call (.type "enumerate") [.ref l]) Q E s := by
  refine callType_new F.called_enumerate (by decide) (F.typeCall_enumerate_1 _) (F.newCall_enumerate_1 _) (fun obj => F.args_object_init_2 obj _) F.entry_enumerate_new
    (meets_enumerate_newT l items) ⟨hL, ?_⟩
  have hz : (s.heap.push { cls := .type "tuple_iterator", data := .fields #[.ref l, .int 0 0] }).objs.size = s.heap.objs.size + 1 := Heap.size_push ..
  show _ ∧ _
  rw [hz]
  have he : IsEnum ((s.heap.push { cls := .type "tuple_iterator", data := .fields #[.ref l, .int 0 0] }).push
      { cls := .type "enumerate", data := .fields #[.none, .bool false, .ref s.heap.objs.size, rawInt 0, .none, .none] }) (s.heap.objs.size + 1) s.heap.objs.size 0 .none := by
    have := Heap.get?_push_size (s.heap.push { cls := .type "tuple_iterator", data := .fields #[.ref l, .int 0 0] })
      (o := { cls := .type "enumerate", data := .fields #[.none, .bool false, .ref s.heap.objs.size, rawInt 0, .none, .none] }) rfl
    rw [hz] at this; exact this
  exact ⟨⟨_, he, rfl⟩, h _ he ⟨_, Heap.get?_push_of_some _ (Heap.get?_push_size _ rfl), rfl, rfl⟩ (by rw [Heap.size_push, hz]) fun b o x => Heap.get?_push_of_some _ (Heap.get?_push_of_some _ x)⟩
end
/-- the tuple at a, the items with their places in new pairs -/
def IteT (K : PySem.W.Frag) (a : Addr) : It :=
  ⟨fun i H => ∃ (xs : List V) (x : V), SqT K H a xs ∧ xs[i]? = some x, fun i H v H' => ∃ T x, v = .ref T ∧ H T = none ∧ H' = upd H T (.tup [.int (i : Nat), x]) ∧ ∀ xs, SqT K H a xs → xs[i]? = some x, fun i H => ∃ xs : List V, SqT K H a xs ∧ xs.length = i⟩
theorem turn_enumT {P : Program} {w : World} {K : PySem.W.Frag} {elts : List Expr} {kk : Nat} {tpos : Pos} (a e it : Addr) (hat : a ≠ it) (hae : e ≠ a) :
    Turn P w K (.Tuple elts kk tpos) (IteT K a) [e, it] e (fun i h => (∃ old, IsEnum h e it ((i : Nat) : Int) old) ∧ h.IsTupleIter it a i ∧ e ≠ it) where
  mem := by simp
  obj := fun i h st b hb => by
    obtain ⟨⟨old, he⟩, ⟨o, ho, hc, hd⟩, _⟩ := st
    have e' : b = e ∨ b = it := by simpa using hb
    rcases e' with z | z
    · rw [z]; exact ⟨_, he, fun v q => nomatch q⟩
    · rw [z]; exact ⟨o, ho, fun v q => by rw [hd] at q; cases q⟩
  keep := fun i h h' st k => let ⟨⟨old, he⟩, hi, hne⟩ := st; ⟨⟨old, k e (by simp) _ he⟩, hi.at fun o q => k it (by simp) o q, hne⟩
  item := by
    intro X hP hw hK hc i pins s σ H E I hf st hg
    subst hP hw hK
    obtain ⟨⟨old, he⟩, hit, hne⟩ := st
    obtain ⟨xs, x, hq, hx⟩ := hg
    obtain ⟨its, rv, p, hz⟩ := I.tuple hq
    obtain ⟨u, hu, ru⟩ := rv.get hx
    have hel : e < s.heap.objs.size := Heap.lt_size he
    have hil : it < s.heap.objs.size := by obtain ⟨_, q, _⟩ := hit; exact Heap.lt_size q
    have hlt : i < its.toArray.size := by
      rw [List.size_toArray]
      exact (List.getElem?_eq_some_iff.mp hu).1
    refine wpAny_pyNext_enum_itemD (Draws.tuple (A := X.A.in1) (show X.A.in1.handled = none from I.ok.hd hc) it a hat its.toArray) he ⟨hit, p⟩ hlt hne (by simp [hne, hae]) fun y h' tk hy ho hit' hT hsz hk => ?_
    have hy' : y = u := by
      have hy2 : its.toArray[i]? = some y := hy
      rw [List.getElem?_toArray, hu] at hy2
      exact (Option.some.inj hy2).symm
    subst hy'
    refine ⟨_, rfl, wpAny_letOwnedTupleGo_enum (s := { s with heap := h', toks := tk + 1 }) ho fun h'' he' sb => ?_⟩
    have hT2 : h''.get? s.heap.objs.size = some { cls := .type "tuple", data := .seq #[.int i tk, y] } := (sb.2 _ (Nat.ne_of_gt hel)).trans hT
    have new : ObjOk X.prog X.w (upd H s.heap.objs.size (.tup [.int (i : Nat), x])) h'' s.heap.objs.size (.tup [.int (i : Nat), x]) :=
      ⟨by show 2 ≤ sizeLine; decide, [.int i tk, y], .cons ⟨_, rfl⟩ (.cons ru .nil), ⟨_, hT2, rfl, _, rfl⟩⟩
    have I1 : Inv X pins σ (upd H s.heap.objs.size (.tup [.int (i : Nat), x])) { s with heap := h'', toks := tk + 1 } :=
      I.turnedNew (ch := [e, it]) (fun b ob hb q => (sb.2 b (fun z => hb (by simp [z]))).trans (hk b ob (fun z => hb (by simp [z])) (fun z => hb (by simp [z])) q)) hf (Nat.le_refl _) new
    refine ⟨.ref s.heap.objs.size, _, I1, rfl, ⟨_, x, rfl, I.hok.fresh (Nat.le_refl _), rfl, fun ys hy => by rw [I.tuple_inj hy hq]; exact hx⟩, ⟨⟨y, ?_⟩, hit'.1.at fun o q => (sb.2 it (Ne.symm hne)).trans q, hne⟩, fun b hb => ?_⟩
    · have e1 : ((i + 1 : Nat) : Int) = (i : Int) + 1 := by omega
      rw [e1]; exact he'
    · have hb' : b < s.heap.objs.size := by
        have e' : b = e ∨ b = it := by simpa using hb
        rcases e' with z | z
        · rw [z]; exact hel
        · rw [z]; exact hil
      rw [upd_ne (Nat.ne_of_lt hb')]
      exact (hf b hb).1
  done := by
    intro X hP hw hK hc i pins s σ H E I hf st hg
    subst hP hw hK
    obtain ⟨⟨old, he⟩, hit, hne⟩ := st
    obtain ⟨xs, hq, hx⟩ := hg
    obtain ⟨its, rv, p, hz⟩ := I.tuple hq
    obtain ⟨f0, f1, f2, f3, f4, f5⟩ := hf it (by simp)
    have hl := rv.length
    have hn : i = its.toArray.size := by rw [List.size_toArray]; omega
    have D := Draws.tuple (prog := X.prog) (w := X.w) (A := X.A.in1) (show X.A.in1.handled = none from I.ok.hd hc) it a hat its.toArray
    exact wpAny_pyNext_enum_endD D he ⟨by rw [← hn]; exact hit, p⟩ fun h' eb => ⟨rfl, I.turned (t' := s.toks) (fun b o hb q => eb b o hb q) f0 f1 f3 f4 f5⟩
  self := fun A i s Q E st h => let ⟨⟨_, he⟩, _⟩ := st; wpAny_pyIter_enum he h
def iEnumT (K : PySem.W.Frag) (ta : TA) : TI := fun σ H R => ta σ H fun vs H1 => ∃ a xs, vs = [.ref a] ∧ SqT K H1 a xs ∧ R (IteT K a) H1
theorem pi_enumT {X : Cx} {e : Expr} {ta : TA} {p pos tpos : Pos} {elts : List Expr} {kk : Nat} (hg : Gl X "enumerate") (hm : X.mg "enumerate" = none) (ha : PA X [e] ta) (hs : starEach [e] X.env = [(false, eval e X.env)] := by rfl) :
    PI X (.Tuple elts kk tpos) (.Call (.Name "enumerate" p) [e] [] pos) (iEnumT X.K ta) := by
  refine ⟨fun pins s σ H R I h => ?_⟩
  refine Call_ (ld_blt I hg hm boot_enumerate (PyProof.Rows.callWith_type1 (thn (ha.run pos pins s σ H _ I h) fun us s1 ⟨vs, H1, I1, r1, q1⟩ => ?_) hs rfl))
  obtain ⟨a, xs, ex, hq, q⟩ := q1
  subst ex
  cases r1 with
  | cons r rr =>
    cases rr
    cases r
    obtain ⟨its, rv, p', hz⟩ := I1.tuple hq
    have hal : a < s1.heap.objs.size := by
      obtain ⟨_, q, _⟩ := p'
      exact Heap.lt_size q
    refine call_enumerate_tuple p' fun h' he hit hsz hk => wpAny_pyIter_enum he ?_
    have I2 : Inv X pins σ H1 { s1 with heap := h' } := I1.kept (t' := s1.toks) hk
    refine ⟨s1.heap.objs.size + 1, [s1.heap.objs.size + 1, s1.heap.objs.size], _, _, H1, rfl, I2, turn_enumT a (s1.heap.objs.size + 1) s1.heap.objs.size (Nat.ne_of_lt hal) (Nat.ne_of_gt (Nat.lt_succ_of_lt hal)), ⟨⟨.none, he⟩, hit, Nat.succ_ne_self _⟩, fun b hb => ?_, q⟩
    have e' : b = s1.heap.objs.size + 1 ∨ b = s1.heap.objs.size := by simpa using hb
    have hle : s1.heap.objs.size ≤ b := by
      rcases e' with z | z
      · rw [z]; exact Nat.le_add_right _ _
      · rw [z]; exact Nat.le_refl _
    exact I1.fpOk hle (I1.hok.fresh hle)
end DtE
namespace Dt
open PySem PySem.Spec PyProof.Rows L2 Evl Fx
theorem for_enumT {K : PySem.W.Frag} {a : Addr} {xs : List V} {g : TG} {tb : TS} {D : Ends} {σ : L2.St} {H : Hp} (Pv : Nat → L2.St → Hp → Prop) (h0 : Pv 0 σ H) (hq : ∀ i σ H, Pv i σ H → SqT K H a xs)
    (hs : ∀ (i : Nat) (x : V) (T : Addr) (σ : L2.St) (H : Hp), xs[i]? = some x → Pv i σ H → H T = none → g (.ref T) σ (upd H T (.tup [.int (i : Nat), x])) fun σ2 H2 => tb { D with nx := Pv (i + 1), ct := Pv (i + 1), bk := D.nx } σ2 H2) (hd : ∀ σ H, Pv xs.length σ H → D.nx σ H) :
    ∃ W : Nat → Nat → L2.St → Hp → Prop, (∃ m, W 0 m σ H) ∧ ∀ i m σ H, W i m σ H →
      ((DtE.IteT K a).stop i H ∧ D.nx σ H) ∨ ((DtE.IteT K a).go i H ∧ ∃ N : L2.St → Hp → Prop, (∀ σ' H', N σ' H' → ∃ m', m' < m ∧ W (i + 1) m' σ' H') ∧ ∀ v H', (DtE.IteT K a).yld i H v H' → g v σ H' fun σ2 H2 => tb { D with nx := N, ct := N, bk := D.nx } σ2 H2) := by
  refine ⟨fun i m σ H => m = xs.length - i ∧ i ≤ xs.length ∧ Pv i σ H, ⟨xs.length, rfl, Nat.zero_le _, h0⟩, ?_⟩
  rintro i m σ H ⟨rfl, hi, p⟩
  have qx := hq i σ H p
  by_cases hlt : i < xs.length
  · have hx : xs[i]? = some xs[i] := List.getElem?_eq_getElem hlt
    refine .inr ⟨⟨xs, _, qx, hx⟩, Pv (i + 1), fun σ' H' p' => ⟨xs.length - (i + 1), by omega, rfl, hlt, p'⟩, fun v H' y => ?_⟩
    obtain ⟨T, x', rfl, hT, rfl, f1⟩ := y
    exact hs i x' T σ H (f1 xs qx) p hT
  · have e : i = xs.length := by omega
    subst e
    exact .inl ⟨⟨xs, qx, rfl⟩, hd σ H p⟩
section
variable {F : Fd} {K : PySem.W.Frag} {te ta tb tl : TE} {tr : TA} {tt tu : TT} {g : TG} {σ : L2.St} {H H' H1 : Hp} {d d' : PyData} {ds es : List PyData} {n n0 k ka kb kt ke i : Nat} {v : V} {Dl : Addr}
/-- for .. in enumerate(t), a tuple -/
theorem q_forE {tb tz : TS} {D : Ends} (o : F.Ok) (h : EvR F tl σ H k (IsD K (.tuple ds))) (g0 : F.G n H) (hn : n + k ≤ F.N) (fd : flats ds = true) (Pv : Hp → Nat → L2.St → Hp → Prop)
    (h0 : ∀ H1, Kx F.S H H1 → F.G (n + k) H1 → Pv H1 0 σ H1) (hk : ∀ H1 i σ' H', Pv H1 i σ' H' → KT K H1 H')
    (hs : ∀ H1 i x T d σ' H', ds[i]? = some d → Pv H1 i σ' H' → H' T = none → Dp K (upd H' T (.tup [.int (i : Nat), x])) x d → g (.ref T) σ' (upd H' T (.tup [.int (i : Nat), x])) fun σ2 H2 => tb { D with nx := Pv H1 (i + 1), ct := Pv H1 (i + 1), bk := tz D } σ2 H2)
    (hd : ∀ H1 σ' H', Kx F.S H H1 → Pv H1 ds.length σ' H' → tz D σ' H') : tSeq (tFor (DtE.iEnumT K (tCons tl tNil)) g tb) tz D σ H := h n H hn g0 Kx.refl _ fun u H1 e1 g1 p1 => by
  cases p1 with
  | @tup a xs _ ha hx =>
  have lx := dps_len hx
  refine ⟨a, xs, rfl, ha, for_enumT (Pv H1) (h0 H1 e1 g1) (fun i σ' H' p => hk _ _ _ _ p _ _ ha) (fun i x T σ' H' hi p hT => ?_) fun σ' H' p => hd H1 σ' H' e1 (by rw [← lx]; exact p)⟩
  have h1 := (List.getElem?_eq_some_iff.mp hi).1
  have hdi : ds[i]? = some ds[i] := List.getElem?_eq_getElem (by omega)
  have kk : KT K H1 (upd H' T (.tup [.int (i : Nat), x])) := kt_trans (hk _ _ _ _ p) (kt_ex (Ex.new hT))
  obtain ⟨u, hu, hdu⟩ := dps_get (dps_kt kk _ _ fd hx) hdi
  rw [hi] at hu
  cases hu
  exact hs H1 i x T _ σ' H' hdi p hT hdu
/-- t + u -/
theorem rd_cat (o : F.Ok) (ha : EvR F ta σ H ka (IsD K (.tuple ds))) (hb : EvR F tb σ H kb (IsD K (.tuple es))) (fd : flats ds = true) (hl : ds.length + es.length ≤ 100000) : EvR F (tOp (rCatA K) ta tb) σ H (ka + kb) (IsD K (.tuple (ds ++ es))) :=
  r_op o (mono_d o (show flat (.tuple ds) = true by rw [flat_tup]; exact fd)) ha hb fun x y n H1 g e px py Q q => by
    cases px with
    | @tup a xs _ ha hx =>
    cases py with
    | @tup b ys _ hb hy =>
    have lx := dps_len hx
    have ly := dps_len hy
    refine ⟨a, b, xs, ys, rfl, rfl, ha, hb, sz_of (by omega), fun ex => ?_, fun _ ey => ?_, fun _ _ p hp => q _ _ (Ex.new hp) (.tup (st_of upd_same) (dps_ex (Ex.new hp) _ _ (dps_app hx hy)))⟩
    · subst ex
      cases ds with
      | nil => exact q _ H1 (Ex.refl _) (.tup hb hy)
      | cons _ _ => simp at lx
    · subst ey
      cases es with
      | nil =>
        refine q _ H1 (Ex.refl _) ?_
        show Dp K H1 _ (.tuple (ds ++ []))
        rw [List.append_nil]
        exact .tup ha hx
      | cons _ _ => simp at ly
/-- xs.extend(a new list) where the list may be any name -/
theorem evE_int {i : Int} (h : EvR F te σ H k (fun x _ => x = .int i)) : EvR F te σ H k (IsD K (.int i)) := rd_ofI h
theorem rv_op {r : R2} {x y z : V} (o : F.Ok) (ha : EvR F ta σ H ka (fun u _ => u = x)) (hb : EvR F tb σ H kb (fun u _ => u = y)) (hr : ∀ H1, RV r x y H1 z) : EvR F (tOp r ta tb) σ H (ka + kb) (fun u _ => u = z) :=
  r_op o mono_eq ha hb fun x' y' n H1 g e ex ey Q q => by
    subst ex ey
    exact hr H1 H1 (Ex.refl _) Q fun H2 e2 => q _ H2 e2 rfl
theorem dps_strs : ∀ {ws : List Str} {vs : List V}, DpAll K H vs (ws.map PyData.str) → vs = ws.map V.str
  | [], _, h => by cases h; rfl
  | b :: bs, _, h => by
    cases h with
    | cons h1 h2 =>
      cases h1
      rw [dps_strs h2]
      rfl
theorem flat_strs (ws : List Str) : (ws.map V.str).all flatV = true := by
  rw [List.all_map]
  exact List.all_eq_true.mpr fun _ _ => rfl
/-- a text in a tuple of texts -/
theorem rb_inT {w : Str} {ws : List Str} (o : F.Ok) (ha : EvR F ta σ H ka (fun u _ => u = .str w)) (hb : EvR F tb σ H kb (IsD K (.tuple (ws.map PyData.str)))) : EvR F (tOp (rIn K false) ta tb) σ H (ka + kb) (fun u _ => u = .bl (ws.any fun y => y == w)) :=
  r_op o mono_eq ha hb fun x y n H1 g e ex py Q q => by
    subst ex
    cases py with
    | @tup b ys _ hb hy =>
    have := dps_strs hy
    subst this
    refine ⟨b, _, rfl, .inr hb, rfl, flat_strs ws, q _ H1 (Ex.refl _) ?_⟩
    show V.bl (inV _ _) = _
    unfold inV
    rw [List.any_map]
    rfl
end
end Dt
namespace Tr
theorem placedA_len (p : List Nat) (i : Nat) (ts : List T) : (placedA p i ts).length = sizes ts := by rw [← subsA_len, ← placedA_snd p i ts, List.length_map]
theorem sizes_take : ∀ (i : Nat) (ts : List T), sizes (ts.take i) ≤ sizes ts
  | 0, ts => by rw [List.take_zero, sizes]; omega
  | i + 1, [] => Nat.le_refl _
  | i + 1, t :: ts => by
    have := sizes_take i ts
    rw [List.take_succ_cons, sizes, sizes]
    omega
theorem size_mem : ∀ {ts : List T} {i : Nat} {c : T}, ts[i]? = some c → size c ≤ sizes ts
  | [], _, _, h => by simp at h
  | t :: ts, 0, c, h => by
    rw [List.getElem?_cons_zero] at h
    cases h
    rw [sizes]
    omega
  | t :: ts, i + 1, c, h => by
    rw [List.getElem?_cons_succ] at h
    have := size_mem h
    rw [sizes]
    omega
theorem placedA_snoc (p : List Nat) : ∀ (j : Nat) (ts : List T) (c : T), placedA p j (ts ++ [c]) = placedA p j ts ++ placed (p ++ [j + ts.length]) c
  | j, [], c => by rw [List.nil_append, placedA, placedA, placedA, List.append_nil]; rfl
  | j, t :: ts, c => by rw [List.cons_append, placedA, placedA, placedA_snoc p (j + 1) ts c, List.append_assoc, List.length_cons, show j + 1 + ts.length = j + (ts.length + 1) by omega]
end Tr
namespace K18
open PySem PySem.Spec PyProof.Rows L2 Evl Fx Fr Dt Tr
theorem scLSpans : FnScope ["_law_root", "_law_way", "_law_found", "_law_k", "_law_call"] ["_law_root", "_law_way"] (defScope (topS 31)) := ⟨rfl, rfl, rfl, by decide +kernel, rfl, by decide +kernel, by decide +kernel⟩
theorem cal {P : Program} {w : World} {K : PySem.W.Frag} {mg : Str → Option Value} {base : Heap} {x : Str} {st : Stmt} {f : Addr} {fd : FuncData} {k : Nat} {ps : List Str} {sp : Sp} (F : Fun K x x st f fd) (G : FnOk P w K mg base CX0 k f fd ps sp) (g : mg x = some (.ref f)) (b : Binds K fd ps []) : C8.Cal P w K mg base k x sp [] := ⟨f, fd, ps, [], G, g, F.kp, b, .nil⟩
section
variable {P : Program} {w : World} {K : PySem.W.Frag} {mg : Str → Option Value} {base : Heap} {f f2 f3 : Addr} {fd fd2 fd3 : FuncData}
def spLSpans (K : PySem.W.Frag) (n : Nat) : Sp := spL K fun ds es => ∃ t p, size t ≤ n ∧ n ≤ 1000 ∧ p.length + n ≤ 1000 ∧ ds = [enc t, pathD p] ∧ es = (Tr.placed p t).map spanD
theorem ok_lspans (F : Fun K "_law_spans" "_law_spans" (topS 31) f fd) (gl : mg "_law_spans" = some (.ref f)) (B : Binds K fd ["_law_root", "_law_way"] []) (m_en : mg "enumerate" = none) : ∀ n, FnOk P w K mg base CX0 n f fd ["_law_root", "_law_way"] (spLSpans K n)
  | 0 => by
    refine ⟨fun vs H Q E h => ?_, fun A outer s H args us vs Q E hr he hb hv h => ?_⟩
    · obtain ⟨ds, es, hd, ⟨t, p, hs, _⟩, _⟩ := h
      rw [size_eq] at hs
      omega
    · obtain ⟨ds, es, hd, ⟨t, p, hs, _⟩, _⟩ := h
      rw [size_eq] at hs
      omega
  | n + 1 => by
    have cS := cal F (ok_lspans F gl B m_en n) gl B
    refine F.ok scLSpans (fun vs H Q E h => ?_) (fun cdv A outer s H vs Q E hr h => ?_)
    · obtain ⟨ds, es, hd, ⟨t, p, _, _, _, rfl, _⟩, _⟩ := h
      exact dps_len hd
    · obtain ⟨ds, es, hd, ⟨t, p, hs, hn, hp, rfl, rfl⟩, q⟩ := h
      obtain ⟨v1, vs, rfl, p1, hd⟩ := dps_uncons hd
      obtain ⟨v2, vs, rfl, p2, hd⟩ := dps_uncons hd
      obtain rfl := dps_none hd
      refine ⟨_, pss_cons (ps_set (i := 2) scLSpans.nd rfl (.inl rfl) (pe_lst (pa_cons (pe_tup (pa_cons (pv 1) (pa_cons (pe_ix ix_tup (pv 0) pe_int (fun _ _ => rfl)) (pa_cons (pe_ix ix_tup (pv 0) pe_int (fun _ _ => rfl)) pa_nil)))) pa_nil)))
        (pss_cons (ps_for PassesOwn.never rfl (DtE.pi_enumT (by rfl) m_en (pa_cons (pe_ix ix_tup (pv 0) pe_int (fun _ _ => rfl)) pa_nil)) (pg_tup (by rfl) (pgs_cons (pg_name (i := 3) scLSpans.nd rfl (.inl rfl)) (pgs_cons (pg_name (i := 4) scLSpans.nd rfl (.inl rfl)) pgs_nil)))
          (pss_one (ps_expr (pe_bm PySem.F.plainAttrs_list PySem.F.slot_list_extend PySem.F.type_list_extend mt_extend (pv 2) (pa_cons (C8.pe_c cS hr (Nat.le_refl _) (by rfl) (pa_cons (pv 4) (pa_cons (pe_op op_catA (pv 1) (pe_tup (pa_cons (pv 3) pa_nil))) pa_nil))) pa_nil)))))
        (pss_one (ps_ret (pv 2)))), ?_⟩
      have rr : EvR F0 (tVar 0) [some v1, some v2, none, none, none] H 0 (IsD K (enc t)) := rd_var F0.ok (n := 0) F0.g rfl p1 (enc_flat t)
      refine q_asgR (F := F0) (n := 0) (k := 0) (P := IsN H F0 K [spanD (p, t)]) (rn_lst F0.ok (ra_cons (ka := 0) (kb := 0) F0.ok (rd_tup F0.ok (ra_cons (ka := 0) (kb := 0) F0.ok (rd_var F0.ok (n := 0) F0.g rfl p2 (path_flat p)) (ra_cons (ka := 0) (kb := 0) F0.ok (rt_name F0.ok rr) (ra_cons (ka := 0) (kb := 0) F0.ok (rt_mark F0.ok rr) ra_nil)) (path_flat p)) (span_flat (p, t))) ra_nil (span_flat (p, t)))) F0.g (Nat.le_refl _) fun w2 H1 e1 _ ⟨A1, ws, ew, nA, _, hA, dA⟩ => ?_
      subst ew
      replace e1 := F0.ex e1
      have ht := size_eq t
      refine q_forE (F := F0) (n := 0) (k := 0) (ds := t.calls.map enc) F0.ok (rt_calls F0.ok (rd_var F0.ok (n := 0) F0.g rfl (dp_ex e1 _ _ p1) (enc_flat t))) F0.g (Nat.le_refl _) (maps_flat _) (fun H2 i σ' H' => ∃ xs u3 u4, σ' = [some v1, some v2, some (.ref A1), u3, u4] ∧ Ex H H' ∧ KT K H2 H' ∧ H' A1 = some (.lst xs) ∧ DpAll K H' xs (((p, t) :: placedA p 0 (t.calls.take i)).map spanD))
        (fun H2 e2 _ => ⟨ws, none, none, rfl, e1.trans (F0.ex e2), fun _ _ h => h, F0.ex e2 _ _ hA, by rw [List.take_zero, placedA]; exact dps_ex (F0.ex e2) _ _ dA⟩) (fun H2 i σ' H' ⟨_, _, _, _, _, k, _⟩ => k) (fun H2 i x T d σ' H' hi ⟨xs, u3, u4, es, e, k, hx, dx⟩ hT hd => ?_) fun H2 σ' H' _ ⟨xs, u3, u4, es, e, k, hx, dx⟩ => ?_
      · subst es
        have hlt : i < t.calls.length := by
          have := (List.getElem?_eq_some_iff.mp hi).1
          rwa [List.length_map] at this
        have hci : t.calls[i]? = some t.calls[i] := List.getElem?_eq_getElem hlt
        rw [List.getElem?_map, hci] at hi
        cases hi
        have eT : Ex H' (upd H' T (.tup [.int (i : Nat), x])) := Ex.new hT
        have hx4 := eT _ _ hx
        have dx4 := dps_ex eT _ _ dx
        have e04 := e.trans eT
        have k4 : KT K H2 (upd H' T (.tup [.int (i : Nat), x])) := kt_trans k (kt_ex eT)
        have kH4 : KT K H (upd H' T (.tup [.int (i : Nat), x])) := kt_ex e04
        refine ⟨T, _, rfl, st_of upd_same, rfl, _, _, rfl, _, _, rfl, rfl, ?_⟩
        generalize upd H' T (.tup [.int (i : Nat), x]) = H4 at hd hx4 dx4 e04 k4 kH4 ⊢
        have hsz := size_mem hci
        have lx := dps_len dx4
        rw [List.length_map, List.length_cons, placedA_len] at lx
        have hst := sizes_take i t.calls
        refine q_extL (F := F0) (n := 0) (k := 0) (ds := (Tr.placed (p ++ [i]) t.calls[i]).map spanD) rfl hx4 (fun z => z) (rl_call F0.ok (ra_cons (ka := 0) (kb := 0) F0.ok (rd_var F0.ok (n := 0) F0.g rfl hd (enc_flat _)) (ra_cons (ka := 0) (kb := 0) F0.ok
          (rd_cat (ka := 0) (kb := 0) (ds := p.map fun (i : Nat) => PyData.int (i : Int)) (es := [.int (i : Int)]) F0.ok (rd_var F0.ok (n := 0) F0.g rfl (dp_ex e04 _ _ p2) (path_flat p)) (rd_tup F0.ok (ra_cons (ka := 0) (kb := 0) F0.ok (rd_ofI (rv_var rfl)) ra_nil)) (path_flats p) (by rw [List.length_map, List.length_singleton]; omega)) ra_nil (by rw [← pathD_snoc]; exact path_flat _)) (enc_flat _))
          ⟨t.calls[i], p ++ [i], by omega, by omega, by rw [List.length_append, List.length_singleton]; omega, by rw [pathD_snoc], rfl⟩) F0.g (Nat.le_refl _) (by rw [List.length_map, placed_len]; omega) fun zs H5 e5 _ dz hx5 => ?_
        replace e5 := F0.ex e5
        have k6 : KT K H5 (upd H5 A1 (.lst (xs ++ zs))) := kt_lst hx5
        refine ⟨xs ++ zs, _, _, rfl, (e04.trans e5).mut nA, kt_trans k4 (kt_trans (kt_ex e5) k6), upd_same, ?_⟩
        have ht : t.calls.take (i + 1) = t.calls.take i ++ [t.calls[i]] := by rw [List.take_add_one, hci]; rfl
        rw [ht, placedA_snoc, List.length_take, show 0 + min i t.calls.length = i by omega, ← List.cons_append, List.map_append]
        exact dps_app (dps_kt k6 _ _ (spans_flat _) (dps_ex e5 _ _ dx4)) (dps_kt k6 _ _ (spans_flat _) dz)
      · subst es
        rw [List.length_map, List.take_length] at dx
        rw [placed_eq] at q
        exact s_ret (v := .ref A1) (ev_var rfl) fun H4 e4 => q A1 xs H4 nA (e.trans e4) (e4 _ _ hx) (dps_ex e4 _ _ dx)
end
end K18
namespace Tr
open PySem PySem.Spec PyProof.Rows L2 Evl Fx Fr Dt
theorem lt_div (x : Rat) {p q : Int} (hq : 0 < q) : decide (x.num * q < p * (x.den : Int)) = decide (x < Rat.divInt p q) := by
  rw [decide_eq_decide, Rat.lt_iff]
  have h1 : p * ((Rat.divInt p q).den : Int) = (Rat.divInt p q).num * q := by
    have := Rat.num_divInt_den (Rat.divInt p q)
    exact ((Rat.divInt_eq_divInt_iff (by omega) (den_ne _)).mp this.symm)
  generalize hn : (Rat.divInt p q).num = a at h1 ⊢
  have hd : (0 : Int) < ((Rat.divInt p q).den : Int) := by have := (Rat.divInt p q).den_pos; omega
  generalize ((Rat.divInt p q).den : Int) = b at h1 hd ⊢
  have e1 : x.num * q < p * (x.den : Int) ↔ x.num * q * b < p * (x.den : Int) * b := (Int.mul_lt_mul_right hd).symm
  have e2 : x.num * b < a * (x.den : Int) ↔ x.num * b * q < a * (x.den : Int) * q := (Int.mul_lt_mul_right hq).symm
  rw [e1, e2]
  have f1 : p * (x.den : Int) * b = a * (x.den : Int) * q := by grind
  have f2 : x.num * q * b = x.num * b * q := by grind
  rw [f1, f2]
theorem own_if {own : Rat} (h0 : 0 ≤ own) (h1 : own < 1) (c : Bool) : decide (own < if c = true then (1 : Rat) else 0) = c := by
  cases c with
  | true => exact decide_eq_true h1
  | false => exact decide_eq_false (fun h => by have h' : own < 0 := h; grind)
/-- a draw -/
def Lot (x : Rat) : Prop := Bd 60 x ∧ 0 ≤ x ∧ x < 1
theorem word_any (x : Pl) : ([("own" : Str), "shared"].any fun y => y == x.word) = true → (∃ p q, x = .own p q) ∨ ∃ p q, x = .shared p q := fun h => by
  cases x with
  | own p q => exact .inl ⟨p, q, rfl⟩
  | shared p q => exact .inr ⟨p, q, rfl⟩
  | caller => exact absurd h (by decide +kernel)
  | bad => exact absurd h (by decide +kernel)
  | late => exact absurd h (by decide +kernel)
  | never => exact absurd h (by decide +kernel)
theorem word_none (x : Pl) : ([("own" : Str), "shared"].any fun y => y == x.word) = false → (∀ p q, x ≠ .own p q) ∧ ∀ p q, x ≠ .shared p q := fun h => by
  cases x with
  | own p q => exact absurd h (by have : ([("own" : Str), "shared"].any fun y => y == ("own" : Str)) = true := by decide +kernel
                                  show ¬ ([("own" : Str), "shared"].any fun y => y == ("own" : Str)) = false
                                  rw [this]
                                  exact fun z => Bool.noConfusion z)
  | shared p q => exact absurd h (by have : ([("own" : Str), "shared"].any fun y => y == ("shared" : Str)) = true := by decide +kernel
                                     show ¬ ([("own" : Str), "shared"].any fun y => y == ("shared" : Str)) = false
                                     rw [this]
                                     exact fun z => Bool.noConfusion z)
  | _ => exact ⟨nofun, nofun⟩
theorem lsays_eq (x : Pl) (h : ∀ p q, x ≠ .own p q) (h2 : ∀ p q, x ≠ .shared p q) (bad late called : Bool) (draw : Rat) (hc : (x.word == ("caller" : Str)) = false) : (((x.word == ("bad" : Str)) && bad || ((x.word == ("late" : Str)) && late))) = x.says bad late called draw := by
  have e := says_eq x h bad late called draw
  have s : (x.word == ("shared" : Str)) = false := by
    cases hs : (x.word == ("shared" : Str)) with
    | false => rfl
    | true =>
      obtain ⟨p, q, rfl⟩ := word_shared hs
      exact absurd rfl (h2 p q)
  rw [s, hc, Bool.false_and, Bool.false_and, Bool.false_or, Bool.false_or] at e
  exact e
theorem lsays_caller {x : Pl} (hc : (x.word == ("caller" : Str)) = true) (bad late called : Bool) (draw : Rat) : x.says bad late called draw = called := by
  cases x with
  | caller => rfl
  | own p q => exact absurd hc (by have : (("own" : Str) == ("caller" : Str)) = false := by decide +kernel
                                   show ¬ (("own" : Str) == ("caller" : Str)) = true
                                   rw [this]
                                   exact Bool.false_ne_true)
  | shared p q => exact absurd hc (by have : (("shared" : Str) == ("caller" : Str)) = false := by decide +kernel
                                      show ¬ (("shared" : Str) == ("caller" : Str)) = true
                                      rw [this]
                                      exact Bool.false_ne_true)
  | bad => exact absurd hc (by decide +kernel)
  | late => exact absurd hc (by decide +kernel)
  | never => exact absurd hc (by decide +kernel)
end Tr
namespace K18
open PySem PySem.Spec PyProof.Rows L2 Evl Fx Fr Dt Tr
theorem scSays : FnScope ["_law_act", "_law_mark", "_law_has_bad", "_law_is_called", "_law_lot", "_law_own", "_law_one"] ["_law_act", "_law_mark", "_law_has_bad", "_law_is_called", "_law_lot", "_law_own"] (defScope (topS 36)) := ⟨rfl, rfl, rfl, by decide +kernel, rfl, by decide +kernel, by decide +kernel⟩
section
variable {P : Program} {w : World} {K : PySem.W.Frag} {mg : Str → Option Value} {base : Heap} {f f2 f3 : Addr} {fd fd2 fd3 : FuncData}
def spSays (K : PySem.W.Frag) : Sp := spD K fun ds d => ∃ (x : Pl) (mark : Int) (hb called : Bool) (lot own : Rat), x.Ok ∧ Lot lot ∧ Lot own ∧ ds = [x.D, .int mark, .bool hb, .bool called, frD lot, frD own] ∧ d = .bool (decide (own < x.chance (mark == 1) hb called lot))
theorem ok_says (F : Fun K "_law_says" "_law_says" (topS 36) f fd) : FnOk P w K mg base CX0 1 f fd ["_law_act", "_law_mark", "_law_has_bad", "_law_is_called", "_law_lot", "_law_own"] (spSays K) := by
  refine F.ok scSays (fun vs H Q E h => ?_) (fun cdv A outer s H vs Q E hr h => ?_)
  · obtain ⟨ds, es, hd, ⟨x, mark, hb, called, lot, own, _, _, _, rfl, _⟩, _⟩ := h
    exact dps_len hd
  · obtain ⟨ds, es, hd, ⟨x, mark, hb, called, lot, own, hx, hlot, hown, rfl, rfl⟩, q⟩ := h
    obtain ⟨v1, vs, rfl, p1, hd⟩ := dps_uncons hd
    obtain ⟨v2, vs, rfl, p2, hd⟩ := dps_uncons hd
    obtain ⟨v3, vs, rfl, p3, hd⟩ := dps_uncons hd
    obtain ⟨v4, vs, rfl, p4, hd⟩ := dps_uncons hd
    obtain ⟨v5, vs, rfl, p5, hd⟩ := dps_uncons hd
    obtain ⟨v6, vs, rfl, p6, hd⟩ := dps_uncons hd
    obtain rfl := dps_none hd
    cases p2
    cases p3
    cases p4
    refine ⟨_, pss_cons (ps_if (pt_cmpR op_in_seq (pe_ix ix_tup (pv 0) pe_int (fun _ _ => rfl)) (pe_tup (pa_cons pe_str (pa_cons pe_str pa_nil))) (by rfl))
        (pss_cons (ps_set (i := 6) scSays.nd rfl (.inl rfl) (pe_ifExp (pt_cmpR (op_eqD hr.units) (pe_ix ix_tup (pv 0) pe_int (fun _ _ => rfl)) pe_str (nomark _)) (pv 5) (pv 4)))
        (pss_one (ps_ret (pe_cmpR op_lt (pe_op op_mulW (pe_ix ix_tup (pv 6) pe_int (fun _ _ => rfl)) (pe_ix ix_tup (pv 0) pe_int (fun _ _ => rfl))) (pe_op op_mulW (pe_ix ix_tup (pv 0) pe_int (fun _ _ => rfl)) (pe_ix ix_tup (pv 6) pe_int (fun _ _ => rfl))) (nomark _))))) pss_nil)
      (pss_cons (ps_if (pt_cmpR (op_eqD hr.units) (pe_ix ix_tup (pv 0) pe_int (fun _ _ => rfl)) pe_str (nomark _)) (pss_one (ps_ret (pv 3))) pss_nil)
      (pss_one (ps_ret (pe_or (pe_and (pe_cmpR (op_eqD hr.units) (pe_ix ix_tup (pv 0) pe_int (fun _ _ => rfl)) pe_str (nomark _)) (pe_one (pe_cmpR (op_eqD hr.units) (pv 1) pe_int (nomark _)))) (pe_one (pe_and (pe_cmpR (op_eqD hr.units) (pe_ix ix_tup (pv 0) pe_int (fun _ _ => rfl)) pe_str (nomark _)) (pe_one (pv 2)))))))), ?_⟩
    have rr : ∀ {s6 : Option V} {H2 : Hp}, Ex H H2 → EvR F0 (tVar 0) [some v1, some (.int mark), some (.bl hb), some (.bl called), some v5, some v6, s6] H2 0 (IsD K x.D) := fun e => rd_var F0.ok (n := 0) F0.g rfl (dp_ex e _ _ p1) x.flat
    have rw : ∀ {s6 : Option V} {H2 : Hp}, Ex H H2 → EvR F0 (tOp (rIxT K) (tVar 0) (tC (.int 0))) [some v1, some (.int mark), some (.bl hb), some (.bl called), some v5, some v6, s6] H2 0 (IsD K (.str x.word)) := fun e => rd_ix (ka := 0) (kb := 0) (i := 0) F0.ok (rr e) rv_c 0 (ixN_nat (j := 0) (Nat.succ_pos _)) rfl x.flat
    have cmp : ∀ {s6 : Option V} {H2 : Hp} {z : Str}, Ex H H2 → PyData.strOk z = true → EvR F0 (tOp (rEqD K) (tOp (rIxT K) (tVar 0) (tC (.int 0))) (tC (.str z))) [some v1, some (.int mark), some (.bl hb), some (.bl called), some v5, some v6, s6] H2 0 (fun u _ => u = .bl (x.word == z)) := fun {s6 H2 z} e hz => by
      rw [← str_eqv]
      exact rb_eq (ka := 0) (kb := 0) F0.ok (rw e) rd_str (sh_str (word_ok x)) (sh_str hz)
    refine q_whenR (F := F0) (n := 0) (k := 0) (rt_val (rb_inT (ka := 0) (kb := 0) (ws := ["own", "shared"]) F0.ok (rv_str (K := K) (rw (Ex.refl _))) (rd_tup F0.ok (ra_cons (ka := 0) (kb := 0) F0.ok rd_str (ra_cons (ka := 0) (kb := 0) F0.ok rd_str ra_nil))))) F0.g (Nat.le_refl _) (fun hb1 H1 e1 _ => ?_) fun hb1 H1 e1 _ => ?_
    · replace e1 := F0.ex e1
      have fin : ∀ (one : Rat) (p r : Int) (u : V) (H2 : Hp), (x.more = [.int p, .int r]) → Lot one → (0 < r ∧ p.natAbs < 2 ^ 60 ∧ r.natAbs < 2 ^ 60) → Ex H H2 → Dp K H2 u (frD one) → decide (one < Rat.divInt p r) = decide (own < x.chance (mark == 1) hb called lot) →
          tRet (tOp (rI0 fun i j => V.bl (decide (i < j))) (tOp (rI CMulW fun i j => .int (i * j)) (tOp (rIxT K) (tVar 6) (tC (.int 0))) (tOp (rIxT K) (tVar 0) (tC (.int 2)))) (tOp (rI CMulW fun i j => .int (i * j)) (tOp (rIxT K) (tVar 0) (tC (.int 1))) (tOp (rIxT K) (tVar 6) (tC (.int 1))))) { nx := fun _ H' => Q .non H', rt := Q } [some v1, some (.int mark), some (.bl hb), some (.bl called), some v5, some v6, some u] H2 := fun one p r u H2 hm hone hpr e du he => by
        have r6 : EvR F0 (tVar 6) [some v1, some (.int mark), some (.bl hb), some (.bl called), some v5, some v6, some u] H2 0 (IsD K (frD one)) := rd_var F0.ok (n := 0) F0.g rfl du
        have r0 : EvR F0 (tVar 0) [some v1, some (.int mark), some (.bl hb), some (.bl called), some v5, some v6, some u] H2 0 (IsD K (.tuple [.str x.word, .int p, .int r])) := (rr e).cast (by unfold Pl.D; rw [hm])
        refine s_retR (F := F0) (n := 0) (k := 0) (P := fun z _ => z = .bl (decide (one.num * r < p * (one.den : Int)))) (rv_op (ka := 0) (kb := 0) F0.ok (rv_op (ka := 0) (kb := 0) F0.ok (rv_int (K := K) (rd_ix (ka := 0) (kb := 0) (i := 0) F0.ok r6 rv_c 0 rfl rfl)) (rv_int (K := K) (rd_ix (ka := 0) (kb := 0) (i := 2) F0.ok r0 rv_c 2 rfl rfl)) (fun _ => rv_I (mulW (n := 60) (m := 60) hone.1.1 hpr.2.2 (by decide))))
          (rv_op (ka := 0) (kb := 0) F0.ok (rv_int (K := K) (rd_ix (ka := 0) (kb := 0) (i := 1) F0.ok r0 rv_c 1 rfl rfl)) (rv_int (K := K) (rd_ix (ka := 0) (kb := 0) (i := 1) F0.ok r6 rv_c 1 rfl rfl)) (fun _ => rv_I (mulW (n := 60) (m := 60) hpr.2.1 hone.1.2 (by decide)))) (fun _ => rv_I0)) F0.g (Nat.le_refl _) fun z H3 e3 _ hz => ?_
        subst hz
        rw [lt_div one hpr.1, he]
        exact q _ H3 (e.trans (F0.ex e3)) (.bl _)
      rcases word_any x hb1 with ⟨p, r, rfl⟩ | ⟨p, r, rfl⟩
      · refine q_asgR (F := F0) (n := 0) (k := 0) (P := IsD K (frD own)) (r_if (ka := 0) (kb := 0) (b := true) F0.ok (rt_is (rt_val (cmp e1 (by decide +kernel))) (by show (("own" : Str) == ("own" : Str)) = true; decide +kernel)) (fun _ => rd_var F0.ok (n := 0) F0.g rfl (dp_ex e1 _ _ p6)) fun h => Bool.noConfusion h) F0.g (Nat.le_refl _) fun u H2 e2 _ du => ?_
        exact fin own p r u H2 rfl hown hx (e1.trans (F0.ex e2)) du rfl
      · refine q_asgR (F := F0) (n := 0) (k := 0) (P := IsD K (frD lot)) (r_if (ka := 0) (kb := 0) (b := false) F0.ok (rt_is (rt_val (cmp e1 (by decide +kernel))) (by show (("shared" : Str) == ("own" : Str)) = false; decide +kernel)) (fun h => Bool.noConfusion h) fun _ => rd_var F0.ok (n := 0) F0.g rfl (dp_ex e1 _ _ p5)) F0.g (Nat.le_refl _) fun u H2 e2 _ du => ?_
        exact fin lot p r u H2 rfl hlot hx (e1.trans (F0.ex e2)) du (own_if hown.2.1 hown.2.2 _).symm
    · obtain ⟨no, ns⟩ := word_none x hb1
      replace e1 := F0.ex e1
      have hch : decide (own < x.chance (mark == 1) hb called lot) = x.says (mark == 1) hb called lot := by
        rw [chance_eq x no]
        exact own_if hown.2.1 hown.2.2 _
      rw [hch] at q
      refine q_whenR (F := F0) (n := 0) (k := 0) (rt_val (cmp (z := "caller") e1 (by decide +kernel))) F0.g (Nat.le_refl _) (fun hc H2 e2 _ => ?_) fun hc H2 e2 _ => ?_
      · rw [lsays_caller hc] at q
        exact s_ret (v := .bl called) (ev_var rfl) fun H3 e3 => q _ H3 ((e1.trans (F0.ex e2)).trans e3) (.bl _)
      · have e12 := e1.trans (F0.ex e2)
        rw [← lsays_eq x no ns _ _ called lot hc] at q
        refine s_retR (F := F0) (n := 0) (k := 0) (rb_or (ka := 0) (kb := 0) F0.ok (rb_and (ka := 0) (kb := 0) (b := mark == 1) F0.ok (cmp (z := "bad") e12 (by decide +kernel)) fun _ => EvR.imp (rb_eq (K := K) (ka := 0) (kb := 0) F0.ok (rd_ofI (rv_var rfl)) rd_int (sh_int mark) (sh_int 1)) fun _ u _ _ _ hu => by rw [hu, int_eqv]) fun _ => rb_and (ka := 0) (kb := 0) (b := hb) F0.ok (cmp (z := "late") e12 (by decide +kernel)) fun _ => rv_var rfl) F0.g (Nat.le_refl _) fun u H3 e3 _ hu => ?_
        subst hu
        exact q _ H3 (e12.trans (F0.ex e3)) (.bl _)
end
end K18
/-! ### zip(a list, a tuple) -/
namespace DtZ
open PySem PySem.Spec PyProof.Rows L2
abbrev zh1 (h : Heap) (l1 : Addr) : Heap := h.push { cls := .type "list_iterator", data := .fields #[.ref l1, .int 0 0] }
abbrev zh2 (h : Heap) (l1 l2 : Addr) : Heap := (zh1 h l1).push { cls := .type "tuple_iterator", data := .fields #[.ref l2, .int 0 0] }
abbrev zh3 (h : Heap) (l1 l2 : Addr) : Heap := (zh2 h l1 l2).push { cls := .type "tuple", data := .seq #[.ref h.objs.size, .ref (zh1 h l1).objs.size] }
abbrev zh4 (h : Heap) (l1 l2 : Addr) : Heap := (zh3 h l1 l2).push { cls := .type "tuple", data := .seq #[.none, .none] }
abbrev zh5 (h : Heap) (l1 l2 : Addr) : Heap := (zh4 h l1 l2).push { cls := .type "zip", data := .fields #[.none, .bool false, .bool false, .ref (zh2 h l1 l2).objs.size, .ref (zh3 h l1 l2).objs.size] }
theorem meets_zipM_new (l1 l2 : Addr) (xs ys : Array Value) :
    Meets (Builtin.«zip.__new__» ⟨[.type "zip", .ref l1, .ref l2], []⟩) (fun _ R s => s.heap.IsList l1 xs ∧ s.heap.IsTuple l2 ys ∧
      R (.ok (.ret (.ref (zh4 s.heap l1 l2).objs.size))) { s with heap := zh5 s.heap l1 l2 }) :=
  .of_wp fun prog w A R s h => by
    obtain ⟨hp, g, d, tk, os⟩ := s; obtain ⟨hl1, hl2, h⟩ := h
    have hsub := sub_zip
    have hL1 : Heap.IsList (Shared.heap ⟨hp, g, d, tk, os⟩) l1 xs := hl1
    have hL2 : Heap.IsTuple (Shared.heap ⟨hp.push { cls := .type "list_iterator", data := .fields #[.ref l1, .int 0 0] }, g, d, tk, os⟩) l2 ys := Heap.IsTuple.push hl2 _
    wp_walk using wpAny_pyIter_list hL1, wpAny_pyIter_tuple hL2
    exact ⟨_, rfl, h⟩
section
variable {prog : Program} {w : World} {A : Around} {E : Value → Shared → Prop} {s : Shared}
theorem call_zipM {l1 l2 : Addr} {xs ys : Array Value} {Q : Value → Shared → Prop} (hl1 : s.heap.IsList l1 xs) (hl2 : s.heap.IsTuple l2 ys)
    (h : ∀ h', IsZip h' (s.heap.objs.size + 4) (s.heap.objs.size + 2) (s.heap.objs.size + 3) .none → IsPair h' (s.heap.objs.size + 2) (.ref s.heap.objs.size) (.ref (s.heap.objs.size + 1)) →
      IsPair h' (s.heap.objs.size + 3) .none .none → h'.IsListIter s.heap.objs.size l1 0 → h'.IsTupleIter (s.heap.objs.size + 1) l2 0 → h'.objs.size = s.heap.objs.size + 5 →
      (∀ c o, s.heap.get? c = some o → h'.get? c = some o) → Q (.ref (s.heap.objs.size + 4)) { s with heap := h' }) :
    wpAny (model prog w) A (call (.type "zip") [.ref l1, .ref l2]) Q E s := by
  refine callType_new F.called_zip (by decide) (F.typeCall_zip_2 _ _) (F.newCall_zip_2 _ _) (fun obj => F.args_object_init_3 obj _ _) F.entry_zip_new
    (meets_zipM_new l1 l2 xs ys) ⟨hl1, hl2, ?_⟩
  have z1 : (zh1 s.heap l1).objs.size = s.heap.objs.size + 1 := Heap.size_push ..
  have z2 : (zh2 s.heap l1 l2).objs.size = s.heap.objs.size + 2 := by rw [Heap.size_push, z1]
  have z3 : (zh3 s.heap l1 l2).objs.size = s.heap.objs.size + 3 := by rw [Heap.size_push, z2]
  have z4 : (zh4 s.heap l1 l2).objs.size = s.heap.objs.size + 4 := by rw [Heap.size_push, z3]
  have z5 : (zh5 s.heap l1 l2).objs.size = s.heap.objs.size + 5 := by rw [Heap.size_push, z4]
  have g5 : (zh5 s.heap l1 l2).get? (zh4 s.heap l1 l2).objs.size = some _ := Heap.get?_push_size _ rfl
  have g4 : (zh5 s.heap l1 l2).get? (zh3 s.heap l1 l2).objs.size = some _ := Heap.get?_push_of_some _ (Heap.get?_push_size _ rfl)
  have g3 : (zh5 s.heap l1 l2).get? (zh2 s.heap l1 l2).objs.size = some _ := Heap.get?_push_of_some _ (Heap.get?_push_of_some _ (Heap.get?_push_size _ rfl))
  have g2 : (zh5 s.heap l1 l2).get? (zh1 s.heap l1).objs.size = some _ := Heap.get?_push_of_some _ (Heap.get?_push_of_some _ (Heap.get?_push_of_some _ (Heap.get?_push_size _ rfl)))
  have g1 : (zh5 s.heap l1 l2).get? s.heap.objs.size = some _ := Heap.get?_push_of_some _ (Heap.get?_push_of_some _ (Heap.get?_push_of_some _ (Heap.get?_push_of_some _ (Heap.get?_push_size _ rfl))))
  show _ ∧ _
  rw [z2, z3, z4] at g5
  rw [z1, z2] at g3
  rw [z3] at g4
  rw [z1] at g2
  rw [z4]
  exact ⟨⟨_, g5, rfl⟩, h _ g5 g3 g4 ⟨_, g1, rfl, rfl⟩ ⟨_, g2, rfl, rfl⟩ z5 fun c o x =>
    Heap.get?_push_of_some _ (Heap.get?_push_of_some _ (Heap.get?_push_of_some _ (Heap.get?_push_of_some _ (Heap.get?_push_of_some _ x))))⟩
end
theorem nm (c x y : Addr) (h1 : c ≠ x) (h2 : c ≠ y) : c ∉ [x, y] := fun h => by
  rcases List.mem_cons.mp h with h | h
  · exact h1 h
  · rcases List.mem_cons.mp h with h | h
    · exact h2 h
    · cases h
theorem sepM (N a b : Nat) (la : a < N) (lb : b < N) : ZipSep2 (N + 4) (N + 2) (N + 3) N (N + 1) [N, a] [N + 1, b] where
  TIz := by refine PySem.W.neN ?_; omega
  TOz := by refine PySem.W.neN ?_; omega
  TITO := by refine PySem.W.neN ?_; omega
  TIi1 := by refine PySem.W.neN ?_; omega
  mem1 := List.mem_cons_self ..
  zf1 := nm _ _ _ (by refine PySem.W.neN ?_; omega) (by refine PySem.W.neN ?_; omega)
  Tf1 := nm _ _ _ (by refine PySem.W.neN ?_; omega) (by refine PySem.W.neN ?_; omega)
  TIi2 := by refine PySem.W.neN ?_; omega
  mem2 := List.mem_cons_self ..
  zf2 := nm _ _ _ (by refine PySem.W.neN ?_; omega) (by refine PySem.W.neN ?_; omega)
  Tf2 := nm _ _ _ (by refine PySem.W.neN ?_; omega) (by refine PySem.W.neN ?_; omega)
  sep1_2 := nm _ _ _ (by refine PySem.W.neN ?_; omega) (by refine PySem.W.neN ?_; omega)
  sep2_1 := nm _ _ _ (by refine PySem.W.neN ?_; omega) (by refine PySem.W.neN ?_; omega)
def ItzM (K : PySem.W.Frag) (a b : Addr) : It :=
  ⟨fun i H => ∃ (xs ys : List V) (x y : V), SqL K H a xs ∧ SqT K H b ys ∧ xs[i]? = some x ∧ ys[i]? = some y,
    fun i H v H' => ∃ T x y, v = .ref T ∧ H T = none ∧ H' = upd H T (.tup [x, y]) ∧ (∀ xs, SqL K H a xs → xs[i]? = some x) ∧ ∀ ys, SqT K H b ys → ys[i]? = some y,
    fun i H => ∃ xs ys : List V, SqL K H a xs ∧ SqT K H b ys ∧ xs.length = i ∧ ys.length = i⟩
theorem turn_zipM {P : Program} {w : World} {K : PySem.W.Frag} {elts : List Expr} {kk : Nat} {tpos : Pos} {a b z TI TO i1 i2 : Addr} (D : ZipApart z TI TO i1 i2 a b) (S : ZipSep2 z TI TO i1 i2 [i1, a] [i2, b]) (ha : a ≠ i1) (hb : b ≠ i2) :
    Turn P w K (.Tuple elts kk tpos) (ItzM K a b) [z, TI, TO, i1, i2] z (fun i h => IsZip h z TI TO .none ∧ IsPair h TI (.ref i1) (.ref i2) ∧ (∃ x y, IsPair h TO x y) ∧ h.IsListIter i1 a i ∧ h.IsTupleIter i2 b i) where
  mem := by simp
  obj := fun i h st c hc => by
    obtain ⟨hz, hTI, ⟨x, y, hTO⟩, ⟨o1, e1, _, d1⟩, ⟨o2, e2, _, d2⟩⟩ := st
    have e' : c = z ∨ c = TI ∨ c = TO ∨ c = i1 ∨ c = i2 := by simpa using hc
    rcases e' with q | q | q | q | q
    · rw [q]; exact ⟨_, hz, fun v q => nomatch q⟩
    · rw [q]; exact ⟨_, hTI, fun v q => nomatch q⟩
    · rw [q]; exact ⟨_, hTO, fun v q => nomatch q⟩
    · rw [q]; exact ⟨o1, e1, fun v q => by rw [d1] at q; cases q⟩
    · rw [q]; exact ⟨o2, e2, fun v q => by rw [d2] at q; cases q⟩
  keep := fun i h h' st k => by
    obtain ⟨hz, hTI, ⟨x, y, hTO⟩, h1, h2⟩ := st
    exact ⟨k z (by simp) _ hz, k TI (by simp) _ hTI, ⟨x, y, k TO (by simp) _ hTO⟩, h1.at fun o q => k i1 (by simp) o q, h2.at fun o q => k i2 (by simp) o q⟩
  item := by
    intro X hP hw hK hc i pins s σ H E I hf st hg
    subst hP hw hK
    obtain ⟨hz, hTI, ⟨x0, y0, hTO⟩, h1, h2⟩ := st
    obtain ⟨xs, ys, x, y, hqx, hqy, hx, hy⟩ := hg
    obtain ⟨its, rv, p, _⟩ := I.list hqx
    obtain ⟨its2, rv2, p2, _⟩ := I.tuple hqy
    obtain ⟨u, hu, ru⟩ := rv.get hx
    obtain ⟨u2, hu2, ru2⟩ := rv2.get hy
    have hzl : z < s.heap.objs.size := Heap.lt_size hz
    have hh : X.A.in1.handled = none := I.ok.hd hc
    have l1 : i < its.toArray.size := by rw [List.size_toArray]; exact (List.getElem?_eq_some_iff.mp hu).1
    have l2 : i < its2.toArray.size := by rw [List.size_toArray]; exact (List.getElem?_eq_some_iff.mp hu2).1
    refine wpAny_pyNext_zipD2_item S (Draws.list hh i1 a ha its.toArray) (Draws.tuple hh i2 b hb its2.toArray) hz hTI hTO ⟨h1, p.isList⟩ ⟨h2, p2⟩ l1 l2 fun y1 y2 h' tk hy1 hy2 z' TO' h1' h2' hT hsz hk => ?_
    have e1 : y1 = u := by
      have q : its.toArray[i]? = some y1 := hy1
      rw [List.getElem?_toArray, hu] at q
      exact (Option.some.inj q).symm
    have e2 : y2 = u2 := by
      have q : its2.toArray[i]? = some y2 := hy2
      rw [List.getElem?_toArray, hu2] at q
      exact (Option.some.inj q).symm
    subst e1 e2
    refine ⟨_, rfl, wpAny_letOwnedTupleGo_zip (s := { s with heap := h', toks := tk }) z' fun h'' z'' sb => ?_⟩
    have hT2 : h''.get? s.heap.objs.size = some { cls := .type "tuple", data := .seq #[y1, y2] } := (sb.2 _ (Nat.ne_of_gt hzl)).trans hT
    have new : ObjOk X.prog X.w (upd H s.heap.objs.size (.tup [x, y])) h'' s.heap.objs.size (.tup [x, y]) :=
      ⟨by show 2 ≤ sizeLine; decide, [y1, y2], .cons ru (.cons ru2 .nil), ⟨_, hT2, rfl, _, rfl⟩⟩
    have I1 : Inv X pins σ (upd H s.heap.objs.size (.tup [x, y])) { s with heap := h'', toks := tk } :=
      I.turnedNew (t' := tk) (ch := [z, TI, TO, i1, i2]) (fun c o hb q => (sb.2 c (fun q' => hb (by simp [q']))).trans (hk c o (fun q' => hb (by simp [q'])) (fun q' => hb (by simp [q'])) (fun q' => hb (by simp [q'])) (fun q' => hb (by simp [q'])) q)) hf (Nat.le_refl _) new
    refine ⟨.ref s.heap.objs.size, _, I1, rfl, ⟨_, x, y, rfl, I.hok.fresh (Nat.le_refl _), rfl, fun l hl => by rw [I.list_inj hl hqx]; exact hx, fun l hl => by rw [I.tuple_inj hl hqy]; exact hy⟩, ⟨z'', ?_, ⟨y1, y2, ?_⟩, ?_, ?_⟩, fun c hcm => ?_⟩
    · exact (sb.2 _ D.TIz).trans (hk _ _ D.TIz D.TITO D.TIi1 D.TIi2 hTI)
    · exact (sb.2 _ D.TOz).trans TO'
    · exact h1'.1.at fun o q => (sb.2 _ D.i1z).trans q
    · exact h2'.1.at fun o q => (sb.2 _ D.i2z).trans q
    · have hlt : c < s.heap.objs.size := by
        have e' : c = z ∨ c = TI ∨ c = TO ∨ c = i1 ∨ c = i2 := by simpa using hcm
        rcases e' with q | q | q | q | q
        · rw [q]; exact hzl
        · rw [q]; exact Heap.lt_size hTI
        · rw [q]; exact Heap.lt_size hTO
        · rw [q]; obtain ⟨_, e1, _⟩ := h1; exact Heap.lt_size e1
        · rw [q]; obtain ⟨_, e2, _⟩ := h2; exact Heap.lt_size e2
      rw [upd_ne (Nat.ne_of_lt hlt)]
      exact (hf c hcm).1
  done := by
    intro X hP hw hK hc i pins s σ H E I hf st hg
    subst hP hw hK
    obtain ⟨hz, hTI, ⟨x0, y0, hTO⟩, h1, h2⟩ := st
    obtain ⟨xs, ys, hqx, hqy, hend, hend2⟩ := hg
    obtain ⟨its, rv, p, _⟩ := I.list hqx
    obtain ⟨its2, rv2, p2, _⟩ := I.tuple hqy
    have l1 := rv.length
    have l2 := rv2.length
    have hh : X.A.in1.handled = none := I.ok.hd hc
    have n1 : i = its.toArray.size := by rw [List.size_toArray]; omega
    have n2 : i = its2.toArray.size := by rw [List.size_toArray]; omega
    exact wpAny_pyNext_zipD2_end S (Draws.list hh i1 a ha its.toArray) (Draws.tuple hh i2 b hb its2.toArray) hz hTI hTO ⟨h1, p.isList⟩ ⟨h2, p2⟩ (Nat.le_of_eq n1) (Nat.le_of_eq n2) (.inl n1) fun h' tk hk => ⟨rfl, I.turnedL (t' := tk) (ch := [z, TI, TO, i1, i2]) (fun c o hb q =>
      hk c o (fun q' => hb (by simp [q'])) (fun q' => hb (by simp [q'])) (fun q' => hb (by simp [q'])) (fun q' => hb (by simp [q'])) q) hf⟩
  self := fun A i s Q E st h => wpAny_pyIter_zip st.1 h
def iZipM (K : PySem.W.Frag) (ta : TA) : TI := fun σ H R => ta σ H fun vs H1 => ∃ a b xs ys, vs = [.ref a, .ref b] ∧ SqL K H1 a xs ∧ SqT K H1 b ys ∧ R (ItzM K a b) H1
theorem pi_zipM {X : Cx} {e e2 : Expr} {ta : TA} {p pos tpos : Pos} {elts : List Expr} {kk : Nat} (hg : Gl X "zip") (hm : X.mg "zip" = none) (ha : PA X [e, e2] ta)
    (hs : starEach [e, e2] X.env = (false, eval e X.env) :: starEach [e2] X.env := by rfl) (hpl : (backTo pos (starEach [e2] X.env)).any (·.1) = false := by rfl) :
    PI X (.Tuple elts kk tpos) (.Call (.Name "zip" p) [e, e2] [] pos) (iZipM X.K ta) := by
  refine ⟨fun pins s σ H R I h => ?_⟩
  refine Call_ (ld_blt I hg hm PyProof.Rows.boot_zip (PyProof.Rows.callWith_type1 (thn (ha.run pos pins s σ H _ I h) fun us s1 ⟨vs, H1, I1, r1, q1⟩ => ?_) hs hpl))
  obtain ⟨a, b, xs, ys, ex, hqx, hqy, q⟩ := q1
  subst ex
  cases r1 with
  | cons r rr =>
    cases rr with
    | cons r' rr =>
      cases rr
      cases r
      cases r'
      have fresh5 : ∀ c, c ∈ [s1.heap.objs.size + 4, s1.heap.objs.size + 2, s1.heap.objs.size + 3, s1.heap.objs.size, s1.heap.objs.size + 1] → FpOk X pins H1 c := fun c hcm => by
        have e' : c = s1.heap.objs.size + 4 ∨ c = s1.heap.objs.size + 2 ∨ c = s1.heap.objs.size + 3 ∨ c = s1.heap.objs.size ∨ c = s1.heap.objs.size + 1 := by simpa using hcm
        have hle : s1.heap.objs.size ≤ c := by
          rcases e' with z | z | z | z | z
          · rw [z]; exact Nat.le_add_right _ _
          · rw [z]; exact Nat.le_add_right _ _
          · rw [z]; exact Nat.le_add_right _ _
          · rw [z]; exact Nat.le_refl _
          · rw [z]; exact Nat.le_add_right _ _
        exact I1.fpOk hle (I1.hok.fresh hle)
      obtain ⟨its, rv, p1, _⟩ := I1.list hqx
      obtain ⟨its2, rv2, p2, _⟩ := I1.tuple hqy
      have la : a < s1.heap.objs.size := p1.lt
      have lb : b < s1.heap.objs.size := by
        obtain ⟨o2, ho2, _⟩ := id p2
        exact Heap.lt_size ho2
      generalize hN : s1.heap.objs.size = N at la lb fresh5
      have S := sepM N a b la lb
      refine call_zipM p1.isList p2 fun h' hz hTI hTO h1 h2 hsz hk => wpAny_pyIter_zip hz ?_
      rw [hN] at hz hTI hTO h1 h2 ⊢
      have I2 : Inv X pins σ H1 { s1 with heap := h' } := I1.kept (t' := s1.toks) hk
      exact ⟨N + 4, [N + 4, N + 2, N + 3, N, N + 1], _, _, H1, rfl, I2, turn_zipM (PySem.W.ktu_apart N a b la lb) S (Nat.ne_of_lt la) (Nat.ne_of_lt (Nat.lt_succ_of_lt lb)), ⟨hz, hTI, ⟨_, _, hTO⟩, h1, h2⟩, fresh5, q⟩
end DtZ
namespace Dt
open PySem PySem.Spec PyProof.Rows L2 Evl Fx Tr
section
variable {F : Fd} {K : PySem.W.Frag} {te ta tb tl : TE} {tr : TA} {tt tu : TT} {g : TG} {σ : L2.St} {H H' H1 : Hp} {d d' : PyData} {ds es : List PyData} {n n0 k ka kb kt ke i : Nat} {v : V} {Dl : Addr}
/-- list(t) -/
theorem rl_list (o : F.Ok) (h : EvR F te σ H k (IsD K (.tuple ds))) : EvR F (tCB (rListS K) (tCons te tNil)) σ H k (IsL F K ds) := fun n H1 hn g e Q q => h n H1 hn g e _ fun v H2 e2 g2 hd => by
  cases hd with
  | @tup a xs _ ha hx => exact ⟨a, xs, rfl, .inr ha, fun l hl => q _ _ (e2.trans (Kx.ex (Ex.new hl))) (o.ex g2 (Ex.new hl)) ⟨l, xs, rfl, o.new g2 hl, upd_same, dps_ex (Ex.new hl) _ _ hx⟩⟩
theorem call_listS {X : Cx} : CallR X (.type "list") (rListS X.K) := call_list_of
theorem valV_merge : ∀ (more kvs : List (Key × V)) (k : Key), (more.map Prod.fst).Nodup → valV (mergeK kvs more) k = (valV more k).or (valV kvs k)
  | [], kvs, k, _ => rfl
  | p :: r, kvs, k, h => by
    rw [List.map_cons, List.nodup_cons] at h
    show valV (mergeK (putK kvs p.1 p.2) r) k = _
    rw [valV_merge r _ k h.2, valV_put]
    by_cases e : p.1 = k
    · have hn : valV r k = none := by
        cases z : valV r k with
        | none => rfl
        | some u =>
          exfalso
          unfold valV at z
          obtain ⟨q, hq, _⟩ := Option.map_eq_some_iff.mp z
          have h1 := List.find?_some hq
          have h2 := List.mem_of_find?_eq_some hq
          exact h.1 (List.mem_map.mpr ⟨q, h2, by rw [e]; exact of_decide_eq_true h1⟩)
      rw [hn, valV_pos e, if_pos e.symm]
      rfl
    · rw [valV_neg e, if_neg (fun z => e z.symm)]
theorem rows_pairs {K : PySem.W.Frag} {H : Hp} : ∀ {rs : List (Str × Ru)} {xs : List V}, DpAll K H xs (rs.map rowD) → ∃ (ps : List Addr) (kvs : List (Key × V)), xs = ps.map V.ref ∧ Paired (fun p (kv : Key × V) => SqT K H p [kV kv.1, kv.2]) ps kvs ∧ kvs.map Prod.fst = rs.map (fun x => (Sum.inr x.1 : Key)) ∧
    ∀ s i r, RuleAt rs s i r → ∃ u, valV kvs (.inr s) = some u ∧ Dp K H u r.D
  | [], xs, h => by
    cases h
    exact ⟨[], [], rfl, .nil, rfl, fun s i r hr => by simp [RuleAt] at hr⟩
  | x :: rs, xs, h => by
    obtain ⟨v, r, rfl, h1, h2⟩ := dps_uncons h
    obtain ⟨ps, kvs, rfl, hp, hk, hv⟩ := rows_pairs h2
    obtain ⟨a, y1, y2, rfl, ha, d1, d2⟩ := dp_two h1
    cases d1
    refine ⟨a :: ps, (.inr x.1, y2) :: kvs, rfl, .cons ha hp, by rw [List.map_cons, List.map_cons, hk], fun s i r hr => ?_⟩
    obtain ⟨g1, g2⟩ := hr
    cases i with
    | zero =>
      rw [List.getElem?_cons_zero] at g1
      cases g1
      exact ⟨y2, valV_pos rfl, d2⟩
    | succ i =>
      rw [List.getElem?_cons_succ] at g1
      have hne : x.1 ≠ s := g2 0 x (Nat.succ_pos i) List.getElem?_cons_zero
      obtain ⟨u, hu, du⟩ := hv s i r ⟨g1, fun j y hj hy => g2 (j + 1) y (by omega) (by rw [List.getElem?_cons_succ]; exact hy)⟩
      exact ⟨u, by rw [valV_neg (fun z => hne (Sum.inr.inj z))]; exact hu, du⟩
def rDictP (K : PySem.W.Frag) : List V → Hp → VK → Prop := fun xs H Q => ∃ (a : Addr) (ps : List Addr) (kvs : List (Key × V)), xs = [.ref a] ∧ SqL K H a (ps.map V.ref) ∧ Paired (fun p kv => SqT K H p [kV kv.1, kv.2]) ps kvs ∧ ∀ p, H p = none → Q (.ref p) (upd H p (.dK (mergeK [] kvs)))
theorem call_dictPK {X : Cx} (hc : X.calm = true) : CallR X (.type "dict") (rDictP X.K) := call_dictP hc
/-- a dict of the rules -/
def IsTab (F : Fd) (K : PySem.W.Frag) (rs : List (Str × Ru)) : VP := fun v H => ∃ p kvs, v = .ref p ∧ ¬ F.T p ∧ H p = some (.dK kvs) ∧ ∀ s i r, RuleAt rs s i r → ∃ u, valV kvs (.inr s) = some u ∧ Dp K H u r.D
theorem mono_tab {F : Fd} {K : PySem.W.Frag} {rs : List (Str × Ru)} (o : F.Ok) : MonoF F (IsTab F K rs) := fun n v H H' g e ⟨p, kvs, e1, h1, h2, h3⟩ => ⟨p, kvs, e1, h1, e _ _ h2 fun s => h1 (o.sub s), fun s i r hr => by
  obtain ⟨u, hu, du⟩ := h3 s i r hr
  exact ⟨u, hu, mono_d o r.flat n _ _ _ g e du⟩⟩
theorem rt_dict {F : Fd} {K : PySem.W.Frag} {te : TE} {σ : L2.St} {H : Hp} {k : Nat} {rs : List (Str × Ru)} (o : F.Ok) (h : EvR F te σ H k (IsL F K (rs.map rowD))) (nd : (rs.map Prod.fst).Nodup) : EvR F (tCB (rDictP K) (tCons te tNil)) σ H k (IsTab F K rs) := fun n H1 hn g e Q q => h n H1 hn g e _ fun v H2 e2 g2 ⟨a, xs, ev, hT, ha, hx⟩ => by
  obtain ⟨ps, kvs, rfl, hp, hk, hv⟩ := rows_pairs hx
  refine ⟨a, ps, kvs, by rw [ev], sq_of ha, hp, fun p hpn => q _ _ (e2.trans (Kx.ex (Ex.new hpn))) (o.ex g2 (Ex.new hpn)) ⟨p, _, rfl, o.new g2 hpn, upd_same, fun s i r hr => ?_⟩⟩
  obtain ⟨u, hu, du⟩ := hv s i r hr
  refine ⟨u, ?_, dp_ex (Ex.new hpn) _ _ du⟩
  have ndk : (kvs.map Prod.fst).Nodup := by
    rw [hk]
    have : rs.map (fun x => (Sum.inr x.1 : Key)) = (rs.map Prod.fst).map Sum.inr := by rw [List.map_map]; rfl
    rw [this]
    exact List.pairwise_map.mpr (List.Pairwise.imp (fun h e => h (Sum.inr.inj e)) nd)
  rw [valV_merge kvs [] _ ndk, hu]
  rfl
theorem rd_tab {F : Fd} {K : PySem.W.Frag} {ta tb : TE} {σ : L2.St} {H : Hp} {ka kb : Nat} {rs : List (Str × Ru)} {s : Str} {i : Nat} {r : Ru} (o : F.Ok) (ha : EvR F ta σ H ka (IsTab F K rs)) (hb : EvR F tb σ H kb (fun x _ => x = .str s)) (hr : RuleAt rs s i r) : EvR F (tDGet ta tb) σ H (ka + kb) (IsD K r.D) :=
  fun n H1 hn g e Q q => ha n H1 (by omega) g e _ fun x H2 e2 g2 p => hb (n + ka) H2 (by omega) g2 (e.trans e2) _ fun y H3 e3 g3 p' => by
    obtain ⟨a, kvs, ex, hT, h2, h3⟩ := mono_tab o _ _ _ _ g2 e3 p
    obtain ⟨u, hu, du⟩ := h3 s i r hr
    exact ⟨a, u, ex, .inl ⟨kvs, .inr s, .inl h2, p', hu.symm⟩, q u H3 (e2.trans e3) (by rw [← Nat.add_assoc]; exact g3) du⟩
theorem for_zipM {K : PySem.W.Frag} {a b : Addr} {xs ys : List V} {g : TG} {tb : TS} {D : Ends} {σ : L2.St} {H : Hp} (hl : xs.length = ys.length) (Pv : Nat → L2.St → Hp → Prop) (h0 : Pv 0 σ H) (hq : ∀ i σ H, Pv i σ H → SqL K H a xs ∧ SqT K H b ys)
    (hs : ∀ (i : Nat) (x y : V) (T : Addr) (σ : L2.St) (H : Hp), xs[i]? = some x → ys[i]? = some y → Pv i σ H → H T = none → g (.ref T) σ (upd H T (.tup [x, y])) fun σ2 H2 => tb { D with nx := Pv (i + 1), ct := Pv (i + 1), bk := D.nx } σ2 H2) (hd : ∀ σ H, Pv xs.length σ H → D.nx σ H) :
    ∃ W : Nat → Nat → L2.St → Hp → Prop, (∃ m, W 0 m σ H) ∧ ∀ i m σ H, W i m σ H →
      ((DtZ.ItzM K a b).stop i H ∧ D.nx σ H) ∨ ((DtZ.ItzM K a b).go i H ∧ ∃ N : L2.St → Hp → Prop, (∀ σ' H', N σ' H' → ∃ m', m' < m ∧ W (i + 1) m' σ' H') ∧ ∀ v H', (DtZ.ItzM K a b).yld i H v H' → g v σ H' fun σ2 H2 => tb { D with nx := N, ct := N, bk := D.nx } σ2 H2) := by
  refine ⟨fun i m σ H => m = xs.length - i ∧ i ≤ xs.length ∧ Pv i σ H, ⟨xs.length, rfl, Nat.zero_le _, h0⟩, ?_⟩
  rintro i m σ H ⟨rfl, hi, p⟩
  obtain ⟨qx, qy⟩ := hq i σ H p
  by_cases hlt : i < xs.length
  · have hx : xs[i]? = some xs[i] := List.getElem?_eq_getElem hlt
    have hlt2 : i < ys.length := by omega
    have hy : ys[i]? = some ys[i] := List.getElem?_eq_getElem hlt2
    refine .inr ⟨⟨xs, ys, _, _, qx, qy, hx, hy⟩, Pv (i + 1), fun σ' H' p' => ⟨xs.length - (i + 1), by omega, rfl, hlt, p'⟩, fun v H' y => ?_⟩
    obtain ⟨T, x', y', rfl, hT, rfl, f1, f2⟩ := y
    exact hs i x' y' T σ H (f1 xs qx) (f2 ys qy) p hT
  · have e : i = xs.length := by omega
    subst e
    exact .inl ⟨⟨xs, ys, qx, qy, rfl, hl.symm⟩, hd σ H p⟩
section
variable {F : Fd} {K : PySem.W.Frag} {te ta tb tl : TE} {tr : TA} {tt tu : TT} {g : TG} {σ : L2.St} {H H' H1 : Hp} {d d' : PyData} {ds es : List PyData} {n n0 k ka kb kt ke i : Nat} {v : V} {Dl : Addr}
/-- for .. in zip(xs, t): a list under a name, that stays, and a tuple -/
theorem q_forM {tb tz : TS} {D : Ends} {j : Nat} {p : Addr} {xs : List V} (o : F.Ok) (hj : σ[j]? = some (some (.ref p))) (hp : H p = some (.lst xs)) (hT : ¬ F.T p) (hx : DpAll K H xs ds) (hb : EvR F tl σ H k (IsD K (.tuple es))) (g0 : F.G n H) (hn : n + k ≤ F.N) (fd : flats ds = true) (fe : flats es = true) (hl : ds.length = es.length)
    (Pv : Hp → Nat → L2.St → Hp → Prop) (h0 : ∀ H1, Kx F.S H H1 → F.G (n + k) H1 → Pv H1 0 σ H1) (hk : ∀ H1 i σ' H', Pv H1 i σ' H' → KT K H1 H') (hkl : ∀ H1 i σ' H', H1 p = some (.lst xs) → Pv H1 i σ' H' → H' p = some (.lst xs))
    (hs : ∀ H1 i x y T d d' σ' H', ds[i]? = some d → es[i]? = some d' → Pv H1 i σ' H' → H' T = none → Dp K (upd H' T (.tup [x, y])) x d → Dp K (upd H' T (.tup [x, y])) y d' → g (.ref T) σ' (upd H' T (.tup [x, y])) fun σ2 H2 => tb { D with nx := Pv H1 (i + 1), ct := Pv H1 (i + 1), bk := tz D } σ2 H2)
    (hd : ∀ H1 σ' H', Kx F.S H H1 → Pv H1 ds.length σ' H' → tz D σ' H') : tSeq (tFor (DtZ.iZipM K (tCons (tVar j) (tCons tl tNil))) g tb) tz D σ H := ⟨.ref p, hj, hb n H hn g0 Kx.refl _ fun w H1 e1 g1 p2 => by
  cases p2 with
  | @tup b ys _ hb' hy =>
  have hp1 : H1 p = some (.lst xs) := e1 _ _ hp fun s => hT (o.sub s)
  have hx1 := mono_ds o fd _ _ _ _ g0 e1 hx
  have lx := dps_len hx
  have ly := dps_len hy
  refine ⟨p, b, xs, ys, rfl, sq_of hp1, hb', for_zipM (by omega) (Pv H1) (h0 H1 e1 g1) (fun i σ' H' q => ⟨sq_of (hkl _ _ _ _ hp1 q), hk _ _ _ _ q _ _ hb'⟩) (fun i x y T σ' H' hi hj q hTn => ?_) fun σ' H' q => hd H1 σ' H' e1 (by rw [← lx]; exact q)⟩
  have h1 := (List.getElem?_eq_some_iff.mp hi).1
  have h2 := (List.getElem?_eq_some_iff.mp hj).1
  have hdi : ds[i]? = some ds[i] := List.getElem?_eq_getElem (by omega)
  have hei : es[i]? = some es[i] := List.getElem?_eq_getElem (by omega)
  have kk : KT K H1 (upd H' T (.tup [x, y])) := kt_trans (hk _ _ _ _ q) (kt_ex (Ex.new hTn))
  obtain ⟨u, hu, hdu⟩ := dps_get (dps_kt kk _ _ fd hx1) hdi
  rw [hi] at hu
  cases hu
  obtain ⟨u, hu, hdu'⟩ := dps_get (dps_kt kk _ _ fe hy) hei
  rw [hj] at hu
  cases hu
  exact hs H1 i x y T _ _ σ' H' hdi hei q hTn hdu hdu'⟩
/-- a comprehension over enumerate(t), a tuple -/
theorem lc_enumT {K : PySem.W.Frag} {a : Addr} {xs : List V} {g : TG} {tt : TT} {te : TE} {vs : List Nat} {σ : L2.St} {H1 : Hp} {D : Addr} {Qd : Hp → Prop} (Pv : Nat → Hp → Prop) (h0 : Pv 0 (upd H1 D (.lst []))) (hq : ∀ i H, Pv i H → SqT K H a xs)
    (hs : ∀ (i : Nat) (x : V) (T : Addr) (H : Hp), xs[i]? = some x → Pv i H → H T = none → g (.ref T) (wipe σ vs) (upd H T (.tup [.int (i : Nat), x])) fun σ2 H2 => wipe σ2 vs = wipe σ vs ∧ tt σ2 H2 fun b H3 =>
      if b = true then te σ2 H3 fun y H4 => ∃ acc, H4 D = some (.lst acc) ∧ acc.length < sizeLine ∧ Pv (i + 1) (upd H4 D (.lst (acc ++ [y]))) else Pv (i + 1) H3) (hd : ∀ H, Pv xs.length H → Qd H) :
    ∃ W : Nat → Nat → Hp → Prop, (∃ m, W 0 m (upd H1 D (.lst []))) ∧ ∀ i m H, W i m H →
      ((DtE.IteT K a).stop i H ∧ Qd H) ∨ ((DtE.IteT K a).go i H ∧ ∃ Nx : Hp → Prop, (∀ H', Nx H' → ∃ m', m' < m ∧ W (i + 1) m' H') ∧ ∀ x H', (DtE.IteT K a).yld i H x H' → g x (wipe σ vs) H' fun σ2 H2 => wipe σ2 vs = wipe σ vs ∧ tt σ2 H2 fun b H3 =>
        if b = true then te σ2 H3 fun y H4 => ∃ acc, H4 D = some (.lst acc) ∧ acc.length < sizeLine ∧ Nx (upd H4 D (.lst (acc ++ [y]))) else Nx H3) := by
  refine ⟨fun i m H => m = xs.length - i ∧ i ≤ xs.length ∧ Pv i H, ⟨xs.length, by simp, Nat.zero_le _, h0⟩, ?_⟩
  rintro i m H ⟨rfl, hi, p⟩
  have qx := hq i H p
  by_cases hlt : i < xs.length
  · have hx : xs[i]? = some xs[i] := List.getElem?_eq_getElem hlt
    refine .inr ⟨⟨xs, _, qx, hx⟩, Pv (i + 1), fun H' p' => ⟨xs.length - (i + 1), by omega, rfl, hlt, p'⟩, fun v H' y => ?_⟩
    obtain ⟨T, x', rfl, hT, rfl, f1⟩ := y
    exact hs i x' T H (f1 xs qx) p hT
  · have e : i = xs.length := by omega
    subst e
    exact .inl ⟨⟨xs, qx, rfl⟩, hd H p⟩
theorem r_lcE (o : F.Ok) {vs : List Nat} (f : Nat → Bool) (e : Nat → PyData) (h : EvR F tl σ H k (IsD K (.tuple ds))) (fd : flats ds = true) (hm : ds.length ≤ 40000) (fl : ∀ j, j < ds.length → f j = true → flat (e j) = true)
    (ht : ∀ i x T d n H', ds[i]? = some d → Dp K H' x d → SqT K H' T [.int (i : Nat), x] → F.G n H' → Kx F.S H H' → ∃ σ2, Gv g (.ref T) (wipe σ vs) H' σ2 ∧ wipe σ2 vs = wipe σ vs ∧ EvRT F tt σ2 H' kt (f i) ∧ (f i = true → EvR F te σ2 H' ke (IsD K (e i)))) :
    EvR F (tLc (DtE.iEnumT K (tCons tl tNil)) g tt te vs) σ H (k + ds.length * (kt + ke)) (IsL F K (outs f e ds.length)) := fun n H0 hn g0 e0 Q q => h n H0 (by omega) g0 e0 _ fun v H1 e1 g1 hd => by
  cases hd with
  | @tup a xs _ ha hx =>
  have hl := dps_len hx
  refine ⟨a, xs, rfl, ha, fun Dl hD => lc_enumT (xs := xs) (Cd F K H1 Dl (n + k) (kt + ke) f e) ?_ (fun i H' p => o.kt g1 p.1 _ _ ha) (fun i x T H' hi p hT => ?_) fun H' p => ?_⟩
  · exact ⟨Kx.ex (Ex.new hD), by rw [Nat.zero_mul]; exact o.put g1 hD g1, [], upd_same, .nil⟩
  · have hlt := (List.getElem?_eq_some_iff.mp hi).1
    have hdi : ds[i]? = some ds[i] := List.getElem?_eq_getElem (by omega)
    have p' : Cd F K H1 Dl (n + k) (kt + ke) f e i (upd H' T (.tup [.int (i : Nat), x])) := p.new o hT
    obtain ⟨u, hu, hdu⟩ := dps_get (mono_ds o fd _ _ _ _ g1 p'.1 hx) hdi
    rw [hi] at hu
    cases hu
    obtain ⟨σ2, q1, q2, q3, q4⟩ := ht i x T _ _ _ hdi hdu (st_of upd_same) p'.2.1 (e0.trans (e1.trans p'.1))
    exact q1 _ ⟨q2, cd_turn o g1 hD p' (by omega) hm (by rw [Nat.add_assoc]; exact hn) fl q3 q4⟩
  · rw [hl] at p
    obtain ⟨p1, p2, ws, p3, p4⟩ := p
    exact q (.ref Dl) H' (e1.trans p1) (by rw [← Nat.add_assoc]; exact p2) ⟨Dl, ws, rfl, o.new g1 hD, p3, p4⟩
end
end
end Dt
namespace Dt
open PySem PySem.Spec PyProof.Rows L2 Evl Fx Tr
section
variable {F : Fd} {K : PySem.W.Frag} {te ta tb tl : TE} {tr : TA} {tt tu : TT} {tz : TS} {D : Ends} {g : TG} {σ : L2.St} {H H' H1 : Hp} {d d' : PyData} {ds es : List PyData} {n n0 k ka kb kt ke i : Nat} {v : V}
theorem q_par3 {i j l : Nat} (h : tr σ H fun vs H1 => ∃ u v w, vs = [u, v, w] ∧ tz D (((σ.set i (some u)).set j (some v)).set l (some w)) H1) : tSeq (tPar3 i j l tr) tz D σ H := h
theorem q_cons {Q : List V → Hp → Prop} (h : te σ H fun x H1 => tr σ H1 fun ys H2 => Q (x :: ys) H2) : tCons te tr σ H Q := h
theorem dps_ints : ∀ {ns : List Int} {vs : List V}, DpAll K H vs (ns.map PyData.int) → vs = ns.map V.int
  | [], _, h => by cases h; rfl
  | b :: bs, _, h => by
    cases h with
    | cons h1 h2 =>
      cases h1
      rw [dps_ints h2]
      rfl
theorem flat_ints (ns : List Int) : flats (ns.map PyData.int) = true := flats_all.mpr fun d hd => by
  obtain ⟨b, _, rfl⟩ := List.mem_map.mp hd
  rfl
/-- an int in a list of ints -/
theorem rb_inI {a : Int} {ns : List Int} (o : F.Ok) (ha : EvR F ta σ H ka (fun u _ => u = .int a)) (hb : EvR F tb σ H kb (IsL F K (ns.map PyData.int))) : EvR F (tOp (rIn K false) ta tb) σ H (ka + kb) (fun u _ => u = .bl (ns.any fun y => y == a)) :=
  r_op o mono_eq ha hb fun x y n H1 g e ex ⟨p, xs, ey, hT, hp, hx⟩ Q q => by
    subst ex ey
    have := dps_ints hx
    subst this
    refine ⟨p, _, rfl, .inl (sq_of hp), rfl, by rw [List.all_map]; exact List.all_eq_true.mpr fun _ _ => rfl, q _ H1 (Ex.refl _) ?_⟩
    show V.bl (inV _ _) = _
    unfold inV
    rw [List.any_map]
    rfl
theorem tab_upd {rs : List (Str × Ru)} {A : Addr} {xs : List V} {u : HO} (h : IsTab F K rs v H) (hA : H A = some (.lst xs)) : IsTab F K rs v (upd H A u) := by
  obtain ⟨p, kvs, e, hT, hp, hv⟩ := h
  have hne : p ≠ A := by
    rintro rfl
    rw [hA] at hp
    cases hp
  refine ⟨p, kvs, e, hT, by rw [upd_ne hne]; exact hp, fun s i r hr => ?_⟩
  obtain ⟨w, hw, dw⟩ := hv s i r hr
  exact ⟨w, hw, dp_kt (kt_lst hA) _ _ r.flat dw⟩
theorem tab_ex {rs : List (Str × Ru)} (h : IsTab F0 K rs v H) (e : Ex H H') : IsTab F0 K rs v H' := mono_tab F0.ok 0 _ _ _ F0.g (Kx.ex e) h
theorem lay_intsI : ∀ p : List Int, PyData.canLayAll0 (p.map PyData.int) = true
  | [] => by simp [PyData.canLayAll0]
  | a :: p => by rw [List.map_cons, PyData.canLayAll0, lay_intsI p]; simp [PyData.canLay0]
theorem depth_intsI : ∀ p : List Int, PyData.depthAll (p.map PyData.int) = 0
  | [] => by simp [PyData.depthAll]
  | a :: p => by rw [List.map_cons, PyData.depthAll, depth_intsI p]; simp [PyData.depth]
theorem sh_ints (p : List Int) : SeqAt.shaped (.list (p.map PyData.int)) = true := by
  show ((PyData.list (p.map PyData.int)).canLay0 && decide ((PyData.list (p.map PyData.int)).depth ≤ 64)) = true
  rw [Bool.and_eq_true]
  exact ⟨by rw [PyData.canLay0]; exact lay_intsI p, decide_eq_true (by rw [PyData.depth, depth_intsI]; omega)⟩
/-- a list of ints != [] -/
theorem rb_neNil {ns : List Int} (o : F.Ok) (ha : EvR F ta σ H ka (IsL F K (ns.map PyData.int))) : EvR F (tOp (rNeD K) ta (tLst tNil)) σ H (ka + 0) (fun u _ => u = .bl (!ns.isEmpty)) :=
  r_op (P' := IsL F K []) o (mono_l o (flat_ints ns)) ha (rl_lst o ra_nil) fun x y n H1 g e px py Q q => ⟨_, _, px.dp, py.dp, sh_ints ns, rfl, q _ H1 (Ex.refl _) (by cases ns <;> simp [PyData.eqv, PyData.eqvAll])⟩
/-- the places where f says so, as ints -/
theorem outs_int (f : Nat → Bool) (m : Nat) : outs f (fun i => PyData.int (i : Int)) m = (((List.range m).filter f).map fun (i : Nat) => (i : Int)).map PyData.int := by
  unfold outs
  rw [List.map_map]
  rfl
theorem outs_some (bs : List Bool) : (!(((List.range bs.length).filter fun i => bs.getD i false).map fun (i : Nat) => (i : Int)).isEmpty) = bs.any id := by
  rw [Bool.eq_iff_iff]
  simp only [Bool.not_eq_true', List.isEmpty_eq_false_iff, ne_eq, List.map_eq_nil_iff, List.filter_eq_nil_iff, List.mem_range, List.any_eq_true, id]
  constructor
  · intro h
    apply Classical.byContradiction
    intro hn
    apply h
    intro i hi hb
    rw [List.getD_eq_getElem?_getD, List.getElem?_eq_getElem hi] at hb
    exact hn ⟨bs[i], List.getElem_mem _, hb⟩
  · rintro ⟨b, hb, h⟩ hn
    obtain ⟨i, hi, e⟩ := List.getElem_of_mem hb
    apply hn i hi
    rw [List.getD_eq_getElem?_getD, List.getElem?_eq_getElem hi, e, h]
    rfl
end
end Dt
namespace K18
open PySem PySem.Spec PyProof.Rows L2 Evl Fx Fr Dt Tr
def nKept : List Str := ["_law_root", "_law_acts", "_law_lot", "_law_owns", "_law_spans_here", "_law_found", "_law_table", "_law_has_bad", "_law_way", "_law_name", "_law_mark", "_law_own", "_law_act", "_law_is_called", "_law_parts", "_law_span", "_law_j", "_law_part"]
theorem scLKept : FnScope ["_law_root", "_law_acts", "_law_lot", "_law_owns", "_law_spans_here", "_law_found", "_law_table", "_law_has_bad", "_law_way", "_law_name", "_law_mark", "_law_own", "_law_act", "_law_is_called", "_law_parts", "_law_span", "_law_j", "_law_part"] ["_law_root", "_law_acts", "_law_lot", "_law_owns"] (defScope (topS 37)) := ⟨rfl, rfl, rfl, by decide +kernel, rfl, by decide +kernel, by decide +kernel⟩
section
variable {P : Program} {w : World} {K : PySem.W.Frag} {mg : Str → Option Value} {base : Heap} {f f2 f3 : Addr} {fd fd2 fd3 : FuncData}
structure KeptOk2 (t : T) (rs : List (Str × Ru)) (ρ : Str → Ru) (dr : Rat) (ow : List (Rat × Rat)) : Prop where
  k : KeptOk t rs ρ dr ow
  six : Tr.size t ≤ 6
  lot : Lot dr
  lots : ∀ o ∈ ow, Lot o.1 ∧ Lot o.2
  nodup : (rs.map Prod.fst).Nodup
def spLKept (K : PySem.W.Frag) : Sp := spD K fun ds d => ∃ t rs ρ draw owns, KeptOk2 t rs ρ draw owns ∧ ds = [enc t, .tuple (rs.map rowD), frD draw, .tuple (owns.map mkD)] ∧ d = .tuple ((keptBy ρ t draw owns).map pathD)
theorem ok_lkept (F : Fun K "_law_kept" "_law_kept" (topS 37) f fd) (cSp : C8.Cal P w K mg base 6 "_law_spans" (spLSpans K 6) []) (cSay : C8.Cal P w K mg base 1 "_law_says" (spSays K) []) (m_zip : mg "zip" = none) (m_tuple : mg "tuple" = none) (m_dict : mg "dict" = none) (m_list : mg "list" = none) (m_en : mg "enumerate" = none) :
    FnOk P w K mg base CX0 7 f fd ["_law_root", "_law_acts", "_law_lot", "_law_owns"] (spLKept K) := by
  refine F.ok scLKept (fun vs H Q E h => ?_) (fun cdv A outer s H vs Q E hr h => ?_)
  · obtain ⟨ds, es, hd, ⟨t, rs, ρ, draw, owns, _, rfl, _⟩, _⟩ := h
    exact dps_len hd
  · obtain ⟨ds, es, hd, ⟨t, rs, ρ, draw, owns, ok, rfl, rfl⟩, q⟩ := h
    obtain ⟨v1, vs, rfl, p1, hd⟩ := dps_uncons hd
    obtain ⟨v2, vs, rfl, p2, hd⟩ := dps_uncons hd
    obtain ⟨v3, vs, rfl, p3, hd⟩ := dps_uncons hd
    obtain ⟨v4, vs, rfl, p4, hd⟩ := dps_uncons hd
    obtain rfl := dps_none hd
    have hun := hr.un
    have hu65 : (A.deeper (envOfC ("_law_kept" : Str) (defScope (topS 37)) s.heap.objs.size f cdv)).units + 65 < cLine := by omega
    have hu1 : (A.deeper (envOfC ("_law_kept" : Str) (defScope (topS 37)) s.heap.objs.size f cdv)).units + 1 < cLine := by omega
    refine ⟨_, pss_cons (ps_par3 (i := 4) (j := 5) (l := 6) rfl scLKept.nd rfl rfl rfl (by decide) (by decide) (by decide) rfl rfl rfl (pa_cons (C8.pe_c cSp hr (by decide) (by rfl) (pa_cons (pv 0) (pa_cons (pe_tup pa_nil) pa_nil))) (pa_cons (pe_lst pa_nil) (pa_cons (pe_callTy (T := "dict") (r := rDictP K) (call_dictPK rfl) (by rfl) m_dict (by decide +kernel) (pa_cons (pe_callTy (T := "list") (r := rListS K) call_listS (by rfl) m_list (by decide +kernel) (pa_cons (pv 1) pa_nil)) pa_nil)) pa_nil))) (by rfl))
      (pss_cons (ps_set (i := 7) scLKept.nd rfl (.inr rfl) (pe_cmpR (r := rIn K false) op_in_seq pe_int (pe_lc (own := [("_law_span", 15)]) (g := gName 15) (by rfl) scLKept.nd (pi_list (pv 4)) (blkOk_by (own := [("_law_span", 15)]) (N := nKept) (sc := defScope (topS 37)) (by decide +kernel)) (fun _ _ _ _ _ => pg_name (i := 15) scLKept.nd rfl (.inl rfl)) (fun _ _ _ _ _ => pts_nil) (fun _ _ _ _ _ => pe_ix (r := rIxT K) ix_tup (pv 15) pe_int (fun _ _ => rfl))) (by rfl)))
      (pss_cons (ps_for PassesOwn.never rfl (DtZ.pi_zipM (by rfl) m_zip (pa_cons (pv 4) (pa_cons (pv 3) pa_nil)))
          (pg_tup (by rfl) (pgs_cons (pg_tup (by rfl) (pgs_cons (pg_name (i := 8) scLKept.nd rfl (.inl rfl)) (pgs_cons (pg_name (i := 9) scLKept.nd rfl (.inl rfl)) (pgs_cons (pg_name (i := 10) scLKept.nd rfl (.inr rfl)) pgs_nil)))) (pgs_cons (pg_name (i := 11) scLKept.nd rfl (.inr rfl)) pgs_nil)))
        (pss_cons (ps_asg (pe_tup (pa_cons (pe_dget hu1 (pv 6) (pv 9) (fun _ _ => rfl)) (pa_cons (pe_and (pe_cmpR (op_neD hr.units) (pv 8) (pe_tup pa_nil) (nomark _)) (pe_one (pe_cmpR (op_inD hu65) (pe_slice sl_tupA (pv 8) po_none (po_some (pe_un un_neg pe_int))) (pv 5) (by rfl)))) pa_nil))) (pg_tup (by rfl) (pgs_cons (pg_name (i := 12) scLKept.nd rfl (.inl rfl)) (pgs_cons (pg_name (i := 13) scLKept.nd rfl (.inr rfl)) pgs_nil))))
        (pss_cons (ps_set (i := 14) scLKept.nd rfl (.inl rfl) (pe_ifExp (pt_cmpR (op_eqD hr.units) (pe_ix ix_tup (pv 12) pe_int (fun _ _ => rfl)) pe_str (nomark _)) (pe_slice sl_tupA (pv 12) (po_some pe_int) po_none) (pe_tup (pa_cons (pv 12) pa_nil))))
        (pss_one (ps_if (pt_cmpR (op_neD hr.units) (pe_lc (own := [("_law_j", 16), ("_law_part", 17)]) (g := gTup K 2 (gCons (gName 16) (gCons (gName 17) gNil))) (by rfl) scLKept.nd (DtE.pi_enumT (by rfl) m_en (pa_cons (pv 14) pa_nil)) (blkOk_by (own := [("_law_j", 16), ("_law_part", 17)]) (N := nKept) (sc := defScope (topS 37)) (by decide +kernel))
            (fun _ _ _ _ _ => pg_tup (by rfl) (pgs_cons (pg_name (i := 16) scLKept.nd rfl (.inl rfl)) (pgs_cons (pg_name (i := 17) scLKept.nd rfl (.inl rfl)) pgs_nil)))
            (fun _ _ _ _ _ => pts_one (pt_val (C8.pe_c cSay hr (by decide) (by rfl) (pa_cons (pv 17) (pa_cons (pv 10) (pa_cons (pv 7) (pa_cons (pv 13) (pa_cons (pv 2) (pa_cons (pe_ix (r := rIxT K) ix_tup (pv 11) (pv 16) (fun _ _ => rfl)) pa_nil)))))))))
            (fun _ _ _ _ _ => pv 16)) (pe_lst pa_nil) (nomark _)) (pss_one (ps_expr (pe_bm PySem.F.plainAttrs_list PySem.F.slot_list_append PySem.F.type_list_append mt_append (pv 5) (pa_cons (pv 8) pa_nil)))) pss_nil)))))
      (pss_one (ps_ret (pe_callTy (T := "tuple") (r := rTupOf K) call_tupleOf (by rfl) m_tuple (by decide +kernel) (pa_cons (pv 5) pa_nil)))))), ?_⟩
    have ok1 := ok.k
    let pl := Tr.placed [] t
    have lpl : pl.length = size t := placed_len [] t
    have c1 : EvR F0 (tCall (spLSpans K 6) [] C8.E0 (tCons (tVar 0) (tCons (tTup tNil) tNil))) (start nKept [v1, v2, v3, v4]) H 0 (IsL F0 K (pl.map spanD)) := rl_call F0.ok (ra_cons (ka := 0) (kb := 0) F0.ok (rd_var F0.ok (n := 0) F0.g rfl p1 (enc_flat t)) (ra_cons (ka := 0) (kb := 0) (d := pathD []) F0.ok (rd_tup F0.ok ra_nil) ra_nil) (enc_flat t)) ⟨t, [], ok.six, by decide, by decide, rfl, rfl⟩
    refine q_par3 (q_cons (c1 0 H (Nat.le_refl _) F0.g Kx.refl _ fun u1 H1 e1 _ ⟨SL, xs, eu, _, hSL, dSL⟩ => q_cons ((show EvL (tLst tNil) (start nKept [v1, v2, v3, v4]) H1 [] from el_lst ea_nil (by simp)) H1 (Ex.refl _) _ fun A H2 nA e2 hA => q_cons ((show EvR F0 (tCB (rDictP K) (tCons (tCB (rListS K) (tCons (tVar 1) tNil)) tNil)) (start nKept [v1, v2, v3, v4]) H2 0 (IsTab F0 K rs) from
      rt_dict F0.ok (rl_list F0.ok (rd_var F0.ok (n := 0) F0.g rfl (dp_ex ((F0.ex e1).trans e2) _ _ p2) (rows_flat rs))) ok.nodup) 0 H2 (Nat.le_refl _) F0.g Kx.refl _ fun w6 H3 e3 _ ht => ⟨_, _, _, rfl, ?_⟩))))
    subst eu
    replace e1 := F0.ex e1
    replace e3 := F0.ex e3
    have nA' : H A = none := fresh_back e1 nA
    have e03 : Ex H H3 := (e1.trans e2).trans e3
    have hA3 := e3 _ _ hA
    have hSL3 := e3 _ _ (e2 _ _ hSL)
    have dSL3 := dps_ex (e2.trans e3) _ _ dSL
    have hne : SL ≠ A := ne_addr nA hSL
    show tSeq (tAsg (tOp (rIn K false) (tC (.int 1)) (tLc (iList K (tVar 4)) (gName 15) tYes (tOp (rIxT K) (tVar 15) (tC (.int 2))) [15])) (gName 7)) _ _ [some v1, some v2, some v3, some v4, some (.ref SL), some (.ref A), some w6, none, none, none, none, none, none, none, none, none, none, none] H3
    -- a bad one?
    have rSL : ∀ {s7 : Option V}, EvR F0 (tVar 4) [some v1, some v2, some v3, some v4, some (.ref SL), some (.ref A), some w6, s7, none, none, none, none, none, none, none, none, none, none] H3 0 (IsL F0 K (pl.map spanD)) := rl_var F0.ok (n := 0) F0.g rfl ⟨SL, xs, rfl, fun z => z, hSL3, dSL3⟩ (spans_flat pl)
    have hc := r_lcL (F := F0) (K := K) (k := 0) (kt := 0) (ke := 0) (H := H3) (σ := [some v1, some v2, some v3, some v4, some (.ref SL), some (.ref A), some w6, none, none, none, none, none, none, none, none, none, none, none]) (g := gName 15) (tt := tYes) (te := tOp (rIxT K) (tVar 15) (tC (.int 2))) (vs := [15]) F0.ok (fun _ => true) (fun i => ((pl.map fun z => z.2.mark).map PyData.int).getD i .none)
      rSL (spans_flat pl) (by rw [List.length_map, lpl]; have := ok.six; omega) (fun j _ _ => by
        rw [List.getD_eq_getElem?_getD, List.getElem?_map]
        cases (pl.map fun z => z.2.mark)[j]? <;> rfl) fun i x d n H8 hd hx8 _ e8 => by
        have hi : i < pl.length := by
          have := (List.getElem?_eq_some_iff.mp hd).1
          rwa [List.length_map] at this
        rw [List.getElem?_map, List.getElem?_eq_getElem hi] at hd
        cases hd
        refine ⟨_, gv_name, rfl, rt_yes rfl, fun _ => ?_⟩
        rw [List.getD_eq_getElem?_getD, List.getElem?_map, List.getElem?_map, List.getElem?_eq_getElem hi]
        exact rd_ix (ka := 0) (kb := 0) (i := 2) F0.ok (rd_var F0.ok (n := 0) F0.g rfl hx8 (span_flat _)) rv_c 2 rfl rfl (span_flat _)
    rw [outs_getD .none _ (by rw [List.length_map, List.length_map, List.length_map])] at hc
    refine q_asgR (F := F0) (n := 0) (P := fun u _ => u = .bl (isBad t)) (EvR.imp (rb_inI F0.ok rv_c hc) fun _ u _ _ _ hu => ?_) F0.g (by simp [F0]) fun u H4 e4 _ hu => ?_
    · rw [hu, List.any_map]
      have : isBad t = pl.any ((fun y => y == 1) ∘ fun z => z.2.mark) := by
        unfold isBad
        rw [← placed_snd [] t, List.any_map]
        rfl
      rw [this]
    subst hu
    replace e4 := F0.ex e4
    have e04 := e03.trans e4
    show tSeq _ _ _ [some v1, some v2, some v3, some v4, some (.ref SL), some (.ref A), some w6, some (.bl (isBad t)), none, none, none, none, none, none, none, none, none, none] H4
    refine q_forM (F := F0) (n := 0) (k := 0) (j := 4) (p := SL) (xs := xs) (ds := pl.map spanD) (es := owns.map mkD) F0.ok rfl (e4 _ _ hSL3) (fun z => z) (dps_ex e4 _ _ dSL3) (rd_var F0.ok (n := 0) F0.g rfl (dp_ex e04 _ _ p4) (mks_flat owns)) F0.g (Nat.le_refl _) (spans_flat pl) (mks_flat owns) (by rw [List.length_map, List.length_map, lpl, ok1.len])
      (fun H5 i σ' H' => ∃ vals u8 u9 u10 u11 u12 u13 u14, σ' = [some v1, some v2, some v3, some v4, some (.ref SL), some (.ref A), some w6, some (.bl (isBad t)), u8, u9, u10, u11, u12, u13, u14, none, none, none] ∧ Ex H H' ∧ KT K H5 H' ∧ KT K H H' ∧ H' SL = some (.lst xs) ∧ H' A = some (.lst vals) ∧ IsTab F0 K rs w6 H' ∧
        DpAll K H' vals ((((pl.zip owns).take i).foldl (Tr.step ρ (isBad t) draw) []).map pathD))
      (fun H5 e5 _ => ⟨[], none, none, none, none, none, none, none, rfl, e04.trans (F0.ex e5), fun _ _ h => h, kt_ex (e04.trans (F0.ex e5)), F0.ex e5 _ _ (e4 _ _ hSL3), F0.ex e5 _ _ (e4 _ _ hA3), tab_ex ht (e4.trans (F0.ex e5)), .nil⟩) (fun H5 i σ' H' ⟨_, _, _, _, _, _, _, _, _, _, k, _⟩ => k) (fun H5 i σ' H' _ ⟨_, _, _, _, _, _, _, _, _, _, _, _, k, _⟩ => k)
      (fun H5 i x y T' dx dy σ' H' hdi hei ⟨vals, u8, u9, u10, u11, u12, u13, u14, es, e, k, kH, hsl, hv, htb, dv⟩ hT hdx hdy => ?_) fun H5 σ' H' _ ⟨vals, u8, u9, u10, u11, u12, u13, u14, es, e, k, kH, hsl, hv, htb, dv⟩ => ?_
    · subst es
      have hi1 : i < pl.length := by
        have := (List.getElem?_eq_some_iff.mp hdi).1
        rwa [List.length_map] at this
      have hi2 : i < owns.length := by
        have := (List.getElem?_eq_some_iff.mp hei).1
        rwa [List.length_map] at this
      have eT : Ex H' (upd H' T' (.tup [x, y])) := Ex.new hT
      have k4 : KT K H5 (upd H' T' (.tup [x, y])) := kt_trans k (kt_ex eT)
      rw [List.getElem?_map, List.getElem?_eq_getElem hi1] at hdi
      cases hdi
      rw [List.getElem?_map, List.getElem?_eq_getElem hi2] at hei
      cases hei
      have hmem : pl[i].2 ∈ subs t := by
        rw [← placed_snd [] t]
        exact List.mem_map.mpr ⟨pl[i], List.getElem_mem _, rfl⟩
      have hown := ok.lots owns[i] (List.getElem_mem _)
      have eacc : ((pl.zip owns).take (i + 1)).foldl (Tr.step ρ (isBad t) draw) [] = Tr.step ρ (isBad t) draw (((pl.zip owns).take i).foldl (Tr.step ρ (isBad t) draw) []) (pl[i], owns[i]) := by
        have hz : (pl.zip owns)[i]? = some (pl[i], owns[i]) := List.getElem?_zip_eq_some.mpr ⟨List.getElem?_eq_getElem hi1, List.getElem?_eq_getElem hi2⟩
        rw [List.take_add_one, hz, List.foldl_append]
        rfl
      have lacc : (((pl.zip owns).take i).foldl (Tr.step ρ (isBad t) draw) []).length ≤ 1000 := by
        have h1 := step_len ρ (isBad t) draw ((pl.zip owns).take i) []
        have h2 := ok1.size
        rw [List.length_take, List.length_zip, lpl, List.length_nil] at h1
        omega
      rw [eacc]
      generalize ((pl.zip owns).take i).foldl (Tr.step ρ (isBad t) draw) [] = acc at dv lacc ⊢
      generalize pl[i] = pt at hdx hmem ⊢
      obtain ⟨p, s'⟩ := pt
      generalize owns[i] = ow at hdy hown ⊢
      obtain ⟨c, z1, z2, z3, rfl, hc, d1, d2, d3⟩ := dp_three hdx
      cases d2
      cases d3
      obtain ⟨hnm, ⟨ri, hri⟩, hrok⟩ := ok1.rules _ hmem
      have hA4 : upd H' T' (.tup [.ref c, y]) A = some (.lst vals) := eT _ _ hv
      have hsl4 : upd H' T' (.tup [.ref c, y]) SL = some (.lst xs) := eT _ _ hsl
      have htb4 := tab_ex htb eT
      have kH4 := kt_trans kH (kt_ex eT)
      have dv4 := dps_ex eT _ _ dv
      have e04 : Ex H (upd H' T' (.tup [.ref c, y])) := e.trans eT
      refine ⟨T', [.ref c, y], rfl, st_of upd_same, rfl, .ref c, [y], rfl, c, [z1, .str s'.name, .int s'.mark], rfl, hc, rfl, z1, _, rfl, .str s'.name, _, rfl, .int s'.mark, _, rfl, rfl, y, [], rfl, rfl, ?_⟩
      generalize upd H' T' (.tup [.ref c, y]) = H6 at d1 hdy hA4 hsl4 htb4 dv4 e04 k4 kH4 ⊢
      -- the rule, called
      refine q_asgG (F := F0) (n := 0) (k := 0) (P := IsD K (.tuple [(ρ s'.name).D, .bool (calledIn acc p)])) (rd_tup F0.ok (ra_cons (ka := 0) (kb := 0) F0.ok (rd_tab (ka := 0) (kb := 0) F0.ok (r_var (mono_tab F0.ok) (n := 0) F0.g rfl htb4) (rv_var rfl) hri) (ra_cons (ka := 0) (kb := 0) F0.ok (rd_ofB (EvR.imp (rb_and (ka := 0) (kb := 0) F0.ok (rb_ne (ka := 0) (kb := 0) (d' := pathD []) F0.ok (rd_var F0.ok (n := 0) F0.g rfl d1 (path_flat p)) (rd_tup F0.ok ra_nil) (sh_path p) (sh_path []) (path_flat p))
        fun _ => rb_inL (ka := 0) (kb := 0) (d := pathD p.dropLast) (ds := acc.map pathD) F0.ok (EvR.cast (rd_init F0.ok (rd_var F0.ok (n := 0) F0.g rfl d1 (path_flat p))) (by rw [path_init]; rfl)) (rl_var F0.ok (n := 0) F0.g rfl ⟨A, vals, rfl, fun z => z, hA4, dv4⟩ (paths_flat acc)) (path_flat _) (sh_path _) (sh_paths _)) fun _ u _ _ _ hu => ?_)) ra_nil) (Ru.flat _)) (flats_cons.mpr ⟨Ru.flat _, rfl⟩)) F0.g (Nat.le_refl _) fun u H7 e7 _ hu => ?_
      · rw [hu, path_eqv, List.any_map]
        unfold calledIn
        congr 3
        funext z
        exact path_eqv z p.dropLast
      replace e7 := F0.ex e7
      obtain ⟨a7, y1, y2, rfl, ha7, g1, g2⟩ := dp_two hu
      cases g2
      refine ⟨a7, [y1, .bl (calledIn acc p)], rfl, ha7, rfl, y1, _, rfl, _, _, rfl, rfl, ?_⟩
      -- the parts
      refine q_asgR (F := F0) (n := 0) (k := 0) (P := IsD K (.tuple ((ρ s'.name).plains.map Pl.D))) ?_ F0.g (Nat.le_refl _) fun w14 H8 e8 _ d14 => ?_
      · generalize ρ s'.name = r at g1 ⊢
        cases r with
        | one a =>
          have rr : EvR F0 (tVar 12) [some v1, some v2, some v3, some v4, some (.ref SL), some (.ref A), some w6, some (.bl (isBad t)), some z1, some (.str s'.name), some (.int s'.mark), some y, some y1, some (.bl (calledIn acc p)), u14, none, none, none] H7 0 (IsD K a.D) := rd_var F0.ok (n := 0) F0.g rfl g1 a.flat
          refine r_if (ka := 0) (kb := 0) (b := false) F0.ok (rt_is (rt_val (rb_eq (ka := 0) (kb := 0) F0.ok (rd_ix (ka := 0) (kb := 0) (i := 0) F0.ok rr rv_c 0 (ixN_nat (j := 0) (Nat.succ_pos _)) rfl a.flat) rd_str (sh_str (word_ok a)) (sh_str (by decide +kernel)))) (by rw [str_eqv]; exact word_or a)) (fun h => Bool.noConfusion h) fun _ => ?_
          show EvR F0 _ _ _ _ (IsD K (.tuple [a.D]))
          exact rd_tup F0.ok (ra_cons (ka := 0) (kb := 0) F0.ok rr ra_nil a.flat) (flats_cons.mpr ⟨a.flat, rfl⟩)
        | or a b =>
          have fl : flat (.tuple [.str "or", a.D, b.D]) = true := Ru.flat (.or a b)
          have rr : EvR F0 (tVar 12) [some v1, some v2, some v3, some v4, some (.ref SL), some (.ref A), some w6, some (.bl (isBad t)), some z1, some (.str s'.name), some (.int s'.mark), some y, some y1, some (.bl (calledIn acc p)), u14, none, none, none] H7 0 (IsD K (.tuple [.str "or", a.D, b.D])) := rd_var F0.ok (n := 0) F0.g rfl g1 fl
          refine r_if (ka := 0) (kb := 0) (b := true) F0.ok (rt_is (rt_val (rb_eq (ka := 0) (kb := 0) F0.ok (rd_ix (ka := 0) (kb := 0) (i := 0) F0.ok rr rv_c 0 rfl rfl fl) rd_str (sh_str (by decide +kernel)) (sh_str (by decide +kernel)))) (by rw [str_eqv]; decide +kernel)) (fun _ => ?_) fun h => Bool.noConfusion h
          exact (rd_slT (lo := some 1) (hi := none) F0.ok rr (fun _ => eo_some ev_c) fun _ => eo_none).cast rfl
      replace e8 := F0.ex e8
      have e78 := e7.trans e8
      have lz : ((ρ s'.name).plains.map Pl.D).length ≤ 2 := by
        rw [List.length_map]
        cases ρ s'.name <;> simp [Ru.plains]
      have hbl : (((ρ s'.name).plains.zip [ow.1, ow.2]).map fun z => decide (z.2 < z.1.chance (s'.mark == 1) (isBad t) (calledIn acc p) draw)).length = ((ρ s'.name).plains.map Pl.D).length := by
        rw [List.length_map, List.length_zip, List.length_map]
        rw [List.length_map] at lz
        show min _ 2 = _
        omega
      have hcm := r_lcE (F := F0) (K := K) (k := 0) (kt := 0) (ke := 0) (H := H8) (σ := [some v1, some v2, some v3, some v4, some (.ref SL), some (.ref A), some w6, some (.bl (isBad t)), some z1, some (.str s'.name), some (.int s'.mark), some y, some y1, some (.bl (calledIn acc p)), some w14, none, none, none]) (g := gTup K 2 (gCons (gName 16) (gCons (gName 17) gNil)))
        (tt := tTest (tCall (spSays K) [] C8.E0 (tCons (tVar 17) (tCons (tVar 10) (tCons (tVar 7) (tCons (tVar 13) (tCons (tVar 2) (tCons (tOp (rIxT K) (tVar 11) (tVar 16)) tNil)))))))) (te := tVar 16) (tl := tVar 14) (vs := [16, 17]) F0.ok
        (fun j => (((ρ s'.name).plains.zip [ow.1, ow.2]).map fun z => decide (z.2 < z.1.chance (s'.mark == 1) (isBad t) (calledIn acc p) draw)).getD j false) (fun j => .int (j : Int)) (rd_var F0.ok (n := 0) F0.g rfl d14 (plains_flat _)) (plains_flat _) (by omega) (fun _ _ _ => rfl) fun j x1 T1 dd n1 H9 hdd hx1 hT1 _ e9 => by
          replace e9 := F0.ex e9
          rw [List.getElem?_map] at hdd
          obtain ⟨pl', hpl, rfl⟩ := Option.map_eq_some_iff.mp hdd
          have hj : j < 2 := by
            have h1 := (List.getElem?_eq_some_iff.mp hpl).1
            rw [List.length_map] at lz
            omega
          obtain ⟨o', ho⟩ : ∃ o', [ow.1, ow.2][j]? = some o' := ⟨_, List.getElem?_eq_getElem hj⟩
          have hz : ((ρ s'.name).plains.zip [ow.1, ow.2])[j]? = some (pl', o') := List.getElem?_zip_eq_some.mpr ⟨hpl, ho⟩
          have hplok : pl'.Ok := hrok pl' (List.mem_of_getElem? hpl)
          have hob : Lot o' := by
            have := List.mem_of_getElem? ho
            simp only [List.mem_cons, List.not_mem_nil, or_false] at this
            rcases this with rfl | rfl
            · exact hown.1
            · exact hown.2
          have hdo : [frD ow.1, frD ow.2][j]? = some (frD o') := by
            have : ([ow.1, ow.2].map frD)[j]? = some (frD o') := by rw [List.getElem?_map, ho]; rfl
            exact this
          refine ⟨_, gv_pair hT1, rfl, ?_, fun _ => rd_ofI (rv_var rfl)⟩
          have rown : EvR F0 (tOp (rIxT K) (tVar 11) (tVar 16)) [some v1, some v2, some v3, some v4, some (.ref SL), some (.ref A), some w6, some (.bl (isBad t)), some z1, some (.str s'.name), some (.int s'.mark), some y, some y1, some (.bl (calledIn acc p)), some w14, none, some (.int (j : Int)), some x1] H9 0 (IsD K (frD o')) :=
            rd_ix (ka := 0) (kb := 0) (i := (j : Int)) (ds := [frD ow.1, frD ow.2]) F0.ok (rd_var F0.ok (n := 0) F0.g rfl (dp_ex (e78.trans e9) _ _ hdy)) (rv_var rfl) j (ixN_nat hj) hdo
          have rcall : EvR F0 (tCall (spSays K) [] C8.E0 (tCons (tVar 17) (tCons (tVar 10) (tCons (tVar 7) (tCons (tVar 13) (tCons (tVar 2) (tCons (tOp (rIxT K) (tVar 11) (tVar 16)) tNil))))))) [some v1, some v2, some v3, some v4, some (.ref SL), some (.ref A), some w6, some (.bl (isBad t)), some z1, some (.str s'.name), some (.int s'.mark), some y, some y1, some (.bl (calledIn acc p)), some w14, none, some (.int (j : Int)), some x1] H9 0 (IsD K (.bool (decide (o' < pl'.chance (s'.mark == 1) (isBad t) (calledIn acc p) draw)))) :=
            rd_call F0.ok (ra_cons (ka := 0) (kb := 0) F0.ok (rd_var F0.ok (n := 0) F0.g rfl hx1 pl'.flat) (ra_cons (ka := 0) (kb := 0) F0.ok (rd_ofI (rv_var rfl)) (ra_cons (ka := 0) (kb := 0) F0.ok (rd_ofB (rv_var rfl)) (ra_cons (ka := 0) (kb := 0) F0.ok (rd_ofB (rv_var rfl)) (ra_cons (ka := 0) (kb := 0) F0.ok (rd_var F0.ok (n := 0) F0.g rfl (dp_kt (kt_trans kH4 (kt_ex (e78.trans e9))) _ _ (fr_flat _) p3))
              (ra_cons (ka := 0) (kb := 0) F0.ok rown ra_nil))))) pl'.flat) ⟨pl', s'.mark, isBad t, calledIn acc p, draw, o', hplok, ok.lot, hob, rfl, rfl⟩
          refine rt_is (rt_val (rv_bl rcall)) ?_
          rw [List.getD_eq_getElem?_getD, List.getElem?_map, hz]
          rfl
      rw [outs_int, ← hbl] at hcm
      have hne1 := rb_neNil F0.ok hcm
      rw [outs_some] at hne1
      have esay : (((ρ s'.name).plains.zip [ow.1, ow.2]).map fun z => decide (z.2 < z.1.chance (s'.mark == 1) (isBad t) (calledIn acc p) draw)).any id = saysAny (ρ s'.name) (s'.mark == 1) (isBad t) (calledIn acc p) draw ow := by
        rw [List.any_map]
        rfl
      rw [esay] at hne1
      have hA8 := e78 _ _ hA4
      have hsl8 := e78 _ _ hsl4
      have htb8 := tab_ex htb4 e78
      have dv8 := dps_ex e78 _ _ dv4
      have e08 := e04.trans e78
      have k8 : KT K H5 H8 := kt_trans k4 (kt_ex e78)
      refine s_ifR (F := F0) (n := 0) (rt_val hne1) F0.g (by simp [F0]) (fun hb H9 e9 _ => ?_) fun hb H9 e9 _ => ?_
      · replace e9 := F0.ex e9
        have hA9 := e9 _ _ hA8
        refine q_appR (F := F0) (n := 0) (k := 0) (P := IsD K (pathD p)) rfl hA9 (fun z => z) (rd_var F0.ok (n := 0) F0.g rfl (dp_ex (e78.trans e9) _ _ d1) (path_flat p)) F0.g (Nat.le_refl _) (by rw [dps_len dv8, List.length_map]; omega) fun v' H10 e10 _ dv' hA10 => ?_
        replace e10 := F0.ex e10
        have k9 : KT K H10 (upd H10 A (.lst (vals ++ [v']))) := kt_lst hA10
        refine ⟨vals ++ [v'], _, _, _, _, _, _, _, rfl, ((e08.trans e9).trans e10).mut nA', kt_trans k8 (kt_trans (kt_ex (e9.trans e10)) k9), kt_trans (kt_ex ((e08.trans e9).trans e10)) k9, by rw [upd_ne hne]; exact e10 _ _ (e9 _ _ hsl8), upd_same, tab_upd (tab_ex htb8 (e9.trans e10)) hA10, ?_⟩
        have es : Tr.step ρ (isBad t) draw acc ((p, s'), ow) = acc ++ [p] := by
          unfold Tr.step
          exact if_pos hb
        rw [es, List.map_append]
        exact dps_snoc (dps_kt k9 _ _ (paths_flat acc) (dps_ex (e9.trans e10) _ _ dv8)) (dp_kt k9 _ _ (path_flat p) dv')
      · replace e9 := F0.ex e9
        have es : Tr.step ρ (isBad t) draw acc ((p, s'), ow) = acc := by
          unfold Tr.step
          exact if_neg (by rw [hb]; exact Bool.false_ne_true)
        refine ⟨vals, _, _, _, _, _, _, _, rfl, e08.trans e9, kt_trans k8 (kt_ex e9), kt_ex (e08.trans e9), e9 _ _ hsl8, e9 _ _ hA8, tab_ex htb8 e9, ?_⟩
        rw [es]
        exact dps_ex e9 _ _ dv8
    · subst es
      have ht : (pl.zip owns).take ((pl.map spanD).length) = pl.zip owns := by
        rw [List.take_of_length_le]
        rw [List.length_zip, List.length_map]
        omega
      rw [ht] at dv
      exact s_retR (F := F0) (n := 0) (k := 0) (P := IsD K (.tuple ((keptBy ρ t draw owns).map pathD))) (rd_tupOf F0.ok (rl_var F0.ok (n := 0) F0.g rfl ⟨A, vals, rfl, fun z => z, hv, dv⟩ (paths_flat _))) F0.g (Nat.le_refl _) fun v H7 e7 _ p => q v H7 (e.trans (F0.ex e7)) p
end
end K18
namespace K18
open PySem PySem.Spec PyProof.Rows L2 Evl Fx Fr Dt Tr
theorem scDraw : FnScope ["_law_feed_here", "_law_many", "_law_digit_now", "_law_cell", "_law_turn", "_law_mixed"] ["_law_feed_here", "_law_many"] (defScope (topS 29)) := ⟨rfl, rfl, rfl, by decide +kernel, rfl, by decide +kernel, by decide +kernel⟩
section
variable {P : Program} {w : World} {K : PySem.W.Frag} {mg : Str → Option Value} {base : Heap} {f f2 f3 : Addr} {fd fd2 fd3 : FuncData}
def fl (l : Addr) (s r c : Int) : List V := [.ref l, .int s, .int r, .int c]
def FeedAt (H : Hp) (d l : Addr) (n : Nat) : Prop := ∃ (ns : List Int) (s r c : Int), H d = some (.lst (fl l s r c)) ∧ H l = some (.lst (ns.map V.int)) ∧ ns.length ≤ 63 ∧ 0 ≤ s ∧ 0 ≤ c ∧ c ≤ n ∧ l ≠ d
def spDraw : Sp := fun vs H Q _ => ∃ (d l : Addr) (many : Int) (n : Nat), vs = [.ref d, .int many] ∧ FeedAt H d l n ∧ n ≤ 1000000 ∧ 0 < many ∧ many < 2 ^ 60 ∧ ∀ H' r, Kp d H H' → FeedAt H' d l (n + 1) → 0 ≤ r → r < many → Q (.int r) H'
theorem ok_draw (F : Fun K "_law_draw" "_law_draw" (topS 29) f fd) (m_int : mg "int" = none) (m_len : mg "len" = none) : FnOk P w K mg base CX0 1 f fd ["_law_feed_here", "_law_many"] spDraw := by
  refine F.ok scDraw (fun vs H Q E h => ?_) (fun cdv A outer s H vs Q E hr h => ?_)
  · obtain ⟨d, l, many, n, rfl, _⟩ := h
    rfl
  · obtain ⟨d, l, many, n, rfl, ⟨ns, sp, rest, calls, hd, hl, hn, hs0, hc0, hcn, nl⟩, hn2, hm0, hm1, q⟩ := h
    have dv : ∀ i : Int, CDivW i many := fun i => wide_div (b := 60) hm0 (by omega) (by decide) (by decide)
    have hL : ∀ o, (upd H d o) l = some (.lst (ns.map V.int)) := fun o => by
      rw [upd_ne nl]
      exact hl
    have rd : ∀ (a b : Int), 0 ≤ a → FeedAt (upd H d (.lst (fl l a b (calls + 1)))) d l (n + 1) := fun a b ha => ⟨ns, a, b, calls + 1, upd_same, hL _, hn, ha, by omega, by omega, nl⟩
    have md : ∀ i : Int, 0 ≤ i % many ∧ i % many < many := fun i => ⟨Int.emod_nonneg i (by omega), Int.emod_lt_of_pos i hm0⟩
    refine ⟨_, (pss_cons (ps_asg (pe_op op_add (pe_ix ix_list (pv 0) pe_int (fun _ _ => rfl)) pe_int) (pg_sub (pv 0) pe_int set_list (fun _ => rfl)))
      (pss_cons (ps_if (pt_cmpR op_gt (pe_ix ix_list (pv 0) pe_int (fun _ _ => rfl)) pe_int (nomark _)) (pss_cons (ps_set (i := 2) scDraw.nd rfl (.inl rfl) (pe_op op_mod (pe_callTy call_int1 (by rfl) m_int (by decide +kernel) (pa_cons (pe_ix ix_list (pv 0) pe_int (fun _ _ => rfl)) pa_nil)) (pv 1)))
        (pss_cons (ps_asg (pe_op op_fdivW (pe_ix ix_list (pv 0) pe_int (fun _ _ => rfl)) (pv 1)) (pg_sub (pv 0) pe_int set_list (fun _ => rfl)))
        (pss_one (ps_ret (pv 2))))) pss_nil)
      (pss_cut (ps_set (i := 3) scDraw.nd rfl (.inl rfl) (pe_ifExp (pt_cmpR (op_neD hr.units) (pe_ix ix_list (pv 0) pe_int (fun _ _ => rfl)) (pe_lst pa_nil) (nomark _)) (pe_ix ix_list (pe_ix ix_list (pv 0) pe_int (fun _ _ => rfl)) (pe_op op_mod (pe_callTy call_int1 (by rfl) m_int (by decide +kernel) (pa_cons (pe_ix ix_list (pv 0) pe_int (fun _ _ => rfl)) pa_nil)) (pe_callB (r := rLenS K) call_lenS (by rfl) m_len PySem.boot_len (pa_cons (pe_ix ix_list (pv 0) pe_int (fun _ _ => rfl)) pa_nil))) (fun _ _ => rfl)) pe_int))
      (pss_cons (ps_asg (pe_op op_add (pe_ix ix_list (pv 0) pe_int (fun _ _ => rfl)) pe_int) (pg_sub (pv 0) pe_int set_list (fun _ => rfl)))
      (pss_cut (ps_if (PW.pt (pw_and (pt_cmpR op_ge (pv 3) (pe_op op_pow pe_int pe_int) (nomark _)) (pw_and1 (pt_cmpR op_le (pe_ix ix_list (pv 0) pe_int (fun _ _ => rfl)) (pe_callB (r := rLenS K) call_lenS (by rfl) m_len PySem.boot_len (pa_cons (pe_ix ix_list (pv 0) pe_int (fun _ _ => rfl)) pa_nil)) (nomark _))))) (pss_cons (ps_asg (pe_op op_fdivW (pv 3) (pv 1)) (pg_sub (pv 0) pe_int set_list (fun _ => rfl)))
        (pss_one (ps_ret (pe_op op_mod (pe_callTy call_int1 (by rfl) m_int (by decide +kernel) (pa_cons (pv 3) pa_nil)) (pv 1))))) pss_nil)
      (pss_cons (ps_set (i := 4) scDraw.nd rfl (.inl rfl) (pe_ix ix_list (pv 0) pe_int (fun _ _ => rfl)))
      (pss_cut (ps_set (i := 5) scDraw.nd rfl (.inl rfl) (pe_callTy call_int1 (by rfl) m_int (by decide +kernel) (pa_cons (pe_op op_pow (pe_op op_add (pe_op op_add (pe_op op_mod (pe_callTy call_int1 (by rfl) m_int (by decide +kernel) (pa_cons (pv 3) pa_nil)) pe_int) (pe_op op_mulW (pe_op op_mulW pe_int (pv 4)) (pe_op op_add (pv 4) pe_int))) pe_int) pe_int) pa_nil)))
      (pss_cut (ps_set (i := 5) scDraw.nd rfl (.inl rfl) (pe_callTy call_int1 (by rfl) m_int (by decide +kernel) (pa_cons (pe_op op_pow (pe_op op_add (pe_op op_mulW (pe_op op_mod (pe_callTy call_int1 (by rfl) m_int (by decide +kernel) (pa_cons (pv 5) pa_nil)) pe_int) (pe_op op_add (pe_op op_mulW pe_int (pv 4)) pe_int)) (pe_op op_mulW pe_int (pv 4))) pe_int) pa_nil)))
      (pss_one (ps_ret (pe_op op_mod (pe_callTy call_int1 (by rfl) m_int (by decide +kernel) (pa_cons (pe_op op_fdivW (pe_op op_mod (pe_callTy call_int1 (by rfl) m_int (by decide +kernel) (pa_cons (pv 5) pa_nil)) pe_int) pe_int) pa_nil)) (pv 1)))))))))))), ?_⟩
    have hlk : ∀ {H' : Hp}, Kp d H H' → H' l = some (.lst (ns.map V.int)) := fun k => k _ _ hl nl
    have fin : ∀ {H' : Hp} {a b r : Int}, Kp d H H' → H' d = some (.lst (fl l a b (calls + 1))) → 0 ≤ a → 0 ≤ r ∧ r < many → Q (.int r) H' := fun k h1 ha hr => q _ _ k ⟨ns, _, _, calls + 1, h1, hlk k, hn, ha, by omega, by omega, nl⟩ hr.1 hr.2
    refine ⟨_, rfl, d, _, 3, _, rfl, rfl, sq_of hd, rfl, _, _, rfl, rfl, _, rfl, d, _, 3, 3, rfl, rfl, hd, rfl, ?_⟩
    have k1 : Kp d H (upd H d (.lst (fl l sp rest (calls + 1)))) := Kp.upd
    have hd1 : upd H d (.lst (fl l sp rest (calls + 1))) d = some (.lst (fl l sp rest (calls + 1))) := upd_same
    change tSeq _ _ _ _ (upd H d (.lst (fl l sp rest (calls + 1))))
    generalize upd H d (.lst (fl l sp rest (calls + 1))) = H1 at k1 hd1 ⊢
    refine ⟨_, rfl, d, _, 2, _, rfl, rfl, sq_of hd1, rfl, _, _, rfl, rfl, _, rfl, ite2 (fun _ => ?_) (fun _ => ?_)⟩
    · refine ⟨_, rfl, d, _, 2, _, rfl, rfl, sq_of hd1, rfl, .inl ⟨_, rfl, _, rfl, _, _, rfl, rfl, hm0, ?_⟩⟩
      refine ⟨_, rfl, d, _, 2, _, rfl, rfl, sq_of hd1, rfl, _, rfl, _, _, rfl, rfl, dv _, _, rfl, d, _, 2, 2, rfl, rfl, hd1, rfl, ?_⟩
      exact ⟨_, rfl, fin (a := sp) (b := rest / many) (k1.trans Kp.upd) upd_same hs0 (md _)⟩
    · refine q_cut (M := fun σ' H' => ∃ c : Int, σ' = [some (.ref d), some (.int many), none, some (.int c), none, none] ∧ Kp d H H' ∧ H' d = some (.lst (fl l sp rest (calls + 1)))) ?_ ?_
      · refine ⟨_, rfl, d, _, 0, _, rfl, rfl, sq_of hd1, rfl, by decide, fun p hp => ⟨.list (ns.map PyData.int), .list [], .lst (sq_of (Ex.new hp _ _ (hlk k1))) ?_, .lst (sq_of upd_same) .nil, sh_ints ns, rfl, _, rfl, ?_⟩⟩
        · have go : ∀ xs : List Int, DpAll K (upd H1 p (.lst [])) (xs.map V.int) (xs.map PyData.int) := fun xs => by
            induction xs with
            | nil => exact .nil
            | cons a xs ih => exact .cons (.int _) ih
          exact go ns
        · have e2 := Ex.new (o := HO.lst []) hp
          have k2 := k1.trans (Kp.ex e2)
          have hd2 := e2 _ _ hd1
          generalize upd H1 p (.lst []) = H2 at k2 hd2 ⊢
          refine ite2 (fun h => ?_) (fun _ => ⟨73, rfl, k2, hd2⟩)
          have hnn : ns ≠ [] := by
            rintro rfl
            simp [PyData.eqv, PyData.eqvAll] at h
          have hpos : (0 : Int) < ((ns.map V.int).length : Int) := by
            rw [List.length_map]
            have := List.length_pos_iff.mpr hnn
            omega
          have b1 := Int.emod_nonneg sp (show ((ns.map V.int).length : Int) ≠ 0 by omega)
          have b2 := Int.emod_lt_of_pos sp hpos
          have hj : (sp % ((ns.map V.int).length : Int)).toNat < ns.length := by
            rw [List.length_map] at b1 b2 ⊢
            omega
          refine ⟨_, rfl, d, _, 0, _, rfl, rfl, sq_of hd2, rfl, _, rfl, d, _, 1, _, rfl, rfl, sq_of hd2, rfl, .inl ⟨_, rfl, _, rfl, d, _, 0, _, rfl, rfl, sq_of hd2, rfl, l, _, rfl, .inl (sq_of (hlk k2)), _, _, rfl, rfl, hpos, ?_⟩⟩
          refine ⟨l, _, _, .int (ns[(sp % ((ns.map V.int).length : Int)).toNat]), rfl, rfl, sq_of (hlk k2), at_of (j := (sp % ((ns.map V.int).length : Int)).toNat) (by omega) ?_, _, rfl, k2, hd2⟩
          rw [List.getElem?_map, List.getElem?_eq_getElem hj]
          rfl
      · rintro σ' H2 ⟨c, rfl, k2, hd2⟩
        refine ⟨_, rfl, d, _, 1, _, rfl, rfl, sq_of hd2, rfl, _, _, rfl, rfl, _, rfl, d, _, 1, 1, rfl, rfl, hd2, rfl, ?_⟩
        have k3 : Kp d H (upd H2 d (.lst (fl l (sp + 1) rest (calls + 1)))) := k2.trans Kp.upd
        have hd3 : upd H2 d (.lst (fl l (sp + 1) rest (calls + 1))) d = some (.lst (fl l (sp + 1) rest (calls + 1))) := upd_same
        change tCut _ _ _ _ (upd H2 d (.lst (fl l (sp + 1) rest (calls + 1))))
        generalize upd H2 d (.lst (fl l (sp + 1) rest (calls + 1))) = H3 at k3 hd3 ⊢
        refine q_cut (M := fun σ' H' => σ' = [some (.ref d), some (.int many), none, some (.int c), none, none] ∧ H' = H3) ?_ ?_
        · refine ⟨_, rfl, _, _, rfl, rfl, ⟨by decide, by decide, by decide⟩, _, _, rfl, rfl, _, rfl, ite2 (fun _ => ?_) (fun _ => iteF ⟨rfl, rfl⟩)⟩
          refine ⟨_, rfl, d, _, 1, _, rfl, rfl, sq_of hd3, rfl, _, rfl, d, _, 0, _, rfl, rfl, sq_of hd3, rfl, l, _, rfl, .inl (sq_of (hlk k3)), _, _, rfl, rfl, _, rfl, ite2 (fun _ => ?_) (fun _ => ⟨rfl, rfl⟩)⟩
          refine ⟨_, rfl, _, rfl, _, _, rfl, rfl, dv _, _, rfl, d, _, 2, 2, rfl, rfl, hd3, rfl, ?_⟩
          exact ⟨_, rfl, .inl ⟨_, rfl, _, rfl, _, _, rfl, rfl, hm0, fin (a := sp + 1) (b := c / many) (k3.trans Kp.upd) upd_same (by omega) (md _)⟩⟩
        · rintro σ' H4 ⟨rfl, rfl⟩
          refine ⟨_, rfl, d, _, 3, _, rfl, rfl, sq_of hd3, rfl, ?_⟩
          have q1 : 197 * (calls + 1) ≤ 2 ^ 40 := by omega
          have q2 : 197 * (calls + 1) * (calls + 1 + 14) ≤ 2 ^ 40 * 2 ^ 21 := Int.mul_le_mul q1 (by omega) (by omega) (by decide)
          have q3 : 0 ≤ 197 * (calls + 1) * (calls + 1 + 14) := Int.mul_nonneg (by omega) (by omega)
          have kk1 : ∀ x : Int, (x % 1000010911 + 197 * (calls + 1) * (calls + 1 + 14) + 61).natAbs < 2 ^ 64 := fun x => by
            have o1 := Int.emod_nonneg x (show (1000010911 : Int) ≠ 0 by decide)
            have o2 := Int.emod_lt_of_pos x (show (0 : Int) < 1000010911 by decide)
            generalize 197 * (calls + 1) * (calls + 1 + 14) = t at q2 q3
            omega
          refine q_cut (M := fun σ' H' => ∃ m : Int, σ' = [some (.ref d), some (.int many), none, some (.int c), some (.int (calls + 1)), some (.int m)] ∧ H' = H4) ?_ ?_
          · exact ⟨_, rfl, .inl ⟨_, rfl, _, _, rfl, rfl, (show (0 : Int) < 1000010911 by decide), _, rfl, _, _, rfl, rfl, mulW (n := 60) (m := 60) (by decide) (by omega) (by decide), _, rfl, _, _, rfl, rfl, _, _, rfl, rfl, mulW (n := 60) (m := 60) (by omega) (by omega) (by decide), _, _, rfl, rfl, _, _, rfl, rfl, _, _, rfl, rfl, ⟨by decide, by decide, kk1 _⟩, .inl ⟨_, rfl, _, rfl, rfl⟩⟩⟩
          · rintro σ' H5 ⟨m, rfl, rfl⟩
            have kk2 : ∀ x : Int, (x % 2147483249 * (2 * (calls + 1) + 13) + 50263 * (calls + 1)).natAbs < 2 ^ 64 := fun x => by
              have o1 := Int.emod_nonneg x (show (2147483249 : Int) ≠ 0 by decide)
              have o2 := Int.emod_lt_of_pos x (show (0 : Int) < 2147483249 by decide)
              have o3 : x % 2147483249 * (2 * (calls + 1) + 13) ≤ 2 ^ 31 * 2 ^ 22 := Int.mul_le_mul (by omega) (by omega) (by omega) (by decide)
              have o4 : 0 ≤ x % 2147483249 * (2 * (calls + 1) + 13) := Int.mul_nonneg o1 (by omega)
              generalize x % 2147483249 * (2 * (calls + 1) + 13) = t at o3 o4
              omega
            refine q_cut (M := fun σ' H' => ∃ m : Int, σ' = [some (.ref d), some (.int many), none, some (.int c), some (.int (calls + 1)), some (.int m)] ∧ H' = H5) ?_ ?_
            · have o1 := Int.emod_nonneg m (show (2147483249 : Int) ≠ 0 by decide)
              have o2 := Int.emod_lt_of_pos m (show (0 : Int) < 2147483249 by decide)
              exact ⟨_, rfl, .inl ⟨_, rfl, _, _, rfl, rfl, (show (0 : Int) < 2147483249 by decide), _, rfl, _, _, rfl, rfl, mulW (n := 60) (m := 60) (by decide) (by omega) (by decide), _, _, rfl, rfl, _, _, rfl, rfl, mulW (n := 60) (m := 60) (by omega) (by omega) (by decide), _, rfl, _, _, rfl, rfl, mulW (n := 60) (m := 60) (by decide) (by omega) (by decide), _, _, rfl, rfl, _, _, rfl, rfl, ⟨by decide, by decide, kk2 _⟩, .inl ⟨_, rfl, _, rfl, rfl⟩⟩⟩
            · rintro σ' H6 ⟨m2, rfl, rfl⟩
              exact ⟨_, rfl, .inl ⟨_, rfl, _, _, rfl, rfl, (show (0 : Int) < 2147483171 by decide), _, _, rfl, rfl, wide_div (b := 60) (by decide) (by decide) (by decide) (by decide), .inl ⟨_, rfl, _, rfl, _, _, rfl, rfl, hm0, fin k3 hd3 (by omega) (md _)⟩⟩⟩
end
end K18
namespace K18
open PySem PySem.Spec PyProof.Rows L2 Evl Fx Fr Dt Tr
def FeedF (d l : Addr) : Fd := ⟨fun a => a = d, fun a => a = d ∨ a = l, fun n H => FeedAt H d l n, 1000000⟩
theorem FeedAt.loc {H H' : Hp} {d l : Addr} {n : Nat} (g : FeedAt H d l n) (k : ∀ a o, (a = d ∨ a = l) → H a = some o → H' a = some o) : FeedAt H' d l n := by
  obtain ⟨ns, s, r, c, h1, h2, h3⟩ := g
  exact ⟨ns, s, r, c, k _ _ (.inl rfl) h1, k _ _ (.inr rfl) h2, h3⟩
theorem FeedAt.up {H : Hp} {d l : Addr} {n m : Nat} (g : FeedAt H d l n) (h : n ≤ m) : FeedAt H d l m := by
  obtain ⟨ns, s, r, c, h1, h2, h3, h4, h5, h6, h7⟩ := g
  exact ⟨ns, s, r, c, h1, h2, h3, h4, h5, by omega, h7⟩
theorem FeedF.ok {d l : Addr} : (FeedF d l).Ok where
  sub := fun h => .inl h
  at_ := fun g t => by
    obtain ⟨ns, s, r, c, h1, h2, _⟩ := g
    rcases t with rfl | rfl
    · exact ⟨_, h1, .inl ⟨_, rfl⟩⟩
    · exact ⟨_, h2, .inl ⟨_, rfl⟩⟩
  loc := fun g k => g.loc k
  up := fun g h => g.up h
section
variable {P : Program} {w : World} {K : PySem.W.Frag} {mg : Str → Option Value} {base : Heap} {f f2 f3 : Addr} {fd fd2 fd3 : FuncData} {d l : Addr} {te ta tb : TE} {σ : L2.St} {H : Hp} {k ka kb n : Nat}
theorem kp_kx {H H' : Hp} (h : Kp d H H') : Kx (FeedF d l).S H H' := fun b o hb hn => h b o hb hn
theorem kx_kp {H H' : Hp} (h : Kx (FeedF d l).S H H') : Kp d H H' := fun b o hb hn => h b o hb hn
/-- a draw below many -/
def Below (many : Int) : VP := fun v _ => ∃ r, v = .int r ∧ 0 ≤ r ∧ r < many
theorem r_draw {many : Int} {E : XK} {i : Nat} (hd : σ[i]? = some (some (.ref d))) (hb : EvR (FeedF d l) tb σ H kb (fun x _ => x = .int many)) (h0 : 0 < many) (h1 : many < 2 ^ 60) : EvR (FeedF d l) (tCall spDraw [] E (tCons (tVar i) (tCons tb tNil))) σ H (kb + 1) (Below many) :=
  fun n H1 hn g e Q q => ⟨.ref d, hd, hb n H1 (by have : (FeedF d l).N = 1000000 := rfl; omega) g e _ fun y H2 e2 g2 ey => ⟨d, l, many, n + kb, by rw [ey]; rfl, g2, by have : (FeedF d l).N = 1000000 := rfl; omega, h0, h1, fun H3 r k3 g3 a1 a2 => q _ _ (e2.trans (kp_kx k3)) (by rw [← Nat.add_assoc]; exact g3) ⟨r, rfl, a1, a2⟩⟩⟩
/-- one of these data -/
def OneOf (K : PySem.W.Frag) (ds : List PyData) : VP := fun v H => ∃ x ∈ ds, Dp K H v x
theorem mono_one {F : Fd} {ds : List PyData} (o : F.Ok) (f : flats ds = true) : MonoF F (OneOf K ds) := fun n v H H' g e ⟨x, hx, p⟩ => ⟨x, hx, mono_d o (flats_all.mp f x hx) n _ _ _ g e p⟩
def spChoice (K : PySem.W.Frag) : Sp := fun vs H Q _ => ∃ (d l a : Addr) (xs : List V) (ds : List PyData) (n : Nat), vs = [.ref d, .ref a] ∧ FeedAt H d l n ∧ n + 1 ≤ 1000000 ∧ a ≠ d ∧ H a = some (.lst xs) ∧ DpAll K H xs ds ∧ flats ds = true ∧ ds ≠ [] ∧ ds.length ≤ 1000 ∧
  ∀ H' v, Kp d H H' → FeedAt H' d l (n + 1) → OneOf K ds v H' → Q v H'
theorem scChoice : FnScope ["_law_feed_here", "_law_some"] ["_law_feed_here", "_law_some"] (defScope (topS 30)) := ⟨rfl, rfl, rfl, by decide +kernel, rfl, by decide +kernel, by decide +kernel⟩
theorem ok_choice (F : Fun K "_law_choice" "_law_choice" (topS 30) f fd) (cD : C8.Cal P w K mg base 1 "_law_draw" spDraw []) (m_len : mg "len" = none) : FnOk P w K mg base CX0 2 f fd ["_law_feed_here", "_law_some"] (spChoice K) := by
  refine F.ok scChoice (fun vs H Q E h => ?_) (fun cdv A outer s H vs Q E hr h => ?_)
  · obtain ⟨d, l, a, xs, ds, n, rfl, _⟩ := h
    rfl
  · obtain ⟨d, l, a, xs, ds, n, rfl, hF, hn, had, ha, hx, hf, hne, hl, q⟩ := h
    refine ⟨_, pss_one (ps_ret (pe_ix ix_list (pv 1) (C8.pe_c cD hr (by decide) (by rfl) (pa_cons (pv 0) (pa_cons (pe_callB (r := rLenS K) call_lenS (by rfl) m_len PySem.boot_len (pa_cons (pv 1) pa_nil)) pa_nil))) (fun _ _ => rfl))), ?_⟩
    have lx := dps_len hx
    have hpos : 0 < ds.length := List.length_pos_iff.mpr hne
    refine ⟨.ref a, rfl, .ref d, rfl, .ref a, rfl, a, xs, rfl, .inl (sq_of ha), d, l, (xs.length : Int), n, rfl, hF, by omega, by omega, by omega, fun H' r k g a1 a2 => ?_⟩
    have hj : r.toNat < xs.length := by omega
    have hj2 : r.toNat < ds.length := by omega
    have hx' := mono_ds (FeedF.ok (d := d) (l := l)) hf n _ _ _ hF (kp_kx k) hx
    obtain ⟨u, hu, du⟩ := dps_get hx' (List.getElem?_eq_getElem hj2)
    exact ⟨a, xs, r, u, rfl, rfl, sq_of (k _ _ ha had), at_of (j := r.toNat) (by omega) hu, q H' u k g ⟨_, List.getElem_mem hj2, du⟩⟩
theorem r_choice {E : XK} {i : Nat} {ds : List PyData} (hd : σ[i]? = some (some (.ref d))) (hb : EvR (FeedF d l) tb σ H kb (IsL (FeedF d l) K ds)) (hf : flats ds = true) (hne : ds ≠ []) (hl : ds.length ≤ 1000) : EvR (FeedF d l) (tCall (spChoice K) [] E (tCons (tVar i) (tCons tb tNil))) σ H (kb + 1) (OneOf K ds) :=
  fun n H1 hn g e Q q => ⟨.ref d, hd, hb n H1 (by have : (FeedF d l).N = 1000000 := rfl; omega) g e _ fun y H2 e2 g2 ⟨a, xs, ey, hT, ha, hx⟩ => ⟨d, l, a, xs, ds, n + kb, by rw [ey]; rfl, g2, by have : (FeedF d l).N = 1000000 := rfl; omega, fun z => hT (.inl z), ha, hx, hf, hne, hl, fun H3 v k3 g3 p => q _ _ (e2.trans (kp_kx k3)) (by rw [← Nat.add_assoc]; exact g3) p⟩⟩
end
end K18
namespace Tr
open PySem PySem.Spec PyProof.Rows L2 Evl Fx Fr Dt
theorem lot_of {x : Rat} (h0 : 0 ≤ x.num) (h1 : x.num < (x.den : Int)) (h2 : x.den < 2 ^ 60) : Lot x := by
  refine ⟨⟨by omega, h2⟩, Rat.num_nonneg.mp h0, ?_⟩
  rw [Rat.lt_iff]
  have e1 : (1 : Rat).den = 1 := rfl
  have e2 : (1 : Rat).num = 1 := rfl
  rw [e1, e2]
  omega
def lots : List Rat := [⟨0, 1, by decide, by decide⟩, ⟨1, 2, by decide, by decide⟩, ⟨1, 3, by decide, by decide⟩, ⟨11, 12, by decide, by decide⟩, ⟨1, 12, by decide, by decide⟩, ⟨5, 12, by decide, by decide⟩, ⟨3, 4, by decide, by decide⟩, ⟨1, 6, by decide, by decide⟩, ⟨2, 3, by decide, by decide⟩, ⟨1, 4, by decide, by decide⟩, ⟨99, 100, by decide, by decide⟩]
theorem lots_lot : ∀ x ∈ lots, Lot x := by
  intro x hx
  simp only [lots, List.mem_cons, List.not_mem_nil, or_false] at hx
  rcases hx with rfl | rfl | rfl | rfl | rfl | rfl | rfl | rfl | rfl | rfl | rfl <;> exact lot_of (by decide) (by decide) (by decide)
theorem lots_flat : flats (lots.map frD) = true := flats_all.mpr fun d hd => by
  obtain ⟨b, _, rfl⟩ := List.mem_map.mp hd
  rfl
def Pl.Sm (x : Pl) : Prop := ∀ i : Int, PyData.int i ∈ x.more → i.natAbs < 1000
theorem sm_two {x : Pl} {p q : Int} (e : x.more = [.int p, .int q]) (h1 : p.natAbs < 1000) (h2 : q.natAbs < 1000) : x.Sm := fun i hi => by
  rw [e] at hi
  simp only [List.mem_cons, List.not_mem_nil, or_false, PyData.int.injEq] at hi
  rcases hi with rfl | rfl <;> assumption
theorem sm_nil {x : Pl} (e : x.more = []) : x.Sm := fun i hi => by
  rw [e] at hi
  cases hi
def lows : List Int := [2, 3, 1, 4, 6, 12]
def wordsP : List Str := ["own", "own", "shared", "caller", "bad", "late", "never", "shared"]
end Tr
namespace K18
open PySem PySem.Spec PyProof.Rows L2 Evl Fx Fr Dt Tr
theorem scSDraw : FnScope ["_law_feed_here", "_law_some"] ["_law_feed_here"] (defScope (topS 38)) := ⟨rfl, rfl, rfl, by decide +kernel, rfl, by decide +kernel, by decide +kernel⟩
theorem scSPlain : FnScope ["_law_feed_here", "_law_low", "_law_word"] ["_law_feed_here"] (defScope (topS 33)) := ⟨rfl, rfl, rfl, by decide +kernel, rfl, by decide +kernel, by decide +kernel⟩
section
variable {P : Program} {w : World} {K : PySem.W.Frag} {mg : Str → Option Value} {base : Heap} {f f2 f3 : Addr} {fd fd2 fd3 : FuncData} {d l : Addr} {te ta tb : TE} {σ : L2.St} {H : Hp} {k ka kb n : Nat}
/-- a def of the feed alone: m draws, a value of which Pm holds -/
def spFeedM (m : Nat) (Pm : VP) : Sp := fun vs H Q _ => ∃ (d l : Addr) (n : Nat), vs = [.ref d] ∧ FeedAt H d l n ∧ n + m ≤ 1000000 ∧ ∀ H' v, Kp d H H' → FeedAt H' d l (n + m) → Pm v H' → Q v H'
def LotD (K : PySem.W.Frag) : VP := fun v H => ∃ x, x ∈ lots ∧ Dp K H v (frD x)
def PlD (K : PySem.W.Frag) : VP := fun v H => ∃ x : Pl, x.Ok ∧ x.Sm ∧ Dp K H v x.D
theorem r_feedM {m : Nat} {Pm : VP} {E : XK} {i : Nat} (hd : σ[i]? = some (some (.ref d))) : EvR (FeedF d l) (tCall (spFeedM m Pm) [] E (tCons (tVar i) tNil)) σ H m Pm :=
  fun n H1 hn g e Q q => ⟨.ref d, hd, d, l, n, rfl, g, by have : (FeedF d l).N = 1000000 := rfl; omega, fun H3 v k3 g3 p => q _ _ (kp_kx k3) g3 p⟩
theorem ra_nilP {F : Fd} : EvRA F tNil σ H 0 (fun vs _ => vs = []) := fun n1 H1 hn g e Q q => q _ H1 Kx.refl g rfl
theorem ra_consP {F : Fd} {tr : TA} {Px : VP} {Pr : List V → Hp → Prop} (m : MonoF F Px) (h : EvR F te σ H ka Px) (hr : EvRA F tr σ H kb Pr) : EvRA F (tCons te tr) σ H (ka + kb) (fun vs H => ∃ x r, vs = x :: r ∧ Px x H ∧ Pr r H) :=
  fun n H1 hn g e Q q => h n H1 (by omega) g e _ fun x H2 e2 g2 p => hr (n + ka) H2 (by omega) g2 (e.trans e2) _ fun vs H3 e3 g3 p' => q (x :: vs) H3 (e2.trans e3) (by rw [← Nat.add_assoc]; exact g3) ⟨x, vs, rfl, m _ _ _ _ g2 e3 p, p'⟩
theorem r_tupP {F : Fd} {tr : TA} {Pr : List V → Hp → Prop} (o : F.Ok) (m : MonoA F Pr) (h : EvRA F tr σ H ka Pr) (hl : ∀ vs H, Pr vs H → vs.length ≤ 100000) : EvR F (tTup tr) σ H ka (fun v H => ∃ p vs, v = .ref p ∧ H p = some (.tup vs) ∧ Pr vs H) :=
  fun n H1 hn g e Q q => h n H1 hn g e _ fun vs H2 e2 g2 p => ⟨sz_of (hl _ _ p), fun a ha => q (.ref a) _ (e2.trans (Kx.ex (Ex.new ha))) (o.ex g2 (Ex.new ha)) ⟨a, vs, rfl, upd_same, m _ _ _ _ g2 (Kx.ex (Ex.new ha)) p⟩⟩
theorem mono_below {F : Fd} {m : Int} : MonoF F (Below m) := fun _ _ _ _ _ _ p => p
theorem mono_nilP {F : Fd} : MonoA F (fun vs _ => vs = []) := fun _ _ _ _ _ _ p => p
theorem mono_consP {F : Fd} {Px : VP} {Pr : List V → Hp → Prop} (m : MonoF F Px) (m' : MonoA F Pr) : MonoA F (fun vs H => ∃ x r, vs = x :: r ∧ Px x H ∧ Pr r H) := fun n v H H' g e ⟨x, r, h1, h2, h3⟩ => ⟨x, r, h1, m n _ _ _ g e h2, m' n _ _ _ g e h3⟩
theorem ra_frs {F : Fd} (o : F.Ok) : EvRA F (tCons (tTup (tCons (tC (.int 0)) (tCons (tC (.int 1)) tNil))) (tCons (tTup (tCons (tC (.int 1)) (tCons (tC (.int 2)) tNil))) (tCons (tTup (tCons (tC (.int 1)) (tCons (tC (.int 3)) tNil))) (tCons (tTup (tCons (tC (.int 11)) (tCons (tC (.int 12)) tNil))) (tCons (tTup (tCons (tC (.int 1)) (tCons (tC (.int 12)) tNil))) (tCons (tTup (tCons (tC (.int 5)) (tCons (tC (.int 12)) tNil)))
    (tCons (tTup (tCons (tC (.int 3)) (tCons (tC (.int 4)) tNil))) (tCons (tTup (tCons (tC (.int 1)) (tCons (tC (.int 6)) tNil))) (tCons (tTup (tCons (tC (.int 2)) (tCons (tC (.int 3)) tNil))) (tCons (tTup (tCons (tC (.int 1)) (tCons (tC (.int 4)) tNil))) (tCons (tTup (tCons (tC (.int 99)) (tCons (tC (.int 100)) tNil))) tNil))))))))))) σ H 0 (fun vs H => DpAll K H vs (lots.map frD)) := by
  have pr : ∀ {p q : Int}, EvR F (tTup (tCons (tC (.int p)) (tCons (tC (.int q)) tNil))) σ H 0 (IsD K (.tuple [.int p, .int q])) := fun {p q} => rd_tup o (ra_cons (ka := 0) (kb := 0) o rd_int (ra_cons (ka := 0) (kb := 0) o rd_int ra_nil))
  exact ra_cons (ka := 0) (kb := 0) o pr (ra_cons (ka := 0) (kb := 0) o pr (ra_cons (ka := 0) (kb := 0) o pr (ra_cons (ka := 0) (kb := 0) o pr (ra_cons (ka := 0) (kb := 0) o pr (ra_cons (ka := 0) (kb := 0) o pr (ra_cons (ka := 0) (kb := 0) o pr (ra_cons (ka := 0) (kb := 0) o pr (ra_cons (ka := 0) (kb := 0) o pr (ra_cons (ka := 0) (kb := 0) o pr (ra_cons (ka := 0) (kb := 0) o pr ra_nil))))))))))
theorem ok_sdraw (F : Fun K "_law_some_draw" "_law_some_draw" (topS 38) f fd) (cC : C8.Cal P w K mg base 2 "_law_choice" (spChoice K) []) : FnOk P w K mg base CX0 3 f fd ["_law_feed_here"] (spFeedM 1 (LotD K)) := by
  refine F.ok scSDraw (fun vs H Q E h => ?_) (fun cdv A outer s H vs Q E hr h => ?_)
  · obtain ⟨d, l, n, rfl, _⟩ := h
    rfl
  · obtain ⟨d, l, n, rfl, hF, hn, q⟩ := h
    refine ⟨_, pss_cons (ps_set (i := 1) scSDraw.nd rfl (.inl rfl) (pe_lst (pa_cons (pe_tup (pa_cons pe_int (pa_cons pe_int pa_nil))) (pa_cons (pe_tup (pa_cons pe_int (pa_cons pe_int pa_nil))) (pa_cons (pe_tup (pa_cons pe_int (pa_cons pe_int pa_nil))) (pa_cons (pe_tup (pa_cons pe_int (pa_cons pe_int pa_nil))) (pa_cons (pe_tup (pa_cons pe_int (pa_cons pe_int pa_nil))) (pa_cons (pe_tup (pa_cons pe_int (pa_cons pe_int pa_nil)))
      (pa_cons (pe_tup (pa_cons pe_int (pa_cons pe_int pa_nil))) (pa_cons (pe_tup (pa_cons pe_int (pa_cons pe_int pa_nil))) (pa_cons (pe_tup (pa_cons pe_int (pa_cons pe_int pa_nil))) (pa_cons (pe_tup (pa_cons pe_int (pa_cons pe_int pa_nil))) (pa_cons (pe_tup (pa_cons pe_int (pa_cons pe_int pa_nil))) pa_nil)))))))))))))
      (pss_one (ps_ret (C8.pe_c cC hr (by decide) (by rfl) (pa_cons (pv 0) (pa_cons (pv 1) pa_nil))))), ?_⟩
    refine q_asgR (F := FeedF d l) (n := n) (k := 0) (P := IsL (FeedF d l) K (lots.map frD)) (rl_lst FeedF.ok (ra_frs FeedF.ok) (hl := by decide)) hF (by show n + 0 ≤ 1000000; omega) fun v H1 e1 g1 il => ?_
    refine s_retR (F := FeedF d l) (n := n) (k := 1) (P := OneOf K (lots.map frD)) (r_choice (kb := 0) rfl (rl_var FeedF.ok g1 rfl il lots_flat) lots_flat (by decide) (by decide)) g1 hn fun v2 H2 e2 g2 ⟨x, hx, p⟩ => ?_
    obtain ⟨r, hr', rfl⟩ := List.mem_map.mp hx
    exact q H2 v2 (kx_kp (e1.trans e2)) g2 ⟨r, hr', p⟩
theorem ok_splain (F : Fun K "_law_some_plain" "_law_some_plain" (topS 33) f fd) (cC : C8.Cal P w K mg base 2 "_law_choice" (spChoice K) []) (cD : C8.Cal P w K mg base 1 "_law_draw" spDraw []) : FnOk P w K mg base CX0 3 f fd ["_law_feed_here"] (spFeedM 3 (PlD K)) := by
  refine F.ok scSPlain (fun vs H Q E h => ?_) (fun cdv A outer s H vs Q E hr h => ?_)
  · obtain ⟨d, l, n, rfl, _⟩ := h
    rfl
  · obtain ⟨d, l, n, rfl, hF, hn, q⟩ := h
    refine ⟨_, pss_cons (ps_set (i := 1) scSPlain.nd rfl (.inl rfl) (C8.pe_c cC hr (by decide) (by rfl) (pa_cons (pv 0) (pa_cons (pe_lst (pa_cons pe_int (pa_cons pe_int (pa_cons pe_int (pa_cons pe_int (pa_cons pe_int (pa_cons pe_int pa_nil))))))) pa_nil))))
      (pss_cons (ps_set (i := 2) scSPlain.nd rfl (.inl rfl) (C8.pe_c cC hr (by decide) (by rfl) (pa_cons (pv 0) (pa_cons (pe_lst (pa_cons pe_str (pa_cons pe_str (pa_cons pe_str (pa_cons pe_str (pa_cons pe_str (pa_cons pe_str (pa_cons pe_str (pa_cons pe_str pa_nil))))))))) pa_nil))))
      (pss_one (ps_ret (pe_ifExp (pt_cmpR op_in_seq (pv 2) (pe_tup (pa_cons pe_str (pa_cons pe_str pa_nil))) (by rfl)) (pe_tup (pa_cons (pv 2) (pa_cons (C8.pe_c cD hr (by decide) (by rfl) (pa_cons (pv 0) (pa_cons (pe_op op_add (pv 1) pe_int) pa_nil))) (pa_cons (pv 1) pa_nil)))) (pe_tup (pa_cons (pv 2) pa_nil)))))), ?_⟩
    have fl1 : flats (lows.map PyData.int) = true := flat_ints lows
    have fl2 : flats (wordsP.map PyData.str) = true := rfl
    have intsA : ∀ {σ : L2.St} {H : Hp}, EvRA (FeedF d l) (tCons (tC (.int 2)) (tCons (tC (.int 3)) (tCons (tC (.int 1)) (tCons (tC (.int 4)) (tCons (tC (.int 6)) (tCons (tC (.int 12)) tNil)))))) σ H 0 (fun vs H => DpAll K H vs (lows.map PyData.int)) := fun {σ H} =>
      ra_cons (ka := 0) (kb := 0) FeedF.ok rd_int (ra_cons (ka := 0) (kb := 0) FeedF.ok rd_int (ra_cons (ka := 0) (kb := 0) FeedF.ok rd_int (ra_cons (ka := 0) (kb := 0) FeedF.ok rd_int (ra_cons (ka := 0) (kb := 0) FeedF.ok rd_int (ra_cons (ka := 0) (kb := 0) FeedF.ok rd_int ra_nil)))))
    have strsA : ∀ {σ : L2.St} {H : Hp}, EvRA (FeedF d l) (tCons (tC (.str "own")) (tCons (tC (.str "own")) (tCons (tC (.str "shared")) (tCons (tC (.str "caller")) (tCons (tC (.str "bad")) (tCons (tC (.str "late")) (tCons (tC (.str "never")) (tCons (tC (.str "shared")) tNil)))))))) σ H 0 (fun vs H => DpAll K H vs (wordsP.map PyData.str)) := fun {σ H} =>
      ra_cons (ka := 0) (kb := 0) FeedF.ok rd_str (ra_cons (ka := 0) (kb := 0) FeedF.ok rd_str (ra_cons (ka := 0) (kb := 0) FeedF.ok rd_str (ra_cons (ka := 0) (kb := 0) FeedF.ok rd_str (ra_cons (ka := 0) (kb := 0) FeedF.ok rd_str (ra_cons (ka := 0) (kb := 0) FeedF.ok rd_str (ra_cons (ka := 0) (kb := 0) FeedF.ok rd_str (ra_cons (ka := 0) (kb := 0) FeedF.ok rd_str ra_nil)))))))
    have N0 : (FeedF d l).N = 1000000 := rfl
    refine q_asgR (F := FeedF d l) (n := n) (k := 0 + 1) (P := OneOf K (lows.map PyData.int)) (r_choice rfl (rl_lst FeedF.ok intsA (hl := by decide)) fl1 (by decide) (by decide)) hF (by omega) fun v1 H1 e1 g1 ⟨x1, hx1, p1⟩ => ?_
    obtain ⟨low, hlow, rfl⟩ := List.mem_map.mp hx1
    cases p1
    refine q_asgR (F := FeedF d l) (n := n + (0 + 1)) (k := 0 + 1) (P := OneOf K (wordsP.map PyData.str)) (r_choice rfl (rl_lst FeedF.ok strsA (hl := by decide)) fl2 (by decide) (by decide)) g1 (by omega) fun v2 H2 e2 g2 ⟨x2, hx2, p2⟩ => ?_
    obtain ⟨wd, hwd, rfl⟩ := List.mem_map.mp hx2
    cases p2
    have hlow' : 0 < low ∧ low ≤ 12 := by
      simp only [lows, List.mem_cons, List.not_mem_nil, or_false] at hlow
      omega
    have rw : EvR (FeedF d l) (tVar 2) [some (.ref d), some (.int low), some (.str wd)] H2 0 (IsD K (.str wd)) := rd_ofS (rv_var rfl)
    have rl : EvR (FeedF d l) (tVar 1) [some (.ref d), some (.int low), some (.str wd)] H2 0 (IsD K (.int low)) := rd_ofI (rv_var rfl)
    have words : ∀ x ∈ wordsP, (([("own" : Str), "shared"].any fun y => y == x) = true ∧ (x = "own" ∨ x = "shared")) ∨ (([("own" : Str), "shared"].any fun y => y == x) = false ∧ (x = "caller" ∨ x = "bad" ∨ x = "late" ∨ x = "never")) := by
      intro x hx
      simp only [wordsP, List.mem_cons, List.not_mem_nil, or_false] at hx
      rcases hx with rfl | rfl | rfl | rfl | rfl | rfl | rfl | rfl
      · exact .inl ⟨by decide +kernel, .inl rfl⟩
      · exact .inl ⟨by decide +kernel, .inl rfl⟩
      · exact .inl ⟨by decide +kernel, .inr rfl⟩
      · exact .inr ⟨by decide +kernel, .inl rfl⟩
      · exact .inr ⟨by decide +kernel, .inr (.inl rfl)⟩
      · exact .inr ⟨by decide +kernel, .inr (.inr (.inl rfl))⟩
      · exact .inr ⟨by decide +kernel, .inr (.inr (.inr rfl))⟩
      · exact .inl ⟨by decide +kernel, .inr rfl⟩
    refine s_retR (F := FeedF d l) (n := n + (0 + 1) + (0 + 1)) (k := 0 + 1) (P := PlD K) (r_if (ka := 0) (kb := 1) FeedF.ok (rt_val (rb_inT (K := K) (ka := 0) (kb := 0) (ws := ["own", "shared"]) FeedF.ok (rv_str (K := K) rw) (rd_tup FeedF.ok (ra_cons (ka := 0) (kb := 0) FeedF.ok rd_str (ra_cons (ka := 0) (kb := 0) FeedF.ok rd_str ra_nil))))) (fun hb => ?_) fun hb => ?_) g2 (by omega) fun v3 H3 e3 g3 p3 => ?_
    · have rdr : EvR (FeedF d l) (tCall spDraw [] C8.E0 (tCons (tVar 0) (tCons (tOp (rI0 fun i j => .int (i + j)) (tVar 1) (tC (.int 1))) tNil))) [some (.ref d), some (.int low), some (.str wd)] H2 (0 + 0 + 1) (Below (low + 1)) := r_draw rfl (rv_op (ka := 0) (kb := 0) FeedF.ok (rv_var rfl) rv_c (fun _ => rv_I0)) (by omega) (by omega)
      refine EvR.imp (r_tupP (ka := 1) FeedF.ok (mono_consP (mono_d FeedF.ok rfl) (mono_consP mono_below (mono_consP (mono_d FeedF.ok rfl) mono_nilP))) (ra_consP (ka := 0) (kb := 1) (mono_d FeedF.ok rfl) rw (ra_consP (ka := 1) (kb := 0) mono_below rdr (ra_consP (ka := 0) (kb := 0) (mono_d FeedF.ok rfl) rl ra_nilP))) fun vs H' ⟨x, r, e1, _, y, r2, e2, _, z, r3, e3, _, e4⟩ => by subst e4 e3 e2 e1; exact (show 3 ≤ 100000 by decide)) fun n' v' H' g' e' ⟨p, vs, ev, hp, x, r, e1, hx, y, r2, e2, ⟨t, hy, t0, t1⟩, z, r3, e3, hz, e4⟩ => ?_
      subst ev e4 e3 e2 e1 hy
      rcases words wd hwd with ⟨_, rfl | rfl⟩ | ⟨hf, _⟩
      · exact ⟨.own t low, ⟨hlow'.1, by omega, by omega⟩, sm_two rfl (by omega) (by omega), .tup (st_of hp) (.cons hx (.cons (.int _) (.cons hz .nil)))⟩
      · exact ⟨.shared t low, ⟨hlow'.1, by omega, by omega⟩, sm_two rfl (by omega) (by omega), .tup (st_of hp) (.cons hx (.cons (.int _) (.cons hz .nil)))⟩
      · rw [hb] at hf
        cases hf
    · refine EvR.up FeedF.ok (EvR.imp (rd_tup FeedF.ok (ra_cons (ka := 0) (kb := 0) FeedF.ok rw ra_nil)) fun n' v' H' g' e' hp => ?_) (by decide)
      rcases words wd hwd with ⟨hf, _⟩ | ⟨_, rfl | rfl | rfl | rfl⟩
      · rw [hb] at hf
        cases hf
      · exact ⟨.caller, trivial, sm_nil rfl, hp⟩
      · exact ⟨.bad, trivial, sm_nil rfl, hp⟩
      · exact ⟨.late, trivial, sm_nil rfl, hp⟩
      · exact ⟨.never, trivial, sm_nil rfl, hp⟩
    · exact q H3 v3 (kx_kp ((e1.trans e2).trans e3)) g3 p3
end
end K18
namespace Tr
open PySem PySem.Spec PyProof.Rows L2 Evl Fx Dt
open PySem.W (alike alikeAll AllAlike Sortable dataLe)
mutual
theorem enc_alike : ∀ a b : T, alike (enc a) (enc b) = true
  | .mk s m cs, .mk s' m' cs' => by
    rw [enc, enc]
    simp only [alike, alikeAll, Bool.true_and, Bool.and_true]
    exact encs_alike cs cs'
theorem encs_alike : ∀ a b : List T, alikeAll (encs a) (encs b) = true
  | [], _ => by rw [encs]; simp [alikeAll]
  | _ :: _, [] => by rw [encs, encs]; simp [alikeAll]
  | x :: xs, y :: ys => by rw [encs, encs, alikeAll, enc_alike x y, encs_alike xs ys]; rfl
end
mutual
theorem enc_depth : ∀ t : T, PyData.depth (enc t) ≤ 2 * size t
  | .mk s m cs => by
    have := encs_depth cs
    rw [enc, size]
    simp only [PyData.depth, PyData.depthAll]
    omega
theorem encs_depth : ∀ ts : List T, PyData.depthAll (encs ts) ≤ 2 * sizes ts
  | [] => by rw [encs]; simp [PyData.depthAll]
  | t :: ts => by
    have h1 := enc_depth t
    have h2 := encs_depth ts
    rw [encs, sizes, PyData.depthAll]
    omega
end
theorem all_alike (ts : List T) : AllAlike (ts.map enc) := fun d hd d' hd' => by
  obtain ⟨a, _, rfl⟩ := List.mem_map.mp hd
  obtain ⟨b, _, rfl⟩ := List.mem_map.mp hd'
  exact enc_alike a b
theorem all_sortable (ts : List T) : Sortable (ts.map enc) := .inl fun d hd => by
  obtain ⟨a, _, rfl⟩ := List.mem_map.mp hd
  exact ⟨_, _, enc_eq a⟩
def sortT (ts : List T) : List T := ts.mergeSort fun a b => dataLe false id (enc a) (enc b)
theorem sort_map (ts : List T) : (ts.map enc).mergeSort (dataLe false id) = (sortT ts).map enc :=
  (List.map_mergeSort (r := fun a b => dataLe false id (enc a) (enc b)) (s := dataLe false id) (f := enc) (l := ts) (fun _ _ _ _ => rfl)).symm
theorem sort_perm (ts : List T) : (sortT ts).Perm ts := List.mergeSort_perm _ _
theorem sizes_perm {a b : List T} (h : a.Perm b) : sizes a = sizes b := by
  induction h with
  | nil => rfl
  | cons x _ ih => rw [sizes, sizes, ih]
  | swap x y l => rw [sizes, sizes, sizes, sizes]; omega
  | trans _ _ h1 h2 => exact h1.trans h2
theorem mem_subsA : ∀ {ts : List T} {s : T}, s ∈ subsA ts → ∃ c ∈ ts, s ∈ subs c
  | [], s, h => by rw [subsA] at h; cases h
  | t :: ts, s, h => by
    rw [subsA, List.mem_append] at h
    rcases h with h | h
    · exact ⟨t, List.mem_cons_self .., h⟩
    · obtain ⟨c, hc, hs⟩ := mem_subsA h
      exact ⟨c, List.mem_cons_of_mem _ hc, hs⟩
theorem depth_mem {ts : List T} : ∀ d ∈ ts.map enc, PyData.depth d ≤ 2 * sizes ts := fun d hd => by
  obtain ⟨a, ha, rfl⟩ := List.mem_map.mp hd
  obtain ⟨i, hi, rfl⟩ := List.getElem_of_mem ha
  have h1 := enc_depth ts[i]
  have h2 : size ts[i] ≤ sizes ts := by
    have : ∀ {ts : List T} {i : Nat} {c : T}, ts[i]? = some c → size c ≤ sizes ts := fun h => size_mem h
    exact this (List.getElem?_eq_getElem hi)
  omega
end Tr
namespace Dt
open PySem PySem.Spec PyProof.Rows L2 Evl Fx
theorem q_forRg {F : Fd} {te : TE} {σ : L2.St} {H : Hp} {k n j : Nat} {P : VP} {tb tz : TS} {D : Ends} (h : EvR F te σ H k P) (g0 : F.G n H) (hn : n + k ≤ F.N)
    (kk : ∀ v H1, Kx F.S H H1 → F.G (n + k) H1 → P v H1 → ∃ (m : Nat) (Pv : Nat → L2.St → Hp → Prop), v = .int (m : Int) ∧ m ≤ 40000 ∧ Pv 0 σ H1 ∧ (∀ i σ' H', i < m → Pv i σ' H' → tb { D with nx := Pv (i + 1), ct := Pv (i + 1), bk := tz D } (σ'.set j (some (.int (i : Int)))) H') ∧ ∀ σ' H', Pv m σ' H' → tz D σ' H') :
    tSeq (tFor (iRng1 (tCons te tNil)) (gName j) tb) tz D σ H := h n H hn g0 Kx.refl _ fun v H1 e1 g1 p => by
  obtain ⟨m, Pv, rfl, hm, h0, hs, hd⟩ := kk v H1 e1 g1 p
  refine ⟨(m : Int), rfl, by omega, by omega, ?_⟩
  rw [Int.toNat_natCast]
  exact for_range (lo := 0) (n := m) Pv h0 (fun i σ' H' hi p => by
    have e0 : (0 : Int) + (i : Int) = (i : Int) := Int.zero_add _
    show tb { D with nx := Pv (i + 1), ct := Pv (i + 1), bk := tz D } (σ'.set j (some (.int ((0 : Int) + (i : Int))))) H'
    rw [e0]
    exact hs i σ' H' hi p) hd
end Dt
namespace K18
open PySem PySem.Spec PyProof.Rows L2 Evl Fx Fr Dt Tr
theorem scTree : FnScope ["_law_feed_here", "_law_left", "_law_deep", "_law_name", "_law_mark", "_law_calls", "_law_k"] ["_law_feed_here", "_law_left", "_law_deep"] (defScope (topS 32)) := ⟨rfl, rfl, rfl, by decide +kernel, rfl, by decide +kernel, by decide +kernel⟩
def LeftF (d l e : Addr) : Fd := ⟨fun a => a = d ∨ a = e, fun a => a = d ∨ a = l ∨ a = e, fun n H => FeedAt H d l n ∧ e ≠ d ∧ e ≠ l ∧ ∃ k : Nat, H e = some (.lst [.int (k : Int)]), 1000000⟩
theorem LeftF.ok {d l e : Addr} : (LeftF d l e).Ok where
  sub := fun h => h.elim (fun h => .inl h) fun h => .inr (.inr h)
  at_ := fun {n H a} g t => by
    obtain ⟨⟨ns, s, r, c, h1, h2, _⟩, _, _, k, h3⟩ := g
    rcases t with rfl | rfl | rfl
    · exact ⟨_, h1, .inl ⟨_, rfl⟩⟩
    · exact ⟨_, h2, .inl ⟨_, rfl⟩⟩
    · exact ⟨_, h3, .inl ⟨_, rfl⟩⟩
  loc := fun g k => ⟨g.1.loc fun a o t => k a o (t.elim (fun h => .inl h) fun h => .inr (.inl h)), g.2.1, g.2.2.1, by
    obtain ⟨_, _, _, m, h⟩ := g
    exact ⟨m, k _ _ (.inr (.inr rfl)) h⟩⟩
  up := fun g h => ⟨g.1.up h, g.2⟩
section
variable {P : Program} {w : World} {K : PySem.W.Frag} {mg : Str → Option Value} {base : Heap} {f f2 f3 : Addr} {fd fd2 fd3 : FuncData} {d l e : Addr} {te ta tb : TE} {σ : L2.St} {H : Hp} {k ka kb n : Nat}
def Nice (t : T) : Prop := ∀ s ∈ subs t, (s.name = "db" ∨ s.name = "front" ∨ s.name = "pay") ∧ (s.mark = 0 ∨ s.mark = 1)
/-- a tree, m calls left at the most: what it uses of them -/
def spTree (K : PySem.W.Frag) (m : Nat) : Sp := fun vs H Q _ => ∃ (d l e : Addr) (deep n k : Nat), vs = [.ref d, .ref e, .int (deep : Int)] ∧ deep < m ∧ FeedAt H d l n ∧ e ≠ d ∧ e ≠ l ∧ H e = some (.lst [.int (k : Int)]) ∧ k ≤ 10 ∧ n + 3 * (1 + k) ≤ 1000000 ∧
  ∀ H' v t k', Kx (LeftF d l e).S H H' → size t + k' ≤ 1 + k → FeedAt H' d l (n + 3 * size t) → H' e = some (.lst [.int ((k' : Nat) : Int)]) → Nice t → Dp K H' v (enc t) → Q v H'
theorem ok_tree (F : Fun K "_law_some_tree" "_law_some_tree" (topS 32) f fd) (gl : mg "_law_some_tree" = some (.ref f)) (B : Binds K fd ["_law_feed_here", "_law_left", "_law_deep"] []) (cC : C8.Cal P w K mg base 2 "_law_choice" (spChoice K) []) (cD : C8.Cal P w K mg base 1 "_law_draw" spDraw []) (m_int : mg "int" = none) (m_range : mg "range" = none) (m_tuple : mg "tuple" = none) (m_sorted : mg "sorted" = none) :
    ∀ m, FnOk P w K mg base CX0 (m + 2) f fd ["_law_feed_here", "_law_left", "_law_deep"] (spTree K m)
  | 0 => by
    refine ⟨fun vs H Q E h => ?_, fun A outer s H args us vs Q E hr he hb hv h => ?_⟩
    · obtain ⟨d, l, e, deep, n, k, _, h, _⟩ := h
      exact absurd h (Nat.not_lt_zero _)
    · obtain ⟨d, l, e, deep, n, k, _, h, _⟩ := h
      exact absurd h (Nat.not_lt_zero _)
  | m + 1 => by
    have cT := cal F (ok_tree F gl B cC cD m_int m_range m_tuple m_sorted m) gl B
    refine F.ok scTree (fun vs H Q E h => ?_) (fun cdv A outer s H vs Q E hr h => ?_)
    · obtain ⟨d, l, e, deep, n, k, rfl, _⟩ := h
      rfl
    · obtain ⟨d, l, e, deep, n, k, rfl, hm, hF, ned, nel, he, hk, hn, q⟩ := h
      refine ⟨_, pss_cons (ps_par3 (i := 3) (j := 4) (l := 5) rfl scTree.nd rfl rfl rfl (by decide) (by decide) (by decide) rfl rfl rfl (pa_cons (C8.pe_c cC hr (by omega) (by rfl) (pa_cons (pv 0) (pa_cons (pe_lst (pa_cons pe_str (pa_cons pe_str (pa_cons pe_str pa_nil)))) pa_nil))) (pa_cons (pe_callTy call_int1 (by rfl) m_int (by decide +kernel) (pa_cons (pe_cmpR op_eq (C8.pe_c cD hr (by omega) (by rfl) (pa_cons (pv 0) (pa_cons pe_int pa_nil))) pe_int (nomark _)) pa_nil)) (pa_cons (pe_lst pa_nil) pa_nil))) (by rfl))
        (pss_cons (ps_for PassesOwn.never rfl (pi_range1 (by rfl) m_range (pa_cons (pe_ifExp (pt_cmpR op_gt (pv 2) pe_int (nomark _)) (C8.pe_c cD hr (by omega) (by rfl) (pa_cons (pv 0) (pa_cons pe_int pa_nil))) pe_int) pa_nil)) (pg_name (i := 6) scTree.nd rfl (.inl rfl))
          (pss_one (ps_if (pt_cmpR op_gt (pe_ix ix_list (pv 1) pe_int (fun _ _ => rfl)) pe_int (nomark _))
            (pss_cons (ps_asg (pe_op op_sub (pe_ix ix_list (pv 1) pe_int (fun _ _ => rfl)) pe_int) (pg_sub (pv 1) pe_int set_list (fun _ => rfl)))
            (pss_one (ps_expr (pe_bm PySem.F.plainAttrs_list PySem.F.slot_list_append PySem.F.type_list_append mt_append (pv 5) (pa_cons (C8.pe_c cT hr (by omega) (by rfl) (pa_cons (pv 0) (pa_cons (pv 1) (pa_cons (pe_op op_sub (pv 2) pe_int) pa_nil)))) pa_nil))))) pss_nil)))
        (pss_one (ps_ret (pe_tup (pa_cons (pv 3) (pa_cons (pv 4) (pa_cons (pe_callTy (T := "tuple") (r := rTupOf K) call_tupleOf (by rfl) m_tuple (by decide +kernel) (pa_cons (pe_callB (r := rSortD K) (cr_sortedD hr.units) (by rfl) m_sorted (by decide +kernel) (pa_cons (pv 5) pa_nil)) pa_nil)) pa_nil))))))), ?_⟩
      have N0 : (FeedF d l).N = 1000000 := rfl
      have N1 : (LeftF d l e).N = 1000000 := rfl
      have strs3 : ∀ {σ : L2.St} {H : Hp}, EvRA (FeedF d l) (tCons (tC (.str "db")) (tCons (tC (.str "front")) (tCons (tC (.str "pay")) tNil))) σ H 0 (fun vs H => DpAll K H vs ([("db" : Str), "front", "pay"].map PyData.str)) := fun {σ H} =>
        ra_cons (ka := 0) (kb := 0) FeedF.ok rd_str (ra_cons (ka := 0) (kb := 0) FeedF.ok rd_str (ra_cons (ka := 0) (kb := 0) FeedF.ok rd_str ra_nil))
      have ch := r_choice (K := K) (d := d) (l := l) (σ := [some (.ref d), some (.ref e), some (.int (deep : Int)), none, none, none, none]) (H := H) (E := C8.E0) (i := 0) (kb := 0) (ds := [("db" : Str), "front", "pay"].map PyData.str) rfl (rl_lst FeedF.ok strs3 (hl := by decide)) rfl (by decide) (by decide)
      refine q_par3 (q_cons (ch n H (by omega) hF Kx.refl _ fun w1 H1 e1 g1 ⟨x1, hx1, p1⟩ => q_cons ?_))
      obtain ⟨nm, hnm, rfl⟩ := List.mem_map.mp hx1
      cases p1
      replace e1 := kx_kp e1
      refine ⟨.ref d, rfl, d, l, 3, n + (0 + 1), rfl, g1, by omega, by decide, by decide, fun H2 r k2 g2 a1 a2 => ⟨rfl, .inr ⟨_, rfl, by decide, fun A hA => ⟨_, _, _, rfl, ?_⟩⟩⟩⟩
      have e3 := Ex.new (o := HO.lst []) hA
      have k3 : Kp d H (upd H2 A (.lst [])) := (e1.trans k2).trans (Kp.ex e3)
      have g3 : FeedAt (upd H2 A (.lst [])) d l (n + 2) := FeedF.ok.ex g2 e3
      have hA3 : upd H2 A (.lst []) A = some (.lst []) := upd_same
      have nA : H A = none := kx_none (FeedF.ok (d := d) (l := l)) g2 (kp_kx (e1.trans k2)) hA
      generalize hmk : (if decide (V.int r = V.int 0) = true then (1 : Int) else 0) = mk
      change tSeq _ _ _ [some (.ref d), some (.ref e), some (.int (deep : Int)), some (.str nm), some (.int mk), some (.ref A), none] (upd H2 A (.lst []))
      generalize upd H2 A (.lst []) = H3 at k3 g3 hA3 ⊢
      have hdH : ∃ o, H d = some o := by
        obtain ⟨ns, s, r, c, h1, _⟩ := hF
        exact ⟨_, h1⟩
      have nAd : A ≠ d := by
        rintro rfl
        obtain ⟨o, h⟩ := hdH
        rw [nA] at h
        cases h
      have nAe : A ≠ e := by
        rintro rfl
        rw [nA] at he
        cases he
      have nAS : ¬ (LeftF d l e).S A := fun z => z.elim nAd nAe
      have rng : EvR (FeedF d l) (tIf (tTest (tOp (rI0 fun i j => .bl (decide (i > j))) (tVar 2) (tC (.int 0)))) (tCall spDraw [] C8.E0 (tCons (tVar 0) (tCons (tC (.int 3)) tNil))) (tC (.int 0))) [some (.ref d), some (.ref e), some (.int (deep : Int)), some (.str nm), some (.int mk), some (.ref A), none] H3 (0 + 1) (fun v _ => ∃ r : Nat, v = .int (r : Int) ∧ r ≤ 2 ∧ (0 < r → 0 < deep)) := by
        refine r_if (ka := 0) (kb := 1) (b := decide ((deep : Int) > 0)) FeedF.ok (rt_val (rv_op (ka := 0) (kb := 0) FeedF.ok (rv_var rfl) rv_c fun _ => rv_I0)) (fun hb => ?_) fun hb => ?_
        · exact EvR.imp (r_draw (kb := 0) rfl rv_c (by decide) (by decide)) fun _ v _ _ _ ⟨r, ev, r0, r1⟩ => ⟨r.toNat, by rw [ev, Int.toNat_of_nonneg r0], by omega, fun _ => by have := of_decide_eq_true hb; omega⟩
        · exact EvR.up FeedF.ok (EvR.imp rv_c fun _ v _ _ _ ev => ⟨0, ev, by decide, fun h => absurd h (by decide)⟩) (by decide)
      refine q_forRg (F := FeedF d l) (n := n + 2) (k := 0 + 1) rng g3 (by omega) fun v H4 e4 g4 ⟨r, ev, r2, rd0⟩ => ?_
      replace e4 := kx_kp e4
      have k4 : Kx (LeftF d l e).S H H4 := fun b o hb hn => (k3.trans e4) b o hb fun z => hn (.inl z)
      have he4 : H4 e = some (.lst [.int (k : Int)]) := (k3.trans e4) _ _ he ned
      refine ⟨r, fun i σ' H' => ∃ (cs : List T) (xs : List V) (u6 : Option V) (kk : Nat), σ' = [some (.ref d), some (.ref e), some (.int (deep : Int)), some (.str nm), some (.int mk), some (.ref A), u6] ∧ Kx (LeftF d l e).S H H' ∧ FeedAt H' d l (n + 3 + 3 * sizes cs) ∧ H' e = some (.lst [.int (kk : Int)]) ∧ sizes cs + kk ≤ k ∧ H' A = some (.lst xs) ∧ DpAll K H' xs (cs.map enc) ∧ ∀ c ∈ cs, Nice c, ev, by omega,
        ⟨[], [], none, k, rfl, k4, by rw [sizes]; exact g4, he4, by rw [sizes]; omega, e4 _ _ hA3 nAd, .nil, fun c h => by cases h⟩, fun i σ' H' hi ⟨cs, xs, u6, kk, es, kx, gF, hle, hsz, hA', dx, hc⟩ => ?_, fun σ' H' ⟨cs, xs, u6, kk, es, kx, gF, hle, hsz, hA', dx, hc⟩ => ?_⟩
      · subst es
        have hd0 := rd0 (by omega)
        refine ⟨_, rfl, e, _, 0, _, rfl, rfl, sq_of hle, rfl, _, _, rfl, rfl, _, rfl, ite2 (fun hb => ?_) (fun _ => ⟨cs, xs, _, kk, rfl, kx, gF, hle, hsz, hA', dx, hc⟩)⟩
        have hkk : 0 < kk := by have := of_decide_eq_true hb; omega
        refine ⟨_, rfl, e, _, 0, _, rfl, rfl, sq_of hle, rfl, _, _, rfl, rfl, _, rfl, e, _, 0, 0, rfl, rfl, hle, rfl, ?_⟩
        have ekk : (kk : Int) - 1 = ((kk - 1 : Nat) : Int) := by omega
        have k5 : Kx (LeftF d l e).S H (upd H' e (.lst [.int ((kk - 1 : Nat) : Int)])) := kx.at (.inr rfl)
        have g5 : FeedAt (upd H' e (.lst [.int ((kk - 1 : Nat) : Int)])) d l (n + 3 + 3 * sizes cs) := gF.loc fun a o t ha => by
          have : a ≠ e := t.elim (fun z y => ned (y.symm.trans z)) fun z y => nel (y.symm.trans z)
          rw [upd_ne this]
          exact ha
        have he5 : upd H' e (.lst [.int ((kk - 1 : Nat) : Int)]) e = some (.lst [.int ((kk - 1 : Nat) : Int)]) := upd_same
        have hA5 : upd H' e (.lst [.int ((kk - 1 : Nat) : Int)]) A = some (.lst xs) := by rw [upd_ne nAe]; exact hA'
        have dx5 : DpAll K (upd H' e (.lst [.int ((kk - 1 : Nat) : Int)])) xs (cs.map enc) := dps_kt (kt_lst hle) _ _ (maps_flat cs) dx
        dsimp only [List.set]
        rw [ekk]
        generalize upd H' e (.lst [.int ((kk - 1 : Nat) : Int)]) = H5 at k5 g5 he5 hA5 dx5 ⊢
        have ed : (deep : Int) - 1 = ((deep - 1 : Nat) : Int) := by omega
        refine ⟨.ref A, rfl, .inl ⟨rfl, xs, sq_of hA5⟩, .ref d, rfl, .ref e, rfl, _, rfl, _, _, rfl, rfl, d, l, e, deep - 1, n + 3 + 3 * sizes cs, kk - 1, by rw [← ed]; rfl, by omega, g5, ned, nel, he5, by omega, by omega, fun H6 v t k' k6 hst g6 he6 nt dt => ?_⟩
        have hA6 : H6 A = some (.lst xs) := k6 _ _ hA5 nAS
        have dx6 : DpAll K H6 xs (cs.map enc) := mono_ds (LeftF.ok (d := d) (l := l) (e := e)) (maps_flat cs) (n + 3 + 3 * sizes cs) _ _ _ ⟨g5, ned, nel, _, he5⟩ k6 dx5
        have lx := dps_len dx6
        have lcs := len_sizes cs
        rw [List.length_map] at lx
        have k7 : KT K H6 (upd H6 A (.lst (xs ++ [v]))) := kt_lst hA6
        have es1 : sizes (cs ++ [t]) = sizes cs + size t := by rw [sizes_app, sizes, sizes, Nat.add_zero]
        refine ⟨A, xs, v, rfl, rfl, hA6, sz_lt (by omega), cs ++ [t], xs ++ [v], _, k', rfl, (k5.trans k6).mut nA, ?_, by rw [upd_ne (Ne.symm nAe)]; exact he6, by rw [es1]; omega, upd_same, ?_, fun c hcm => ?_⟩
        · have g7 : FeedAt (upd H6 A (.lst (xs ++ [v]))) d l (n + 3 + 3 * sizes cs + 3 * size t) := g6.loc fun a o t' ha => by
            have : a ≠ A := by
              rintro rfl
              rcases t' with z | z
              · exact nAd z
              · subst z
                obtain ⟨ns, s, r, c, h1, h2, _⟩ := hF
                rw [nA] at h2
                cases h2
            rw [upd_ne this]
            exact ha
          rw [es1]
          have : n + 3 + 3 * (sizes cs + size t) = n + 3 + 3 * sizes cs + 3 * size t := by omega
          rw [this]
          exact g7
        · rw [List.map_append]
          exact dps_snoc (dps_kt k7 _ _ (maps_flat cs) dx6) (dp_kt k7 _ _ (enc_flat t) dt)
        · rcases List.mem_append.mp hcm with h | h
          · exact hc c h
          · cases List.mem_singleton.mp h
            exact nt
      · subst es
        have lcs := len_sizes cs
        have et : size (T.mk nm mk (sortT cs)) = 1 + sizes cs := by rw [size, sizes_perm (sort_perm cs)]; omega
        refine s_retR (F := F0) (n := 0) (k := 0) (P := IsD K (enc (T.mk nm mk (sortT cs)))) (EvR.cast (rd_tup F0.ok (ra_cons (ka := 0) (kb := 0) F0.ok (rd_ofS (rv_var rfl)) (ra_cons (ka := 0) (kb := 0) F0.ok (rd_ofI (rv_var rfl)) (ra_cons (ka := 0) (kb := 0) F0.ok (rd_tupOf F0.ok (rl_sorted F0.ok (rl_var F0.ok (n := 0) F0.g rfl ⟨A, xs, rfl, fun z => z, hA', dx⟩ (maps_flat cs)) (all_alike cs) (all_sortable cs) fun dd hdd => by have := depth_mem dd hdd; omega)) ra_nil (by rw [sort_map]; exact maps_flat _)))) (by rw [flats_cons, flats_cons, flats_cons, sort_map]; exact ⟨rfl, rfl, maps_flat _, rfl⟩)) (by rw [sort_map, enc_eq]; rfl)) F0.g (Nat.le_refl _) fun v H6 e6 _ p => ?_
        replace e6 := F0.ex e6
        refine q H6 v (T.mk nm mk (sortT cs)) kk (kx.trans (Kx.ex e6)) (by rw [et]; omega) ?_ (e6 _ _ hle) (fun s' hs' => ?_) p
        · rw [et]
          have : n + 3 * (1 + sizes cs) = n + 3 + 3 * sizes cs := by omega
          rw [this]
          exact gF.loc fun a o _ h => e6 _ _ h
        · rw [subs] at hs'
          rcases List.mem_cons.mp hs' with rfl | h
          · have hnm' : nm = "db" ∨ nm = "front" ∨ nm = "pay" := by
              simp only [List.mem_cons, List.not_mem_nil, or_false] at hnm
              exact hnm
            have hmk' : mk = 0 ∨ mk = 1 := by
              rw [← hmk]
              split
              · exact .inr rfl
              · exact .inl rfl
            exact ⟨hnm', hmk'⟩
          · obtain ⟨c, hcm, hs2⟩ := mem_subsA h
            exact hc c ((sort_perm cs).mem_iff.mp hcm) s' hs2
end
end K18
namespace Tr
open PySem PySem.Spec PyProof.Rows L2
def leaf (s : Str) (m : Int) : T := .mk s m []
def docT : List T := [leaf "front" 0, .mk "front" 0 [leaf "pay" 0], .mk "front" 0 [leaf "pay" 1]]
def docR : List (Str × Ru) := [("front", .one (.own 1 2)), ("pay", .one .bad)]
end Tr
namespace K18
open PySem PySem.Spec PyProof.Rows L2 Evl Fx Fr Dt Tr
theorem scDoc : FnScope ["_law_alone", "_law_fine", "_law_wrong"] [] (defScope (topS 35)) := ⟨rfl, rfl, rfl, by decide +kernel, rfl, by decide +kernel, by decide +kernel⟩
section
variable {P : Program} {w : World} {K : PySem.W.Frag} {mg : Str → Option Value} {base : Heap} {f f2 f3 : Addr} {fd fd2 fd3 : FuncData}
def spDoc (K : PySem.W.Frag) : Sp := spD K fun ds d => ds = [] ∧ d = .tuple [.tuple (docT.map enc), .tuple (docR.map rowD)]
theorem ok_doc (F : Fun K "_law_document" "_law_document" (topS 35) f fd) : FnOk P w K mg base CX0 1 f fd [] (spDoc K) := by
  refine F.ok scDoc (fun vs H Q E h => ?_) (fun cdv A outer s H vs Q E hr h => ?_)
  · obtain ⟨ds, es, hd, ⟨rfl, _⟩, _⟩ := h
    exact dps_len hd
  · obtain ⟨ds, es, hd, ⟨rfl, rfl⟩, q⟩ := h
    obtain rfl := dps_none hd
    refine ⟨_, pss_cons (ps_asg (pe_tup (pa_cons (pe_tup (pa_cons pe_str (pa_cons pe_int (pa_cons (pe_tup pa_nil) pa_nil)))) (pa_cons (pe_tup (pa_cons pe_str (pa_cons pe_int (pa_cons (pe_tup (pa_cons (pe_tup (pa_cons pe_str (pa_cons pe_int (pa_cons (pe_tup pa_nil) pa_nil)))) pa_nil)) pa_nil)))) (pa_cons (pe_tup (pa_cons pe_str (pa_cons pe_int (pa_cons (pe_tup (pa_cons (pe_tup (pa_cons pe_str (pa_cons pe_int (pa_cons (pe_tup pa_nil) pa_nil)))) pa_nil)) pa_nil)))) pa_nil)))) (pg_tup (by rfl) (pgs_cons (pg_name (i := 0) scDoc.nd rfl (.inl rfl)) (pgs_cons (pg_name (i := 1) scDoc.nd rfl (.inl rfl)) (pgs_cons (pg_name (i := 2) scDoc.nd rfl (.inl rfl)) pgs_nil)))))
      (pss_one (ps_ret (pe_tup (pa_cons (pe_tup (pa_cons (pv 0) (pa_cons (pv 1) (pa_cons (pv 2) pa_nil)))) (pa_cons (pe_tup (pa_cons (pe_tup (pa_cons pe_str (pa_cons (pe_tup (pa_cons pe_str (pa_cons pe_int (pa_cons pe_int pa_nil)))) pa_nil))) (pa_cons (pe_tup (pa_cons pe_str (pa_cons (pe_tup (pa_cons pe_str pa_nil)) pa_nil))) pa_nil))) pa_nil))))), ?_⟩
    have lf : ∀ {σ : L2.St} {H : Hp} {s : Str} {m : Int}, EvR F0 (tTup (tCons (tC (.str s)) (tCons (tC (.int m)) (tCons (tTup tNil) tNil)))) σ H 0 (IsD K (enc (leaf s m))) := fun {σ H s m} => (rd_tup F0.ok (ra_cons (ka := 0) (kb := 0) F0.ok rd_str (ra_cons (ka := 0) (kb := 0) F0.ok rd_int (ra_cons (ka := 0) (kb := 0) F0.ok (rd_tup F0.ok ra_nil) ra_nil)))).cast (by simp [leaf, enc, encs])
    have nd : ∀ {σ : L2.St} {H : Hp} {s s' : Str} {m m' : Int}, EvR F0 (tTup (tCons (tC (.str s)) (tCons (tC (.int m)) (tCons (tTup (tCons (tTup (tCons (tC (.str s')) (tCons (tC (.int m')) (tCons (tTup tNil) tNil)))) tNil)) tNil)))) σ H 0 (IsD K (enc (.mk s m [leaf s' m']))) := fun {σ H s s' m m'} =>
      (rd_tup F0.ok (ra_cons (ka := 0) (kb := 0) F0.ok rd_str (ra_cons (ka := 0) (kb := 0) F0.ok rd_int (ra_cons (ka := 0) (kb := 0) F0.ok (rd_tup (ds := [enc (leaf s' m')]) F0.ok (ra_cons (ka := 0) (kb := 0) F0.ok lf ra_nil (enc_flat _)) (maps_flat [leaf s' m'])) ra_nil (maps_flat [leaf s' m'])))) (flats_cons.mpr ⟨rfl, flats_cons.mpr ⟨rfl, flats_cons.mpr ⟨maps_flat [leaf s' m'], rfl⟩⟩⟩)).cast (by simp [enc, encs, leaf])
    refine q_asgG (F := F0) (n := 0) (k := 0) (P := IsD K (.tuple (docT.map enc))) (rd_tup (ds := docT.map enc) F0.ok (ra_cons (ka := 0) (kb := 0) F0.ok (lf (s := "front") (m := 0)) (ra_cons (ka := 0) (kb := 0) F0.ok (nd (s := "front") (m := 0) (s' := "pay") (m' := 0)) (ra_cons (ka := 0) (kb := 0) F0.ok (nd (s := "front") (m := 0) (s' := "pay") (m' := 1)) ra_nil (enc_flat _)) (enc_flat _)) (enc_flat _)) (maps_flat docT) (by decide)) F0.g (Nat.le_refl _) fun vt H1 e1 _ hd1 => ?_
    obtain ⟨a, v1, v2, v3, rfl, ha, p1, p2, p3⟩ := dp_three hd1
    refine ⟨a, _, rfl, ha, rfl, v1, _, rfl, v2, _, rfl, v3, _, rfl, rfl, ?_⟩
    change tRet _ _ [some v1, some v2, some v3] H1
    have r1 : EvR F0 (tVar 0) [some v1, some v2, some v3] H1 0 (IsD K (enc (leaf "front" 0))) := rd_var F0.ok (n := 0) F0.g rfl p1 (enc_flat _)
    have r2 : EvR F0 (tVar 1) [some v1, some v2, some v3] H1 0 (IsD K (enc (.mk "front" 0 [leaf "pay" 0]))) := rd_var F0.ok (n := 0) F0.g rfl p2 (enc_flat _)
    have r3 : EvR F0 (tVar 2) [some v1, some v2, some v3] H1 0 (IsD K (enc (.mk "front" 0 [leaf "pay" 1]))) := rd_var F0.ok (n := 0) F0.g rfl p3 (enc_flat _)
    refine s_retR (F := F0) (n := 0) (k := 0) (P := IsD K (.tuple [.tuple (docT.map enc), .tuple (docR.map rowD)])) (rd_tup F0.ok (ra_cons (ka := 0) (kb := 0) F0.ok (rd_tup (ds := docT.map enc) F0.ok (ra_cons (ka := 0) (kb := 0) F0.ok r1 (ra_cons (ka := 0) (kb := 0) F0.ok r2 (ra_cons (ka := 0) (kb := 0) F0.ok r3 ra_nil (enc_flat _)) (enc_flat _)) (enc_flat _)) (maps_flat docT) (by decide)) (ra_cons (ka := 0) (kb := 0) F0.ok
      (rd_tup (ds := docR.map rowD) F0.ok (ra_cons (ka := 0) (kb := 0) F0.ok (rd_tup F0.ok (ra_cons (ka := 0) (kb := 0) F0.ok rd_str (ra_cons (ka := 0) (kb := 0) F0.ok (rd_tup F0.ok (ra_cons (ka := 0) (kb := 0) F0.ok rd_str (ra_cons (ka := 0) (kb := 0) F0.ok rd_int (ra_cons (ka := 0) (kb := 0) F0.ok rd_int ra_nil))) (hl := by decide)) ra_nil))) (ra_cons (ka := 0) (kb := 0) F0.ok (rd_tup F0.ok (ra_cons (ka := 0) (kb := 0) F0.ok rd_str (ra_cons (ka := 0) (kb := 0) F0.ok (rd_tup F0.ok (ra_cons (ka := 0) (kb := 0) F0.ok rd_str ra_nil) (hl := by decide)) ra_nil))) ra_nil)) rfl (by decide)) ra_nil) (maps_flat docT)) (flats_cons.mpr ⟨maps_flat docT, rfl⟩) (by decide)) F0.g (Nat.le_refl _) fun v H2 e2 _ p => q v H2 ((F0.ex e1).trans (F0.ex e2)) p
end
end K18
namespace Tr
open PySem PySem.Spec PyProof.Rows L2
def sixT : List T := [.mk "front" 0 [.mk "db" 0 [leaf "pay" 0], .mk "db" 0 [leaf "pay" 0, leaf "pay" 1]], .mk "front" 0 [leaf "db" 0, leaf "db" 0, leaf "db" 0, leaf "pay" 0, leaf "pay" 1]]
end Tr
namespace Dt
open PySem PySem.Spec PyProof.Rows L2 Evl Fx
section
variable {F : Fd} {K : PySem.W.Frag} {ta : TE} {σ : L2.St} {H : Hp} {ka : Nat} {ds : List PyData}
theorem dps_rep {vs : List V} (h : DpAll K H vs ds) : ∀ k : Nat, DpAll K H (List.replicate k vs).flatten (List.replicate k ds).flatten
  | 0 => .nil
  | k + 1 => by
    rw [List.replicate_succ, List.replicate_succ, List.flatten_cons, List.flatten_cons]
    exact dps_app h (dps_rep h k)
/-- t * k, a written k -/
theorem rd_rep {k : Nat} (o : F.Ok) (h : EvR F ta σ H ka (IsD K (.tuple ds))) (hne : ds ≠ []) (h1 : 2 ≤ k) (h2 : k ≤ 1000) (hl : ds.length ≤ 1000) : EvR F (tOp (rRepT K) ta (tC (.int (k : Int)))) σ H ka (IsD K (.tuple (List.replicate k ds).flatten)) := fun n H1 hn g e Q q => h n H1 hn g e _ fun v H2 e2 g2 hd => by
  cases hd with
  | @tup a xs _ ha hx =>
  have lx := dps_len hx
  refine ⟨a, (k : Int), xs, rfl, rfl, ha, ?_, by omega, by omega, by omega, fun p hp => q _ _ (e2.trans (Kx.ex (Ex.new hp))) (o.ex g2 (Ex.new hp)) (.tup (st_of upd_same) (dps_ex (Ex.new hp) _ _ ?_))⟩
  · rintro rfl
    cases ds with
    | nil => exact hne rfl
    | cons _ _ => simp at lx
  · rw [Int.toNat_natCast]
    exact dps_rep hx k
end
end Dt
namespace K18
open PySem PySem.Spec PyProof.Rows L2 Evl Fx Fr Dt Tr
theorem scSix : FnScope ["_law_pay", "_law_bad", "_law_first"] [] (defScope (topS 39)) := ⟨rfl, rfl, rfl, by decide +kernel, rfl, by decide +kernel, by decide +kernel⟩
section
variable {P : Program} {w : World} {K : PySem.W.Frag} {mg : Str → Option Value} {base : Heap} {f f2 f3 : Addr} {fd fd2 fd3 : FuncData}
def spSix (K : PySem.W.Frag) : Sp := spL K fun ds es => ds = [] ∧ es = sixT.map enc
theorem rd_node {F : Fd} {ta : TE} {σ : L2.St} {H : Hp} {s : Str} {m : Int} {cs : List T} (o : F.Ok) (h : EvR F ta σ H 0 (IsD K (.tuple (cs.map enc)))) : EvR F (tTup (tCons (tC (.str s)) (tCons (tC (.int m)) (tCons ta tNil)))) σ H 0 (IsD K (enc (.mk s m cs))) :=
  (rd_tup o (ra_cons (ka := 0) (kb := 0) o rd_str (ra_cons (ka := 0) (kb := 0) o rd_int (ra_cons (ka := 0) (kb := 0) o h ra_nil (maps_flat cs)))) (flats_cons.mpr ⟨rfl, flats_cons.mpr ⟨rfl, flats_cons.mpr ⟨maps_flat cs, rfl⟩⟩⟩)).cast (enc_eq (.mk s m cs)).symm
theorem ok_six (F : Fun K "_law_six" "_law_six" (topS 39) f fd) : FnOk P w K mg base CX0 1 f fd [] (spSix K) := by
  refine F.ok scSix (fun vs H Q E h => ?_) (fun cdv A outer s H vs Q E hr h => ?_)
  · obtain ⟨ds, es, hd, ⟨rfl, _⟩, _⟩ := h
    exact dps_len hd
  · obtain ⟨ds, es, hd, ⟨rfl, rfl⟩, q⟩ := h
    obtain rfl := dps_none hd
    refine ⟨_, pss_cons (ps_asg (pe_tup (pa_cons (pe_tup (pa_cons pe_str (pa_cons pe_int (pa_cons (pe_tup pa_nil) pa_nil)))) (pa_cons (pe_tup (pa_cons pe_str (pa_cons pe_int (pa_cons (pe_tup pa_nil) pa_nil)))) pa_nil))) (pg_tup (by rfl) (pgs_cons (pg_name (i := 0) scSix.nd rfl (.inl rfl)) (pgs_cons (pg_name (i := 1) scSix.nd rfl (.inl rfl)) pgs_nil))))
      (pss_cons (ps_set (i := 2) scSix.nd rfl (.inl rfl) (pe_tup (pa_cons pe_str (pa_cons pe_int (pa_cons (pe_tup (pa_cons (pe_tup (pa_cons pe_str (pa_cons pe_int (pa_cons (pe_tup (pa_cons (pv 0) pa_nil)) pa_nil)))) (pa_cons (pe_tup (pa_cons pe_str (pa_cons pe_int (pa_cons (pe_tup (pa_cons (pv 0) (pa_cons (pv 1) pa_nil))) pa_nil)))) pa_nil))) pa_nil)))))
      (pss_one (ps_ret (pe_lst (pa_cons (pv 2) (pa_cons (pe_tup (pa_cons pe_str (pa_cons pe_int (pa_cons (pe_op op_catA (pe_op op_repT (pe_tup (pa_cons (pe_tup (pa_cons pe_str (pa_cons pe_int (pa_cons (pe_tup pa_nil) pa_nil)))) pa_nil)) pe_int) (pe_tup (pa_cons (pv 0) (pa_cons (pv 1) pa_nil)))) pa_nil)))) pa_nil)))))), ?_⟩
    have lf : ∀ {σ : L2.St} {H : Hp} {s : Str} {m : Int}, EvR F0 (tTup (tCons (tC (.str s)) (tCons (tC (.int m)) (tCons (tTup tNil) tNil)))) σ H 0 (IsD K (enc (leaf s m))) := fun {σ H s m} => rd_node (cs := []) F0.ok (rd_tup F0.ok ra_nil)
    refine q_asgG (F := F0) (n := 0) (k := 0) (P := IsD K (.tuple [enc (leaf "pay" 0), enc (leaf "pay" 1)])) (rd_tup F0.ok (ra_cons (ka := 0) (kb := 0) F0.ok lf (ra_cons (ka := 0) (kb := 0) F0.ok lf ra_nil (enc_flat _)) (enc_flat _)) (maps_flat [leaf "pay" 0, leaf "pay" 1])) F0.g (Nat.le_refl _) fun vt H1 e1 _ hd1 => ?_
    obtain ⟨a, v1, v2, rfl, ha, p1, p2⟩ := dp_two hd1
    refine ⟨a, _, rfl, ha, rfl, v1, _, rfl, v2, _, rfl, rfl, ?_⟩
    change tSeq _ _ _ [some v1, some v2, none] H1
    have r1 : ∀ {H2 : Hp} {s3 : Option V}, Ex H1 H2 → EvR F0 (tVar 0) [some v1, some v2, s3] H2 0 (IsD K (enc (leaf "pay" 0))) := fun e => rd_var F0.ok (n := 0) F0.g rfl (dp_ex e _ _ p1) (enc_flat _)
    have r2 : ∀ {H2 : Hp} {s3 : Option V}, Ex H1 H2 → EvR F0 (tVar 1) [some v1, some v2, s3] H2 0 (IsD K (enc (leaf "pay" 1))) := fun e => rd_var F0.ok (n := 0) F0.g rfl (dp_ex e _ _ p2) (enc_flat _)
    have one : ∀ {te : TE} {σ : L2.St} {H : Hp} {t : T}, EvR F0 te σ H 0 (IsD K (enc t)) → EvR F0 (tTup (tCons te tNil)) σ H 0 (IsD K (.tuple ([t].map enc))) := fun {te σ H t} h => rd_tup (ds := [t].map enc) F0.ok (ra_cons (ka := 0) (kb := 0) F0.ok h ra_nil (enc_flat _)) (maps_flat [t])
    have two : ∀ {te te' : TE} {σ : L2.St} {H : Hp} {t t' : T}, EvR F0 te σ H 0 (IsD K (enc t)) → EvR F0 te' σ H 0 (IsD K (enc t')) → EvR F0 (tTup (tCons te (tCons te' tNil))) σ H 0 (IsD K (.tuple ([t, t'].map enc))) := fun {te te' σ H t t'} h h' => rd_tup (ds := [t, t'].map enc) F0.ok (ra_cons (ka := 0) (kb := 0) F0.ok h (ra_cons (ka := 0) (kb := 0) F0.ok h' ra_nil (enc_flat _)) (enc_flat _)) (maps_flat [t, t'])
    refine q_asgR (F := F0) (n := 0) (k := 0) (P := IsD K (enc (.mk "front" 0 [.mk "db" 0 [leaf "pay" 0], .mk "db" 0 [leaf "pay" 0, leaf "pay" 1]]))) (rd_node F0.ok (two (rd_node F0.ok (one (r1 (Ex.refl _)))) (rd_node F0.ok (two (r1 (Ex.refl _)) (r2 (Ex.refl _)))))) F0.g (Nat.le_refl _) fun v3 H2 e2 _ p3 => ?_
    replace e2 := F0.ex e2
    have rb : EvR F0 (tOp (rRepT K) (tTup (tCons (tTup (tCons (tC (.str "db")) (tCons (tC (.int 0)) (tCons (tTup tNil) tNil)))) tNil)) (tC (.int 3))) [some v1, some v2, some v3] H2 0 (IsD K (.tuple ([leaf "db" 0, leaf "db" 0, leaf "db" 0].map enc))) := (rd_rep (k := 3) F0.ok (one lf) (by simp) (by decide) (by decide) (by simp)).cast rfl
    have rc : EvR F0 (tOp (rCatA K) (tOp (rRepT K) (tTup (tCons (tTup (tCons (tC (.str "db")) (tCons (tC (.int 0)) (tCons (tTup tNil) tNil)))) tNil)) (tC (.int 3))) (tTup (tCons (tVar 0) (tCons (tVar 1) tNil)))) [some v1, some v2, some v3] H2 0 (IsD K (.tuple ([leaf "db" 0, leaf "db" 0, leaf "db" 0, leaf "pay" 0, leaf "pay" 1].map enc))) :=
      (rd_cat (ka := 0) (kb := 0) F0.ok rb (two (r1 e2) (r2 e2)) (maps_flat _) (by simp)).cast rfl
    refine s_retR (F := F0) (n := 0) (k := 0) (P := IsN H2 F0 K (sixT.map enc)) (rn_lst F0.ok (ra_cons (ka := 0) (kb := 0) F0.ok (rd_var F0.ok (n := 0) F0.g rfl p3 (enc_flat _)) (ra_cons (ka := 0) (kb := 0) F0.ok (rd_node F0.ok rc) ra_nil (enc_flat _)) (enc_flat _)) (hl := by decide)) F0.g (Nat.le_refl _) fun v H3 e3 _ ⟨p, xs, ev, np, _, hp, hx⟩ => ?_
    subst ev
    exact q p xs H3 (fresh_back ((F0.ex e1).trans e2) np) (((F0.ex e1).trans e2).trans (F0.ex e3)) hp hx
end
end K18
namespace K18
open PySem PySem.Spec PyProof.Rows L2 Evl Fx Fr Dt Tr
theorem scFeed : FnScope ["_law_script"] ["_law_script"] (defScope (topS 28)) := ⟨rfl, rfl, rfl, by decide +kernel, rfl, by decide +kernel, by decide +kernel⟩
section
variable {P : Program} {w : World} {K : PySem.W.Frag} {mg : Str → Option Value} {base : Heap} {f f2 f3 : Addr} {fd fd2 fd3 : FuncData}
def spFeed (K : PySem.W.Frag) : Sp := fun vs H Q _ => ∃ (a : Addr) (ns : List Int), vs = [.ref a] ∧ SqL K H a (ns.map V.int) ∧ ∀ H' d l, Ex H H' → H d = none → FeedAt H' d l 0 → Q (.ref d) H'
theorem ok_feed (F : Fun K "_law_feed" "_law_feed" (topS 28) f fd) (m_list : mg "list" = none) : FnOk P w K mg base CX0 1 f fd ["_law_script"] (spFeed K) := by
  refine F.ok scFeed (fun vs H Q E h => ?_) (fun cdv A outer s H vs Q E hr h => ?_)
  · obtain ⟨a, ns, rfl, _⟩ := h
    rfl
  · obtain ⟨a, ns, rfl, hS, q⟩ := h
    refine ⟨_, pss_one (ps_ret (pe_lst (pa_cons (pe_callTy (T := "list") (r := rListS K) call_listS (by rfl) m_list (by decide +kernel) (pa_cons (pe_slice sl_list (pv 0) po_none (po_some pe_int)) pa_nil)) (pa_cons pe_int (pa_cons pe_int (pa_cons pe_int pa_nil)))))), ?_⟩
    refine ⟨.ref a, rfl, 63, rfl, a, ns.map V.int, rfl, hS, fun c hc => ?_⟩
    have s2 := Ex.new (o := HO.lst (cutV (ns.map V.int) none (some 63))) hc
    refine ⟨c, _, rfl, .inl (sq_of upd_same), fun l hl => ?_⟩
    have s3 := Ex.new (o := HO.lst (cutV (ns.map V.int) none (some 63))) hl
    refine ⟨by show 4 ≤ sizeLine; decide, fun d hd => ?_⟩
    have s4 := Ex.new (o := HO.lst [.ref l, .int 0, .int 0, .int 0]) hd
    have ec : cutV (ns.map V.int) none (some 63) = (ns.take 63).map V.int := by
      unfold cutV
      rw [HT.sIx_none, show HT.sIx (ns.map V.int).length (ns.map V.int).length (some 63) = min 63 (ns.map V.int).length from HT.sIx_nat _ _ 63, List.drop_zero, Nat.sub_zero, List.map_take]
      rw [List.take_eq_take_iff]
      omega
    have nl : l ≠ d := ne_addr hd upd_same
    refine q _ d l ((s2.trans s3).trans s4) (fresh_back (s2.trans s3) hd) ⟨ns.take 63, 0, 0, 0, upd_same, ?_, ?_, Int.le_refl 0, Int.le_refl 0, Int.le_refl 0, nl⟩
    · rw [upd_ne nl, upd_same, ec]
    · rw [List.length_take]
      omega
end
end K18
/-! ### defs whose activation is told to hold no guards; repr of data -/
namespace DtG
open PySem PySem.Spec PyProof.Rows L2
/-- as FnOk, where the caller holds no guards -/
structure FnG (P : Program) (w : World) (K : PySem.W.Frag) (mg : Str → Option Value) (base : Heap) (CX : CXT) (k : Nat) (f : Addr) (fd : FuncData) (ps : List Str) (sp : Sp) : Prop where
  len : ∀ vs H Q E, sp vs H Q E → vs.length = ps.length
  run : ∀ (A : Around) (outer : List Env) (s : Shared) (H : Hp) (args : Args) (us : List Value) (vs : List V) (Q : VK) (E : XK), A.guards = some [] → Room k A → Env0 P w K mg base A outer s H → BindsTo s fd args (ps.zip us) → Vals vs us → sp vs H Q E →
    codeAny (model P w) A (.call (.ref f) args) (CR CX outer P w H s Q E) s
theorem deeper_guards {A : Around} {env : Env} (h : A.guards = some []) : (A.deeper env).guards = some [] := h
section
variable {P : Program} {w : World} {K : PySem.W.Frag} {mg : Str → Option Value} {base : Heap}
/-- by its body -/
theorem okG {x qual : Str} {st : Stmt} {f : Addr} {fd : FuncData} {N ps : List Str} {k : Nat} {sp : Sp} (F : L2.Fun K x qual st f fd) (S : FnScope N ps (defScope st)) (len : ∀ vs H Q E, sp vs H Q E → vs.length = ps.length)
    (hbody : ∀ (cdv : Value) (A : Around) (outer : List Env) (s : Shared) (H : Hp) (vs : List V) (Q : VK) (E : XK), (A.deeper (envOfC qual (defScope st) s.heap.objs.size f cdv)).guards = some [] → Room k (A.deeper (envOfC qual (defScope st) s.heap.objs.size f cdv)) → sp vs H Q E →
      ∃ t, PSs (cxOf CX0 P w K mg base N qual (defScope st) f cdv A outer s H E).nox (defBody st) t ∧ t { nx := fun _ H' => Q .non H', rt := Q } (start N vs) H) : FnG P w K mg base CX0 (k + 1) f fd ps sp := by
  obtain ⟨oc, od, kV, doc, pm, an, cdv, ct, osl, rfl, lk, hcd⟩ := F.ex
  refine ⟨len, fun A outer s H args us vs Q E hg hr e0 hb r hsp => ?_⟩
  have keep : ∀ b o, base.get? b = some o → s.heap.get? b = some o := fun b o e => (e0.bs b o e).1
  have KX : K.In s.heap := e0.mod.kin.keeps keep
  have names : ∀ y ∈ ps.zip us, (defScope st).names.lookup y.1 = some .local ∨ ((defScope st).names.lookup y.1 = some .cell ∧ ((cellsFrom (s.heap.objs.size + 1) (defScope st).names []).lookup y.1).isSome = true) := by
    rintro ⟨x, v⟩ hy
    exact (S.par x (List.of_mem_zip hy).1).imp id fun q => ⟨q, PySem.W.cellsFrom_some _ _ _ (.inl q)⟩
  refine codeAny_call_function hr.depth (KX _ _ lk) rfl S.co S.gen rfl (PySem.W.codeRec_of KX hcd) (hb _ _ _ _ (wpAny_newFunctionEnv_cells S.kind names ?_))
  intro env he s1 x
  subst he
  obtain ⟨t, ht, hq⟩ := hbody cdv A outer s H vs Q E (deeper_guards hg) (hr.deeper _) hsp
  have I : Inv (cxOf CX0 P w K mg base N qual (defScope st) f cdv A outer s H E) [] (start N vs) H s1 := inv_start S hr.hd e0 (len _ _ _ _ hsp) r x
  refine ⟨(e0.mod.nolimit.keeps keep).keeps x.toInCall.keep, codeAny_func (wpAny_mono (ht.nox.run [] s1 (start N vs) H _ I hq) (fun fl s' hs => ?_) fun e s' hs => hs)⟩
  cases fl with
  | ret u =>
    obtain ⟨v, σ', H', J, rv, q⟩ := hs
    exact ⟨v, H', J.os, J.bare, J.base, J.hok, rv, q⟩
  | next =>
    obtain ⟨σ', H', J, q⟩ := hs
    exact ⟨V.non, H', J.os, J.bare, J.base, J.hok, rfl, q⟩
  | brk =>
    obtain ⟨_, _, _, q⟩ := hs
    exact False.elim q
  | cont =>
    obtain ⟨_, _, _, q⟩ := hs
    exact False.elim q
end
section
variable {X : Cx}
def rReprD (K : PySem.W.Frag) : List V → Hp → VK → Prop := fun xs H Q => ∃ (a : Addr) (d : PyData), xs = [.ref a] ∧ Dp K H (.ref a) d ∧ d.showable = true ∧ d.hasDict = false ∧ d.depth ≤ 60 ∧ d.shown.length ≤ sizeLine ∧ Q (.str d.shown) H
theorem cr_reprD (hg : X.A.guards = some []) (hu : X.A.units + 64 < cLine) : CallR X (.builtin "repr") (rReprD X.K) := by
  intro pins s σ H xs us Q I r h
  obtain ⟨a, d, rfl, hd, h1, h2, h3, h4, q⟩ := h
  obtain ⟨u, rfl, ru⟩ := vals1 r
  cases ru
  obtain ⟨as, rd⟩ := Dp.reads I d (.ref a) (.ref a) hd rfl
  exact repr_of_reads' rd h1 (fun h => by rw [h2] at h; cases h) hg (by omega) (fun _ _ e => e) (fun h' u tk k => ⟨.str d.shown, H, I.kept (t' := tk) k, ⟨_, rfl⟩, q⟩) h4
/-- a call of such a def by its name -/
theorem pe_callG {k : Nat} {f : Addr} {fd : FuncData} {ps : List Str} {sp : Sp} {x : Str} {p pos : Pos} {e : Expr} {es : List Expr} {t : TA} {E : XK} (G : FnG X.prog X.w X.K X.mg X.base CX0 k f fd ps sp) (hgd : X.A.guards = some []) (hr : Room k X.A) (hg : Gl X x) (hm : X.mg x = some (.ref f)) (hk : PySem.W.keepIn X.K (.ref f) = true) (hb : L2.Binds X.K fd ps []) (hx : Passes CX0 X E)
    (ha : PA X (e :: es) t) (hdb : (x == ("__debug__" : Str)) = false := by decide) (he : starEach (e :: es) X.env = (false, eval e X.env) :: starEach es X.env := by rfl) (hpl : (backTo pos (starEach es X.env)).any (·.1) = false := by rfl) :
    PE X (.Call (.Name x p) (e :: es) [] pos) (tCall sp [] E t) := by
  refine ⟨fun pins s σ H Q I h => ?_⟩
  refine wpAny_Call_Name_kw (ld_glob I hg hm ?_ hdb)
  refine PySem.W.callWith_K (h₀ := X.base) I.ok.mod.kin hk (thn (ha.run pos pins s σ H _ I h) fun us s1 ⟨vs, H1, I1, r, q⟩ => ⟨I1.kIn, ?_⟩) he hpl
  replace q : sp (vs ++ []) H1 Q E := q
  rw [List.append_nil] at q
  have hl : us.length = ps.length := by rw [← r.length]; exact G.len _ _ _ _ q
  have hb' : BindsTo s1 fd ⟨us, []⟩ (ps.zip us) := by
    have := hb s1 us I1.kIn (by rw [List.append_nil]; exact hl)
    rwa [List.append_nil] at this
  refine wpAny_call (codeAny_mono (G.run X.A X.stack s1 H1 ⟨us, []⟩ us vs Q E hgd hr I1.env0 hb' r q) fun r s' hq => ?_)
  cases r with
  | error e => exact hx pins σ H1 s1 e s' I1 hq
  | ok fl =>
    cases fl with
    | ret u => exact I1.after hq
    | next => exact False.elim hq
    | brk => exact False.elim hq
    | cont => exact False.elim hq
end
end DtG
/-! ### a law's call, where the caller holds no guards -/
namespace DtG
open PySem PySem.Spec PyProof.Rows L2
section
variable {P : Program} {w : World} {K : PySem.W.Frag} {mg mb : Str → Option Value} {s : Shared} {a : Addr} {vs : List Value} {H : Hp}
/-- the world of a call that tracks the script at the most -/
theorem env_script (KX : K.In s.heap) (hns : s.heap.Ns mainGlobals mg) (hb : s.heap.Ns builtinsNs mb) (hbb : ∀ x : Str, x ≠ "__name__" → mb x = bootBuiltins x) (hlim : s.heap.NoLimit) (hg : s.gens = #[])
    (ha : s.heap.get? a = some { cls := .type "list", data := .seq vs.toArray }) (hok : HOk P w H s.heap) (hA : ∀ b, H b ≠ none → b = a) (hK : H a ≠ none → K.lookup a = none) :
    K.In (hidT s.heap H) ∧ (hidT s.heap H).Ns mainGlobals mg ∧ Env0 P w K mg (hidT s.heap H) callerA [] s H := by
  have free : ∀ {b : Addr} {o : Obj}, s.heap.get? b = some o → (b = a → H b = none) → (hidT s.heap H).get? b = some o := fun {b o} e h => hidT_get e (by
    cases q : H b with
    | none => rfl
    | some u =>
      have e' : b = a := hA b (by rw [q]; exact Option.some_ne_none _)
      rw [h e'] at q
      cases q)
  have names : ∀ {b : Addr} {m : Str → Option Value}, s.heap.Ns b m → (hidT s.heap H).Ns b m := fun {b m} ⟨o, es, ep, e, d, r⟩ => ⟨o, es, ep, free e (fun z => by
    subst z
    rw [ha] at e
    cases e
    cases (show Data.seq vs.toArray _ = Data.dict es ep from d)), d, r⟩
  have kin : K.In (hidT s.heap H) := fun b o e => free (KX b o e) fun z => by
    subst z
    cases q : H b with
    | none => rfl
    | some u =>
      rw [hK (by rw [q]; exact Option.some_ne_none _)] at e
      cases e
  refine ⟨kin, names hns, ⟨rfl, ⟨kin, names hns, ⟨mb, names hb, hbb⟩, ?_⟩, fun b o e => of_hidT e, Nat.le_of_eq (hidT_size _ _), trivial, fun b hb => (by cases hb), hok, .of_eq hg⟩⟩
  obtain ⟨mc, h1, h2⟩ := hlim
  exact ⟨mc, names h1, h2⟩
/-- what the law's end is from -/
theorem end_script (hO : Only H) {r : Result} {s' : Shared} (h : CR CX0 [] P w H s (fun v _ => v = .bl true) (fun _ _ _ => False) r s') (hok : HOk P w H s.heap) : r = .ok (.ret (.bool true)) ∧ OldK s.heap s'.heap ∧ s'.os = s.os ∧ AllBare s'.gens := by
  cases r with
  | error e => exact False.elim h
  | ok fl =>
    cases fl with
    | next => exact False.elim h
    | brk => exact False.elim h
    | cont => exact False.elim h
    | ret u =>
      obtain ⟨v, H', os, bare, un, hok', r', q⟩ := h
      obtain rfl : v = .bl true := q
      obtain rfl : u = Value.bool true := r'
      refine ⟨rfl, OldK.of_keep fun b o e => ?_, os, bare⟩
      rcases hO b with z | ⟨ob, xs, z⟩
      · exact un.keep b o e z (fun y => by cases (show b ∈ ([] : List Addr) from y)) (by simp)
      · have e1 := (hok b _ z).1
        rw [e] at e1
        cases e1
        exact (hok' b _ (un.frzs b _ _ z)).1
theorem law_callG {k : Nat} {fa : Addr} {fd : FuncData} {x : Str} {sp : Sp} {ns : List Int} (KX : K.In s.heap) (hns : s.heap.Ns mainGlobals mg) (hb : s.heap.Ns builtinsNs mb) (hbb : ∀ x : Str, x ≠ "__name__" → mb x = bootBuiltins x) (hlim : s.heap.NoLimit) (hg : s.gens = #[])
    (ha : s.heap.get? a = some { cls := .type "list", data := .seq vs.toArray }) (hi : IntsAre vs ns) (hl : ns.length ≤ sizeLine) (hr : Room k callerA)
    (F : ∀ base : Heap, K.In base → base.Ns mainGlobals mg → FnG P w K mg base CX0 k fa fd [x] sp) (hbind : ∀ (s : Shared) (u : Value), BindsTo s fd ⟨[u], []⟩ [(x, u)])
    (hsp : ∀ H : Hp, Only H → SqL K H a (ns.map V.int) → sp [.ref a] H (fun v _ => v = .bl true) fun _ _ _ => False) :
    codeAny (model P w) callerA (.call (.ref fa) ⟨[.ref a], []⟩) (fun r s' => r = .ok (.ret (.bool true)) ∧ OldK s.heap s'.heap ∧ s'.os = s.os ∧ AllBare s'.gens) s := by
  have rv := vals_ints hi
  have lenV := hi.length
  have go : ∀ H : Hp, Only H → SqL K H a (ns.map V.int) → HOk P w H s.heap → (∀ b, H b ≠ none → b = a) → (H a ≠ none → K.lookup a = none) → codeAny (model P w) callerA (.call (.ref fa) ⟨[.ref a], []⟩) (fun r s' => r = .ok (.ret (.bool true)) ∧ OldK s.heap s'.heap ∧ s'.os = s.os ∧ AllBare s'.gens) s := fun H hO hS hok hA hK => by
    obtain ⟨kin, nm, e0⟩ := env_script KX hns hb hbb hlim hg ha hok hA hK
    exact codeAny_mono ((F _ kin nm).run callerA [] s H ⟨[.ref a], []⟩ [.ref a] [.ref a] _ _ rfl hr e0 (hbind s (.ref a)) (.cons rfl .nil) (hsp H hO hS)) fun r s' h => end_script hO h hok
  cases hk : K.lookup a with
  | some o =>
    have e := KX a o hk
    rw [ha] at e
    cases e
    exact go (fun _ => none) (fun _ => .inl rfl) (.inr ⟨_, vs.toArray, _, hk, rfl, rfl, rfl, by rw [List.size_toArray, lenV]; exact hl, by simpa using rv⟩) (fun b u z => nomatch z) (fun b z => absurd rfl z) fun z => absurd rfl z
  | none =>
    let ob : HO := .frz { cls := .type "list", data := .seq vs.toArray } (.lst (ns.map V.int))
    have yes : (fun b => if b = a then some ob else none : Hp) a = some ob := if_pos rfl
    have no : ∀ {b : Addr}, b ≠ a → (fun b => if b = a then some ob else none : Hp) b = none := fun h => if_neg h
    refine go (fun b => if b = a then some ob else none) (fun b => ?_) (.inl (.inr ⟨_, yes⟩)) (fun b u z => ?_) (fun b z => ?_) fun _ => hk
    · by_cases h : b = a
      · subst h
        exact .inr ⟨_, _, yes⟩
      · exact .inl (no h)
    · by_cases h : b = a
      · subst h
        rw [yes] at z
        cases z
        exact ⟨ha, by rw [List.length_map]; exact hl, vs, _, rv, ha⟩
      · rw [no h] at z
        cases z
    · exact Classical.byContradiction fun h => z (no h)
end
open He in
/-- a law's end over the facts of a head, the law's def by FnG -/
theorem walk_ofG {l : PySem.W.OpenLaw} {n k : Nat} {q : Program} {loose : List Str} {XP : (Str → Option Value) → Heap → Prop} {YP : World → Heap → Prop} {d : DefRec} {x : Str}
    (hn : l.most = some n) (hn2 : n ≤ sizeLine) (hdf : d.params.defaults = []) (hr : Room k callerA)
    (F : ∀ (w : World) (mg : Str → Option Value) (fa : Addr) (h : Heap), YP w h → h.Ns mainGlobals mg → mg d.name = some (.ref fa) →
      ∃ (K : PySem.W.Frag) (fd : FuncData) (sp : Sp), K.In h ∧ (∀ (s : Shared) (u : Value), BindsTo s fd ⟨[u], []⟩ [(x, u)]) ∧
        (∀ (H : Hp) (a : Addr) (ns : List Int), ns.length ≤ n → (∀ z ∈ ns, Builtin.Int.intBits z ≤ 1048576) → Only H → SqL K H a (ns.map V.int) → sp [.ref a] H (fun v _ => v = .bl true) fun _ _ _ => False) ∧
        ∀ base : Heap, K.In base → base.Ns mainGlobals mg → FnG l.prog w K mg base CX0 k fa fd [x] sp) :
    PySem.W.WalkO q loose XP YP l.row.toRowW d [] (fun f vs => PySem.call f vs) := by
  refine Att.attach_callB hn hdf fun w s₀ s₁ mg mb fa o pm cd doc a vs ns G Y ho hd hcd hmg hobj hints hlen hbits hg => ?_
  obtain ⟨K, fd, sp, KX, hb, hsp, hF⟩ := F w mg fa _ Y G.T.g hmg
  exact law_callG KX G.T.g G.T.b G.T.builtins G.T.nolimit hg hobj hints (Nat.le_trans hlen hn2) hr hF hb fun H hO hS => hsp H a ns hlen hbits hO hS
end DtG
/-! ### comprehensions of drawn data: each item is some data of which Pe holds -/
namespace Dt
open PySem PySem.Spec PyProof.Rows L2 Evl Fx
section
variable {F : Fd} {K : PySem.W.Frag} {te ta tb tl : TE} {tr : TA} {g : TG} {σ : L2.St} {H H' : Hp} {ds es : List PyData} {n k ke : Nat} {v : V} {Pe : PyData → Prop}
/-- data of which Pe holds -/
def SomeD (K : PySem.W.Frag) (Pe : PyData → Prop) : VP := fun v H => ∃ x, Pe x ∧ Dp K H v x
/-- a list of its own, m items of which Pe holds -/
def IsLP (F : Fd) (K : PySem.W.Frag) (Pe : PyData → Prop) (m : Nat) : VP := fun v H => ∃ es, es.length = m ∧ (∀ x ∈ es, Pe x) ∧ IsL F K es v H
def CdP (F : Fd) (K : PySem.W.Frag) (H1 : Hp) (Dl : Addr) (n0 k : Nat) (Pe : PyData → Prop) (i : Nat) (H' : Hp) : Prop :=
  Kx F.S H1 H' ∧ F.G (n0 + i * k) H' ∧ ∃ vs es, H' Dl = some (.lst vs) ∧ DpAll K H' vs es ∧ es.length = i ∧ ∀ x ∈ es, Pe x
theorem cdp_turn (o : F.Ok) {H1 H' : Hp} {Dl : Addr} {n0 m i : Nat} {σ2 : L2.St} (fP : ∀ x, Pe x → flat x = true) (g1 : F.G n0 H1) (hD : H1 Dl = none) (p : CdP F K H1 Dl n0 ke Pe i H') (hi : i < m) (hm : m ≤ 40000) (hN : n0 + m * ke ≤ F.N) (he : EvR F te σ2 H' ke (SomeD K Pe)) :
    te σ2 H' fun y H4 => ∃ acc, H4 Dl = some (.lst acc) ∧ acc.length < sizeLine ∧ CdP F K H1 Dl n0 ke Pe (i + 1) (upd H4 Dl (.lst (acc ++ [y]))) := by
  obtain ⟨p1, p2, vs, es, p3, p4, p5, p6⟩ := p
  have nS : ¬ F.S Dl := fun s => o.new g1 hD (o.sub s)
  have hk : n0 + (i + 1) * ke = n0 + i * ke + ke := by rw [Nat.succ_mul]; omega
  have hb : n0 + i * ke + ke ≤ F.N := by
    have : (i + 1) * ke ≤ m * ke := Nat.mul_le_mul_right _ hi
    rw [Nat.succ_mul] at this
    omega
  have fo : flats es = true := flats_all.mpr fun x hx => fP x (p6 x hx)
  refine he _ H' hb p2 Kx.refl _ fun y H4 e4 g4 ⟨x, hx, hy⟩ => ?_
  have h4D : H4 Dl = some (.lst vs) := e4 _ _ p3 nS
  have kl : KT K H4 (upd H4 Dl (.lst (vs ++ [y]))) := fun a xs h => by
    have hne : ∀ u, H4 a = some u → (∀ ys, u ≠ .lst ys) → a ≠ Dl := fun u q z => by
      rintro rfl
      rw [h4D] at q
      cases q
      exact z _ rfl
    rcases h with (h | ⟨u, h⟩) | h
    · exact .inl (.inl (by rw [upd_ne (hne _ h fun _ z => by cases z)]; exact h))
    · exact .inl (.inr ⟨u, by rw [upd_ne (hne _ h fun _ z => by cases z)]; exact h⟩)
    · exact .inr h
  have lv := dps_len p4
  refine ⟨vs, h4D, sz_lt (by omega), (p1.trans e4).mut hD, ?_, vs ++ [y], es ++ [x], upd_same, dps_snoc (dps_kt kl _ _ fo (mono_ds o fo _ _ _ _ p2 e4 p4)) (dp_kt kl _ _ (fP x hx) hy), by rw [List.length_append, List.length_singleton, p5], fun z hz => ?_⟩
  · rw [hk]
    exact o.put g1 hD g4
  · rcases List.mem_append.mp hz with h | h
    · exact p6 z h
    · cases List.mem_singleton.mp h
      exact hx
/-- [.. for .. in xs], xs a list of its own -/
theorem r_lcLP (o : F.Ok) {vs : List Nat} (fP : ∀ x, Pe x → flat x = true) (h : EvR F tl σ H k (IsL F K ds)) (fd : flats ds = true) (hm : ds.length ≤ 40000)
    (ht : ∀ (i : Nat) (x : V) (d : PyData) (n : Nat) (H' : Hp), ds[i]? = some d → Dp K H' x d → F.G n H' → Kx F.S H H' → ∃ σ2, Gv g x (wipe σ vs) H' σ2 ∧ wipe σ2 vs = wipe σ vs ∧ EvR F te σ2 H' ke (SomeD K Pe)) :
    EvR F (tLc (iList K tl) g tYes te vs) σ H (k + ds.length * ke) (IsLP F K Pe ds.length) := fun n H0 hn g0 e0 Q q => h n H0 (by omega) g0 e0 _ fun v H1 e1 g1 ⟨a, xs, ev, hT, ha, hx⟩ => by
  subst ev
  have hl := dps_len hx
  have nS : ¬ F.S a := fun s => hT (o.sub s)
  refine ⟨a, rfl, ⟨xs, sq_of ha⟩, fun Dl hD => lc_list (xs := xs) (CdP F K H1 Dl (n + k) ke Pe) ?_ (fun i H' _ p => sq_of (p.1 a _ ha nS)) (fun i x H' hi p => ?_) fun H' p => ?_⟩
  · exact ⟨Kx.ex (Ex.new hD), by rw [Nat.zero_mul]; exact o.put g1 hD g1, [], [], upd_same, .nil, rfl, fun x hx => by cases hx⟩
  · have hlt := (List.getElem?_eq_some_iff.mp hi).1
    have hdi : ds[i]? = some ds[i] := List.getElem?_eq_getElem (by omega)
    obtain ⟨u, hu, hdu⟩ := dps_get (mono_ds o fd _ _ _ _ g1 p.1 hx) hdi
    rw [hi] at hu
    cases hu
    obtain ⟨σ2, q1, q2, q3⟩ := ht i x _ _ H' hdi hdu p.2.1 (e0.trans (e1.trans p.1))
    exact q1 _ ⟨q2, cdp_turn (m := ds.length) o fP g1 hD p (by omega) hm (by rw [Nat.add_assoc]; exact hn) q3⟩
  · rw [hl] at p
    obtain ⟨p1, p2, ws, es, p3, p4, p5, p6⟩ := p
    exact q (.ref Dl) H' (e1.trans p1) (by rw [← Nat.add_assoc]; exact p2) ⟨es, p5, p6, Dl, ws, rfl, o.new g1 hD, p3, p4⟩
/-- .. over range(m) -/
theorem r_lcRP (o : F.Ok) {vs : List Nat} {m : Nat} (fP : ∀ x, Pe x → flat x = true) (h : EvRA F tr σ H k (fun us _ => us = [.int (m : Int)])) (hm : m ≤ 40000)
    (ht : ∀ i n H', i < m → F.G n H' → Kx F.S H H' → ∃ σ2, Gv g (.int (i : Int)) (wipe σ vs) H' σ2 ∧ wipe σ2 vs = wipe σ vs ∧ EvR F te σ2 H' ke (SomeD K Pe)) :
    EvR F (tLc (iRng1 tr) g tYes te vs) σ H (k + m * ke) (IsLP F K Pe m) := fun n H0 hn g0 e0 Q q => h n H0 (by omega) g0 e0 _ fun us H1 e1 g1 hd => by
  subst hd
  refine ⟨(m : Int), rfl, by omega, by omega, fun Dl hD => lc_range (lo := 0) (n := (m : Int).toNat) (CdP F K H1 Dl (n + k) ke Pe) ?_ (fun i H' hi p => ?_) fun H' p => ?_⟩
  · exact ⟨Kx.ex (Ex.new hD), by rw [Nat.zero_mul]; exact o.put g1 hD g1, [], [], upd_same, .nil, rfl, fun x hx => by cases hx⟩
  · have him : i < m := by omega
    have e00 : (0 : Int) + (i : Int) = (i : Int) := Int.zero_add _
    obtain ⟨σ2, q1, q2, q3⟩ := ht i _ H' him p.2.1 (e0.trans (e1.trans p.1))
    rw [e00]
    exact q1 _ ⟨q2, cdp_turn (m := m) o fP g1 hD p him hm (by rw [Nat.add_assoc]; exact hn) q3⟩
  · rw [show (m : Int).toNat = m from Int.toNat_natCast m] at p
    obtain ⟨p1, p2, ws, es, p3, p4, p5, p6⟩ := p
    exact q (.ref Dl) H' (e1.trans p1) (by rw [← Nat.add_assoc]; exact p2) ⟨es, p5, p6, Dl, ws, rfl, o.new g1 hD, p3, p4⟩
/-- tuple(xs) of such a list -/
theorem rd_tupOfP {m : Nat} (o : F.Ok) (h : EvR F te σ H k (IsLP F K Pe m)) : EvR F (tCB (rTupOf K) (tCons te tNil)) σ H k (SomeD K fun x => ∃ es, x = .tuple es ∧ es.length = m ∧ ∀ y ∈ es, Pe y) := fun n H1 hn g e Q q => h n H1 hn g e _ fun v H2 e2 g2 ⟨es, h1, h2, p, xs, ev, hT, ha, hx⟩ => by
  subst ev
  exact ⟨p, xs, rfl, .inl ⟨sq_of ha, fun l hl => q (.ref l) _ (e2.trans (Kx.ex (Ex.new hl))) (o.ex g2 (Ex.new hl)) ⟨_, ⟨es, rfl, h1, h2⟩, .tup (st_of upd_same) (dps_ex (Ex.new hl) _ _ hx)⟩⟩⟩
end
end Dt
/-! ### a def called with keywords alone -/
namespace Dt
open PySem PySem.Spec PyProof.Rows L2 Evl Fx
section
variable {X : Cx} {CX : CXT} {k : Nat} {f : Addr} {fd : FuncData} {ps ks : List Str} {sp : Sp} {E : XK} {x : Str} {p pos : Pos} {kws : List Keyword} {tk : TA} {g : List Value → List Value → List Value} {gV : List V → List V → List V}
theorem pe_callW0 (F : FnOk X.prog X.w X.K X.mg X.base CX k f fd ps sp) (hr : Room k X.A) (hg : Gl X x) (hm : X.mg x = some (.ref f)) (hk : PySem.W.keepIn X.K (.ref f) = true) (hb : KBn X.K fd ps 0 ks g gV) (hx : Passes CX X E) (hkw : PK X kws tk)
    (hall : (backToKw pos (keywordEach kws X.env)).all (·.1.isSome) = true := by rfl) (hks : (backToKw pos (keywordEach kws X.env)).filterMap (·.1) = ks := by rfl) (hdb : (x == ("__debug__" : Str)) = false := by decide)
    (hpl : ((backTo pos (starEach [] X.env)).any (·.1) || (backToKw pos (keywordEach kws X.env)).any (·.1.isNone)) = false := by rfl) :
    PE X (.Call (.Name x p) [] kws pos) (tCallN 0 ks.length sp gV E tNil tk) := by
  refine ⟨fun pins s σ H Q I h => ?_⟩
  refine wpAny_Call_Name_kw (ld_glob I hg hm ?_ hdb)
  refine PySem.W.callWith_KW0 (h₀ := X.base) I.ok.mod.kin hk hall ?_ hpl
  refine thn (hkw.run pos pins s σ H _ I h) fun ws s2 ⟨zs, H2, I2, rz, l1, l2, q2⟩ => ⟨I2.kIn, ?_⟩
  rw [hks]
  exact run_fnN (us := []) (vs := []) F hr hb hx I2 .nil rz rfl l2 q2
end
/-- how it binds: the values in another order -/
theorem kbn_of {K : PySem.W.Frag} {x qual : Str} {st : Stmt} {f : Addr} {fd : FuncData} {ps ks : List Str} {go : {α : Type} → List α → List α} (F : L2.Fun K x qual st f fd)
    (h : ∀ (kV doc pm : Value) (an : Option Addr) (cdv ct : Value) (ws : List Value), ws.length = ks.length → bindArgs (PySem.W.fnOf x qual (defArgs st) (defBody st) (defScope st) .none kV doc pm an cdv ct) ⟨[], ks.zip ws⟩ = pure (ps.zip (go ws)))
    (hv : ∀ {zs : List V} {ws : List Value}, Vals zs ws → Vals (go zs) (go ws)) : KBn K fd ps 0 ks (fun _ ws => go ws) (fun _ zs => go zs) := by
  obtain ⟨oc, od, kV, doc, pm, an, cdv, ct, osl, rfl, lk, hcd⟩ := F.ex
  exact ⟨fun s us ws _ h0 h1 => by
    obtain rfl := List.length_eq_zero_iff.mp h0
    exact .of_eq (h kV doc pm an cdv ct ws h1), fun _ rz => hv rz⟩
end Dt
namespace Dt
open PySem PySem.Spec PyProof.Rows L2 Evl Fx
section
variable {F : Fd} {K : PySem.W.Frag} {tk : TA} {σ : L2.St} {H : Hp} {k m : Nat} {ds : List PyData} {d : PyData}
/-- a call by keywords alone, the values turned round -/
theorem rd_callW {Rl : List PyData → PyData → Prop} {E : XK} (o : F.Ok) (h : EvRA F tk σ H k (fun vs H => DpAll K H vs ds)) (hm : ds.length = m) (hR : Rl ds.reverse d) : EvR F (tCallN 0 m (spD K Rl) (fun _ zs => zs.reverse) E tNil tk) σ H k (IsD K d) := fun n H1 hn g e Q q =>
  h n H1 hn g e _ fun zs H2 e2 g2 p => ⟨rfl, (dps_len p).trans hm, ds.reverse, d, dps_rev p, hR, fun v H3 e3 hv => q v H3 (e2.trans (Kx.ex e3)) (o.ex g2 e3) hv⟩
end
end Dt
/-! ### data whose written form is short enough -/
namespace Dt
open PySem PySem.Spec PyProof.Rows L2 Evl Fx
structure Sh (n w : Nat) (d : PyData) : Prop where
  lay : PyData.canLay0 d = true
  nums : PyData.intsShort 13 d = true
  shows : PyData.showable d = true
  nod : PyData.hasDict d = false
  dep : PyData.depth d ≤ n
  wt : PyData.weight d ≤ w
theorem Sh.mono {n m w v : Nat} {d : PyData} (h : Sh n w d) (h1 : n ≤ m) (h2 : w ≤ v) : Sh m v d := ⟨h.lay, h.nums, h.shows, h.nod, Nat.le_trans h.dep h1, Nat.le_trans h.wt h2⟩
theorem sh_int' {i : Int} (h : i.natAbs < 10 ^ 12) : Sh 0 41 (.int i) := by
  have h40 : i.natAbs < 2 ^ 40 := by omega
  have hl : i.natAbs.log2 < 40 := by
    by_cases h0 : i.natAbs = 0
    · rw [h0]; decide
    · exact (Nat.log2_lt h0).mpr h40
  refine ⟨by simp [PyData.canLay0], ?_, ?_, by simp [PyData.hasDict], by simp [PyData.depth], ?_⟩
  · have := int_text_length_le10 (a := i) (k := 12) (by decide) h
    simp only [PyData.intsShort, PyData.shown]
    exact decide_eq_true (by rw [PySem.ofString_length]; exact this)
  · simp only [PyData.showable]
    exact decide_eq_true (by omega)
  · simp only [PyData.weight]
    split <;> omega
theorem sh_str' {x : Str} {w : Nat} (h : PyData.strOk x = true) (hw : x.cps.size ≤ w) : Sh 0 w (.str x) :=
  ⟨by simp [PyData.canLay0, h], by simp [PyData.intsShort], by simp [PyData.showable], by simp [PyData.hasDict], by simp [PyData.depth], by simp only [PyData.weight]; exact hw⟩
theorem sh_all {n w : Nat} : ∀ {ds : List PyData}, (∀ x ∈ ds, Sh n w x) → PyData.canLayAll0 ds = true ∧ PyData.intsShortAll 13 ds = true ∧ PyData.showableAll ds = true ∧ PyData.hasDictAll ds = false ∧ PyData.depthAll ds ≤ n ∧ PyData.weightAll ds ≤ ds.length * (w + 1)
  | [], _ => by simp [PyData.canLayAll0, PyData.intsShortAll, PyData.showableAll, PyData.hasDictAll, PyData.depthAll, PyData.weightAll]
  | d :: ds, h => by
    obtain ⟨a1, a2, a3, a4, a5, a6⟩ := sh_all fun x hx => h x (List.mem_cons_of_mem _ hx)
    have b := h d (List.mem_cons_self ..)
    have b5 := b.dep
    have b6 := b.wt
    refine ⟨by rw [PyData.canLayAll0, b.lay, a1]; rfl, by rw [PyData.intsShortAll, b.nums, a2]; rfl, by rw [PyData.showableAll, b.shows, a3]; rfl, by rw [PyData.hasDictAll, b.nod, a4]; rfl, by rw [PyData.depthAll]; omega, ?_⟩
    rw [PyData.weightAll, List.length_cons, Nat.succ_mul]
    omega
theorem sh_tup {n w m : Nat} {ds : List PyData} (h : ∀ x ∈ ds, Sh n w x) (hm : ds.length ≤ m) : Sh (n + 1) (m * (w + 1)) (.tuple ds) := by
  obtain ⟨a1, a2, a3, a4, a5, a6⟩ := sh_all h
  refine ⟨by rw [PyData.canLay0]; exact a1, by rw [PyData.intsShort]; exact a2, by rw [PyData.showable]; exact a3, by rw [PyData.hasDict]; exact a4, by rw [PyData.depth]; omega, ?_⟩
  rw [PyData.weight]
  exact Nat.le_trans a6 (Nat.mul_le_mul_right _ hm)
theorem Sh.len {n w : Nat} {d : PyData} (h : Sh n w d) (hn : n ≤ 64) (hw : w ≤ 2 ^ 20) : d.shown.length ≤ sizeLine := by
  have h2 := PyData.shown_fits (B := 13) (by decide) (by decide) (PyData.leavesShort_of_canLay0 13 d h.lay h.nums) (Nat.le_trans h.wt hw)
  exact h2
theorem Sh.shaped {n w : Nat} {d : PyData} (h : Sh n w d) (hn : n ≤ 64) : SeqAt.shaped d = true := by
  show (d.canLay0 && decide (d.depth ≤ 64)) = true
  rw [h.lay, decide_eq_true (Nat.le_trans h.dep hn)]
  rfl
section
variable {F : Fd} {K : PySem.W.Frag} {te : TE} {σ : L2.St} {H : Hp} {k n w : Nat} {ds : List PyData}
/-- repr of a tuple of data -/
theorem rv_repr (h : EvR F te σ H k (IsD K (.tuple ds))) (s : Sh n w (.tuple ds)) (hn : n ≤ 60) (hw : w ≤ 2 ^ 20) : EvR F (tCB (DtG.rReprD K) (tCons te tNil)) σ H k (fun x _ => x = .str (PyData.shown (.tuple ds))) := fun n1 H1 h1 g e Q q => h n1 H1 h1 g e _ fun v H2 e2 g2 hd => by
  cases hd with
  | @tup a xs _ ha hx => exact ⟨a, .tuple ds, rfl, .tup ha hx, s.shows, s.nod, Nat.le_trans s.dep hn, s.len (by omega) hw, q _ H2 e2 g2 rfl⟩
end
end Dt
namespace Tr
open PySem PySem.Spec PyProof.Rows L2 Evl Fx Fr Dt
def NiceM (t : T) : Prop := ∀ s ∈ subs t, (s.name = "db" ∨ s.name = "front" ∨ s.name = "pay") ∧ (s.mark = 0 ∨ s.mark = 1)
def Nm (x : Str) : Prop := x = "db" ∨ x = "front" ∨ x = "pay"
theorem nm_ok {x : Str} (h : Nm x) : PyData.strOk x = true ∧ x.cps.size ≤ 5 := by
  rcases h with rfl | rfl | rfl <;> exact ⟨by decide +kernel, by decide +kernel⟩
theorem w_int {i : Int} (h : i = 0 ∨ i = 1) : PyData.weight (.int i) ≤ 1 := by
  rcases h with rfl | rfl <;> decide +kernel
mutual
theorem sh_tree : ∀ t : T, NiceM t → Sh (2 * size t) (10 * size t - 1) (enc t)
  | .mk s m cs, h => by
    have h0 := h (.mk s m cs) (by rw [subs]; exact List.mem_cons_self ..)
    have n0 := nm_ok (show Nm s from h0.1)
    have hm : m = 0 ∨ m = 1 := h0.2
    obtain ⟨a1, a2, a3, a4, a5, a6⟩ := sh_trees cs fun x hx => h x (by rw [subs]; exact List.mem_cons_of_mem _ hx)
    have hi := sh_int' (i := m) (by rcases hm with rfl | rfl <;> decide)
    have wi := w_int hm
    have ws : PyData.weight (.str s) ≤ 5 := n0.2
    rw [enc, size]
    have hs := sh_str' n0.1 n0.2
    refine ⟨by simp only [PyData.canLay0, PyData.canLayAll0, n0.1, a1, Bool.and_true], ?_, ?_, by simp only [PyData.hasDict, PyData.hasDictAll, a4, Bool.or_false], by simp only [PyData.depth, PyData.depthAll]; omega, ?_⟩
    · have e1 := hi.nums
      simp only [PyData.intsShort, PyData.intsShortAll, a2, Bool.true_and, Bool.and_true] at e1 ⊢
      exact e1
    · have e1 := hi.shows
      simp only [PyData.showable, PyData.showableAll, a3, Bool.true_and, Bool.and_true] at e1 ⊢
      exact e1
    · have : PyData.weight (.tuple [.str s, .int m, .tuple (encs cs)]) = PyData.weight (.str s) + 1 + (PyData.weight (.int m) + 1 + (PyData.weightAll (encs cs) + 1 + 0)) := by
        simp only [PyData.weight, PyData.weightAll]
      rw [this]
      omega
theorem sh_trees : ∀ ts : List T, (∀ s ∈ subsA ts, (s.name = "db" ∨ s.name = "front" ∨ s.name = "pay") ∧ (s.mark = 0 ∨ s.mark = 1)) → PyData.canLayAll0 (encs ts) = true ∧ PyData.intsShortAll 13 (encs ts) = true ∧ PyData.showableAll (encs ts) = true ∧ PyData.hasDictAll (encs ts) = false ∧ PyData.depthAll (encs ts) ≤ 2 * sizes ts ∧ PyData.weightAll (encs ts) ≤ 10 * sizes ts
  | [], _ => by rw [encs]; simp [PyData.canLayAll0, PyData.intsShortAll, PyData.showableAll, PyData.hasDictAll, PyData.depthAll, PyData.weightAll]
  | t :: ts, h => by
    have h1 := sh_tree t fun s hs => h s (by rw [subsA]; exact List.mem_append_left _ hs)
    obtain ⟨a1, a2, a3, a4, a5, a6⟩ := sh_trees ts fun s hs => h s (by rw [subsA]; exact List.mem_append_right _ hs)
    have b5 := h1.dep
    have b6 := h1.wt
    have hs := size_eq t
    rw [encs, sizes]
    refine ⟨by rw [PyData.canLayAll0, h1.lay, a1]; rfl, by rw [PyData.intsShortAll, h1.nums, a2]; rfl, by rw [PyData.showableAll, h1.shows, a3]; rfl, by rw [PyData.hasDictAll, h1.nod, a4]; rfl, by rw [PyData.depthAll]; omega, ?_⟩
    rw [PyData.weightAll]
    omega
end
end Tr
namespace Tr
open PySem PySem.Spec PyProof.Rows L2 Evl Fx Fr Dt
mutual
theorem placed_small : ∀ (q : List Nat) (t : T) (x : List Nat × T), x ∈ placed q t → ∀ i ∈ x.1, i ∈ q ∨ i < size t
  | q, .mk s m cs, x, h, i, hi => by
    rw [placed, List.mem_cons] at h
    rw [size]
    rcases h with rfl | h
    · exact .inl hi
    · rcases placedA_small q 0 cs x h i hi with z | z
      · exact .inl z
      · exact .inr (by omega)
theorem placedA_small : ∀ (q : List Nat) (j : Nat) (ts : List T) (x : List Nat × T), x ∈ placedA q j ts → ∀ i ∈ x.1, i ∈ q ∨ i < j + sizes ts
  | q, j, [], x, h, i, hi => by
    rw [placedA] at h
    cases h
  | q, j, t :: ts, x, h, i, hi => by
    rw [placedA, List.mem_append] at h
    rw [sizes]
    have hs := size_eq t
    rcases h with h | h
    · rcases placed_small (q ++ [j]) t x h i hi with z | z
      · rcases List.mem_append.mp z with z | z
        · exact .inl z
        · have := List.mem_singleton.mp z
          exact .inr (by omega)
      · exact .inr (by omega)
    · rcases placedA_small q (j + 1) ts x h i hi with z | z
      · exact .inl z
      · exact .inr (by omega)
end
theorem fold_mem (ρ : Str → Ru) (late : Bool) (draw : Rat) : ∀ (xs : List ((List Nat × T) × (Rat × Rat))) (acc : List (List Nat)) (p : List Nat), p ∈ xs.foldl (Tr.step ρ late draw) acc → p ∈ acc ∨ ∃ x ∈ xs, x.1.1 = p
  | [], acc, p, h => .inl h
  | x :: xs, acc, p, h => by
    rw [List.foldl_cons] at h
    rcases fold_mem ρ late draw xs _ p h with z | ⟨y, hy, e⟩
    · unfold Tr.step at z
      split at z
      · rcases List.mem_append.mp z with z | z
        · exact .inl z
        · exact .inr ⟨x, List.mem_cons_self .., (List.mem_singleton.mp z).symm⟩
      · exact .inl z
    · exact .inr ⟨y, List.mem_cons_of_mem _ hy, e⟩
theorem kept_mem {ρ : Str → Ru} {t : T} {draw : Rat} {owns : List (Rat × Rat)} {p : List Nat} (h : p ∈ keptBy ρ t draw owns) : ∃ x ∈ placed [] t, x.1 = p := by
  rcases fold_mem ρ (isBad t) draw _ _ p h with z | ⟨x, hx, e⟩
  · cases z
  · exact ⟨x.1, (List.of_mem_zip hx).1, e⟩
theorem kept_len {ρ : Str → Ru} {t : T} {draw : Rat} {owns : List (Rat × Rat)} : (keptBy ρ t draw owns).length ≤ size t := by
  have h := step_len ρ (isBad t) draw ((placed [] t).zip owns) []
  rw [List.length_zip, placed_len, List.length_nil] at h
  unfold keptBy
  omega
theorem sh_kept {ρ : Str → Ru} {t : T} {draw : Rat} {owns : List (Rat × Rat)} (hs : size t ≤ 6) : Sh 2 (6 * (6 * (41 + 1) + 1)) (.tuple ((keptBy ρ t draw owns).map pathD)) := by
  refine sh_tup (n := 1) (w := 6 * (41 + 1)) (m := 6) (fun d hd => ?_) (by rw [List.length_map]; exact Nat.le_trans kept_len hs)
  obtain ⟨p, hp, rfl⟩ := List.mem_map.mp hd
  obtain ⟨x, hx, rfl⟩ := kept_mem hp
  have h1 := placed_path [] t x hx
  have h2 := size_eq x.2
  simp only [List.length_nil] at h1
  refine sh_tup (n := 0) (w := 41) (m := 6) (fun d hd => ?_) (by rw [List.length_map]; omega)
  obtain ⟨i, hi, rfl⟩ := List.mem_map.mp hd
  rcases placed_small [] t x hx i hi with z | z
  · cases z
  · exact sh_int' (by omega)
theorem sh_lot {x : Rat} (h : x ∈ lots) : Sh 1 (2 * (41 + 1)) (frD x) := sh_tup (n := 0) (w := 41) (m := 2) (fun d hd => by
  have hb : x.num.natAbs < 1000 ∧ x.den < 1000 := by
    simp only [lots, List.mem_cons, List.not_mem_nil, or_false] at h
    rcases h with rfl | rfl | rfl | rfl | rfl | rfl | rfl | rfl | rfl | rfl | rfl <;> exact ⟨by decide, by decide⟩
  rcases List.mem_cons.mp hd with rfl | hd
  · exact sh_int' (by omega)
  · rcases List.mem_cons.mp hd with rfl | hd
    · exact sh_int' (by omega)
    · cases hd) (by simp)
theorem word_len (x : Pl) : x.word.cps.size ≤ 6 := by
  cases x with
  | own p q => exact (by decide +kernel : (("own" : Str).cps.size ≤ 6))
  | shared p q => exact (by decide +kernel : (("shared" : Str).cps.size ≤ 6))
  | caller => decide +kernel
  | bad => decide +kernel
  | late => decide +kernel
  | never => decide +kernel
theorem sh_pl {x : Pl} (h : x.Sm) : Sh 1 (3 * (41 + 1)) x.D := by
  have hm : ∀ d ∈ x.more, ∃ i : Int, d = .int i := fun d hd => by
    cases x with
    | own p q =>
      have : d = .int p ∨ d = .int q := by
        have z : d ∈ [PyData.int p, PyData.int q] := hd
        simpa using z
      rcases this with e | e
      · exact ⟨p, e⟩
      · exact ⟨q, e⟩
    | shared p q =>
      have : d = .int p ∨ d = .int q := by
        have z : d ∈ [PyData.int p, PyData.int q] := hd
        simpa using z
      rcases this with e | e
      · exact ⟨p, e⟩
      · exact ⟨q, e⟩
    | caller => cases hd
    | bad => cases hd
    | late => cases hd
    | never => cases hd
  refine sh_tup (n := 0) (w := 41) (m := 3) (fun d hd => ?_) (by cases x <;> simp [Pl.more])
  rcases List.mem_cons.mp hd with rfl | hd
  · exact (sh_str' (word_ok x) (word_len x)).mono (Nat.le_refl _) (by decide)
  · obtain ⟨i, rfl⟩ := hm d hd
    have := h i hd
    exact sh_int' (by omega)
theorem sh_ru {r : Ru} (h : ∀ p ∈ r.plains, p.Sm) : Sh 2 (3 * (3 * (41 + 1) + 1)) r.D := by
  cases r with
  | one a => exact (sh_pl (h a (List.mem_cons_self ..))).mono (by decide) (by decide)
  | or a b =>
    have ha := sh_pl (h a (List.mem_cons_self ..))
    have hb := sh_pl (h b (List.mem_cons_of_mem _ (List.mem_cons_self ..)))
    refine sh_tup (n := 1) (w := 3 * (41 + 1)) (m := 3) (fun d hd => ?_) (by simp)
    rcases List.mem_cons.mp hd with rfl | hd
    · exact (sh_str' (w := 2) (by decide +kernel) (by decide +kernel)).mono (by decide) (by decide)
    · rcases List.mem_cons.mp hd with rfl | hd
      · exact ha
      · rcases List.mem_cons.mp hd with rfl | hd
        · exact hb
        · cases hd
theorem sh_row {x : Str × Ru} (hn : Nm x.1) (h : ∀ p ∈ x.2.plains, p.Sm) : Sh 3 800 (rowD x) := by
  refine (sh_tup (n := 2) (w := 3 * (3 * (41 + 1) + 1)) (m := 2) (fun d hd => ?_) (by simp)).mono (by decide) (by decide)
  rcases List.mem_cons.mp hd with rfl | hd
  · exact (sh_str' (nm_ok hn).1 (nm_ok hn).2).mono (by decide) (by decide)
  · rcases List.mem_cons.mp hd with rfl | hd
    · exact sh_ru h
    · cases hd
end Tr
/-! ### sets of texts, of a list of any length; sorted(set(texts)) -/
namespace Sts
open PySem PySem.Spec PyProof.Rows L2
/-- an entry's text -/
def tx (e : Int × Value) : Str := match e.2 with | .str k _ => k | _ => Str.empty
/-- an entry is a text by its hash -/
def TxE (w : World) (e : Int × Value) : Prop := ∃ k tk, e.2 = Value.str k tk ∧ e.1 = hashStr w k
/-- the set at a has the texts l, and can be walked -/
def SetX (w : World) (h : Heap) (a : Addr) (l : List Str) : Prop :=
  ∃ o es ep t, h.get? a = some o ∧ o.ExactSet ∧ o.data = .set es ep t ∧ (∀ e ∈ es.toList, TxE w e) ∧ (es.toList.map tx).Perm l ∧ l.Nodup ∧ es.size < scanBound ∧ t.fits es.size = true ∧ Ris t.place.toList ∧ (w.params.followText "set-order" = true ∨ t.led = true)
/-- one text more -/
def one (l : List Str) (k : Str) : List Str := if k ∈ l then l else l ++ [k]
/-- the texts, each once -/
def dd (xs : List Str) : List Str := xs.foldl one []
theorem one_mem {l : List Str} {k x : Str} : x ∈ one l k ↔ x ∈ l ∨ x = k := by
  unfold one
  split
  · rename_i h
    exact ⟨.inl, fun z => z.elim id fun e => e ▸ h⟩
  · rw [List.mem_append, List.mem_singleton]
theorem one_len {l : List Str} {k : Str} : (one l k).length ≤ l.length + 1 := by
  unfold one
  split
  · omega
  · rw [List.length_append, List.length_singleton]
    exact Nat.le_refl _
theorem one_nodup {l : List Str} {k : Str} (h : l.Nodup) : (one l k).Nodup := by
  unfold one
  split
  · exact h
  · rename_i hk
    exact ((List.perm_append_singleton k l).nodup_iff).mpr (List.nodup_cons.mpr ⟨hk, h⟩)
theorem fold_mem {x : Str} : ∀ (xs l : List Str), x ∈ xs.foldl one l ↔ x ∈ l ∨ x ∈ xs
  | [], l => by simp
  | k :: xs, l => by
    rw [List.foldl_cons, fold_mem xs, one_mem, List.mem_cons]
    exact or_assoc
theorem fold_nodup : ∀ (xs l : List Str), l.Nodup → (xs.foldl one l).Nodup
  | [], l, h => h
  | k :: xs, l, h => by
    rw [List.foldl_cons]
    exact fold_nodup xs _ (one_nodup h)
theorem fold_len : ∀ (xs l : List Str), (xs.foldl one l).length ≤ l.length + xs.length
  | [], l => Nat.le_refl _
  | k :: xs, l => by
    have h1 := fold_len xs (one l k)
    have h2 := one_len (l := l) (k := k)
    rw [List.foldl_cons, List.length_cons]
    omega
theorem dd_mem {xs : List Str} {x : Str} : x ∈ dd xs ↔ x ∈ xs := by
  unfold dd
  rw [fold_mem]
  simp
theorem dd_nodup (xs : List Str) : (dd xs).Nodup := fold_nodup xs [] List.nodup_nil
theorem dd_len (xs : List Str) : (dd xs).length ≤ xs.length := by
  have := fold_len xs []
  rw [List.length_nil, Nat.zero_add] at this
  exact this
theorem dd_next {xs : List Str} {i : Nat} {k : Str} (h : xs[i]? = some k) : dd (xs.take (i + 1)) = one (dd (xs.take i)) k := by
  unfold dd
  rw [List.take_add_one, h, List.foldl_append]
  rfl
section
variable {P : Program} {w : World} {h h' : Heap} {a : Addr} {l : List Str}
theorem SetX.at (R : SetX w h a l) (k : ∀ o, h.get? a = some o → h'.get? a = some o) : SetX w h' a l := by
  obtain ⟨o, es, ep, t, ho, r⟩ := R
  exact ⟨o, es, ep, t, k o ho, r⟩
theorem el_of {es : List (Int × Value)} (g : ∀ e ∈ es, TxE w e) : ElemsOf (PySem.strKind P w) es := fun e he => by
  obtain ⟨k, tk, h1, h2⟩ := g e he
  exact ⟨⟨k, by rw [h1]; exact strKind_is P w k tk, h2⟩, by rw [h1]; rfl⟩
theorem is_tx {e : Int × Value} (g : TxE w e) (k : Str) : (PySem.strKind P w).is k e.2 = true ↔ tx e = k := by
  obtain ⟨k0, tk, h1, _⟩ := g
  unfold tx
  rw [h1]
  have his := strKind_is P w k0 tk
  exact ⟨fun z => ((PySem.strKind P w).inj _ _ _ z his).symm, fun z => z ▸ his⟩
theorem mem_tx {es : List (Int × Value)} (g : ∀ e ∈ es, TxE w e) (k : Str) : k ∈ es.map tx ↔ ∃ e ∈ es, (PySem.strKind P w).is k e.2 = true := by
  rw [List.mem_map]
  exact ⟨fun ⟨e, he, q⟩ => ⟨e, he, (is_tx (g e he) k).2 q⟩, fun ⟨e, he, q⟩ => ⟨e, he, (is_tx (g e he) k).1 q⟩⟩
theorem vals_tx : ∀ {es : List (Int × Value)}, (∀ e ∈ es, TxE w e) → StrsAre (es.map (·.2)) (es.map tx)
  | [], _ => .nil
  | e :: es, g => by
    obtain ⟨k, tk, h1, _⟩ := g e (List.mem_cons_self ..)
    have ht : tx e = k := by
      unfold tx
      rw [h1]
    rw [List.map_cons, List.map_cons, ht, h1]
    exact .cons k tk (vals_tx fun u hu => g u (List.mem_cons_of_mem _ hu))
end
section
variable {P : Program} {w : World} {A : Around} {E : Value → Shared → Prop} {s : Shared} {a : Addr} {l : List Str}
/-- the end of an addition, laid anew or not -/
theorem add_end {g : Bool → Sem Unit} (hg : ∀ (b : Bool) (s₁ : Shared) (Q' : Unit → Shared → Prop), Q' () s₁ → wpAny (model P w) A (g b) Q' E s₁)
    {o : Obj} {es : Array (Int × Value)} {ep : Nat} {t : SetTable} (ho : s.heap.get? a = some o) (hex : o.ExactSet) (hd : o.data = .set es ep t) {es1 : Array (Int × Value)} {t2 : SetTable} {l1 : List Str}
    (g1 : ∀ e ∈ es1.toList, TxE w e) (p1 : (es1.toList.map tx).Perm l1) (nd1 : l1.Nodup) (hb1 : es1.size < scanBound) (hf2 : t2.fits es1.size = true) (hr : Ris t2.place.toList) (hl : w.params.followText "set-order" = true ∨ t2.led = true) {dummy : Bool} {R : Option Bool → Shared → Prop}
    (hR : ∀ h', Heap.SameBut a s.heap h' → SetX w h' a l1 → R (some true) { s with heap := h' }) :
    wpAny (model P w) A (do
        storeSet a es1 t2
        if (!dummy && t2.tooFull) = true then do
            g (relayAll t2 es1 (SetTable.grown es1.size)).2.2
            storeSet a (relayAll t2 es1 (SetTable.grown es1.size)).1 (relayAll t2 es1 (SetTable.grown es1.size)).2.1
            pure (some true)
          else pure (some true)) R E s := by
  have at1 := store_at (es' := es1) (t' := t2) ho hd
  have but1 := Heap.SameBut.update s.heap a (Obj.putSet es1 t2)
  refine wpAny_bind (wpAny_storeSet_of ho hd ?_ (fits_of_scanBound hb1))
  split
  · have r1 := relayAll_perm t2 es1 (SetTable.grown es1.size)
    have r2 := relayAll_fits t2 es1 (SetTable.grown es1.size)
    have r3 := relayAll_ris t2 es1 (SetTable.grown es1.size)
    have r4 := relayAll_led t2 es1 (SetTable.grown es1.size)
    generalize relayAll t2 es1 (SetTable.grown es1.size) = Z at r1 r2 r3 r4 ⊢
    obtain ⟨es2, t3, gv⟩ := Z
    dsimp only at r1 r2 r3 r4 ⊢
    have n2 : es2.size = es1.size := by rw [← Array.length_toList, r1.length_eq, Array.length_toList]
    have b2 : es2.size < scanBound := n2 ▸ hb1
    refine wpAny_bind (hg _ _ _ (wpAny_bind (wpAny_storeSet_of at1 rfl ?_ (fits_of_scanBound b2))))
    have at2 := store_at (es' := es2) (t' := t3) at1 rfl
    exact wpAny_pure (hR _ (but1.trans (Heap.SameBut.update _ a _)) ⟨_, es2, _, t3, at2, hex, rfl, fun e he => g1 e (r1.mem_iff.mp he), (r1.map tx).trans p1, nd1, b2, r2, r3, hl.imp id fun z => r4.trans z⟩)
  · exact wpAny_pure (hR _ but1 ⟨_, es1, _, t2, at1, hex, rfl, g1, p1, nd1, hb1, hf2, hr, hl⟩)
theorem add_text {k : Str} {tk : Tok} {Q : Bool → Shared → Prop} (R : SetX w s.heap a l) (room : l.length + 1 < scanBound)
    (hQ : ∀ b h', Heap.SameBut a s.heap h' → SetX w h' a (one l k) → Q b { s with heap := h' }) :
    wpAny (model P w) A (setAddHashed a (.str k tk) ((PySem.strKind P w).hash k)) Q E s := by
  obtain ⟨o, es, ep, t, ho, hex, hd, g, pm, nd, hb, hf, hr, hl⟩ := R
  have ki : (PySem.strKind P w).is k (.str k tk) = true := strKind_is P w k tk
  have sc : (Value.str k tk).scannable = true := rfl
  have el : ElemsOf (PySem.strKind P w) es.toList := el_of g
  have ln : es.size = l.length := by rw [← pm.length_eq, List.length_map, Array.length_toList]
  unfold setAddHashed setAddHashedIn
  refine wpAny_holding (wpAny_bind (wpAny_setState_of ho hd hf ?_))
  dsimp only
  rw [byScan_of sc hb el]
  simp only [↓reduceIte]
  unfold setAddByScan
  refine wpAny_bind (wpAny_bind (wpAny_rule (wpAny_bind (wpAny_setScan_of ki ho hd hf el ?_))))
  cases hfi : List.findIdx? (fun e => (PySem.strKind P w).is k e.2) es.toList with
  | some j =>
    dsimp only
    obtain ⟨hj, pj, _⟩ := List.findIdx?_eq_some_iff_getElem.mp hfi
    have hk : k ∈ l := pm.mem_iff.mp ((mem_tx (P := P) (w := w) g k).2 ⟨es.toList[j], List.getElem_mem hj, pj⟩)
    have e1 : one l k = l := if_pos hk
    exact wpAny_pure (wpAny_pure (hQ _ s.heap (Heap.SameBut.refl a s.heap) (by rw [e1]; exact ⟨o, es, ep, t, ho, hex, hd, g, pm, nd, hb, hf, hr, hl⟩)))
  | none =>
    dsimp only
    have hk : k ∉ l := fun z => by
      obtain ⟨e, he, q⟩ := (mem_tx (P := P) (w := w) g k).1 (pm.mem_iff.mpr z)
      have c := List.findIdx?_eq_none_iff.mp hfi e he
      rw [q] at c
      cases c
    have e1 : one l k = l ++ [k] := if_neg hk
    have gw : ∀ (b : Bool) {s₁ : Shared} {Q' : Unit → Shared → Prop}, Q' () s₁ → wpAny (model P w) A (match b with | true => rule "set.scan.the-table-gave-way" | false => pure ()) Q' E s₁ :=
      fun b s₁ Q' q => by
        cases b with
        | true => exact wpAny_rule q
        | false => exact wpAny_pure q
    have n1 := layNew_perm t es ((PySem.strKind P w).hash k) (.str k tk)
    have n2 := layNew_fits t es ((PySem.strKind P w).hash k) (.str k tk)
    have n3 := layNew_ris t es ((PySem.strKind P w).hash k) (.str k tk) hr
    have n4 := layNew_led t es ((PySem.strKind P w).hash k) (.str k tk)
    generalize layNew t es ((PySem.strKind P w).hash k) (.str k tk) = Z at n1 n2 n3 n4 ⊢
    obtain ⟨es1, t1, dummy, gv⟩ := Z
    dsimp only at n1 n2 n3 n4 ⊢
    rw [Array.toList_push] at n1
    have pc : es1.toList.Perm (((PySem.strKind P w).hash k, Value.str k tk) :: es.toList) := n1.trans (List.perm_append_singleton _ _)
    have pk : (es1.toList.map tx).Perm (one l k) := by
      rw [e1]
      have q : (es1.toList.map tx).Perm (k :: es.toList.map tx) := pc.map tx
      exact q.trans ((pm.cons k).trans (List.perm_append_singleton k l).symm)
    have g1 : ∀ e ∈ es1.toList, TxE w e := fun e he => by
      rcases List.mem_cons.mp (pc.mem_iff.mp he) with z | z
      · rw [z]
        exact ⟨k, tk, rfl, rfl⟩
      · exact g e z
    have z1 : es1.size = l.length + 1 := by rw [← Array.length_toList, pc.length_eq, List.length_cons, Array.length_toList, ln]
    have b1 : es1.size < scanBound := z1 ▸ room
    have led1 : w.params.followText "set-order" = true ∨ t1.led = true := hl.imp id fun z => n4.trans z
    have nd1 : (one l k).Nodup := one_nodup nd
    refine wpAny_bind (gw _ ?_)
    split
    · refine wpAny_bind ?_
      rw [hashByValue_scannable 8 sc]
      refine wpAny_pure ?_
      refine add_end ?_ ho hex hd g1 pk nd1 b1 ?_ ?_ ?_ ?_
      · intro b s₁ Q' q
        cases b <;> first | exact wpAny_pure q | exact wpAny_rule q
      · first | (split <;> first | exact n2 | exact SetTable.fits_plain_off n2) | exact n2
      · first | (split <;> exact n3) | exact n3
      · first | (split <;> exact led1) | exact led1
      · intro h' sb r
        dsimp only
        exact wpAny_pure (hQ true h' sb r)
    · refine wpAny_bind (wpAny_pure ?_)
      simp only [↓reduceIte]
      refine add_end ?_ ho hex hd g1 pk nd1 b1 n2 n3 led1 ?_
      · intro b s₁ Q' q
        cases b <;> first | exact wpAny_pure q | exact wpAny_rule q
      · intro h' sb r
        dsimp only
        exact wpAny_pure (hQ true h' sb r)
/-- the loop of set(xs) -/
theorem fill_loop {I : Addr} {fp wr : List Addr} {G : Array GenState → Array GenState → Prop} {n : Nat} {Pv : Nat → Value → Prop} {St : Nat → Shared → Prop} {R : Result → Shared → Prop}
    (W : WalksS P w A.in1 I fp wr G n Pv St) (C : Addr) (hC : C ∉ fp) (xs : List Str) (hn : n = xs.length) (hb : xs.length + 1 < scanBound) (hv : ∀ i v, Pv i v → ∃ k t, xs[i]? = some k ∧ v = .str k t) :
    ∀ (m i : Nat) (s : Shared), n - i = m → i ≤ n → St i s → SetX w s.heap C (dd (xs.take i)) →
      (∀ s', Moved (C :: wr) G s s' → SetX w s'.heap C (dd xs) → R (.ok (.ret .none)) s') →
      codeAny (model P w) A (.builtin "set.update.loop" ⟨[.ref C, .ref I], []⟩) R s := by
  have hCw : C ∉ wr := fun h => hC (W.sub _ h)
  have up : ∀ b ∈ wr, b ∈ C :: wr := fun b hb => List.mem_cons_of_mem _ hb
  intro m
  induction m with
  | zero =>
    intro i s hm hi st X hR
    obtain rfl : i = n := by omega
    refine codeAny_builtin F.entry_set_update_loop ?_
    rw [Around.under_plainId F.plain_set_update_loop _]
    show wpAny _ A.in1 (pyNext (.ref I) >>= _) _ _ s
    refine wpAny_bind (W.done s _ _ st fun s1 mv => ?_)
    show wpAny _ A.in1 (ret Value.none) _ _ s1
    have e : xs.take i = xs := List.take_of_length_le (by omega)
    rw [e] at X
    exact wpAny_pure (hR s1 (mv.mono up) (X.at fun o e => mv.heap C o hCw e))
  | succ m ih =>
    intro i s hm hi st X hR
    have lt : i < n := by omega
    refine codeAny_builtin F.entry_set_update_loop ?_
    rw [Around.under_plainId F.plain_set_update_loop _]
    show wpAny _ A.in1 (pyNext (.ref I) >>= _) _ _ s
    refine wpAny_bind (W.item i s _ _ lt st fun v s1 hP st1 mv => ?_)
    obtain ⟨k, t, hk, rfl⟩ := hv i v hP
    have X1 : SetX w s1.heap C (dd (xs.take i)) := X.at fun o e => mv.heap C o hCw e
    show wpAny _ A.in1 (holding [Value.str k t] (setAdd C (.str k t)) >>= _) _ _ s1
    refine wpAny_bind (wpAny_holding ?_)
    unfold setAdd
    refine wpAny_holding (wpAny_bind ((PySem.strKind P w).pyHash (k := k) (strKind_is _ _ _ _) ?_))
    refine add_text (s := { s1 with toks := s1.toks + 1 }) X1 (by have := dd_len (xs.take i); rw [List.length_take] at this; omega) fun b h2 sb X2 => ?_
    rw [← dd_next hk] at X2
    refine wpAny_pure ⟨plainId_quiet F.plain_set_update_loop _, ih (i + 1) _ (by omega) lt (W.frame _ s1 _ _ st1 (Nat.le_succ _) fun b hb o e => ?_) X2 fun s3 mv3 X3 => ?_⟩
    · rw [sb.2 b (fun z : b = C => hC (z ▸ hb))]
      exact e
    · refine hR s3 (Moved.trans W.gtrans ((mv.mono up).then_heap (Nat.le_succ _) fun b o hb e => ?_) mv3) X3
      rw [sb.2 b (fun z : b = C => hb (z ▸ List.mem_cons_self))]
      exact e
theorem set_new {h : Heap} {a : Addr} (ho : h.get? a = some { cls := .type "set", dict := none, data := .set #[] 0 (.fresh 0 0 (!w.params.followText "set-order")) }) : SetX w h a [] :=
  ⟨_, #[], 0, _, ho, ⟨rfl, rfl, rfl⟩, rfl, (fun e he => by simp at he), List.Perm.refl _, List.nodup_nil, (by decide), (by rfl), List.Pairwise.nil, by
    show _ ∨ (!w.params.followText "set-order") = true
    cases w.params.followText "set-order"
    · exact .inr rfl
    · exact .inl rfl⟩
end
end Sts
namespace Sts
open PySem PySem.Spec PyProof.Rows L2
theorem at_texts : ∀ {us : List Value} {xs : List Str}, StrsAre us xs → ∀ {i : Nat} {v : Value}, us[i]? = some v → ∃ k t, xs[i]? = some k ∧ v = .str k t
  | _, _, .nil, i, v, h => by simp at h
  | _, _, .cons n t hr, 0, v, h => by
    simp at h
    exact ⟨n, t, rfl, h.symm⟩
  | _, _, .cons n t hr, i + 1, v, h => by
    simp only [List.getElem?_cons_succ] at h
    obtain ⟨k, t', e1, e2⟩ := at_texts hr h
    exact ⟨k, t', by rw [List.getElem?_cons_succ]; exact e1, e2⟩
section
variable {P : Program} {w : World} {A : Around} {E : Value → Shared → Prop} {s : Shared}
set_option maxHeartbeats 3200000 in
/-- set(xs), xs a list of texts -/
theorem set_of_texts {l : Addr} {items : Array Value} (xs : List Str) {Q : Value → Shared → Prop} (hh : A.handled = none) (hl : s.heap.IsList l items) (hit : StrsAre items.toList xs) (hb : xs.length + 1 < scanBound)
    (h : ∀ (h' : Heap) (tk : Nat), SetX w h' s.heap.objs.size (dd xs) → (∀ b o, s.heap.get? b = some o → h'.get? b = some o) → Q (.ref s.heap.objs.size) { s with heap := h', toks := tk }) :
    wpAny (model P w) A (call (.type "set") [.ref l]) Q E s := by
  have isz : items.size = xs.length := by rw [← StrsAre.len_eq hit, Array.length_toList]
  obtain ⟨c, tl, hmro⟩ := F.called_set.mro
  have made1 := F.called_set.made
  have sub1 := F.called_set.sub
  refine wpAny_call (codeAny_of_tree ?_)
  show wpAny _ _ (callAny (.type "set") _) _ _ _
  refine wpAny_pure ⟨Code.quiet_builtin _ (by decide +kernel), codeAny_builtin F.entry_type_call ?_⟩
  rw [Around.under_plain (weight_type_call_type "set" [.ref l] []) rfl]
  have not1 := F.called_set.notType
  have can1 := F.called_set.canCreate
  have call1 := F.typeCall_set_1 (.ref l)
  repeat (any_goals (first | assumption | wp_step))
  generalize ho0 : ({ cls := .type "set", dict := none, data := .set #[] 0 (.fresh 0 0 (!w.params.followText "set-order")) } : Obj) = O0
  refine codeAny_mono (code_set_led1 (.ref l) (E := E) (Q₁ := fun ob s₁ => ob = .ref s.heap.objs.size ∧ s₁ = { s with heap := s.heap.push O0 }) ⟨rfl, by rw [ho0]⟩) fun r s₁ hr => ?_
  cases r with
  | error e => exact hr
  | ok fl =>
    cases fl with
    | ret ob =>
      obtain ⟨rfl, rfl⟩ := hr
      have at0 : (s.heap.push O0).get? s.heap.objs.size = some O0 := Heap.get?_push_size _ (by subst ho0; rfl)
      have ty0 : Shared.TypeIs { s with heap := s.heap.push O0 } (.ref s.heap.objs.size) "set" := ⟨_, at0, by subst ho0; rfl⟩
      have lk0 := F.called_set.init.lookup
      have bd0 := F.called_set.init.bind (.ref s.heap.objs.size)
      repeat (any_goals (first | assumption | wp_step))
      refine codeAny_mono (codeAny_call_builtin (R := wants (fun r s₂ => r = .none ∧ ∃ h' tk, s₂ = { s with heap := h', toks := tk } ∧ SetX w h' s.heap.objs.size (dd xs) ∧ (∀ b o, s.heap.get? b = some o → h'.get? b = some o)) E) F.called_set.init.plain F.entry_set_init (check_set_init_1 ty0 ?_)) fun r₂ s₂ hr₂ => ?_
      · subst ho0
        obtain ⟨ol, hol, hcl, nl, hdl⟩ := hl
        obtain ⟨ocls, odict, odata, oslots⟩ := ol
        simp only at hcl hdl
        subst hcl hdl
        have hol' : (s.heap.push { cls := .type "set", dict := none, data := .set #[] 0 (.fresh 0 0 (!w.params.followText "set-order")) }).get? l = some { cls := .type "list", dict := odict, data := .seq items nl, slots := oslots } := Heap.get?_push_of_some _ hol
        have sl1 := F.sub_list_set
        have sl2 := F.sub_list_frozenset
        have ne1 : (Value.type "list" == Value.type "dict") = false := by decide
        have il : (s.heap.push { cls := .type "set", dict := none, data := .set #[] 0 (.fresh 0 0 (!w.params.followText "set-order")) }).IsList l items := ⟨_, hol', rfl, nl, rfl⟩
        unfold Builtin.«set.__init__» noKeywords Builtin.Frozenset.updateFrom
        generalize hPI : pyIter = PI
        wp_walk
        subst hPI
        refine wpAny_pyIter_list (s := { s with heap := s.heap.push { cls := .type "set", dict := none, data := .set #[] 0 (.fresh 0 0 (!w.params.followText "set-order")) } }) il ?_
        refine wpAny_bind (wpAny_runValue ?_)
        have lS : l < s.heap.objs.size := Heap.lt_size hol
        have h3 : A.in1.in1.in1.handled = none := by simp [hh]
        have z1 : (s.heap.push { cls := .type "set", dict := none, data := .set #[] 0 (.fresh 0 0 (!w.params.followText "set-order")) }).objs.size = s.heap.objs.size + 1 := Heap.size_push ..
        have neI : l ≠ (s.heap.push { cls := .type "set", dict := none, data := .set #[] 0 (.fresh 0 0 (!w.params.followText "set-order")) }).objs.size := by rw [z1]; exact Nat.ne_of_lt (Nat.lt_succ_of_lt lS)
        have nC : s.heap.objs.size ∉ [(s.heap.push { cls := .type "set", dict := none, data := .set #[] 0 (.fresh 0 0 (!w.params.followText "set-order")) }).objs.size, l] := by
          rw [z1]
          simp only [List.mem_cons, List.mem_singleton, List.not_mem_nil, or_false, not_or]
          exact ⟨Nat.ne_of_lt (Nat.lt_succ_self _), Nat.ne_of_gt lS⟩
        have hval : ∀ (i : Nat) (v : Value), items[i]? = some v → ∃ k t, xs[i]? = some k ∧ v = .str k t := fun i v hv => at_texts hit (by rw [Array.getElem?_toList]; exact hv)
        refine fill_loop ((Walks.list h3 _ l neI items).toS) s.heap.objs.size nC xs isz hb hval (items.size - 0) 0 _ (by omega) (Nat.zero_le _) ⟨⟨_, Heap.get?_push_size _ rfl, rfl, rfl⟩, (il.push _)⟩ ?hS0 ?hR
        case hS0 => exact set_new (w := w) (Heap.get?_push_of_some _ at0)
        case hR =>
          intro s' hm X'
          obtain ⟨h', g2, d', tk', os'⟩ := s'
          obtain rfl : g2 = s.gens := hm.gens
          obtain rfl : d' = s.drawn := hm.drawn
          obtain rfl : os' = s.os := hm.os
          show wpAny _ _ _ _ _ _
          refine wpAny_pure ?_
          show wpAny _ _ (ret Value.none) _ _ _
          refine wpAny_pure ⟨rfl, h', tk', rfl, X', fun b o e => ?_⟩
          have b0 : b < s.heap.objs.size := Heap.lt_size e
          have b1 : b ≠ s.heap.objs.size := Nat.ne_of_lt b0
          have b2 : b ≠ (s.heap.push { cls := .type "set", dict := none, data := .set #[] 0 (.fresh 0 0 (!w.params.followText "set-order")) }).objs.size := by rw [z1]; exact Nat.ne_of_lt (Nat.lt_succ_of_lt b0)
          exact hm.heap b o (by simp only [List.mem_cons, List.mem_singleton, List.not_mem_nil, or_false, not_or]; exact ⟨b1, b2⟩) (Heap.get?_push_of_some _ (Heap.get?_push_of_some _ e))
      · cases r₂ with
        | error e => exact hr₂
        | ok fl₂ =>
          cases fl₂ with
          | ret r =>
            obtain ⟨rfl, h', tk, rfl, X', hk'⟩ := hr₂
            repeat (any_goals (first | assumption | wp_step))
            exact h _ _ X' hk'
          | _ => exact hr₂.elim
    | _ => exact hr.elim
end
end Sts
namespace Sts
open PySem PySem.Spec PyProof.Rows L2
open PySem.W (EachIs)
/-- the order of texts -/
def upS (x y : Str) : Prop := x.cps.toList ≤ y.cps.toList
theorem vals_split (w : World) {l : List Str} : ∀ {us : List Value}, (∀ u ∈ us, ∃ k t, u = Value.str k t ∧ k ∈ l) → ∃ ks, EachIs (fun v (k : Str) => ∃ t, v = Value.str k t) us ks
  | [], _ => ⟨[], .nil⟩
  | u :: us, h => by
    obtain ⟨k, t, e, _⟩ := h u (List.mem_cons_self ..)
    obtain ⟨ks, hs⟩ := vals_split w fun v hv => h v (List.mem_cons_of_mem _ hv)
    exact ⟨k :: ks, .cons ⟨t, e⟩ hs⟩
theorem each_strs : ∀ {us : List Value} {ks : List Str}, EachIs (fun v (k : Str) => ∃ t, v = Value.str k t) us ks → StrsAre us ks
  | _, _, .nil => .nil
  | _, _, .cons ⟨t, e⟩ r => by
    subst e
    exact .cons _ t (each_strs r)
def kOf : Value → Str
  | .str k _ => k
  | _ => Str.empty
theorem each_kOf : ∀ {us : List Value} {ks : List Str}, EachIs (fun v (k : Str) => ∃ t, v = Value.str k t) us ks → us.map kOf = ks
  | _, _, .nil => rfl
  | _, _, .cons ⟨t, e⟩ r => by
    subst e
    rw [List.map_cons, each_kOf r]
    rfl
theorem kOf_tx {es : List (Int × Value)} : (es.map (·.2)).map kOf = es.map tx := by
  rw [List.map_map]
  rfl
section
variable {P : Program} {w : World} {A : Around} {E : Value → Shared → Prop} {s : Shared}
theorem sorted_texts {a : Addr} {l : List Str} {Q : Value → Shared → Prop} (R : SetX w s.heap a l) (hh : A.handled = none) (hu : A.units + 64 < cLine)
    (hQ : ∀ s' p (out : Array Value) (c : Nat) (ys : List Str), (∀ b o, s.heap.get? b = some o → s'.heap.get? b = some o) → s'.gens = s.gens → s'.os = s.os → s.heap.objs.size ≤ p →
      s'.heap.get? p = some (seqObj "list" out c) → StrsAre out.toList ys → ys.Perm l → ys.Pairwise upS → Q (.ref p) s') :
    wpAny (model P w) A (call (.builtin "sorted") [.ref a]) Q E s := by
  obtain ⟨o, es, ep, t, ho, hex, hd, g, pm, nd, hb, hf, hr, hl⟩ := R
  refine Calls.call_function_entry kind_sorted plain_sorted entry_sorted (args_sorted1 _) ?_
  unfold Builtin.«sorted»
  refine wpAny_bind (m := checkCount "sorted" 1 1 _) (wpAny_pure ?_)
  refine wpAny_bind (collect_set (A := A.in1) hh ⟨o, ho, hex.1, hd⟩ hf hb hr hl fun s1 vs k1 hz g1 o1 pv => ?_)
  have hvl : vs.length = es.size := by rw [pv.length_eq, List.length_map, Array.length_toList]
  have hsl : vs.length ≤ sizeLine := by rw [hvl]; exact fits_of_scanBound hb
  obtain ⟨ks, hks⟩ := vals_split w (l := l) (us := vs) fun u hu => by
    obtain ⟨e, he, q⟩ := List.mem_map.mp (pv.mem_iff.mp hu)
    obtain ⟨k, tk, h1, _⟩ := g e he
    refine ⟨k, tk, by rw [← q]; exact h1, pm.mem_iff.mp (List.mem_map.mpr ⟨e, he, ?_⟩)⟩
    unfold tx
    rw [h1]
  have pks : ks.Perm l := by
    have q := pv.map kOf
    rw [each_kOf hks, kOf_tx] at q
    exact q.trans pm
  refine wpAny_bind (wpAny_newList ?_ hsl)
  have hoL : (s1.heap.push (seqObj "list" vs.toArray 0)).get? s1.heap.objs.size = some (seqObj "list" vs.toArray 0) := Heap.get?_push_size _ rfl
  refine wpAny_bind (wpAny_holding (PySem.W.list_sort_data (s := { s1 with heap := s1.heap.push (seqObj "list" vs.toArray 0) }) (enc := PyData.str) hoL hks (hks.mono fun u k ⟨t, e⟩ => ⟨[], by rw [e]; exact .str k t, by simp⟩) (PySem.W.AllAlike.of fun b b' => by simp only [PySem.W.alike])
    (PySem.W.Sortable.others fun b => ⟨by simp, by simp⟩) (by rw [← hks.length]; exact hsl) (fun b _ => by show A.units + 1 + 1 + (PyData.str b).depth < cLine; simp only [PyData.depth]; omega) fun out h1 h2 => ?_))
  obtain ⟨c, hc⟩ := sortedHeap_at (vs := vs) (out := out.toArray) hoL
  refine wpAny_pure ⟨_, rfl, hQ _ s1.heap.objs.size out.toArray c _ (fun b u e => ?_) g1 o1 hz hc (by simpa using each_strs h2) ((List.mergeSort_perm _ _).trans pks) ?_⟩
  · have q := k1 b u e
    have lt := Heap.lt_size q
    show (sortedHeap (s1.heap.push (seqObj "list" vs.toArray 0)) s1.heap.objs.size vs out.toArray).get? b = some u
    rw [sortedHeap_old (Nat.ne_of_lt lt) (by rw [size_push']; exact Nat.lt_succ_of_lt lt)]
    exact Heap.get?_push_of_some _ q
  · have q : PySem.W.dataLe false PyData.str = fun a b : Str => decide (a.cps.toList ≤ b.cps.toList) := PySem.W.dataLe_str (fun b : Str => b)
    rw [q]
    have pw := List.pairwise_mergeSort (le := fun a b : Str => decide (a.cps.toList ≤ b.cps.toList)) (fun a b c h1 h2 => decide_eq_true (List.le_trans (of_decide_eq_true h1) (of_decide_eq_true h2))) (fun a b => by
      rcases List.le_total a.cps.toList b.cps.toList with h | h
      · simp [h]
      · simp [h]) ks
    exact pw.imp fun {a b} h => of_decide_eq_true h
end
end Sts
namespace L2
open PySem PySem.Spec PyProof.Rows Sts
section
variable {X : Cx}
/-- sorted(set(xs)), xs a list of texts -/
def tSortSet (K : PySem.W.Frag) (ta : TE) : TE := fun σ H Q => ta σ H fun x H1 => ∃ (l : Addr) (xs : List Str), x = .ref l ∧ SqL K H1 l (xs.map V.str) ∧ xs.length + 1 < scanBound ∧
  ∀ (p : Addr) (ys : List Str), H1 p = none → ys.Perm (dd xs) → ys.Pairwise upS → Q (.ref p) (upd H1 p (.lst (ys.map V.str)))
theorem texts_of : ∀ {ys : List Str} {us : List Value}, Vals (ys.map V.str) us → StrsAre us ys
  | [], _, .nil => .nil
  | y :: ys, _, .cons r t => by
    obtain ⟨k, rfl⟩ := r
    exact .cons y k (texts_of t)
theorem texts_back : ∀ {ys : List Str} {us : List Value}, StrsAre us ys → Vals (ys.map V.str) us
  | _, _, .nil => .nil
  | _, _, .cons y k r => .cons ⟨k, rfl⟩ (texts_back r)
theorem pe_sortSet {a : Expr} {ta : TE} {p p2 q pos : Pos} (hc : X.calm = true) (hu : X.A.units + 64 < cLine) (hg : Gl X "sorted") (hm : X.mg "sorted" = none) (hg2 : Gl X "set") (hm2 : X.mg "set" = none) (ha : PE X a ta)
    (na : starEach [a] X.env = (false, eval a X.env) :: starEach [] X.env := by rfl) : PE X (.Call (.Name "sorted" p) [.Call (.Name "set" p2) [a] [] q] [] pos) (tSortSet X.K ta) := by
  refine ⟨fun pins s σ H Q I h => ?_⟩
  refine Call_ (ld_blt I hg hm (u := .builtin "sorted") (by decide +kernel) ?_)
  refine PyProof.Rows.callWith_builtin1 (PyProof.Rows.args_cons ?_ rfl) rfl rfl
  refine Call_ (ld_blt I hg2 hm2 (u := .type "set") (by decide +kernel) ?_)
  refine PyProof.Rows.callWith_type1 (PyProof.Rows.args_cons (thn (ha.run pins s σ H _ I h) fun v s1 ⟨x, H1, I1, r1, q1⟩ => PyProof.Rows.args_nil ?_) na) na rfl
  obtain ⟨l, xs, rfl, hq, h1, q1⟩ := q1
  cases r1
  obtain ⟨its, r, pl, hz⟩ := I1.list hq
  refine set_of_texts xs (I1.ok.hd hc) pl.isList (by simpa using texts_of r) h1 fun h' tk X' hk => PyProof.Rows.args_nil ?_
  have I2 : Inv X pins σ H1 { s1 with heap := h', toks := tk } := I1.kept hk
  refine sorted_texts (s := { s1 with heap := h', toks := tk }) X' (I2.ok.hd hc) hu fun s' p out c ys k g o hp hgt hi pm pw => ?_
  have hl : ys.length = its.length → True := fun _ => trivial
  have hlen : (ys.map V.str).length ≤ sizeLine := by
    rw [List.length_map, pm.length_eq]
    have := dd_len xs
    rw [sizeLine_eq]
    have e : scanBound = 4096 := rfl
    omega
  have hn : H1 p = none := I2.hok.fresh hp
  have e : s' = { ({ s1 with heap := h', toks := tk } : Shared) with heap := s'.heap, gens := s'.gens, drawn := s'.drawn, toks := s'.toks } := by
    cases s'
    cases s1
    cases o
    rfl
  rw [e]
  refine ⟨.ref p, _, I2.call (ch := []) (Un.laid (o := .lst (ys.map V.str)) k hp hn) (I2.hok.laid (o := .lst (ys.map V.str)) k hp ⟨hlen, out.toList, c, texts_back hi, hgt⟩) (by rw [g]; exact I2.bare) (fun _ z => nomatch z), rfl, q1 p ys hn pm pw⟩
end
end L2
namespace Tr
open PySem PySem.Spec PyProof.Rows L2 Evl Fx Fr Dt
/-- the rule of a service -/
def rhoOf : List (Str × Ru) → Str → Ru
  | [], _ => .one .never
  | (s, r) :: rs, x => if s = x then r else rhoOf rs x
theorem rule_at {x : Str} : ∀ {rs : List (Str × Ru)}, x ∈ rs.map Prod.fst → ∃ i, RuleAt rs x i (rhoOf rs x)
  | [], h => by cases h
  | (s, r) :: rs, h => by
    by_cases e : s = x
    · refine ⟨0, ?_, fun j y hj => absurd hj (Nat.not_lt_zero _)⟩
      rw [rhoOf, if_pos e, e]
      rfl
    · rw [List.map_cons, List.mem_cons] at h
      obtain ⟨i, h1, h2⟩ := rule_at (h.resolve_left fun z => e z.symm)
      refine ⟨i + 1, ?_, fun j y hj hy => ?_⟩
      · rw [rhoOf, if_neg e, List.getElem?_cons_succ]
        exact h1
      · cases j with
        | zero =>
          rw [List.getElem?_cons_zero] at hy
          cases hy
          exact e
        | succ j =>
          rw [List.getElem?_cons_succ] at hy
          exact h2 j y (by omega) hy
def namesOf (ts : List T) : List Str := (subsA ts).map T.name
theorem names_next {ts : List T} {i : Nat} {t : T} (h : ts[i]? = some t) : namesOf (ts.take (i + 1)) = namesOf (ts.take i) ++ (subs t).map T.name := by
  unfold namesOf
  rw [List.take_add_one, h, Option.toList_some, subsA_app, List.map_append]
  congr 1
  rw [subsA, subsA, List.append_nil]
theorem names_len (ts : List T) : (namesOf ts).length = sizes ts := by
  unfold namesOf
  rw [List.length_map, subsA_len]
theorem sizes_take' : ∀ (i : Nat) (ts : List T), sizes (ts.take i) ≤ sizes ts
  | 0, ts => by rw [List.take_zero, sizes]; omega
  | i + 1, [] => Nat.le_refl _
  | i + 1, t :: ts => by
    have := sizes_take' i ts
    rw [List.take_succ_cons, sizes, sizes]
    omega
theorem strs_flat (ns : List Str) : flats (ns.map PyData.str) = true := flats_all.mpr fun d hd => by
  obtain ⟨b, _, rfl⟩ := List.mem_map.mp hd
  rfl
end Tr
namespace Dt
open PySem PySem.Spec PyProof.Rows L2 Evl Fx
/-- for x in xs, a list that a name holds -/
theorem q_forLs {K : PySem.W.Frag} {σ : L2.St} {H : Hp} {i j : Nat} {a : Addr} {xs : List V} {tb tz : TS} {D : Ends} (hv : σ[i]? = some (some (.ref a))) (Pv : Nat → L2.St → Hp → Prop) (h0 : Pv 0 σ H) (hl : ∀ m σ' H', Pv m σ' H' → SqL K H' a xs)
    (hs : ∀ m x σ' H', xs[m]? = some x → Pv m σ' H' → tb { D with nx := Pv (m + 1), ct := Pv (m + 1), bk := tz D } (σ'.set j (some x)) H') (hd : ∀ σ' H', Pv xs.length σ' H' → tz D σ' H') : tSeq (tFor (iList K (tVar i)) (gName j) tb) tz D σ H :=
  ⟨.ref a, hv, a, rfl, ⟨xs, hl 0 σ H h0⟩, for_list Pv h0 (fun m σ' H' _ p => hl m σ' H' p) hs hd⟩
/-- .. a list that comes of an expression -/
theorem l_forLs {K : PySem.W.Frag} {σ : L2.St} {H : Hp} {j : Nat} {a : Addr} {xs : List V} {tb : TS} {D : Ends} (Pv : Nat → L2.St → Hp → Prop) (h0 : Pv 0 σ H) (hl : ∀ m σ' H', Pv m σ' H' → SqL K H' a xs)
    (hs : ∀ m x σ' H', xs[m]? = some x → Pv m σ' H' → tb { D with nx := Pv (m + 1), ct := Pv (m + 1), bk := D.nx } (σ'.set j (some x)) H') (hd : ∀ σ' H', Pv xs.length σ' H' → D.nx σ' H') :
    ∃ W : Nat → Nat → L2.St → Hp → Prop, (∃ m, W 0 m σ H) ∧ ∀ i m σ H, W i m σ H →
      ((Itl K a).stop i H ∧ D.nx σ H) ∨ ((Itl K a).go i H ∧ ∃ N : L2.St → Hp → Prop, (∀ σ' H', N σ' H' → ∃ m', m' < m ∧ W (i + 1) m' σ' H') ∧ ∀ x H', (Itl K a).yld i H x H' → gName j x σ H' fun σ2 H2 => tb { D with nx := N, ct := N, bk := D.nx } σ2 H2) :=
  for_list Pv h0 (fun m σ' H' _ p => hl m σ' H' p) hs hd
/-- a choice by a test of which nothing is known -/
theorem r_ifX {F : Fd} {te ta tb : TE} {σ : L2.St} {H : Hp} {ka kb : Nat} {P : VP} (o : F.Ok) (h : EvR F te σ H ka (fun v _ => ∃ b, v = .bl b)) (h1 : EvR F ta σ H kb P) (h2 : EvR F tb σ H kb P) : EvR F (tIf (tTest te) ta tb) σ H (ka + kb) P := fun n H1 hn g e Q q => h n H1 (by omega) g e _ fun v H2 e2 g2 ⟨b, ev⟩ => ⟨b, ev, by
  cases b with
  | true => exact h1 (n + ka) H2 (by omega) g2 (e.trans e2) _ fun v H3 e3 g3 p => q v H3 (e2.trans e3) (by rw [← Nat.add_assoc]; exact g3) p
  | false => exact h2 (n + ka) H2 (by omega) g2 (e.trans e2) _ fun v H3 e3 g3 p => q v H3 (e2.trans e3) (by rw [← Nat.add_assoc]; exact g3) p⟩
end Dt
namespace K18
open PySem PySem.Spec PyProof.Rows L2 Evl Fx Fr Dt Tr Sts
def nActs : List Str := ["_law_feed_here", "_law_roots", "_law_names", "_law_root", "_law_span", "_law_found", "_law_name", "_law_act"]
theorem scActs : FnScope nActs ["_law_feed_here", "_law_roots"] (defScope (topS 34)) := ⟨rfl, rfl, rfl, by decide +kernel, rfl, by decide +kernel, by decide +kernel⟩
section
variable {P : Program} {w : World} {K : PySem.W.Frag} {mg : Str → Option Value} {base : Heap} {f f2 f3 : Addr} {fd fd2 fd3 : FuncData}
/-- rules for the services of some trees -/
def spActs (K : PySem.W.Frag) : Sp := fun vs H Q _ => ∃ (d l a : Addr) (n : Nat) (ts : List T) (xs : List V), vs = [.ref d, .ref a] ∧ FeedAt H d l n ∧ n + 42 ≤ 1000000 ∧ a ≠ d ∧ a ≠ l ∧ H a = some (.lst xs) ∧ DpAll K H xs (ts.map enc) ∧ sizes ts ≤ 6 ∧ (∀ t ∈ ts, NiceM t) ∧
  ∀ (H' : Hp) (v : V) (rs : List (Str × Ru)), Kp d H H' → FeedAt H' d l (n + 42) → Dp K H' v (.tuple (rs.map rowD)) → (rs.map Prod.fst).Nodup → (∀ x, x ∈ rs.map Prod.fst ↔ x ∈ namesOf ts) → (∀ x ∈ rs, Nm x.1 ∧ x.2.Ok ∧ ∀ p ∈ x.2.plains, p.Sm) → rs.length ≤ 6 → Q v H'
theorem ok_acts (F : Fun K "_law_some_acts" "_law_some_acts" (topS 34) f fd) (cSp : C8.Cal P w K mg base 6 "_law_spans" (spLSpans K 6) []) (cP : C8.Cal P w K mg base 3 "_law_some_plain" (spFeedM 3 (PlD K)) []) (cD : C8.Cal P w K mg base 1 "_law_draw" spDraw [])
    (m_sorted : mg "sorted" = none) (m_set : mg "set" = none) (m_tuple : mg "tuple" = none) : FnOk P w K mg base CX0 7 f fd ["_law_feed_here", "_law_roots"] (spActs K) := by
  refine F.ok scActs (fun vs H Q E h => ?_) (fun cdv A outer s H vs Q E hr h => ?_)
  · obtain ⟨d, l, a, n, ts, xs, rfl, _⟩ := h
    rfl
  · obtain ⟨d, l, a, n, ts, xs, rfl, hF, hn, had, hal, ha, hx, hsz, hnm, q⟩ := h
    refine ⟨_, pss_cons (ps_set (i := 2) scActs.nd rfl (.inl rfl) (pe_lst pa_nil))
      (pss_cons (ps_for PassesOwn.never rfl (pi_list (pv 1)) (pg_name (i := 3) scActs.nd rfl (.inl rfl))
        (pss_one (ps_expr (pe_bm PySem.F.plainAttrs_list PySem.F.slot_list_extend PySem.F.type_list_extend mt_extend (pv 2) (pa_cons (pe_lc (own := [("_law_span", 4)]) (g := gName 4) (by rfl) scActs.nd (pi_list (C8.pe_c cSp hr (by decide) (by rfl) (pa_cons (pv 3) (pa_cons (pe_tup pa_nil) pa_nil)))) (blkOk_by (own := [("_law_span", 4)]) (N := nActs) (sc := defScope (topS 34)) (by decide +kernel)) (fun _ _ _ _ _ => pg_name (i := 4) scActs.nd rfl (.inl rfl)) (fun _ _ _ _ _ => pts_nil)
          (fun _ _ _ _ _ => pe_ix (r := rIxT K) ix_tup (pv 4) pe_int (fun _ _ => rfl))) pa_nil)))))
      (pss_cons (ps_set (i := 5) scActs.nd rfl (.inl rfl) (pe_lst pa_nil))
      (pss_cons (ps_for PassesOwn.never rfl (pi_list (pe_sortSet rfl hr.units (by rfl) m_sorted (by rfl) m_set (pv 2))) (pg_name (i := 6) scActs.nd rfl (.inl rfl))
        (pss_cons (ps_set (i := 7) scActs.nd rfl (.inl rfl) (C8.pe_c cP hr (by decide) (by rfl) (pa_cons (pv 0) pa_nil)))
        (pss_one (ps_expr (pe_bm PySem.F.plainAttrs_list PySem.F.slot_list_append PySem.F.type_list_append mt_append (pv 5) (pa_cons (pe_tup (pa_cons (pv 6) (pa_cons (pe_ifExp (pt_cmpR op_eq (C8.pe_c cD hr (by decide) (by rfl) (pa_cons (pv 0) (pa_cons pe_int pa_nil))) pe_int (nomark _)) (pe_tup (pa_cons pe_str (pa_cons (pv 7) (pa_cons (C8.pe_c cP hr (by decide) (by rfl) (pa_cons (pv 0) pa_nil)) pa_nil)))) (pv 7)) pa_nil))) pa_nil))))))
      (pss_one (ps_ret (pe_callTy (T := "tuple") (r := rTupOf K) call_tupleOf (by rfl) m_tuple (by decide +kernel) (pa_cons (pv 5) pa_nil))))))), ?_⟩
    show tSeq (tAsg (tLst tNil) (gName 2)) _ _ [some (.ref d), some (.ref a), none, none, none, none, none, none] H
    refine q_asgL (el_lst ea_nil (by simp)) fun A H1 nA e1 hA1 => ?_
    have hdH : ∃ o, H d = some o := by
      obtain ⟨ns, s, r, c, h1, _⟩ := hF
      exact ⟨_, h1⟩
    have hlH : ∃ o, H l = some o := by
      obtain ⟨ns, s, r, c, _, h2, _⟩ := hF
      exact ⟨_, h2⟩
    have newT : ∀ {b : Addr}, H b = none → ¬ (b = d ∨ b = l) := fun {b} hb z => by
      rcases z with rfl | rfl
      · obtain ⟨o, h⟩ := hdH
        rw [hb] at h
        cases h
      · obtain ⟨o, h⟩ := hlH
        rw [hb] at h
        cases h
    have lts : ts.length ≤ 6 := Nat.le_trans (len_sizes ts) hsz
    have lxs := dps_len hx
    rw [List.length_map] at lxs
    refine q_forLs (a := a) (xs := xs) rfl (fun m σ' H' => ∃ (u3 : Option V), σ' = [some (.ref d), some (.ref a), some (.ref A), u3, none, none, none, none] ∧ Ex H H' ∧ H' A = some (.lst ((namesOf (ts.take m)).map V.str))) ⟨none, rfl, e1, hA1⟩ (fun m σ' H' ⟨u3, es, e, h⟩ => sq_of (e _ _ ha)) (fun m x σ' H' hxm ⟨u3, es, e, hA⟩ => ?_) fun σ' H' ⟨u3, es, e, hA⟩ => ?_
    · subst es
      have hm : m < ts.length := by
        have := (List.getElem?_eq_some_iff.mp hxm).1
        omega
      have htm : ts[m]? = some ts[m] := List.getElem?_eq_getElem hm
      have hdx : Dp K H' x (enc ts[m]) := by
        obtain ⟨u, hu, du⟩ := dps_get (dps_ex e _ _ hx) (show (ts.map enc)[m]? = some (enc ts[m]) by rw [List.getElem?_map, htm]; rfl)
        rw [hxm] at hu
        cases hu
        exact du
      have hst : size ts[m] ≤ 6 := Nat.le_trans (size_mem htm) hsz
      have en := names_next htm
      generalize ts[m] = t at htm hdx hst en
      generalize namesOf (ts.take m) = nm at hA en
      have lnm : nm.length ≤ 6 := by
        have h1 := congrArg List.length en
        rw [List.length_append, names_len] at h1
        have h2 := sizes_take' (m + 1) ts
        omega
      have hc := r_lcL (F := F0) (K := K) (k := 0) (kt := 0) (ke := 0) (H := H') (σ := [some (.ref d), some (.ref a), some (.ref A), some x, none, none, none, none]) (g := gName 4) (tt := tYes) (te := tOp (rIxT K) (tVar 4) (tC (.int 1))) (tl := tCall (spLSpans K 6) [] C8.E0 (tCons (tVar 3) (tCons (tTup tNil) tNil))) (vs := [4]) F0.ok (fun _ => true) (fun i => (((placed [] t).map fun z => z.2.name).map PyData.str).getD i .none)
        (rl_call F0.ok (ra_cons (ka := 0) (kb := 0) F0.ok (rd_var F0.ok (n := 0) F0.g rfl hdx (enc_flat t)) (ra_cons (ka := 0) (kb := 0) (d := pathD []) F0.ok (rd_tup F0.ok ra_nil) ra_nil) (enc_flat t)) ⟨t, [], hst, by decide, by decide, rfl, rfl⟩) (spans_flat _) (by rw [List.length_map, placed_len]; omega) (fun j _ _ => by
          rw [List.getD_eq_getElem?_getD, List.getElem?_map]
          cases ((placed [] t).map fun z => z.2.name)[j]? <;> rfl) fun i x d n H8 hd hx8 _ e8 => by
          have hi : i < (placed [] t).length := by
            have := (List.getElem?_eq_some_iff.mp hd).1
            rwa [List.length_map] at this
          rw [List.getElem?_map, List.getElem?_eq_getElem hi] at hd
          cases hd
          refine ⟨_, gv_name, rfl, rt_yes rfl, fun _ => ?_⟩
          rw [List.getD_eq_getElem?_getD, List.getElem?_map, List.getElem?_map, List.getElem?_eq_getElem hi]
          exact rd_ix (ka := 0) (kb := 0) (i := 1) F0.ok (rd_var F0.ok (n := 0) F0.g rfl hx8 (span_flat _)) rv_c 1 rfl rfl (span_flat _)
      rw [outs_getD .none _ (by rw [List.length_map, List.length_map, List.length_map])] at hc
      have ep : (placed [] t).map (fun z => z.2.name) = (subs t).map T.name := by
        rw [← placed_snd [] t, List.map_map]
        rfl
      rw [ep] at hc
      refine q_extL (F := F0) (n := 0) (k := 0 + ((placed [] t).map spanD).length * (0 + 0)) (i := 2) (l := A) (xs := nm.map V.str) rfl hA (fun z => z) hc F0.g (by simp [F0]) (by rw [List.length_map, List.length_map, List.length_map, subs_len]; omega) fun zs H2 e2 _ dz hA2 => ?_
      replace e2 := F0.ex e2
      have ez := dps_strs dz
      refine ⟨some x, rfl, (e.trans e2).mut nA, ?_⟩
      rw [upd_same, ez, en, List.map_append]
    · subst es
      rw [List.take_of_length_le (by omega)] at hA
      refine q_asgL (el_lst ea_nil (by simp)) fun B H2 nB e2 hB2 => ?_
      have nB' : H B = none := fresh_back e nB
      have e02 : Ex H H2 := e.trans e2
      have hA2 : H2 A = some (.lst ((namesOf ts).map V.str)) := e2 _ _ hA
      have g2 : FeedAt H2 d l n := FeedF.ok.ex hF e02
      have hAB : A ≠ B := ne_addr nB hA
      have lnn : (namesOf ts).length ≤ 6 := by rw [names_len]; exact hsz
      refine ⟨.ref A, rfl, A, namesOf ts, rfl, sq_of hA2, by show _ < 4096; omega, fun C ys nC pm pw => ⟨C, rfl, ⟨_, sq_of upd_same⟩, ?_⟩⟩
      have lys : ys.length ≤ 6 := by
        rw [pm.length_eq]
        exact Nat.le_trans (dd_len _) lnn
      have nys : ys.Nodup := pm.nodup_iff.mpr (dd_nodup _)
      have mys : ∀ x, x ∈ ys ↔ x ∈ namesOf ts := fun x => by rw [pm.mem_iff, dd_mem]
      have nC' : H C = none := fresh_back e02 nC
      have hBC : B ≠ C := ne_addr nC hB2
      have e3 := Ex.new (o := HO.lst (ys.map V.str)) nC
      have hB3 := e3 _ _ hB2
      have hC3 : upd H2 C (.lst (ys.map V.str)) C = some (.lst (ys.map V.str)) := upd_same
      have k3 : Kp d H (upd H2 C (.lst (ys.map V.str))) := Kp.ex (e02.trans e3)
      have g3 : FeedAt (upd H2 C (.lst (ys.map V.str))) d l n := FeedF.ok.ex g2 e3
      generalize upd H2 C (.lst (ys.map V.str)) = H3 at hB3 hC3 k3 g3 ⊢
      have N0 : (FeedF d l).N = 1000000 := rfl
      have nBd : B ≠ d := fun z => newT nB' (.inl z)
      have nCd : C ≠ d := fun z => newT nC' (.inl z)
      refine l_forLs (a := C) (xs := ys.map V.str) (fun m σ' H' => ∃ (u6 u7 : Option V) (rs : List (Str × Ru)) (vals : List V), σ' = [some (.ref d), some (.ref a), some (.ref A), u3, none, some (.ref B), u6, u7] ∧ Kp d H H' ∧ FeedAt H' d l (n + 7 * m) ∧ H' C = some (.lst (ys.map V.str)) ∧ H' B = some (.lst vals) ∧ DpAll K H' vals (rs.map rowD) ∧ rs.map Prod.fst = ys.take m ∧ (∀ x ∈ rs, x.2.Ok ∧ ∀ p ∈ x.2.plains, p.Sm))
        ⟨none, none, [], [], rfl, k3, g3, hC3, hB3, .nil, rfl, fun x h => by cases h⟩ (fun m σ' H' ⟨_, _, _, _, _, _, _, h, _⟩ => sq_of h) (fun m x σ' H' hxm ⟨u6, u7, rs, vals, es, k, g, hC, hB, dv, er, hok⟩ => ?_) fun σ' H' ⟨u6, u7, rs, vals, es, k, g, hC, hB, dv, er, hok⟩ => ?_
      · subst es
        rw [List.getElem?_map] at hxm
        obtain ⟨nm, hnm, rfl⟩ := Option.map_eq_some_iff.mp hxm
        have hm : m < 6 := by
          have := (List.getElem?_eq_some_iff.mp hnm).1
          omega
        have lrs : rs.length ≤ 6 := by
          have := congrArg List.length er
          rw [List.length_map, List.length_take] at this
          omega
        have lv := dps_len dv
        rw [List.length_map] at lv
        refine q_asgR (F := FeedF d l) (n := n + 7 * m) (k := 3) (P := PlD K) (r_feedM rfl) g (by omega) fun w7 H4 e4 g4 ⟨p, pok, psm, dp⟩ => ?_
        replace e4 := kx_kp e4
        show tDrop _ _ [some (.ref d), some (.ref a), some (.ref A), u3, none, some (.ref B), some (.str nm), some w7] H4
        have rp : EvR (FeedF d l) (tVar 7) [some (.ref d), some (.ref a), some (.ref A), u3, none, some (.ref B), some (.str nm), some w7] H4 0 (IsD K p.D) := rd_var FeedF.ok g4 rfl dp p.flat
        have hB4 := e4 _ _ hB nBd
        refine q_appR (F := FeedF d l) (n := n + 7 * m + 3) (k := 4) (i := 5) (l := B) (xs := vals) (P := fun v H => ∃ r : Ru, r.Ok ∧ (∀ p ∈ r.plains, p.Sm) ∧ Dp K H v (rowD (nm, r))) rfl hB4 nBd ?hte g4 (by omega) (by omega) fun v5 H5 e5 g5 ⟨r, rok, rsm, dr⟩ hB5 => ?_
        case hte =>
          have rtest : EvR (FeedF d l) (tOp rEq (tCall spDraw [] C8.E0 (tCons (tVar 0) (tCons (tC (.int 4)) tNil))) (tC (.int 0))) [some (.ref d), some (.ref a), some (.ref A), u3, none, some (.ref B), some (.str nm), some w7] H4 (0 + 1) (fun v _ => ∃ b, v = .bl b) := fun n1 H5 h1 g1 e1 Q q =>
            r_draw (kb := 0) rfl rv_c (by decide) (by decide) n1 H5 h1 g1 e1 _ fun v H6 e2 g2 ⟨r, ev, _⟩ => by
              subst ev
              exact ⟨rfl, q _ H6 e2 g2 ⟨_, rfl⟩⟩
          have rp : EvR (FeedF d l) (tVar 7) [some (.ref d), some (.ref a), some (.ref A), u3, none, some (.ref B), some (.str nm), some w7] H4 0 (IsD K p.D) := rd_var FeedF.ok g4 rfl dp p.flat
          have mR : MonoF (FeedF d l) (fun v H => ∃ r : Ru, r.Ok ∧ (∀ p ∈ r.plains, p.Sm) ∧ Dp K H v r.D) := fun n v H H' g e ⟨r, a1, a2, a3⟩ => ⟨r, a1, a2, mono_d FeedF.ok r.flat n _ _ _ g e a3⟩
          have mP : MonoF (FeedF d l) (PlD K) := fun n v H H' g e ⟨r, a1, a2, a3⟩ => ⟨r, a1, a2, mono_d FeedF.ok r.flat n _ _ _ g e a3⟩
          refine EvR.imp (r_tupP (ka := 0 + (0 + 1 + 3 + 0)) FeedF.ok (mono_consP (mono_d FeedF.ok rfl) (mono_consP mR mono_nilP)) (ra_consP (ka := 0) (mono_d FeedF.ok rfl) (rd_ofS (K := K) (i := nm) (rv_var rfl)) (ra_consP (ka := 0 + 1 + 3) (kb := 0) mR (r_ifX (ka := 0 + 1) (kb := 3) FeedF.ok rtest ?_ ?_) ra_nilP)) ?_) ?_
          · refine EvR.imp (r_tupP (ka := 0 + (0 + (3 + 0))) FeedF.ok (mono_consP (mono_d FeedF.ok rfl) (mono_consP (mono_d FeedF.ok p.flat) (mono_consP mP mono_nilP))) (ra_consP (ka := 0) (mono_d FeedF.ok rfl) (rd_str (K := K) (i := "or")) (ra_consP (ka := 0) (mono_d FeedF.ok p.flat) rp (ra_consP (ka := 3) (kb := 0) mP (r_feedM rfl) ra_nilP))) ?_) ?_
            · intro vs H5 ⟨x, r, e1, _, y, r2, e2, _, z, r3, e3, _, e4⟩
              subst e4 e3 e2 e1
              exact (show 3 ≤ 100000 by decide)
            · intro n' v' H5 g' e' ⟨b, vs, ev, hb, x, r, e1, hx1, y, r2, e2, hy, z, r3, e3, ⟨p2, ok2, sm2, hz⟩, e4⟩
              subst e4 e3 e2 e1 ev
              refine ⟨.or p p2, fun x hx => ?_, fun x hx => ?_, .tup (st_of hb) (.cons hx1 (.cons hy (.cons hz .nil)))⟩
              · simp only [Ru.plains, List.mem_cons, List.not_mem_nil, or_false] at hx
                rcases hx with rfl | rfl
                · exact pok
                · exact ok2
              · simp only [Ru.plains, List.mem_cons, List.not_mem_nil, or_false] at hx
                rcases hx with rfl | rfl
                · exact psm
                · exact sm2
          · refine EvR.up FeedF.ok (EvR.imp rp fun n' v' H5 g' e' hp => ⟨.one p, fun x hx => ?_, fun x hx => ?_, hp⟩) (by decide)
            · simp only [Ru.plains, List.mem_cons, List.not_mem_nil, or_false] at hx
              subst hx
              exact pok
            · simp only [Ru.plains, List.mem_cons, List.not_mem_nil, or_false] at hx
              subst hx
              exact psm
          · intro vs H5 ⟨x, r, e1, _, y, r2, e2, _, e4⟩
            subst e4 e2 e1
            exact (show 2 ≤ 100000 by decide)
          · intro n' v' H5 g' e' ⟨b, vs, ev, hb, x, r, e1, hx1, y, r2, e2, ⟨ru, rok, rsm, hy⟩, e4⟩
            subst e4 e2 e1 ev
            exact ⟨ru, rok, rsm, .tup (st_of hb) (.cons hx1 (.cons hy .nil))⟩
        have k45 : Kx (FeedF d l).S H' H5 := (kp_kx e4).trans e5
        have k5 : KT K H5 (upd H5 B (.lst (vals ++ [v5]))) := kt_lst hB5
        have dv5 : DpAll K H5 vals (rs.map rowD) := mono_ds FeedF.ok (rows_flat rs) _ _ _ _ g k45 dv
        refine ⟨some (.str nm), some w7, rs ++ [(nm, r)], vals ++ [v5], rfl, (k.trans (kx_kp k45)).mut nB', ?_, ?_, upd_same, ?_, ?_, fun x hx => ?_⟩
        · have g6 : FeedAt (upd H5 B (.lst (vals ++ [v5]))) d l (n + 7 * m + 3 + 4) := FeedF.ok.put hF nB' g5
          have : n + 7 * (m + 1) = n + 7 * m + 3 + 4 := by omega
          rw [this]
          exact g6
        · rw [upd_ne hBC.symm]
          exact k45 _ _ hC nCd
        · rw [List.map_append]
          exact dps_snoc (dps_kt k5 _ _ (rows_flat rs) dv5) (dp_kt k5 _ _ (row_flat _) dr)
        · rw [List.map_append, er, List.take_add_one, hnm]
          rfl
        · rcases List.mem_append.mp hx with h | h
          · exact hok x h
          · cases List.mem_singleton.mp h
            exact ⟨rok, rsm⟩
      · subst es
        rw [List.length_map, List.take_of_length_le (Nat.le_refl _)] at er
        refine s_retR (F := F0) (n := 0) (k := 0) (P := IsD K (.tuple (rs.map rowD))) (rd_tupOf F0.ok (rl_var F0.ok (n := 0) F0.g rfl ⟨B, vals, rfl, fun z => z, hB, dv⟩ (rows_flat rs))) F0.g (Nat.le_refl _) fun v H6 e6 _ p => ?_
        have g6 := FeedF.ok.ex g (F0.ex e6)
        refine q H6 v rs (k.trans (Kp.ex (F0.ex e6))) (FeedAt.up g6 (by rw [List.length_map]; omega)) p (by rw [er]; exact nys) (fun x => by rw [er]; exact mys x) (fun x hx => ⟨?_, hok x hx⟩) (by have := congrArg List.length er; rw [List.length_map] at this; omega)
        have h1 : x.1 ∈ namesOf ts := (mys x.1).mp (by rw [← er]; exact List.mem_map.mpr ⟨x, hx, rfl⟩)
        obtain ⟨s', hs', es'⟩ := List.mem_map.mp h1
        obtain ⟨c, hc, hs2⟩ := mem_subsA hs'
        rw [← es']
        exact (hnm c hc s' hs2).1
end
end K18
/-! ### != of two lists of the same plain items -/
namespace L2
open PySem PySem.Spec PyProof.Rows
theorem same_items {A : Around} {s : Shared} : ∀ {xs : List V} {us ws : List Value}, (∀ v ∈ xs, flatB v = true) → Vals xs us → Vals xs ws → ∀ j (h1 : j < us.length) (h2 : j < ws.length), SeqAt.EqAt A s us[j] ws[j] true
  | _, _, _, f, .nil, .nil, j, h1, _ => absurd h1 (Nat.not_lt_zero j)
  | _, _, _, f, .cons a1 b1, .cons a2 b2, 0, _, _ => eqAt_same a1 a2 (f _ (List.mem_cons_self ..))
  | _, _, _, f, .cons a1 b1, .cons a2 b2, j + 1, h1, h2 => same_items (fun v hv => f v (List.mem_cons_of_mem _ hv)) b1 b2 j (Nat.lt_of_succ_lt_succ h1) (Nat.lt_of_succ_lt_succ h2)
section
variable {X : Cx}
def rNeL (K : PySem.W.Frag) : R2 := fun x y H Q => ∃ a b xs, x = .ref a ∧ y = .ref b ∧ SqL K H a xs ∧ SqL K H b xs ∧ (∀ v ∈ xs, flatB v = true) ∧ Q (.bl false) H
theorem op_neL (hu : X.A.units + 64 < cLine) : OpR X (compareOp .NotEq) (rNeL X.K) := by
  intro pins s σ H x y v u Q I rx ry h
  obtain ⟨a, b, xs, rfl, rfl, ha, hb, f, q⟩ := h
  cases (show v = Value.ref a from rx)
  cases (show u = Value.ref b from ry)
  obtain ⟨us, r1, p1, _⟩ := I.list ha
  obtain ⟨ws, r2, p2, _⟩ := I.list hb
  show wpAny _ _ (richCompare .NotEq _ _) _ _ _
  refine SeqAt.RcNeAt.lists (e := fun _ => true) p1.isList p2.isList (by rw [List.size_toArray, List.size_toArray, ← r1.length, ← r2.length]) (by omega) (fun j h1 h2 => ?_) _ _ _ _ ?_
  · have k := same_items (A := X.A.in1) (s := s) f r1 r2 j (by simpa using h1) (by simpa using h2)
    simpa using k
  · have e : (!((List.range us.toArray.size).all fun _ => true)) = false := by rw [List.all_eq_true.mpr fun _ _ => rfl]; rfl
    rw [e]
    exact ⟨.bl false, H, I, rfl, q⟩
end
end L2
namespace Dt
open PySem PySem.Spec PyProof.Rows L2 Evl Fx
section
variable {F : Fd} {K : PySem.W.Frag} {te ta tb : TE} {tr : TA} {tz : TS} {D : Ends} {σ : L2.St} {H : Hp} {ds : List PyData} {k ka kb : Nat} {ns : List Str}
/-- two lists of the same texts -/
theorem rb_neTxt (o : F.Ok) (ha : EvR F ta σ H ka (IsL F K (ns.map PyData.str))) (hb : EvR F tb σ H kb (IsL F K (ns.map PyData.str))) : EvR F (tOp (rNeL K) ta tb) σ H (ka + kb) (fun x _ => x = .bl false) :=
  r_op o (mono_l o (flats_all.mpr fun d hd => by
    obtain ⟨b, _, rfl⟩ := List.mem_map.mp hd
    rfl)) ha hb fun x y n H1 g e ⟨p, xs, ex, _, hp, hx⟩ ⟨p', xs', ey, _, hp', hx'⟩ Q q => by
    have e1 := dps_strs hx
    have e2 := dps_strs hx'
    subst ex ey e1 e2
    exact ⟨p, p', _, rfl, rfl, sq_of hp, sq_of hp', fun v hv => by
      obtain ⟨b, _, rfl⟩ := List.mem_map.mp hv
      rfl, q _ H1 (Ex.refl _) rfl⟩
/-- a text != itself -/
theorem rb_neOne {x : Str} (o : F.Ok) (ha : EvR F ta σ H ka (fun u _ => u = .str x)) (hb : EvR F tb σ H kb (fun u _ => u = .str x)) : EvR F (tOp rNe ta tb) σ H (ka + kb) (fun u _ => u = .bl false) :=
  r_op o mono_eq ha hb fun u v n H1 g e e1 e2 Q q => by
    subst e1 e2
    exact ⟨rfl, q _ H1 (Ex.refl _) (by simp)⟩
theorem q_par2 {i j : Nat} (h : tr σ H fun vs H1 => ∃ u v, vs = [u, v] ∧ tz D ((σ.set i (some u)).set j (some v)) H1) : tSeq (tPar i j tr) tz D σ H := h
theorem q_nil {Q : List V → Hp → Prop} (h : Q [] H) : tNil σ H Q := h
end
end Dt
namespace Tr
open PySem PySem.Spec PyProof.Rows L2 Evl Fx Fr Dt
def LotP (y : PyData) : Prop := ∃ a ∈ lots, ∃ b ∈ lots, y = mkD (a, b)
theorem owns_of : ∀ {es : List PyData}, (∀ y ∈ es, LotP y) → ∃ ow : List (Rat × Rat), es = ow.map mkD ∧ ∀ o ∈ ow, o.1 ∈ lots ∧ o.2 ∈ lots
  | [], _ => ⟨[], rfl, fun o h => by cases h⟩
  | y :: es, h => by
    obtain ⟨a, ha, b, hb, rfl⟩ := h y (List.mem_cons_self ..)
    obtain ⟨ow, rfl, ho⟩ := owns_of fun z hz => h z (List.mem_cons_of_mem _ hz)
    refine ⟨(a, b) :: ow, rfl, fun o h => ?_⟩
    rcases List.mem_cons.mp h with rfl | h
    · exact ⟨ha, hb⟩
    · exact ho o h
theorem lotP_flat : ∀ x, LotP x → flat x = true := fun x ⟨a, _, b, _, e⟩ => by
  rw [e]
  rfl
theorem sh_mk {a b : Rat} (ha : a ∈ lots) (hb : b ∈ lots) : Sh 2 (2 * (2 * (41 + 1) + 1)) (mkD (a, b)) := sh_tup (n := 1) (w := 2 * (41 + 1)) (m := 2) (fun d hd => by
  rcases List.mem_cons.mp hd with rfl | hd
  · exact sh_lot ha
  · rcases List.mem_cons.mp hd with rfl | hd
    · exact sh_lot hb
    · cases hd) (by simp)
end Tr
namespace K18
open PySem PySem.Spec PyProof.Rows L2 Evl Fx Fr Dt Tr DtG
theorem scAgrees : FnScope ["_law_feed_here", "_law_root", "_law_acts", "_law_lap", "_law_lot", "_law_owns", "_law_span", "_law_kept_here", "_law_due", "_law_told", "_law_one"] ["_law_feed_here", "_law_root", "_law_acts"] (defScope (topS 40)) := ⟨rfl, rfl, rfl, by decide +kernel, rfl, by decide +kernel, by decide +kernel⟩
def nAgrees : List Str := ["_law_feed_here", "_law_root", "_law_acts", "_law_lap", "_law_lot", "_law_owns", "_law_span", "_law_kept_here", "_law_due", "_law_told", "_law_one"]
section
variable {P : Program} {w : World} {K : PySem.W.Frag} {mg : Str → Option Value} {base : Heap} {f f2 f3 : Addr} {fd fd2 fd3 : FuncData}
/-- a tree, rules that fit it: True, eight draws for each span and one more, four times -/
def spAgrees (K : PySem.W.Frag) : Sp := fun vs H Q _ => ∃ (d l : Addr) (n : Nat) (t : T) (rs : List (Str × Ru)) (ρ : Str → Ru) (v1 v2 : V), vs = [.ref d, v1, v2] ∧ FeedAt H d l n ∧ n + 60 ≤ 1000000 ∧ Dp K H v1 (enc t) ∧ Dp K H v2 (.tuple (rs.map rowD)) ∧ size t ≤ 6 ∧ NiceM t ∧
  (rs.map Prod.fst).Nodup ∧ rs.length ≤ 10 ∧ (∀ x ∈ rs, Nm x.1 ∧ x.2.Ok ∧ ∀ p ∈ x.2.plains, p.Sm) ∧ (∀ s ∈ subs t, ∃ i, RuleAt rs s.name i (ρ s.name)) ∧ ∀ H', Kp d H H' → FeedAt H' d l (n + 60) → Q (.bl true) H'
theorem ok_agrees (F : Fun K "_law_agrees" "_law_agrees" (topS 40) f fd) (cSD : C8.Cal P w K mg base 3 "_law_some_draw" (spFeedM 1 (LotD K)) []) (cSp : C8.Cal P w K mg base 6 "_law_spans" (spLSpans K 6) []) (cLK : C8.Cal P w K mg base 7 "_law_kept" (spLKept K) []) (cK : C8.Cal P w K mg base 5 "kept_by" (spKept K) [])
    (Gk : FnOk P w K mg base CX0 5 f2 fd2 ["tree", "rules", "draw", "pairs"] (spKept K)) (gk : mg "kept_by" = some (.ref f2)) (kk : PySem.W.keepIn K (.ref f2) = true) (bk : KBn K fd2 ["tree", "rules", "draw", "pairs"] 0 ["pairs", "draw", "rules", "tree"] (fun _ ws => ws.reverse) (fun _ zs => zs.reverse))
    (m_range : mg "range" = none) (m_tuple : mg "tuple" = none) (m_repr : mg "repr" = none) : FnG P w K mg base CX0 8 f fd ["_law_feed_here", "_law_root", "_law_acts"] (spAgrees K) := by
  refine okG F scAgrees (fun vs H Q E h => ?_) (fun cdv A outer s H vs Q E hgd hr h => ?_)
  · obtain ⟨d, l, n, t, rs, ρ, v1, v2, rfl, _⟩ := h
    rfl
  · obtain ⟨d, l, n, t, rs, ρ, v1, v2, rfl, hF, hn, p1, p2, h6, hN, hnd, hrl, hro, hra, q⟩ := h
    refine ⟨_, pss_cons (ps_for PassesOwn.never rfl (pi_range1 (by rfl) m_range (pa_cons pe_int pa_nil)) (pg_name (i := 3) scAgrees.nd rfl (.inl rfl))
      (pss_cons (ps_set (i := 4) scAgrees.nd rfl (.inl rfl) (C8.pe_c cSD hr (by decide) (by rfl) (pa_cons (pv 0) pa_nil)))
      (pss_cons (ps_set (i := 5) scAgrees.nd rfl (.inl rfl) (pe_callTy (T := "tuple") (r := rTupOf K) call_tupleOf (by rfl) m_tuple (by decide +kernel) (pa_cons (pe_lc (own := [("_law_span", 6)]) (g := gName 6) (by rfl) scAgrees.nd (pi_list (C8.pe_c cSp hr (by decide) (by rfl) (pa_cons (pv 1) (pa_cons (pe_tup pa_nil) pa_nil)))) (blkOk_by (own := [("_law_span", 6)]) (N := nAgrees) (sc := defScope (topS 40)) (by decide +kernel)) (fun _ _ _ _ _ => pg_name (i := 6) scAgrees.nd rfl (.inl rfl)) (fun _ _ _ _ _ => pts_nil)
        (fun _ _ _ _ _ => pe_tup (pa_cons (C8.pe_c cSD hr (by decide) (by rfl) (pa_cons (pv 0) pa_nil)) (pa_cons (C8.pe_c cSD hr (by decide) (by rfl) (pa_cons (pv 0) pa_nil)) pa_nil)))) pa_nil)))
      (pss_cons (ps_par (i := 7) (j := 8) rfl scAgrees.nd rfl rfl (by decide) rfl rfl (pa_cons (pe_callB (r := rReprD K) (cr_reprD hgd hr.units) (by rfl) m_repr (by decide +kernel) (pa_cons (pe_tup (pa_cons (pv 1) (pa_cons (pv 2) (pa_cons (pv 4) (pa_cons (pv 5) pa_nil))))) pa_nil)) (pa_cons (pe_callB (r := rReprD K) (cr_reprD hgd hr.units) (by rfl) m_repr (by decide +kernel) (pa_cons (C8.pe_c cLK hr (by decide) (by rfl) (pa_cons (pv 1) (pa_cons (pv 2) (pa_cons (pv 4) (pa_cons (pv 5) pa_nil))))) pa_nil)) pa_nil)) (by rfl))
      (pss_cons (ps_set (i := 9) scAgrees.nd rfl (.inl rfl) (pe_lst (pa_cons (C8.pe_c cK hr (by decide) (by rfl) (pa_cons (pv 1) (pa_cons (pv 2) (pa_cons (pv 4) (pa_cons (pv 5) pa_nil))))) (pa_cons (pe_callW0 Gk (hr.mono (by decide)) (by rfl) gk kk bk pass0 (pk_cons (pv 5) (pk_cons (pv 4) (pk_cons (pv 2) (pk_cons (pv 1) pk_nil))))) pa_nil))))
      (pss_one (ps_if (PW.pt (pw_or (pt_cmpR (op_neL hr.units) (pe_lc (own := [("_law_one", 10)]) (g := gName 10) (by rfl) scAgrees.nd (pi_list (pv 9)) (blkOk_by (own := [("_law_one", 10)]) (N := nAgrees) (sc := defScope (topS 40)) (by decide +kernel)) (fun _ _ _ _ _ => pg_name (i := 10) scAgrees.nd rfl (.inl rfl)) (fun _ _ _ _ _ => pts_nil)
          (fun _ _ _ _ _ => pe_callB (r := rReprD K) (cr_reprD hgd hr.units) (by rfl) m_repr (by decide +kernel) (pa_cons (pv 10) pa_nil))) (pe_lst (pa_cons (pv 8) (pa_cons (pv 8) pa_nil))) (nomark _))
        (pw_or1 (pt_cmpR op_ne (pe_callB (r := rReprD K) (cr_reprD hgd hr.units) (by rfl) m_repr (by decide +kernel) (pa_cons (pe_tup (pa_cons (pv 1) (pa_cons (pv 2) (pa_cons (pv 4) (pa_cons (pv 5) pa_nil))))) pa_nil)) (pv 7) (nomark _))))) (pss_one (ps_ret pe_bl)) pss_nil))))))) (pss_one (ps_ret pe_bl)), ?_⟩
    have f2 : flat (.tuple (rs.map rowD)) = true := by
      rw [flat_tup]
      exact rows_flat rs
    have N0 : (FeedF d l).N = 1000000 := rfl
    have hrules : ∀ s ∈ subs t, PyData.strOk s.name = true ∧ (∃ i, RuleAt rs s.name i (ρ s.name)) ∧ (ρ s.name).Ok := fun s hs => by
      obtain ⟨i, hi⟩ := hra s hs
      exact ⟨(nm_ok (hN s hs).1).1, ⟨i, hi⟩, (hro _ (List.mem_of_getElem? hi.1)).2.1⟩
    have mL : MonoF (FeedF d l) (LotD K) := fun n v H H' g e ⟨r, a1, a3⟩ => ⟨r, a1, mono_d FeedF.ok (fr_flat r) n _ _ _ g e a3⟩
    have lpl : ((placed [] t).map spanD).length = size t := by rw [List.length_map, placed_len]
    show tSeq (tFor (iRng1 (tCons (tC (.int 4)) tNil)) (gName 3) _) _ _ [some (.ref d), some v1, some v2, none, none, none, none, none, none, none, none] H
    refine q_forRg (F := FeedF d l) (n := n) (k := 0) (P := fun v _ => v = .int 4) rv_c hF (by omega) fun v H1 e1 g1 ev => ⟨4, fun i σ' H' => ∃ (u3 u4 u5 u7 u8 u9 : Option V), σ' = [some (.ref d), some v1, some v2, u3, u4, u5, none, u7, u8, u9, none] ∧ Kp d H H' ∧ FeedAt H' d l (n + 13 * i), ev, by decide, ⟨none, none, none, none, none, none, rfl, kx_kp e1, g1⟩, fun i σ' H' hi ⟨u3, u4, u5, u7, u8, u9, es, k, g⟩ => ?_, fun σ' H' ⟨u3, u4, u5, u7, u8, u9, es, k, g⟩ => ?_⟩
    · subst es
      have p1' : Dp K H' v1 (enc t) := mono_d FeedF.ok (enc_flat t) n _ _ _ hF (kp_kx k) p1
      have p2' : Dp K H' v2 (.tuple (rs.map rowD)) := mono_d FeedF.ok f2 n _ _ _ hF (kp_kx k) p2
      refine q_asgR (F := FeedF d l) (n := n + 13 * i) (k := 1) (P := LotD K) (r_feedM rfl) g (by omega) fun w4 H4 e4 g4 ⟨lot, hlot, dl4⟩ => ?_
      have p1'' : Dp K H4 v1 (enc t) := mono_d FeedF.ok (enc_flat t) (n + 13 * i) _ _ _ g e4 p1'
      have p2'' : Dp K H4 v2 (.tuple (rs.map rowD)) := mono_d FeedF.ok f2 (n + 13 * i) _ _ _ g e4 p2'
      have rown : EvR (FeedF d l) (tCB (rTupOf K) (tCons (tLc (iList K (tCall (spLSpans K 6) [] C8.E0 (tCons (tVar 1) (tCons (tTup tNil) tNil)))) (gName 6) tYes (tTup (tCons (tCall (spFeedM 1 (LotD K)) [] C8.E0 (tCons (tVar 0) tNil)) (tCons (tCall (spFeedM 1 (LotD K)) [] C8.E0 (tCons (tVar 0) tNil)) tNil))) [6]) tNil)) [some (.ref d), some v1, some v2, some (.int (i : Int)), some w4, u5, none, u7, u8, u9, none] H4 (0 + ((placed [] t).map spanD).length * (1 + (1 + 0))) (SomeD K fun x => ∃ es, x = .tuple es ∧ es.length = ((placed [] t).map spanD).length ∧ ∀ y ∈ es, LotP y) :=
        rd_tupOfP FeedF.ok (r_lcLP (K := K) (k := 0) (ke := 1 + (1 + 0)) (g := gName 6) (vs := [6]) FeedF.ok lotP_flat (rl_call FeedF.ok (ra_cons (ka := 0) (kb := 0) FeedF.ok (rd_var FeedF.ok g4 rfl p1'' (enc_flat t)) (ra_cons (ka := 0) (kb := 0) (d := pathD []) FeedF.ok (rd_tup FeedF.ok ra_nil) ra_nil) (enc_flat t)) ⟨t, [], h6, by decide, by decide, rfl, rfl⟩) (spans_flat _) (by rw [lpl]; omega) fun i9 x9 d9 n9 H9 _ _ g9 e9 =>
          ⟨_, gv_name, rfl, EvR.imp (r_tupP (ka := 1 + (1 + 0)) FeedF.ok (mono_consP mL (mono_consP mL mono_nilP)) (ra_consP mL (r_feedM rfl) (ra_consP mL (r_feedM rfl) ra_nilP)) fun vs H5 ⟨x, r, a1, _, y, r2, a2, _, a4⟩ => by
            subst a4 a2 a1
            exact (show 2 ≤ 100000 by decide)) fun n' v' H5 g' e' ⟨b, vs, ev, hb, x, r, a1, ⟨xa, hxa, dxa⟩, y, r2, a2, ⟨xb, hxb, dxb⟩, a4⟩ => by
              subst a4 a2 a1 ev
              exact ⟨_, ⟨xa, hxa, xb, hxb, rfl⟩, .tup (st_of hb) (.cons dxa (.cons dxb .nil))⟩⟩)
      refine q_asgR (F := FeedF d l) (n := n + 13 * i + 1) (k := 0 + ((placed [] t).map spanD).length * (1 + (1 + 0))) (P := SomeD K fun x => ∃ es, x = .tuple es ∧ es.length = ((placed [] t).map spanD).length ∧ ∀ y ∈ es, LotP y) rown g4 (by rw [lpl]; omega) fun w5 H5 e5 g5 ⟨x5, ⟨es5, ex5, hl5, hes⟩, d5⟩ => ?_
      subst ex5
      obtain ⟨owns, rfl, hown⟩ := owns_of hes
      have q1 : Dp K H5 v1 (enc t) := mono_d FeedF.ok (enc_flat t) (n + 13 * i + 1) _ _ _ g4 e5 p1''
      have q2 : Dp K H5 v2 (.tuple (rs.map rowD)) := mono_d FeedF.ok f2 (n + 13 * i + 1) _ _ _ g4 e5 p2''
      have q4 : Dp K H5 w4 (frD lot) := mono_d FeedF.ok (fr_flat lot) (n + 13 * i + 1) _ _ _ g4 e5 dl4
      have k5 : Kp d H H5 := k.trans ((kx_kp e4).trans (kx_kp e5))
      have g5' : FeedAt H5 d l (n + 13 * (i + 1)) := FeedAt.up g5 (by rw [lpl]; omega)
      rw [List.length_map, lpl] at hl5
      have okk : KeptOk2 t rs ρ lot owns := ⟨⟨by omega, hl5, (lots_lot lot hlot).1, fun o ho => ⟨(lots_lot _ (hown o ho).1).1, (lots_lot _ (hown o ho).2).1⟩, fun x hx => (nm_ok (hro x hx).1).1, hrules⟩, h6, lots_lot lot hlot, fun o ho => ⟨lots_lot _ (hown o ho).1, lots_lot _ (hown o ho).2⟩, hnd⟩
      have sh0 : Sh 13 (4 * (8010 + 1)) (.tuple [enc t, .tuple (rs.map rowD), frD lot, .tuple (owns.map mkD)]) := sh_tup (n := 12) (w := 8010) (m := 4) (fun d hd => by
        rcases List.mem_cons.mp hd with rfl | hd
        · exact (sh_tree t hN).mono (by omega) (by omega)
        · rcases List.mem_cons.mp hd with rfl | hd
          · refine (sh_tup (n := 3) (w := 800) (m := 10) (fun d hd => ?_) (by rw [List.length_map]; exact hrl)).mono (by decide) (by decide)
            obtain ⟨x, hx, rfl⟩ := List.mem_map.mp hd
            exact sh_row (hro x hx).1 (hro x hx).2.2
          · rcases List.mem_cons.mp hd with rfl | hd
            · exact (sh_lot hlot).mono (by decide) (by decide)
            · rcases List.mem_cons.mp hd with rfl | hd
              · refine (sh_tup (n := 2) (w := 2 * (2 * (41 + 1) + 1)) (m := 6) (fun d hd => ?_) (by rw [List.length_map, hl5]; exact h6)).mono (by decide) (by decide)
                obtain ⟨x, hx, rfl⟩ := List.mem_map.mp hd
                exact sh_mk (hown x hx).1 (hown x hx).2
              · cases hd) (by simp)
      have shk := sh_kept (ρ := ρ) (t := t) (draw := lot) (owns := owns) h6
      have fk : flat (.tuple ((keptBy ρ t lot owns).map pathD)) = true := by
        rw [flat_tup]
        exact paths_flat _
      have f4 : flats [enc t, .tuple (rs.map rowD), frD lot, .tuple (owns.map mkD)] = true := flats_cons.mpr ⟨enc_flat t, flats_cons.mpr ⟨f2, flats_cons.mpr ⟨fr_flat lot, flats_cons.mpr ⟨mks_flat owns, rfl⟩⟩⟩⟩
      have ar : ∀ {s7 s8 s9 : Option V} {H6 : Hp}, Ex H5 H6 → EvRA F0 (tCons (tVar 1) (tCons (tVar 2) (tCons (tVar 4) (tCons (tVar 5) tNil)))) [some (.ref d), some v1, some v2, some (.int (i : Int)), some w4, some w5, none, s7, s8, s9, none] H6 0 (fun vs H => DpAll K H vs [enc t, .tuple (rs.map rowD), frD lot, .tuple (owns.map mkD)]) := fun e =>
        ra_cons (ka := 0) (kb := 0) F0.ok (rd_var F0.ok (n := 0) F0.g rfl (dp_ex e _ _ q1) (enc_flat t)) (ra_cons (ka := 0) (kb := 0) F0.ok (rd_var F0.ok (n := 0) F0.g rfl (dp_ex e _ _ q2) f2) (ra_cons (ka := 0) (kb := 0) F0.ok (rd_var F0.ok (n := 0) F0.g rfl (dp_ex e _ _ q4) (fr_flat lot)) (ra_cons (ka := 0) (kb := 0) F0.ok (rd_var F0.ok (n := 0) F0.g rfl (dp_ex e _ _ d5) (mks_flat owns)) ra_nil (mks_flat owns)) (fr_flat lot)) f2) (enc_flat t)
      have arR : ∀ {s7 s8 s9 : Option V} {H6 : Hp}, Ex H5 H6 → EvRA F0 (tCons (tVar 5) (tCons (tVar 4) (tCons (tVar 2) (tCons (tVar 1) tNil)))) [some (.ref d), some v1, some v2, some (.int (i : Int)), some w4, some w5, none, s7, s8, s9, none] H6 0 (fun vs H => DpAll K H vs [.tuple (owns.map mkD), frD lot, .tuple (rs.map rowD), enc t]) := fun e =>
        ra_cons (ka := 0) (kb := 0) F0.ok (rd_var F0.ok (n := 0) F0.g rfl (dp_ex e _ _ d5) (mks_flat owns)) (ra_cons (ka := 0) (kb := 0) F0.ok (rd_var F0.ok (n := 0) F0.g rfl (dp_ex e _ _ q4) (fr_flat lot)) (ra_cons (ka := 0) (kb := 0) F0.ok (rd_var F0.ok (n := 0) F0.g rfl (dp_ex e _ _ q2) f2) (ra_cons (ka := 0) (kb := 0) F0.ok (rd_var F0.ok (n := 0) F0.g rfl (dp_ex e _ _ q1) (enc_flat t)) ra_nil (enc_flat t)) f2) (fr_flat lot)) (mks_flat owns)
      have rep : ∀ {s7 s8 s9 : Option V} {H6 : Hp}, Ex H5 H6 → EvR F0 (tCB (rReprD K) (tCons (tTup (tCons (tVar 1) (tCons (tVar 2) (tCons (tVar 4) (tCons (tVar 5) tNil))))) tNil)) [some (.ref d), some v1, some v2, some (.int (i : Int)), some w4, some w5, none, s7, s8, s9, none] H6 0 (fun x _ => x = .str (PyData.shown (.tuple [enc t, .tuple (rs.map rowD), frD lot, .tuple (owns.map mkD)]))) := fun e =>
        rv_repr (rd_tup F0.ok (ar e) f4) sh0 (by decide) (by decide)
      have due : ∀ {s7 s8 s9 : Option V} {H6 : Hp}, Ex H5 H6 → EvR F0 (tCB (rReprD K) (tCons (tCall (spLKept K) [] C8.E0 (tCons (tVar 1) (tCons (tVar 2) (tCons (tVar 4) (tCons (tVar 5) tNil))))) tNil)) [some (.ref d), some v1, some v2, some (.int (i : Int)), some w4, some w5, none, s7, s8, s9, none] H6 0 (fun x _ => x = .str (PyData.shown (.tuple ((keptBy ρ t lot owns).map pathD)))) := fun e =>
        rv_repr (rd_call F0.ok (ar e) ⟨t, rs, ρ, lot, owns, okk, rfl, rfl⟩) shk (by decide) (by decide)
      show tSeq (tPar 7 8 _) _ _ [some (.ref d), some v1, some v2, some (.int (i : Int)), some w4, some w5, none, u7, u8, u9, none] H5
      refine q_par2 (q_cons (rep (Ex.refl _) 0 H5 (Nat.le_refl _) F0.g Kx.refl _ fun x7 H6 e6 _ ex7 => q_cons (due (F0.ex e6) 0 H6 (Nat.le_refl _) F0.g Kx.refl _ fun x8 H7 e7 _ ex8 => ⟨x7, x8, rfl, ?_⟩)))
      subst ex7 ex8
      have e57 : Ex H5 H7 := (F0.ex e6).trans (F0.ex e7)
      generalize hs0 : PyData.shown (.tuple [enc t, .tuple (rs.map rowD), frD lot, .tuple (owns.map mkD)]) = s0 at rep ⊢
      generalize hsk : PyData.shown (.tuple ((keptBy ρ t lot owns).map pathD)) = sk at due ⊢
      generalize hkd : PyData.tuple ((keptBy ρ t lot owns).map pathD) = kd at fk ⊢
      show tSeq (tAsg _ (gName 9)) _ _ [some (.ref d), some v1, some v2, some (.int (i : Int)), some w4, some w5, none, some (.str s0), some (.str sk), u9, none] H7
      refine q_asgR (F := F0) (n := 0) (k := 0) (P := IsL F0 K [kd, kd]) (rl_lst F0.ok (ra_cons (ka := 0) (kb := 0) F0.ok (rd_call F0.ok (ar e57) ⟨t, rs, ρ, lot, owns, okk.k, rfl, hkd.symm⟩) (ra_cons (ka := 0) (kb := 0) F0.ok (rd_callW F0.ok (arR e57) rfl ⟨t, rs, ρ, lot, owns, okk.k, rfl, hkd.symm⟩) ra_nil fk) fk) (hl := by simp)) F0.g (Nat.le_refl _) fun w9 H8 e8 _ il => ?_
      have e58 : Ex H5 H8 := e57.trans (F0.ex e8)
      have f2k : flats [kd, kd] = true := flats_cons.mpr ⟨fk, flats_cons.mpr ⟨fk, rfl⟩⟩
      have rlc : EvR F0 (tLc (iList K (tVar 9)) (gName 10) tYes (tCB (rReprD K) (tCons (tVar 10) tNil)) [10]) [some (.ref d), some v1, some v2, some (.int (i : Int)), some w4, some w5, none, some (.str s0), some (.str sk), some w9, none] H8 (0 + 2 * (0 + 0)) (IsL F0 K ([sk, sk].map PyData.str)) := by
        have hc := r_lcL (F := F0) (K := K) (k := 0) (kt := 0) (ke := 0) (H := H8) (σ := [some (.ref d), some v1, some v2, some (.int (i : Int)), some w4, some w5, none, some (.str s0), some (.str sk), some w9, none]) (g := gName 10) (tt := tYes) (te := tCB (rReprD K) (tCons (tVar 10) tNil)) (tl := tVar 9) (vs := [10]) (ds := [kd, kd]) F0.ok (fun _ => true) (fun _ => .str sk) (rl_var F0.ok (n := 0) F0.g rfl il f2k) f2k (by simp) (fun _ _ _ => rfl) fun j x dd n9 H9 hd hx9 _ e9 => by
          refine ⟨_, gv_name, rfl, rt_yes rfl, fun _ => ?_⟩
          have ed : dd = kd := by
            match j, hd with
            | 0, hd => cases hd; rfl
            | 1, hd => cases hd; rfl
          subst ed
          subst hkd hsk
          exact rd_ofS (rv_repr (rd_var F0.ok (n := 0) F0.g rfl hx9 fk) shk (by decide) (by decide))
        exact hc
      have rdue : EvR F0 (tLst (tCons (tVar 8) (tCons (tVar 8) tNil))) [some (.ref d), some v1, some v2, some (.int (i : Int)), some w4, some w5, none, some (.str s0), some (.str sk), some w9, none] H8 0 (IsL F0 K ([sk, sk].map PyData.str)) :=
        rl_lst F0.ok (ra_cons (ka := 0) (kb := 0) F0.ok (rd_ofS (rv_var rfl)) (ra_cons (ka := 0) (kb := 0) F0.ok (rd_ofS (rv_var rfl)) ra_nil)) (hl := by simp)
      refine s_ifR (F := F0) (n := 0) (k := 0) (b := false) (rt_or (ka := 0) (kb := 0) (a := false) (b := false) F0.ok (rt_val (rb_neTxt (ka := 0) (kb := 0) F0.ok rlc rdue)) fun _ => rt_val (rb_neOne (ka := 0) (kb := 0) F0.ok (rep e58) (rv_var rfl))) F0.g (Nat.le_refl _) (fun h => Bool.noConfusion h) fun _ H9 e9 _ => ?_
      have e59 : Ex H5 H9 := e58.trans (F0.ex e9)
      exact ⟨_, _, _, _, _, _, rfl, k5.trans (Kp.ex e59), FeedF.ok.ex g5' e59⟩
    · subst es
      exact s_retR (F := F0) (n := 0) (k := 0) (P := fun v _ => v = .bl true) rv_c F0.g (Nat.le_refl _) fun v H6 e6 _ ev => by
        subst ev
        exact q H6 (k.trans (Kp.ex (F0.ex e6))) (FeedF.ok.ex (FeedAt.up g (by omega)) (F0.ex e6))
end
end K18
namespace Tr
open PySem PySem.Spec PyProof.Rows L2 Evl Fx Fr Dt
/-- rules that fit a tree -/
structure GoodR (t : T) (rs : List (Str × Ru)) (ρ : Str → Ru) : Prop where
  nodup : (rs.map Prod.fst).Nodup
  len : rs.length ≤ 10
  all : ∀ x ∈ rs, Nm x.1 ∧ x.2.Ok ∧ ∀ p ∈ x.2.plains, p.Sm
  at_ : ∀ s ∈ subs t, ∃ i, RuleAt rs s.name i (ρ s.name)
theorem doc_names : ∀ t ∈ docT, ∀ s ∈ subs t, (s.name = "front" ∨ s.name = "pay") ∧ (s.mark = 0 ∨ s.mark = 1) := by
  intro t ht s hs
  simp only [docT, List.mem_cons, List.not_mem_nil, or_false] at ht
  rcases ht with rfl | rfl | rfl <;> simp only [leaf, subs, subsA, List.append_nil, List.mem_cons, List.not_mem_nil, or_false] at hs
  · subst hs
    exact ⟨.inl rfl, .inl rfl⟩
  · rcases hs with rfl | rfl
    · exact ⟨.inl rfl, .inl rfl⟩
    · exact ⟨.inr rfl, .inl rfl⟩
  · rcases hs with rfl | rfl
    · exact ⟨.inl rfl, .inl rfl⟩
    · exact ⟨.inr rfl, .inr rfl⟩
theorem doc_sizes : ∀ t ∈ docT, size t ≤ 6 := by
  intro t ht
  simp only [docT, List.mem_cons, List.not_mem_nil, or_false] at ht
  rcases ht with rfl | rfl | rfl <;> simp only [leaf, size, sizes] <;> decide
theorem six_sizes : ∀ t ∈ sixT, size t ≤ 6 := by
  intro t ht
  simp only [sixT, List.mem_cons, List.not_mem_nil, or_false] at ht
  rcases ht with rfl | rfl <;> simp only [leaf, size, sizes] <;> decide
theorem leaf_names {s : Str} {m : Int} (h1 : Nm s) (h2 : m = 0 ∨ m = 1) : ∀ x ∈ subs (leaf s m), Nm x.name ∧ (x.mark = 0 ∨ x.mark = 1) := fun x hx => by
  simp only [leaf, subs, subsA, List.mem_cons, List.not_mem_nil, or_false] at hx
  subst hx
  exact ⟨h1, h2⟩
theorem subs_names {s : Str} {m : Int} {cs : List T} (h1 : Nm s) (h2 : m = 0 ∨ m = 1) (h : ∀ c ∈ cs, ∀ x ∈ subs c, Nm x.name ∧ (x.mark = 0 ∨ x.mark = 1)) : ∀ x ∈ subs (.mk s m cs), Nm x.name ∧ (x.mark = 0 ∨ x.mark = 1) := fun x hx => by
  rw [subs] at hx
  rcases List.mem_cons.mp hx with rfl | hx
  · exact ⟨h1, h2⟩
  · obtain ⟨c, hc, hs⟩ := mem_subsA hx
    exact h c hc x hs
theorem six_names : ∀ t ∈ sixT, NiceM t := by
  have p0 : ∀ x ∈ subs (leaf "pay" 0), Nm x.name ∧ (x.mark = 0 ∨ x.mark = 1) := leaf_names (.inr (.inr rfl)) (.inl rfl)
  have p1 : ∀ x ∈ subs (leaf "pay" 1), Nm x.name ∧ (x.mark = 0 ∨ x.mark = 1) := leaf_names (.inr (.inr rfl)) (.inr rfl)
  have d0 : ∀ x ∈ subs (leaf "db" 0), Nm x.name ∧ (x.mark = 0 ∨ x.mark = 1) := leaf_names (.inl rfl) (.inl rfl)
  intro t ht
  simp only [sixT, List.mem_cons, List.not_mem_nil, or_false] at ht
  rcases ht with rfl | rfl
  · refine subs_names (.inr (.inl rfl)) (.inl rfl) fun c hc => ?_
    simp only [List.mem_cons, List.not_mem_nil, or_false] at hc
    rcases hc with rfl | rfl
    · refine subs_names (.inl rfl) (.inl rfl) fun c hc => ?_
      simp only [List.mem_cons, List.not_mem_nil, or_false] at hc
      subst hc
      exact p0
    · refine subs_names (.inl rfl) (.inl rfl) fun c hc => ?_
      simp only [List.mem_cons, List.not_mem_nil, or_false] at hc
      rcases hc with rfl | rfl
      · exact p0
      · exact p1
  · refine subs_names (.inr (.inl rfl)) (.inl rfl) fun c hc => ?_
    simp only [List.mem_cons, List.not_mem_nil, or_false] at hc
    rcases hc with rfl | rfl | rfl | rfl | rfl
    · exact d0
    · exact d0
    · exact d0
    · exact p0
    · exact p1
theorem own_ok {p q : Int} (h1 : 0 < q) (h2 : p.natAbs < 1000) (h3 : q.natAbs < 1000) : (Pl.own p q).Ok ∧ (Pl.own p q).Sm := ⟨⟨h1, by omega, by omega⟩, sm_two rfl h2 h3⟩
theorem doc_good : ∀ t ∈ docT, GoodR t docR (rhoOf docR) := fun t ht => ⟨by decide +kernel, by decide, fun x hx => by
    simp only [docR, List.mem_cons, List.not_mem_nil, or_false] at hx
    rcases hx with rfl | rfl
    · have h := own_ok (p := 1) (q := 2) (by decide) (by decide) (by decide)
      refine ⟨.inr (.inl rfl), fun y hy => ?_, fun y hy => ?_⟩
      · simp only [Ru.plains, List.mem_cons, List.not_mem_nil, or_false] at hy
        subst hy
        exact h.1
      · simp only [Ru.plains, List.mem_cons, List.not_mem_nil, or_false] at hy
        subst hy
        exact h.2
    · refine ⟨.inr (.inr rfl), fun y hy => ?_, fun y hy => ?_⟩
      · simp only [Ru.plains, List.mem_cons, List.not_mem_nil, or_false] at hy
        subst hy
        exact trivial
      · simp only [Ru.plains, List.mem_cons, List.not_mem_nil, or_false] at hy
        subst hy
        exact sm_nil rfl, fun s hs => by
    refine rule_at ?_
    rcases (doc_names t ht s hs).1 with h | h <;> rw [h] <;> simp [docR]⟩
theorem doc_nice : ∀ t ∈ docT, NiceM t := fun t ht s hs => by
  have h := doc_names t ht s hs
  exact ⟨h.1.elim (fun z => .inr (.inl z)) fun z => .inr (.inr z), h.2⟩
/-- two draws of an "or" -/
def r01 : Rat := ⟨0, 1, by decide, by decide⟩
def r12 : Rat := ⟨1, 2, by decide, by decide⟩
def r13 : Rat := ⟨1, 3, by decide, by decide⟩
def r14 : Rat := ⟨1, 4, by decide, by decide⟩
def bothR : List (Str × Ru) := [("pay", .or (.own 1 2) (.own 1 3))]
theorem both_kept (b : Rat) : keptBy (rhoOf bothR) (leaf "pay" 0) r01 [(r12, b)] = if decide (b < Rat.divInt 1 3) then [[]] else [] := by
  have e1 : placed [] (leaf "pay" 0) = [([], leaf "pay" 0)] := by simp [leaf, placed, placedA]
  have e2 : saysAny (.or (.own 1 2) (.own 1 3)) false false false r01 (r12, b) = decide (b < Rat.divInt 1 3) := by
    have e3 : decide (r12 < Rat.divInt 1 2) = false := by decide +kernel
    show (decide (r12 < Rat.divInt 1 2) || (decide (b < Rat.divInt 1 3) || false)) = _
    rw [e3, Bool.false_or, Bool.or_false]
  have e4 : isBad (leaf "pay" 0) = false := by simp [isBad, leaf, subs, subsA, T.mark]
  unfold keptBy
  rw [e1, e4]
  simp only [List.zip_cons_cons, List.zip_nil_right, List.foldl_cons, List.foldl_nil]
  unfold Tr.step
  have e5 : rhoOf bothR (leaf "pay" 0).name = .or (.own 1 2) (.own 1 3) := by rw [bothR, rhoOf]; exact if_pos rfl
  have e6 : ((leaf "pay" 0).mark == 1) = false := rfl
  have e7 : calledIn [] ([] : List Nat) = false := rfl
  show (if saysAny (rhoOf bothR (leaf "pay" 0).name) ((leaf "pay" 0).mark == 1) false (calledIn [] []) r01 (r12, b) = true then [] ++ [[]] else []) = _
  rw [e5, e6, e7, e2]
  rfl
theorem bd_small {x : Rat} (h1 : x.num.natAbs < 2 ^ 60) (h2 : x.den < 2 ^ 60) : Bd 60 x := ⟨h1, h2⟩
theorem both_ok {b : Rat} (h : Bd 60 b) : K18.KeptOk (leaf "pay" 0) bothR (rhoOf bothR) r01 [(r12, b)] where
  size := by simp only [leaf, size, sizes]; decide
  len := by simp [leaf, Tr.size, sizes]
  draw := ⟨by decide, by decide⟩
  owns := fun o ho => by
    cases List.mem_singleton.mp ho
    exact ⟨(show Bd 60 r12 from ⟨by decide, by decide⟩), h⟩
  names := fun x hx => by
    cases List.mem_singleton.mp hx
    decide +kernel
  rules := fun s hs => by
    simp only [leaf, subs, subsA, List.mem_cons, List.not_mem_nil, or_false] at hs
    subst hs
    refine ⟨by decide +kernel, rule_at (by simp [bothR, T.name]), ?_⟩
    have e5 : rhoOf bothR "pay" = .or (.own 1 2) (.own 1 3) := by rw [bothR, rhoOf]; exact if_pos rfl
    show (rhoOf bothR "pay").Ok
    rw [e5]
    intro y hy
    simp only [Ru.plains, List.mem_cons, List.not_mem_nil, or_false] at hy
    rcases hy with rfl | rfl
    · exact ⟨by decide, by decide, by decide⟩
    · exact ⟨by decide, by decide, by decide⟩
end Tr
namespace Dt
open PySem PySem.Spec PyProof.Rows L2 Evl Fx
theorem pe_c0 {X : Cx} {j k : Nat} {x : Str} {sp : Sp} {p pos : Pos} (c : C8.Cal X.prog X.w X.K X.mg X.base k x sp []) (hr : Room j X.A) (hk : k ≤ j) (hg : Gl X x) (hdb : (x == ("__debug__" : Str)) = false := by decide) : PE X (.Call (.Name x p) [] [] pos) (tCall sp [] C8.E0 tNil) := by
  obtain ⟨f, fd, ps, ds, F, hm, kp, b, d⟩ := c.ex
  cases d
  exact pe_call0 F (hr.mono hk) hg hm kp b .nil C8.pass0 hdb
/-- for x in xs, a tuple that a name holds -/
theorem q_forTs {K : PySem.W.Frag} {σ : L2.St} {H : Hp} {i j : Nat} {a : Addr} {xs : List V} {tb tz : TS} {D : Ends} (hv : σ[i]? = some (some (.ref a))) (Pv : Nat → L2.St → Hp → Prop) (h0 : Pv 0 σ H) (hl : ∀ m σ' H', Pv m σ' H' → SqT K H' a xs)
    (hs : ∀ m x σ' H', xs[m]? = some x → Pv m σ' H' → tb { D with nx := Pv (m + 1), ct := Pv (m + 1), bk := tz D } (σ'.set j (some x)) H') (hd : ∀ σ' H', Pv xs.length σ' H' → tz D σ' H') : tSeq (tFor (iTup K (tVar i)) (gName j) tb) tz D σ H :=
  ⟨.ref a, hv, a, rfl, ⟨xs, hl 0 σ H h0⟩, for_tup Pv h0 (fun m σ' H' _ p => hl m σ' H' p) hs hd⟩
end Dt
namespace K18
open PySem PySem.Spec PyProof.Rows L2 Evl Fx Fr Dt Tr DtG
def nLaw : List Str := ["_law_script", "_law_feed_here", "_law_roots", "_law_acts", "_law_root", "_law_both", "_law_told", "_law_own", "_law_attempt"]
theorem scLaw : FnScope nLaw ["_law_script"] (defScope (topS 41)) := ⟨rfl, rfl, rfl, by decide +kernel, rfl, by decide +kernel, by decide +kernel⟩
section
variable {P : Program} {w : World} {K : PySem.W.Frag} {mg : Str → Option Value} {base : Heap} {f f2 f3 : Addr} {fd fd2 fd3 : FuncData} {d l : Addr} {σ : L2.St} {H : Hp} {te tc : TE} {k kc n n0 : Nat}
/-- the rules of a tree -/
def RulesD (K : PySem.W.Frag) (t : T) : VP := fun v H => ∃ rs ρ, Dp K H v (.tuple (rs.map rowD)) ∧ GoodR t rs ρ
theorem r_agrees {E : XK} {i j : Nat} {v1 : V} {t : T} (hd : σ[i]? = some (some (.ref d))) (hj : σ[j]? = some (some v1)) (g0 : FeedAt H d l n0) (p1 : Dp K H v1 (enc t)) (h6 : size t ≤ 6) (hN : NiceM t) (hc : EvR (FeedF d l) tc σ H kc (RulesD K t)) :
    EvR (FeedF d l) (tCall (spAgrees K) [] E (tCons (tVar i) (tCons (tVar j) (tCons tc tNil)))) σ H (kc + 60) (fun v _ => v = .bl true) :=
  fun n H1 hn g e Q q => ⟨.ref d, hd, v1, hj, hc n H1 (by omega) g e _ fun v H2 e2 g2 ⟨rs, ρ, dr, ok⟩ =>
    ⟨d, l, n + kc, t, rs, ρ, v1, v, rfl, g2, by have : (FeedF d l).N = 1000000 := rfl; omega, mono_d FeedF.ok (enc_flat t) n0 _ _ _ g0 (e.trans e2) p1, dr, h6, hN, ok.nodup, ok.len, ok.all, ok.at_, fun H3 k3 g3 => q _ _ (e2.trans (kp_kx k3)) (by rw [← Nat.add_assoc]; exact g3) rfl⟩⟩
theorem r_acts {E : XK} {i j : Nat} {v1 : V} {t : T} (hd : σ[i]? = some (some (.ref d))) (hj : σ[j]? = some (some v1)) (g0 : FeedAt H d l n0) (p1 : Dp K H v1 (enc t)) (h6 : size t ≤ 6) (hN : NiceM t) :
    EvR (FeedF d l) (tCall (spActs K) [] E (tCons (tVar i) (tCons (tLst (tCons (tVar j) tNil)) tNil))) σ H 42 (RulesD K t) :=
  fun n H1 hn g e Q q => ⟨.ref d, hd, v1, hj, by show 1 ≤ sizeLine; decide, fun a ha => by
    have e1 := Ex.new (o := HO.lst [v1]) ha
    have g1 : FeedAt (upd H1 a (.lst [v1])) d l n := FeedF.ok.ex g e1
    have na : ¬ (a = d ∨ a = l) := FeedF.ok.new g ha
    have ez : sizes [t] = size t := by simp [sizes]
    refine ⟨d, l, a, n, [t], [v1], rfl, g1, by have : (FeedF d l).N = 1000000 := rfl; omega, fun z => na (.inl z), fun z => na (.inr z), upd_same, .cons (dp_ex e1 _ _ (mono_d FeedF.ok (enc_flat t) n0 _ _ _ g0 e p1)) .nil, by rw [ez]; exact h6, fun c hc => by
      cases List.mem_singleton.mp hc
      exact hN, fun H3 v rs k3 g3 dr nd mem ok len => ?_⟩
    refine q v H3 ((Kx.ex e1).trans (kp_kx k3)) g3 ⟨rs, rhoOf rs, dr, nd, by omega, ok, fun s hs => rule_at ((mem s.name).mpr ?_)⟩
    refine List.mem_map.mpr ⟨s, ?_, rfl⟩
    simp [subsA, hs]⟩
theorem r_tree {E : XK} {i : Nat} (hd : σ[i]? = some (some (.ref d))) : EvR (FeedF d l) (tCall (spTree K 4) [] E (tCons (tVar i) (tCons (tLst (tCons (tC (.int 3)) tNil)) (tCons (tC (.int 3)) tNil)))) σ H 12 (fun v H => ∃ t, size t ≤ 6 ∧ NiceM t ∧ Dp K H v (enc t)) :=
  fun n H1 hn g e Q q => ⟨.ref d, hd, by show 1 ≤ sizeLine; decide, fun a ha => by
    have e1 := Ex.new (o := HO.lst [.int 3]) ha
    have g1 : FeedAt (upd H1 a (.lst [.int 3])) d l n := FeedF.ok.ex g e1
    have na : ¬ (a = d ∨ a = l) := FeedF.ok.new g ha
    refine ⟨d, l, a, 3, n, 3, rfl, by decide, g1, fun z => na (.inl z), fun z => na (.inr z), upd_same, by decide, by have : (FeedF d l).N = 1000000 := rfl; omega, fun H3 v t k' k3 hs g3 _ nt dt => ?_⟩
    refine q v H3 (fun b o hb hne => k3 b o (e1 b o hb) fun z => z.elim hne fun z => ?_) (FeedAt.up g3 (by omega)) ⟨t, by omega, nt, dt⟩
    subst z
    rw [ha] at hb
    cases hb⟩
def spLaw (K : PySem.W.Frag) : Sp := fun vs H Q _ => ∃ (a : Addr) (ns : List Int), vs = [.ref a] ∧ SqL K H a (ns.map V.int) ∧ ∀ H', Q (.bl true) H'
theorem ok_law (F : Fun K "law" "law" (topS 41) f fd) (cFeed : C8.Cal P w K mg base 1 "_law_feed" (spFeed K) []) (cDoc : C8.Cal P w K mg base 1 "_law_document" (spDoc K) []) (cSix : C8.Cal P w K mg base 1 "_law_six" (spSix K) []) (cTree : C8.Cal P w K mg base 6 "_law_some_tree" (spTree K 4) []) (cActs : C8.Cal P w K mg base 7 "_law_some_acts" (spActs K) []) (cK : C8.Cal P w K mg base 5 "kept_by" (spKept K) [])
    (GA : FnG P w K mg base CX0 8 f2 fd2 ["_law_feed_here", "_law_root", "_law_acts"] (spAgrees K)) (gA : mg "_law_agrees" = some (.ref f2)) (kA : PySem.W.keepIn K (.ref f2) = true) (bA : L2.Binds K fd2 ["_law_feed_here", "_law_root", "_law_acts"] [])
    (m_range : mg "range" = none) : FnG P w K mg base CX0 9 f fd ["_law_script"] (spLaw K) := by
  refine okG F scLaw (fun vs H Q E h => ?_) (fun cdv A outer s H vs Q E hgd hr h => ?_)
  · obtain ⟨a, ns, rfl, _⟩ := h
    rfl
  · obtain ⟨a, ns, rfl, hS, q⟩ := h
    refine ⟨_, pss_cons (ps_set (i := 1) scLaw.nd rfl (.inl rfl) (C8.pe_c cFeed hr (by decide) (by rfl) (pa_cons (pv 0) pa_nil)))
      (pss_cons (ps_asg (pe_c0 cDoc hr (by decide) (by rfl)) (pg_tup (by rfl) (pgs_cons (pg_name (i := 2) scLaw.nd rfl (.inl rfl)) (pgs_cons (pg_name (i := 3) scLaw.nd rfl (.inl rfl)) pgs_nil))))
      (pss_cons (ps_for PassesOwn.never rfl (pi_tup (pv 2)) (pg_name (i := 4) scLaw.nd rfl (.inl rfl))
        (pss_one (ps_if (pt_not (pt_val (pe_callG GA hgd hr (by rfl) gA kA bA pass0 (pa_cons (pv 1) (pa_cons (pv 4) (pa_cons (pv 3) pa_nil)))))) (pss_one (ps_ret pe_bl)) pss_nil)))
      (pss_cons (ps_set (i := 5) scLaw.nd rfl (.inr rfl) (pe_tup (pa_cons (pe_tup (pa_cons pe_str (pa_cons (pe_tup (pa_cons pe_str (pa_cons (pe_tup (pa_cons pe_str (pa_cons pe_int (pa_cons pe_int pa_nil)))) (pa_cons (pe_tup (pa_cons pe_str (pa_cons pe_int (pa_cons pe_int pa_nil)))) pa_nil)))) pa_nil))) pa_nil)))
      (pss_cons (ps_setLc (i := 6) (own := [("_law_own", 7)]) (g := gName 7) (by rfl) scLaw.nd rfl rfl (sw_true rfl rfl rfl (by kernel_rfl)) (pi_tup (pe_tup (pa_cons (pe_tup (pa_cons pe_int (pa_cons pe_int pa_nil))) (pa_cons (pe_tup (pa_cons pe_int (pa_cons pe_int pa_nil))) pa_nil))))
          (blkOk_by (own := [("_law_own", 7)]) (N := nLaw) (sc := defScope (topS 41)) (by decide +kernel)) (fun _ _ _ _ _ => pg_name (i := 7) scLaw.nd rfl (.inl rfl)) (fun _ _ _ _ _ => pts_nil)
          (fun _ _ _ _ _ => C8.pe_c cK hr (by decide) (by rfl) (pa_cons (pe_tup (pa_cons pe_str (pa_cons pe_int (pa_cons (pe_tup pa_nil) pa_nil)))) (pa_cons (pv 5) (pa_cons (pe_tup (pa_cons pe_int (pa_cons pe_int pa_nil))) (pa_cons (pe_tup (pa_cons (pe_tup (pa_cons (pe_tup (pa_cons pe_int (pa_cons pe_int pa_nil))) (pa_cons (pv 7) pa_nil))) pa_nil)) pa_nil))))))
      (pss_cons (ps_if (pt_cmpR (op_neD hr.units) (pv 6) (pe_lst (pa_cons (pe_tup pa_nil) (pa_cons (pe_tup (pa_cons (pe_tup pa_nil) pa_nil)) pa_nil))) (nomark _)) (pss_one (ps_ret pe_bl)) pss_nil)
      (pss_cons (ps_for PassesOwn.never rfl (pi_range1 (by rfl) m_range (pa_cons pe_int pa_nil)) (pg_name (i := 8) scLaw.nd rfl (.inl rfl))
        (pss_cons (ps_set (i := 4) scLaw.nd rfl (.inl rfl) (pe_ifExp (pt_cmpR op_lt (pv 8) pe_int (nomark _)) (pe_ix ix_list (pe_c0 cSix hr (by decide) (by rfl)) (pe_op op_fdivW (pv 8) pe_int) (fun _ _ => rfl)) (C8.pe_c cTree hr (by decide) (by rfl) (pa_cons (pv 1) (pa_cons (pe_lst (pa_cons pe_int pa_nil)) (pa_cons pe_int pa_nil))))))
        (pss_one (ps_if (pt_not (pt_val (pe_callG GA hgd hr (by rfl) gA kA bA pass0 (pa_cons (pv 1) (pa_cons (pv 4) (pa_cons (C8.pe_c cActs hr (by decide) (by rfl) (pa_cons (pv 1) (pa_cons (pe_lst (pa_cons (pv 4) pa_nil)) pa_nil))) pa_nil)))))) (pss_one (ps_ret pe_bl)) pss_nil))))
      (pss_one (ps_ret pe_bl)))))))), ?_⟩
    show tSeq (tAsg (tCall (spFeed K) [] C8.E0 (tCons (tVar 0) tNil)) (gName 1)) _ _ [some (.ref a), none, none, none, none, none, none, none, none] H
    refine ⟨.ref a, rfl, a, ns, rfl, hS, fun H1 d l e1 nd g1 => ?_⟩
    show tSeq (tAsg (tCall (spDoc K) [] C8.E0 tNil) _) _ _ [some (.ref a), some (.ref d), none, none, none, none, none, none, none] H1
    refine q_asgG (F := F0) (n := 0) (k := 0) (P := IsD K (.tuple [.tuple (docT.map enc), .tuple (docR.map rowD)])) (rd_call F0.ok ra_nil ⟨rfl, rfl⟩) F0.g (Nat.le_refl _) fun vt H2 e2 _ hdt => ?_
    replace e2 := F0.ex e2
    obtain ⟨c0, v2, v3, rfl, hc0, p2, p3⟩ := dp_two hdt
    refine ⟨c0, _, rfl, hc0, rfl, v2, _, rfl, v3, _, rfl, rfl, ?_⟩
    change tSeq _ _ _ [some (.ref a), some (.ref d), some v2, some v3, none, none, none, none, none] H2
    have g2 : FeedAt H2 d l 0 := FeedF.ok.ex g1 e2
    have N0 : (FeedF d l).N = 1000000 := rfl
    have fR : flat (.tuple (docR.map rowD)) = true := by
      rw [flat_tup]
      exact rows_flat docR
    cases p2 with
    | @tup b2 xs _ hb2 hx2 =>
    have l2 := dps_len hx2
    refine q_forTs (a := b2) (xs := xs) rfl (fun m σ' H' => ∃ (u4 : Option V), σ' = [some (.ref a), some (.ref d), some (.ref b2), some v3, u4, none, none, none, none] ∧ Kp d H2 H' ∧ FeedAt H' d l (60 * m)) ⟨none, rfl, Kp.refl _ _, g2⟩ (fun m σ' H' ⟨u4, es, k, g⟩ => FeedF.ok.kt g2 (kp_kx k) _ _ hb2) (fun m x σ' H' hxm ⟨u4, es, k, g⟩ => ?_) fun σ' H' ⟨u4, es, k, g⟩ => ?_
    · subst es
      have hm : m < docT.length := by
        have := (List.getElem?_eq_some_iff.mp hxm).1
        rw [List.length_map] at l2
        omega
      have hm3 : docT.length = 3 := rfl
      have htm : docT[m]? = some docT[m] := List.getElem?_eq_getElem hm
      have hmem : docT[m] ∈ docT := List.getElem_mem hm
      generalize docT[m] = t at htm hmem
      have hdx : Dp K H' x (enc t) := by
        obtain ⟨u, hu, du⟩ := dps_get (mono_ds FeedF.ok (maps_flat docT) 0 _ _ _ g2 (kp_kx k) hx2) (show (docT.map enc)[m]? = some (enc t) by rw [List.getElem?_map, htm]; rfl)
        rw [hxm] at hu
        cases hu
        exact du
      have h3 : Dp K H' v3 (.tuple (docR.map rowD)) := mono_d FeedF.ok fR 0 _ _ _ g2 (kp_kx k) p3
      refine s_ifR (F := FeedF d l) (n := 60 * m) (k := 0 + 60) (b := false) (rt_not (a := true) (rt_val (r_agrees (kc := 0) rfl rfl g hdx (doc_sizes t hmem) (doc_nice t hmem) (EvR.imp (rd_var FeedF.ok g rfl h3 fR) fun _ v _ _ _ hp => ⟨docR, rhoOf docR, hp, doc_good t hmem⟩)))) g (by omega) (fun h => Bool.noConfusion h) fun _ H9 e9 g9 => ?_
      exact ⟨_, rfl, k.trans (kx_kp e9), by have : 60 * (m + 1) = 60 * m + (0 + 60) := by omega
                                            rw [this]; exact g9⟩
    · subst es
      have hl3 : xs.length = 3 := by rw [l2, List.length_map]; rfl
      rw [hl3] at g
      have lt2 : ∀ {σ : L2.St} {H : Hp} {p q : Int}, EvR F0 (tTup (tCons (tC (.int p)) (tCons (tC (.int q)) tNil))) σ H 0 (IsD K (.tuple [.int p, .int q])) := fun {σ H p q} => rd_tup F0.ok (ra_cons (ka := 0) (kb := 0) F0.ok rd_int (ra_cons (ka := 0) (kb := 0) F0.ok rd_int ra_nil))
      have own3 : ∀ {σ : L2.St} {H : Hp} {p q : Int}, EvR F0 (tTup (tCons (tC (.str "own")) (tCons (tC (.int p)) (tCons (tC (.int q)) tNil)))) σ H 0 (IsD K (.tuple [.str "own", .int p, .int q])) := fun {σ H p q} => rd_tup F0.ok (ra_cons (ka := 0) (kb := 0) F0.ok rd_str (ra_cons (ka := 0) (kb := 0) F0.ok rd_int (ra_cons (ka := 0) (kb := 0) F0.ok rd_int ra_nil)))
      refine q_asgR (F := F0) (n := 0) (k := 0) (P := IsD K (.tuple (bothR.map rowD))) (rd_tup (ds := bothR.map rowD) F0.ok (ra_cons (ka := 0) (kb := 0) F0.ok (rd_tup F0.ok (ra_cons (ka := 0) (kb := 0) F0.ok rd_str (ra_cons (ka := 0) (kb := 0) F0.ok (rd_tup F0.ok (ra_cons (ka := 0) (kb := 0) F0.ok rd_str (ra_cons (ka := 0) (kb := 0) F0.ok own3 (ra_cons (ka := 0) (kb := 0) F0.ok own3 ra_nil))) rfl (by decide)) ra_nil)) rfl (by decide)) ra_nil) rfl (by decide)) F0.g (Nat.le_refl _) fun v5 H5 e5 _ d5 => ?_
      replace e5 := F0.ex e5
      have call : ∀ {b : Rat} {x : V} {H9 : Hp}, Ex H5 H9 → Dp K H9 x (frD b) → Bd 60 b → EvR F0 (tCall (spKept K) [] C8.E0 (tCons (tTup (tCons (tC (.str "pay")) (tCons (tC (.int 0)) (tCons (tTup tNil) tNil)))) (tCons (tVar 5) (tCons (tTup (tCons (tC (.int 0)) (tCons (tC (.int 1)) tNil))) (tCons (tTup (tCons (tTup (tCons (tTup (tCons (tC (.int 1)) (tCons (tC (.int 2)) tNil))) (tCons (tVar 7) tNil))) tNil)) tNil)))))
          [some (.ref a), some (.ref d), some (.ref b2), some v3, u4, some v5, none, some x, none] H9 0 (IsD K (.tuple ((if decide (b < Rat.divInt 1 3) then [[]] else []).map pathD))) := fun {b x H9} e dx hb =>
        rd_call F0.ok (ra_cons (ka := 0) (kb := 0) (d := enc (leaf "pay" 0)) F0.ok (rd_node (cs := []) F0.ok (rd_tup F0.ok ra_nil)) (ra_cons (ka := 0) (kb := 0) (d := .tuple (bothR.map rowD)) F0.ok (rd_var F0.ok (n := 0) F0.g rfl (dp_ex e _ _ d5) rfl) (ra_cons (ka := 0) (kb := 0) (d := frD r01) F0.ok lt2 (ra_cons (ka := 0) (kb := 0) (d := .tuple ([(r12, b)].map mkD)) F0.ok
          (rd_tup F0.ok (ra_cons (ka := 0) (kb := 0) (d := mkD (r12, b)) F0.ok (rd_tup F0.ok (ra_cons (ka := 0) (kb := 0) (d := frD r12) F0.ok lt2 (ra_cons (ka := 0) (kb := 0) (d := frD b) F0.ok (rd_var F0.ok (n := 0) F0.g rfl dx (fr_flat b)) ra_nil))) ra_nil)) ra_nil))) (enc_flat _)) ⟨leaf "pay" 0, bothR, rhoOf bothR, r01, [(r12, b)], both_ok hb, rfl, by rw [both_kept]⟩
      have hc := r_lcT (F := F0) (K := K) (k := 0) (kt := 0) (ke := 0) (H := H5) (σ := [some (.ref a), some (.ref d), some (.ref b2), some v3, u4, some v5, none, none, none]) (g := gName 7) (tt := tYes) (te := tCall (spKept K) [] C8.E0 (tCons (tTup (tCons (tC (.str "pay")) (tCons (tC (.int 0)) (tCons (tTup tNil) tNil)))) (tCons (tVar 5) (tCons (tTup (tCons (tC (.int 0)) (tCons (tC (.int 1)) tNil))) (tCons (tTup (tCons (tTup (tCons (tTup (tCons (tC (.int 1)) (tCons (tC (.int 2)) tNil))) (tCons (tVar 7) tNil))) tNil)) tNil)))))
        (tl := tTup (tCons (tTup (tCons (tC (.int 1)) (tCons (tC (.int 3)) tNil))) (tCons (tTup (tCons (tC (.int 1)) (tCons (tC (.int 4)) tNil))) tNil))) (vs := [7]) (ds := [frD r13, frD r14]) F0.ok (fun _ => true) (fun i => [PyData.tuple [], PyData.tuple [.tuple []]].getD i .none)
        (rd_tup F0.ok (ra_cons (ka := 0) (kb := 0) (d := frD r13) F0.ok lt2 (ra_cons (ka := 0) (kb := 0) (d := frD r14) F0.ok lt2 ra_nil)) rfl (by decide)) rfl (by decide) (fun j hj _ => by
          have hj2 : j < 2 := hj
          match j, hj2 with
          | 0, _ => rfl
          | 1, _ => rfl) fun i x dd n9 H9 hd hx9 _ e9 => by
          refine ⟨_, gv_name, rfl, rt_yes rfl, fun _ => ?_⟩
          replace e9 := F0.ex e9
          have lt13 : decide (r13 < Rat.divInt 1 3) = false := by decide +kernel
          have lt14 : decide (r14 < Rat.divInt 1 3) = true := by decide +kernel
          match i, hd with
          | 0, hd =>
            cases hd
            exact (call e9 hx9 (show Bd 60 r13 from ⟨by decide, by decide⟩)).cast (by rw [lt13]; rfl)
          | 1, hd =>
            cases hd
            exact (call e9 hx9 (show Bd 60 r14 from ⟨by decide, by decide⟩)).cast (by rw [lt14]; rfl)
      rw [outs_getD .none [PyData.tuple [], PyData.tuple [.tuple []]] (show _ = [frD r13, frD r14].length from rfl)] at hc
      refine q_asgR (F := F0) (n := 0) (k := 0) (P := IsL F0 K [PyData.tuple [], PyData.tuple [.tuple []]]) hc F0.g (by simp [F0]) fun v6 H6 e6 _ il => ?_
      replace e6 := F0.ex e6
      show tSeq (tIfS _ _ tNext) _ _ [some (.ref a), some (.ref d), some (.ref b2), some v3, u4, some v5, some v6, none, none] H6
      refine q_whenR (F := F0) (n := 0) (k := 0) (b := false) (rt_val (r_op (ka := 0) (kb := 0) (P := IsL F0 K [PyData.tuple [], PyData.tuple [.tuple []]]) (P' := IsL F0 K [PyData.tuple [], PyData.tuple [.tuple []]]) F0.ok (mono_l F0.ok rfl) (rl_var F0.ok (n := 0) F0.g rfl il rfl) (rl_lst F0.ok (ra_cons (ka := 0) (kb := 0) F0.ok (rd_tup F0.ok ra_nil) (ra_cons (ka := 0) (kb := 0) F0.ok (rd_tup F0.ok (ra_cons (ka := 0) (kb := 0) F0.ok (rd_tup F0.ok ra_nil) ra_nil)) ra_nil)) (hl := by decide)) fun x y n H1 g e px py Q q =>
        ⟨_, _, px.dp, py.dp, by decide +kernel, by decide +kernel, q _ H1 (Ex.refl _) (by simp [PyData.eqv, PyData.eqvAll])⟩)) F0.g (Nat.le_refl _) (fun h => Bool.noConfusion h) fun _ H7 e7 _ => ?_
      replace e7 := F0.ex e7
      have e07 : Ex H' H7 := (e5.trans e6).trans e7
      have g7 : FeedAt H7 d l 180 := FeedF.ok.ex g e07
      have k7 : Kp d H2 H7 := k.trans (Kp.ex e07)
      show tSeq (tFor (iRng1 (tCons (tC (.int 12)) tNil)) (gName 8) _) _ _ [some (.ref a), some (.ref d), some (.ref b2), some v3, u4, some v5, some v6, none, none] H7
      refine q_forRg (F := FeedF d l) (n := 180) (k := 0) (P := fun v _ => v = .int 12) rv_c g7 (by omega) fun v H8 e8 g8 ev => ⟨12, fun i σ' H' => ∃ (u4 u8 : Option V), σ' = [some (.ref a), some (.ref d), some (.ref b2), some v3, u4, some v5, some v6, none, u8] ∧ FeedAt H' d l (180 + 114 * i), ev, by decide, ⟨u4, none, rfl, g8⟩, fun i σ' H' hi ⟨u4, u8, es, g⟩ => ?_, fun σ' H' ⟨u4, u8, es, g⟩ => ?_⟩
      · subst es
        refine q_asgR (F := FeedF d l) (n := 180 + 114 * i) (k := 0 + 12) (P := fun v H => ∃ t, size t ≤ 6 ∧ NiceM t ∧ Dp K H v (enc t)) (r_if (ka := 0) (kb := 12) (b := decide ((i : Int) < 4)) FeedF.ok (rt_val (rv_op (ka := 0) (kb := 0) FeedF.ok (rv_var rfl) rv_c fun _ => rv_I0)) (fun hb => ?_) fun _ => r_tree rfl) g (by omega) fun v4 H9 e9 g9 ⟨t, h6, hN, dt⟩ => ?_
        · have hi4 : i < 4 := by have := of_decide_eq_true hb; omega
          have hj : i / 2 < sixT.length := by
            show i / 2 < 2
            omega
          have ei : ((i : Int) / 2) = ((i / 2 : Nat) : Int) := by omega
          have rix := rd_ixL (K := K) (ka := 0) (kb := 0) (i := (i : Int) / 2) FeedF.ok (rl_call (F := FeedF d l) (E := C8.E0) (Rl := fun ds es => ds = [] ∧ es = sixT.map enc) FeedF.ok ra_nil ⟨rfl, rfl⟩) (maps_flat sixT) (rv_op (ka := 0) (kb := 0) (F := FeedF d l) (σ := [some (.ref a), some (.ref d), some (.ref b2), some v3, u4, some v5, some v6, none, some (.int (i : Int))]) (H := H') FeedF.ok (rv_var (i := 8) rfl) rv_c fun _ => rv_I (C := CDivW) (g := fun i j => .int (i / j)) (wide_div (b := 2) (by decide) (by decide) (by decide) (by decide))) (i / 2) (by rw [ei, List.length_map]; exact ixN_nat hj) (show (sixT.map enc)[i / 2]? = some (enc sixT[i / 2]) by rw [List.getElem?_map, List.getElem?_eq_getElem hj]; rfl)
          exact EvR.up FeedF.ok (EvR.imp rix fun _ v _ _ _ hp => ⟨_, six_sizes _ (List.getElem_mem hj), six_names _ (List.getElem_mem hj), hp⟩) (by decide)
        · refine s_ifR (F := FeedF d l) (n := 180 + 114 * i + (0 + 12)) (k := 42 + 60) (b := false) (rt_not (a := true) (rt_val (r_agrees (kc := 42) rfl rfl g9 dt h6 hN (r_acts rfl rfl g9 dt h6 hN)))) g9 (by omega) (fun h => Bool.noConfusion h) fun _ H10 e10 g10 => ?_
          exact ⟨_, _, rfl, by have : 180 + 114 * (i + 1) = 180 + 114 * i + (0 + 12) + (42 + 60) := by omega
                               rw [this]; exact g10⟩
      · subst es
        exact s_retR (F := F0) (n := 0) (k := 0) (P := fun v _ => v = .bl true) rv_c F0.g (Nat.le_refl _) fun v H9 e9 _ ev => by
          subst ev
          exact q H9
end
end K18
/-! ### the head's facts, with names that hold a written pair of ints -/
namespace Hx
open PySem PySem.Spec PyProof.Rows L2 He
abbrev AlW : Type := Bool × AlE
def twoI (o : Obj) (i j : Int) : Bool := match o.data with
  | .seq its _ => (match its.toList with
    | [.int a _, .int b _] => decide (a = i) && decide (b = j)
    | _ => false)
  | _ => false
def pairW (K : PySem.W.Frag) (p : Str × Int × Int) : Bool := eqO (PySem.W.nsIn K mainGlobals p.1) (some (some (.ref (ga K p.1)))) && (match K.lookup (ga K p.1) with
  | some o => decide (o.cls = .type "tuple") && twoI o p.2.1 p.2.2
  | none => false)
def tupsW (K : PySem.W.Frag) (ws : List (Str × Int × Int)) : Bool := ws.all fun p => pairW K p
def obsW (fa : List Fa) (fn : List DefD) (bs : List (Str × String)) (ws : List (Str × Int × Int)) (K : PySem.W.Frag) : AlW := (tupsW K ws, obsE fa fn bs K)
def valW (fn : List DefD) : AlW := (true, valE fn)
def SaysW (fa : List Fa) (fn : List DefD) (bs : List (Str × String)) (ws : List (Str × Int × Int)) (K : PySem.W.Frag) : Prop := obsW fa fn bs ws K = valW fn
def obsWG (n : Nat) (fa : List Fa) (fn : List DefD) (bs : List (Str × String)) (ws : List (Str × Int × Int)) (g : Addr → Option Obj) : AlW := obsW fa fn bs ws (frG g (asD g n))
def hookW (n : Nat) (fa : List Fa) (fn : List DefD) (bs : List (Str × String)) (ws : List (Str × Int × Int)) : PySem.W.Hook where
  α := AlW
  obs := fun s => obsWG n fa fn bs ws s.heap.get?
  val := fun _ => valW fn
  says := fun _ h => ∃ K : PySem.W.Frag, K.In h ∧ SaysW fa fn bs ws K
  of := fun _ _ e => ⟨_, frG_in, e⟩
  keeps := fun _ _ _ ⟨K, hK, c⟩ k => ⟨K, PySem.W.Frag.In.keeps hK k, c⟩
theorem obsWG_eq {n : Nat} {fa : List Fa} {fn : List DefD} {bs : List (Str × String)} {ws : List (Str × Int × Int)} {g : Addr → Option Obj} {s : Shared} (h : ∀ a, g a = s.heap.get? a) : obsWG n fa fn bs ws g = (hookW n fa fn bs ws).obs s := by
  have e : g = s.heap.get? := funext h
  rw [e] <;> rfl
section
variable {fa : List Fa} {fn : List DefD} {bs : List (Str × String)} {ws : List (Str × Int × Int)} {K : PySem.W.Frag} {h : Heap} {mg : Str → Option Value}
theorem SaysW.e (c : SaysW fa fn bs ws K) : SaysE fa fn bs K := congrArg (fun z : AlW => z.2) c
theorem SaysW.pair (c : SaysW fa fn bs ws K) (X : K.In h) (G : h.Ns mainGlobals mg) (i : Nat) {x : Str} {p q : Int} (e : ws[i]? = some (x, p, q) := by rfl) : ∃ a, mg x = some (.ref a) ∧ ∀ H : Hp, Dp K H (.ref a) (.tuple [.int p, .int q]) := by
  have c1 : tupsW K ws = true := congrArg (fun z : AlW => z.1) c
  have c2 := List.all_eq_true.mp c1 (x, p, q) (List.mem_of_getElem? e)
  unfold pairW at c2
  rw [Bool.and_eq_true] at c2
  refine ⟨ga K x, PySem.W.mg_of X G (eqO_ok c2.1), fun H => ?_⟩
  have c3 := c2.2
  cases hk : K.lookup (ga K x) with
  | none =>
    rw [hk] at c3
    cases c3
  | some o =>
    rw [hk] at c3
    simp only [Bool.and_eq_true, decide_eq_true_eq] at c3
    obtain ⟨hc, c4⟩ := c3
    unfold twoI at c4
    split at c4
    · rename_i its n hd
      split at c4
      · rename_i a ta b tb hl
        rw [Bool.and_eq_true, decide_eq_true_eq, decide_eq_true_eq] at c4
        obtain ⟨rfl, rfl⟩ := c4
        refine .tup (xs := [.int a, .int b]) (.inr ⟨o, its, n, hk, hc, hd, ?_, ?_⟩) (.cons (.int _) (.cons (.int _) .nil))
        · rw [← Array.length_toList, hl]
          show 2 ≤ sizeLine
          decide
        · rw [hl]
          exact .cons ⟨ta, rfl⟩ (.cons ⟨tb, rfl⟩ .nil)
      · cases c4
    · cases c4
end
end Hx
namespace K18
open PySem PySem.Spec PyProof.Rows L2 Evl Fx Fr Dt Tr DtG
def dN (x : Str) (i : Nat) : He.DefD := ⟨(x, none), x, x, defArgs (topS i), defBody (topS i), defScope (topS i), [], []⟩
def fn : List He.DefD := [dN "is_whole" 6, dN "placed_subtrees" 7, dN "subtrees_of" 8, dN "is_integer" 10, dN "made" 14, dN "reduced_pair" 15, dN "is_less" 16, dN "rule_of" 18, dN "plains_of" 20, dN "has_bad" 21, dN "plain_chance" 22, dN "spans_of" 24, dN "kept_by" 26, dN "_law_feed" 28, dN "_law_draw" 29, dN "_law_choice" 30, dN "_law_spans" 31, dN "_law_some_tree" 32, dN "_law_some_plain" 33, dN "_law_some_acts" 34, dN "_law_document" 35, dN "_law_says" 36, dN "_law_kept" 37, dN "_law_some_draw" 38, dN "_law_six" 39, dN "_law_agrees" 40, dN "law" 41]
def fa : List He.Fa := [.glo "is_whole", .glo "placed_subtrees", .glo "subtrees_of", .glo "is_integer", .glo "made", .glo "reduced_pair", .glo "is_less", .glo "rule_of", .glo "plains_of", .glo "has_bad", .glo "plain_chance", .glo "spans_of", .glo "kept_by", .glo "_law_feed", .glo "_law_draw", .glo "_law_choice", .glo "_law_spans", .glo "_law_some_tree", .glo "_law_some_plain", .glo "_law_some_acts", .glo "_law_document", .glo "_law_says", .glo "_law_kept", .glo "_law_some_draw", .glo "_law_six", .glo "_law_agrees", .glo "law", .free "isinstance", .free "int", .free "bool", .free "tuple", .free "list", .free "len", .free "range", .free "any", .free "zip", .free "enumerate", .free "dict", .free "sorted", .free "set", .free "repr"]
def bs : List (Str × String) := [("gcd", "math.gcd")]
def wr : List (Str × Int × Int) := [("ZERO", 0, 1), ("ONE", 1, 1)]
abbrev R : PySem.W.OpenRow := PySem.W.OpenLaw.row PySem.Challenge.rw_thinspans_k18_kept_spans_told
abbrev hk : PySem.W.Hook := Hx.hookW 3 fa fn bs wr
def ob (s : PySem.W.SharedT) : Hx.AlW := Hx.obsWG 3 fa fn bs wr (HandSHeadRun.getT s)
theorem ob_eq (s : PySem.W.SharedT) : ob s = hk.obs s.abs := Hx.obsWG_eq (HandSHeadRun.getT_eq s)
def loose : List Str := ["ThinError", "TraceError", "NotUsable", "is_whole", "placed_subtrees", "subtrees_of", "is_integer", "ZERO", "ONE", "made", "reduced_pair", "is_less", "rule_of", "plains_of", "has_bad", "plain_chance", "spans_of", "kept_by", "_law_feed", "_law_draw", "_law_choice", "_law_spans", "_law_some_tree", "_law_some_plain", "_law_some_acts", "_law_document", "_law_says", "_law_kept", "_law_some_draw", "_law_six", "_law_agrees"]
set_option maxHeartbeats 0 in
theorem run (w : World) : HandSHeadRun.RunEqI R (PySem.W.view R.prog [0, 41]) hk ob 200000 loose w := by
  unfold HandSHeadRun.RunEqI
  kernel_rfl
end K18
namespace K18
open PySem PySem.Spec PyProof.Rows L2 Evl Fx Fr Dt Tr DtG
theorem facts {P : Program} {w : World} {K : PySem.W.Frag} {h : Heap} {mg : Str → Option Value} {f : Addr} (X : K.In h) (G : h.Ns mainGlobals mg) (hfa : mg ("law" : Str) = some (.ref f)) (c : Hx.SaysW fa fn bs wr K) :
    ∃ fd : FuncData, (∀ (s : Shared) (v : Value), BindsTo s fd ⟨[v], []⟩ [("_law_script", v)]) ∧ ∀ base : Heap, K.In base → base.Ns mainGlobals mg → FnG P w K mg base CX0 9 f fd ["_law_script"] (spLaw K) := by
  have cd := c.e.d
  have gl : ∀ (i : Nat) {x : Str}, fa[i]? = some (.glo x) → mg x = some (.ref (He.ga K x)) := fun i x e => He.glo_ok X G (cd.fact i e)
  have fr : ∀ (i : Nat) {x : Str}, fa[i]? = some (.free x) → mg x = none := fun i x e => He.free_ok X G (cd.fact i e)
  obtain ⟨_, Q0⟩ := cd.def_ 0 (d := dN "is_whole" 6) rfl
  obtain ⟨_, Q1⟩ := cd.def_ 1 (d := dN "placed_subtrees" 7) rfl
  obtain ⟨_, Q2⟩ := cd.def_ 2 (d := dN "subtrees_of" 8) rfl
  obtain ⟨_, Q3⟩ := cd.def_ 3 (d := dN "is_integer" 10) rfl
  obtain ⟨_, Q4⟩ := cd.def_ 4 (d := dN "made" 14) rfl
  obtain ⟨_, Q5⟩ := cd.def_ 5 (d := dN "reduced_pair" 15) rfl
  obtain ⟨_, Q6⟩ := cd.def_ 6 (d := dN "is_less" 16) rfl
  obtain ⟨_, Q7⟩ := cd.def_ 7 (d := dN "rule_of" 18) rfl
  obtain ⟨_, Q8⟩ := cd.def_ 8 (d := dN "plains_of" 20) rfl
  obtain ⟨_, Q9⟩ := cd.def_ 9 (d := dN "has_bad" 21) rfl
  obtain ⟨_, Q10⟩ := cd.def_ 10 (d := dN "plain_chance" 22) rfl
  obtain ⟨_, Q11⟩ := cd.def_ 11 (d := dN "spans_of" 24) rfl
  obtain ⟨_, Q12⟩ := cd.def_ 12 (d := dN "kept_by" 26) rfl
  obtain ⟨_, Q13⟩ := cd.def_ 13 (d := dN "_law_feed" 28) rfl
  obtain ⟨_, Q14⟩ := cd.def_ 14 (d := dN "_law_draw" 29) rfl
  obtain ⟨_, Q15⟩ := cd.def_ 15 (d := dN "_law_choice" 30) rfl
  obtain ⟨_, Q16⟩ := cd.def_ 16 (d := dN "_law_spans" 31) rfl
  obtain ⟨_, Q17⟩ := cd.def_ 17 (d := dN "_law_some_tree" 32) rfl
  obtain ⟨_, Q18⟩ := cd.def_ 18 (d := dN "_law_some_plain" 33) rfl
  obtain ⟨_, Q19⟩ := cd.def_ 19 (d := dN "_law_some_acts" 34) rfl
  obtain ⟨_, Q20⟩ := cd.def_ 20 (d := dN "_law_document" 35) rfl
  obtain ⟨_, Q21⟩ := cd.def_ 21 (d := dN "_law_says" 36) rfl
  obtain ⟨_, Q22⟩ := cd.def_ 22 (d := dN "_law_kept" 37) rfl
  obtain ⟨_, Q23⟩ := cd.def_ 23 (d := dN "_law_some_draw" 38) rfl
  obtain ⟨_, Q24⟩ := cd.def_ 24 (d := dN "_law_six" 39) rfl
  obtain ⟨_, Q25⟩ := cd.def_ 25 (d := dN "_law_agrees" 40) rfl
  obtain ⟨fd, Q26⟩ := cd.def_ 26 (d := dN "law" 41) rfl
  have F0 := Hx.toFun (st := topS 6) Q0
  have F1 := Hx.toFun (st := topS 7) Q1
  have F2 := Hx.toFun (st := topS 8) Q2
  have F3 := Hx.toFun (st := topS 10) Q3
  have F4 := Hx.toFun (st := topS 14) Q4
  have F5 := Hx.toFun (st := topS 15) Q5
  have F6 := Hx.toFun (st := topS 16) Q6
  have F7 := Hx.toFun (st := topS 18) Q7
  have F8 := Hx.toFun (st := topS 20) Q8
  have F9 := Hx.toFun (st := topS 21) Q9
  have F10 := Hx.toFun (st := topS 22) Q10
  have F11 := Hx.toFun (st := topS 24) Q11
  have F12 := Hx.toFun (st := topS 26) Q12
  have F13 := Hx.toFun (st := topS 28) Q13
  have F14 := Hx.toFun (st := topS 29) Q14
  have F15 := Hx.toFun (st := topS 30) Q15
  have F16 := Hx.toFun (st := topS 31) Q16
  have F17 := Hx.toFun (st := topS 32) Q17
  have F18 := Hx.toFun (st := topS 33) Q18
  have F19 := Hx.toFun (st := topS 34) Q19
  have F20 := Hx.toFun (st := topS 35) Q20
  have F21 := Hx.toFun (st := topS 36) Q21
  have F22 := Hx.toFun (st := topS 37) Q22
  have F23 := Hx.toFun (st := topS 38) Q23
  have F24 := Hx.toFun (st := topS 39) Q24
  have F25 := Hx.toFun (st := topS 40) Q25
  have F26 := Hx.toFun (st := topS 41) Q26
  have e := hfa.symm.trans (gl 26 rfl)
  cases e
  have gG : mg ("gcd" : Str) = some (.builtin "math.gcd") := c.e.blt X G 0 rfl
  have W0 : Wr K mg "ZERO" (frD 0) := c.pair X G 0 rfl
  have W1 : Wr K mg "ONE" (frD 1) := c.pair X G 1 rfl
  have b := FunD.bindsA (ps := ["_law_script"]) Q26 fun _ _ _ _ _ _ us hl => match us, hl with | [_], _ => rfl
  refine ⟨fd, fun s v => b s [v] rfl, fun base _ _ => ?_⟩
  have B0 : Binds K _ ["thing"] [] := F0.binds (ps := ["thing"]) fun _ _ _ _ _ _ us hl => match us, hl with | [_], _ => rfl
  have B1 : Binds K _ ["tree"] [] := F1.binds (ps := ["tree"]) fun _ _ _ _ _ _ us hl => match us, hl with | [_], _ => rfl
  have B2 : Binds K _ ["tree"] [] := F2.binds (ps := ["tree"]) fun _ _ _ _ _ _ us hl => match us, hl with | [_], _ => rfl
  have B3 : Binds K _ ["thing"] [] := F3.binds (ps := ["thing"]) fun _ _ _ _ _ _ us hl => match us, hl with | [_], _ => rfl
  have B4 : Binds K _ ["p", "q"] [] := F4.binds (ps := ["p", "q"]) fun _ _ _ _ _ _ us hl => match us, hl with | [_, _], _ => rfl
  have B5 : Binds K _ ["p", "q"] [] := F5.binds (ps := ["p", "q"]) fun _ _ _ _ _ _ us hl => match us, hl with | [_, _], _ => rfl
  have B6 : Binds K _ ["one", "other"] [] := F6.binds (ps := ["one", "other"]) fun _ _ _ _ _ _ us hl => match us, hl with | [_, _], _ => rfl
  have B7 : Binds K _ ["rules", "service"] [] := F7.binds (ps := ["rules", "service"]) fun _ _ _ _ _ _ us hl => match us, hl with | [_, _], _ => rfl
  have B8 : Binds K _ ["rule"] [] := F8.binds (ps := ["rule"]) fun _ _ _ _ _ _ us hl => match us, hl with | [_], _ => rfl
  have B9 : Binds K _ ["tree"] [] := F9.binds (ps := ["tree"]) fun _ _ _ _ _ _ us hl => match us, hl with | [_], _ => rfl
  have B10 : Binds K _ ["plain", "bad", "late", "called", "draw"] [] := F10.binds (ps := ["plain", "bad", "late", "called", "draw"]) fun _ _ _ _ _ _ us hl => match us, hl with | [_, _, _, _, _], _ => rfl
  have B11 : Binds K _ ["tree"] [] := F11.binds (ps := ["tree"]) fun _ _ _ _ _ _ us hl => match us, hl with | [_], _ => rfl
  have B12 : Binds K _ ["tree", "rules", "draw", "pairs"] [] := F12.binds (ps := ["tree", "rules", "draw", "pairs"]) fun _ _ _ _ _ _ us hl => match us, hl with | [_, _, _, _], _ => rfl
  have B13 : Binds K _ ["_law_script"] [] := F13.binds (ps := ["_law_script"]) fun _ _ _ _ _ _ us hl => match us, hl with | [_], _ => rfl
  have B14 : Binds K _ ["_law_feed_here", "_law_many"] [] := F14.binds (ps := ["_law_feed_here", "_law_many"]) fun _ _ _ _ _ _ us hl => match us, hl with | [_, _], _ => rfl
  have B15 : Binds K _ ["_law_feed_here", "_law_some"] [] := F15.binds (ps := ["_law_feed_here", "_law_some"]) fun _ _ _ _ _ _ us hl => match us, hl with | [_, _], _ => rfl
  have B16 : Binds K _ ["_law_root", "_law_way"] [] := F16.binds (ps := ["_law_root", "_law_way"]) fun _ _ _ _ _ _ us hl => match us, hl with | [_, _], _ => rfl
  have B17 : Binds K _ ["_law_feed_here", "_law_left", "_law_deep"] [] := F17.binds (ps := ["_law_feed_here", "_law_left", "_law_deep"]) fun _ _ _ _ _ _ us hl => match us, hl with | [_, _, _], _ => rfl
  have B18 : Binds K _ ["_law_feed_here"] [] := F18.binds (ps := ["_law_feed_here"]) fun _ _ _ _ _ _ us hl => match us, hl with | [_], _ => rfl
  have B19 : Binds K _ ["_law_feed_here", "_law_roots"] [] := F19.binds (ps := ["_law_feed_here", "_law_roots"]) fun _ _ _ _ _ _ us hl => match us, hl with | [_, _], _ => rfl
  have B20 : Binds K _ [] [] := F20.binds (ps := []) fun _ _ _ _ _ _ us hl => match us, hl with | [], _ => rfl
  have B21 : Binds K _ ["_law_act", "_law_mark", "_law_has_bad", "_law_is_called", "_law_lot", "_law_own"] [] := F21.binds (ps := ["_law_act", "_law_mark", "_law_has_bad", "_law_is_called", "_law_lot", "_law_own"]) fun _ _ _ _ _ _ us hl => match us, hl with | [_, _, _, _, _, _], _ => rfl
  have B22 : Binds K _ ["_law_root", "_law_acts", "_law_lot", "_law_owns"] [] := F22.binds (ps := ["_law_root", "_law_acts", "_law_lot", "_law_owns"]) fun _ _ _ _ _ _ us hl => match us, hl with | [_, _, _, _], _ => rfl
  have B23 : Binds K _ ["_law_feed_here"] [] := F23.binds (ps := ["_law_feed_here"]) fun _ _ _ _ _ _ us hl => match us, hl with | [_], _ => rfl
  have B24 : Binds K _ [] [] := F24.binds (ps := []) fun _ _ _ _ _ _ us hl => match us, hl with | [], _ => rfl
  have B25 : Binds K _ ["_law_feed_here", "_law_root", "_law_acts"] [] := F25.binds (ps := ["_law_feed_here", "_law_root", "_law_acts"]) fun _ _ _ _ _ _ us hl => match us, hl with | [_, _, _], _ => rfl
  have G0 : FnOk P w K mg base CX0 1 _ _ ["thing"] (spWhole K) := ok_whole F0 (fr 27 rfl) (fr 28 rfl) (fr 29 rfl)
  have c0 := cal F0 G0 (gl 0 rfl) B0
  have G3 : FnOk P w K mg base CX0 2 _ _ ["thing"] (spWhole K) := ok_integer F3 G0 F0.kp B0 (gl 0 rfl)
  have c3 := cal F3 G3 (gl 3 rfl) B3
  have G5 : FnOk P w K mg base CX0 1 _ _ ["p", "q"] (spI2F okR Rat.divInt) := ok_reduced F5 gG
  have c5 := cal F5 G5 (gl 5 rfl) B5
  have G4 : FnOk P w K mg base CX0 3 _ _ ["p", "q"] (spMade K) := made_d (ok_made F4 G3 F3.kp B3 (gl 3 rfl) G5 F5.kp B5 (gl 5 rfl))
  have c4 := cal F4 G4 (gl 4 rfl) B4
  have G1 : FnOk P w K mg base CX0 1 _ _ ["tree"] (spPlaced K) := ok_placed F1 (fr 33 rfl) (fr 32 rfl) (fr 31 rfl)
  have c1 := cal F1 G1 (gl 1 rfl) B1
  have G2 : FnOk P w K mg base CX0 1 _ _ ["tree"] (spSubs K) := ok_subs F2
  have c2 := cal F2 G2 (gl 2 rfl) B2
  have G6 : FnOk P w K mg base CX0 1 _ _ ["one", "other"] (spLess K) := ok_less F6
  have c6 := cal F6 G6 (gl 6 rfl) B6
  have G7 : FnOk P w K mg base CX0 1 _ _ ["rules", "service"] (spRule K) := ok_rule F7
  have c7 := cal F7 G7 (gl 7 rfl) B7
  have G8 : FnOk P w K mg base CX0 1 _ _ ["rule"] (spPlains K) := ok_plains F8
  have c8 := cal F8 G8 (gl 8 rfl) B8
  have G9 : FnOk P w K mg base CX0 2 _ _ ["tree"] (spBad K) := ok_bad F9 c2 (fr 34 rfl)
  have c9 := cal F9 G9 (gl 9 rfl) B9
  have G10 : FnOk P w K mg base CX0 4 _ _ ["plain", "bad", "late", "called", "draw"] (spChance K) := ok_chance F10 c4 c6 W1 W0
  have c10 := cal F10 G10 (gl 10 rfl) B10
  have G11 : FnOk P w K mg base CX0 2 _ _ ["tree"] (spSpans K) := ok_spans F11 c1 (fr 30 rfl)
  have c11 := cal F11 G11 (gl 11 rfl) B11
  have G12 : FnOk P w K mg base CX0 5 _ _ ["tree", "rules", "draw", "pairs"] (spKept K) := ok_kept F12 c9 c11 c7 c8 c10 c6 (fr 35 rfl) (fr 34 rfl) (fr 30 rfl)
  have c12 := cal F12 G12 (gl 12 rfl) B12
  have G13 : FnOk P w K mg base CX0 1 _ _ ["_law_script"] (spFeed K) := ok_feed F13 (fr 31 rfl)
  have c13 := cal F13 G13 (gl 13 rfl) B13
  have G14 : FnOk P w K mg base CX0 1 _ _ ["_law_feed_here", "_law_many"] (spDraw) := ok_draw F14 (fr 28 rfl) (fr 32 rfl)
  have c14 := cal F14 G14 (gl 14 rfl) B14
  have G15 : FnOk P w K mg base CX0 2 _ _ ["_law_feed_here", "_law_some"] (spChoice K) := ok_choice F15 c14 (fr 32 rfl)
  have c15 := cal F15 G15 (gl 15 rfl) B15
  have G16 : FnOk P w K mg base CX0 6 _ _ ["_law_root", "_law_way"] (spLSpans K 6) := ok_lspans F16 (gl 16 rfl) B16 (fr 36 rfl) 6
  have c16 := cal F16 G16 (gl 16 rfl) B16
  have G17 : FnOk P w K mg base CX0 6 _ _ ["_law_feed_here", "_law_left", "_law_deep"] (spTree K 4) := ok_tree F17 (gl 17 rfl) B17 c15 c14 (fr 28 rfl) (fr 33 rfl) (fr 30 rfl) (fr 38 rfl) 4
  have c17 := cal F17 G17 (gl 17 rfl) B17
  have G18 : FnOk P w K mg base CX0 3 _ _ ["_law_feed_here"] (spFeedM 3 (PlD K)) := ok_splain F18 c15 c14
  have c18 := cal F18 G18 (gl 18 rfl) B18
  have G19 : FnOk P w K mg base CX0 7 _ _ ["_law_feed_here", "_law_roots"] (spActs K) := ok_acts F19 c16 c18 c14 (fr 38 rfl) (fr 39 rfl) (fr 30 rfl)
  have c19 := cal F19 G19 (gl 19 rfl) B19
  have G20 : FnOk P w K mg base CX0 1 _ _ [] (spDoc K) := ok_doc F20
  have c20 := cal F20 G20 (gl 20 rfl) B20
  have G21 : FnOk P w K mg base CX0 1 _ _ ["_law_act", "_law_mark", "_law_has_bad", "_law_is_called", "_law_lot", "_law_own"] (spSays K) := ok_says F21
  have c21 := cal F21 G21 (gl 21 rfl) B21
  have G22 : FnOk P w K mg base CX0 7 _ _ ["_law_root", "_law_acts", "_law_lot", "_law_owns"] (spLKept K) := ok_lkept F22 c16 c21 (fr 35 rfl) (fr 30 rfl) (fr 37 rfl) (fr 31 rfl) (fr 36 rfl)
  have c22 := cal F22 G22 (gl 22 rfl) B22
  have G23 : FnOk P w K mg base CX0 3 _ _ ["_law_feed_here"] (spFeedM 1 (LotD K)) := ok_sdraw F23 c15
  have c23 := cal F23 G23 (gl 23 rfl) B23
  have G24 : FnOk P w K mg base CX0 1 _ _ [] (spSix K) := ok_six F24
  have c24 := cal F24 G24 (gl 24 rfl) B24
  have bk : KBn K _ ["tree", "rules", "draw", "pairs"] 0 ["pairs", "draw", "rules", "tree"] (fun _ ws => ws.reverse) (fun _ zs => zs.reverse) := kbn_of (go := fun l => l.reverse) F12 (fun _ _ _ _ _ _ ws hl => match ws, hl with | [_, _, _, _], _ => rfl) fun r => r.reverse
  have G25 : FnG P w K mg base CX0 8 _ _ ["_law_feed_here", "_law_root", "_law_acts"] (spAgrees K) := ok_agrees F25 c23 c16 c22 c12 G12 (gl 12 rfl) F12.kp bk (fr 33 rfl) (fr 30 rfl) (fr 40 rfl)
  exact ok_law F26 c13 c20 c24 c17 c19 c12 G25 (gl 25 rfl) F25.kp B25 (fr 33 rfl)
end K18
open PySem PySem.W PySem.Calls PyProof.Rows
set_option maxHeartbeats 0 in
theorem PySem.Challenge.cw_thinspans_k18_kept_spans_told_holds : PySem.Challenge.rw_thinspans_k18_kept_spans_told.Holds := by
  w_on; o_law
  refine HandSHeadRun.head_imp (r := OpenLaw.row PySem.Challenge.rw_thinspans_k18_kept_spans_told) (q := view (OpenLaw.row PySem.Challenge.rw_thinspans_k18_kept_spans_told).prog [0, 41]) (H := K18.hk) (ob := K18.ob) (M := 200000) (loose := K18.loose) (d := HandSHeadRun.topDef (OpenLaw.row PySem.Challenge.rw_thinspans_k18_kept_spans_told).prog 41) (kwd := []) K18.ob_eq
    K18.run (by kernel_rfl) (by kernel_rfl) (by kernel_rfl) (by rfl) (by first | assumption | decide +kernel) (by decide +kernel) ⟨rfl, rfl, rfl, rfl, rfl, by decide +kernel⟩ ?hw ?hc
  case hw => w_witness2
  case hc =>
    refine DtG.walk_ofG (l := PySem.Challenge.rw_thinspans_k18_kept_spans_told) (n := 63) (k := 9) (x := "_law_script") rfl (by decide) (by kernel_rfl) ⟨rfl, by decide, by decide⟩ ?F
    intro w mg fa h Y G hmg0
    obtain ⟨K, KX, c⟩ := Y
    have hmg : mg ("law" : PySem.Str) = some (.ref fa) := by
      have e : (HandSHeadRun.topDef (OpenLaw.row PySem.Challenge.rw_thinspans_k18_kept_spans_told).prog 41).name = ("law" : PySem.Str) := by kernel_rfl
      rw [← e]
      exact hmg0
    obtain ⟨fd, hb, hF⟩ := K18.facts (P := (PySem.Challenge.rw_thinspans_k18_kept_spans_told).prog) (w := w) KX G hmg c
    exact ⟨K, fd, K18.spLaw K, KX, hb, fun H a ns _ _ _ hS => ⟨a, ns, rfl, hS, fun _ => rfl⟩, hF⟩
