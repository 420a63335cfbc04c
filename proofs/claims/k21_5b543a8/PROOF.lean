import PyProof.Rows.All
import Wide.All
import OpenK.AllK
import Wide.FinOn
import KE.KStateDown
import HandS.ForMost
import HandS.Evl
import HandS.Gcd
import HandS.Wide
import HandS.TupMul
import HandS.TupAny
import HandS.IsInst
import HandS.Zip
import HandS.Conv
import HandS.NoneIn
import HandS.SetFor
import HandS.Defaults
import HandS.Codes
import HandS.EndBits
import HandS.HeadEnd
import HandS.HeadHook1
import HandS.HeadHook2
import HandS.Head0
import HandS.Head1
import HandS.Head2
import KE.SortData
import HandS.Style
import HandS.Deep
import HandS.Star
import KE.GoesMore
import KE.GoesZip
import HandS.Head3
import HandS.Lambda
import HandS.ExcIs
import HandS.ExcField
import HandS.ExcInit
import HandS.WordsExc
import KE.KExcIs
import PyProof.ReprRoads
import HandS.Ends
import PyProof.ReprLen
import PyProof.FitsInt
import HandS.Iter
import PyProof.CallFns
import HandS.TupLe
import KE.DataCmp
import HandS.Steps
import HandS.Text
import PyProof.ReprText
import HandS.EndTab
import HandS.HeadHook4
import PySem.Challenge.RW_thinspans_k21_what_is_left_told
set_option Elab.async false
set_option linter.all false
set_option maxRecDepth 100000
/-! the mathematics of reduced pairs -/
namespace Fr
theorem gcd_pos {p q : Int} (h : q ≠ 0) : 0 < Nat.gcd p.natAbs q.natAbs := Nat.gcd_pos_of_pos_right _ (by omega)
def comm (p q : Int) : Int := if q < 0 then -((Nat.gcd p.natAbs q.natAbs : Nat) : Int) else ((Nat.gcd p.natAbs q.natAbs : Nat) : Int)
theorem comm_neg {p q : Int} (h : q < 0) : comm p q = -((Nat.gcd p.natAbs q.natAbs : Nat) : Int) := if_pos h
theorem comm_pos {p q : Int} (h : ¬ q < 0) : comm p q = ((Nat.gcd p.natAbs q.natAbs : Nat) : Int) := if_neg h
theorem gcd_eq (p q : Int) : Int.gcd q p = Nat.gcd p.natAbs q.natAbs := by unfold Int.gcd; exact Nat.gcd_comm _ _
theorem fdiv_neg_dvd {a b : Int} (hb : b ≠ 0) (h : b ∣ a) : a.fdiv (-b) = -(a / b) := by
  rw [Int.fdiv_neg hb, if_pos h, Int.fdiv_eq_ediv_of_dvd h]
theorem gdl (p q : Int) : ((Nat.gcd p.natAbs q.natAbs : Nat) : Int) ∣ p := Int.ofNat_dvd_left.mpr (Nat.gcd_dvd_left _ _)
theorem gdr (p q : Int) : ((Nat.gcd p.natAbs q.natAbs : Nat) : Int) ∣ q := Int.ofNat_dvd_left.mpr (Nat.gcd_dvd_right _ _)
theorem red_num {p q : Int} (h : q ≠ 0) : p.fdiv (comm p q) = (Rat.divInt p q).num := by
  have g := gcd_pos (p := p) h
  rw [Rat.num_divInt, gcd_eq]
  by_cases hq : q < 0
  · rw [comm_neg hq, Int.sign_eq_neg_one_of_neg hq, fdiv_neg_dvd (by omega) (gdl p q), show (-1 : Int) * p = -p by omega, Int.neg_ediv_of_dvd (gdl p q)]
  · rw [comm_pos hq, Int.sign_eq_one_of_pos (show 0 < q by omega), Int.one_mul, Int.fdiv_eq_ediv_of_nonneg _ (Int.natCast_nonneg _)]
theorem red_den {p q : Int} (h : q ≠ 0) : q.fdiv (comm p q) = ((Rat.divInt p q).den : Int) := by
  have g := gcd_pos (p := p) h
  rw [Rat.den_divInt, gcd_eq, if_neg h, Int.natCast_ediv]
  by_cases hq : q < 0
  · rw [comm_neg hq, fdiv_neg_dvd (by omega) (gdr p q), ← Int.neg_ediv_of_dvd (gdr p q)]
    congr 1
    omega
  · rw [comm_pos hq, Int.fdiv_eq_ediv_of_nonneg _ (Int.natCast_nonneg _)]
    congr 1
    omega
/-- bounded: both parts below 2 ^ n -/
def Bd (n : Nat) (r : Rat) : Prop := r.num.natAbs < 2 ^ n ∧ r.den < 2 ^ n
theorem Bd.mono {n m : Nat} {r : Rat} (h : Bd n r) (hm : n ≤ m) : Bd m r := ⟨Nat.lt_of_lt_of_le h.1 (Nat.pow_le_pow_right (by decide) hm), Nat.lt_of_lt_of_le h.2 (Nat.pow_le_pow_right (by decide) hm)⟩
theorem bd_div {p q : Int} {n : Nat} (h : q ≠ 0) (hp : p.natAbs < 2 ^ n) (hq : q.natAbs < 2 ^ n) : Bd n (Rat.divInt p q) := by
  have g := gcd_pos (p := p) h
  refine ⟨?_, ?_⟩
  · rw [Rat.num_divInt, gcd_eq]
    have e : (q.sign * p / ((Nat.gcd p.natAbs q.natAbs : Nat) : Int)).natAbs ≤ p.natAbs := by
      refine Nat.le_trans (Int.natAbs_ediv_le_natAbs _ _) ?_
      rw [Int.natAbs_mul, Int.natAbs_sign_of_ne_zero h, Nat.one_mul]
      exact Nat.le_refl _
    omega
  · rw [Rat.den_divInt, if_neg h]
    have e : q.natAbs / Int.gcd q p ≤ q.natAbs := Nat.div_le_self _ _
    omega
theorem nd_lt {a b n m : Nat} (h1 : a < 2 ^ n) (h2 : b < 2 ^ m) : a * b < 2 ^ (n + m) := by
  rw [Nat.pow_add]
  exact Nat.mul_lt_mul'' h1 h2
theorem im_lt {a b : Int} {n m : Nat} (h1 : a.natAbs < 2 ^ n) (h2 : b.natAbs < 2 ^ m) : (a * b).natAbs < 2 ^ (n + m) := by
  rw [Int.natAbs_mul]
  exact nd_lt h1 h2
theorem ia_lt {a b : Int} {n : Nat} (h1 : a.natAbs < 2 ^ n) (h2 : b.natAbs < 2 ^ n) : (a + b).natAbs < 2 ^ (n + 1) := by
  rw [Nat.pow_succ]
  omega
theorem is_lt {a b : Int} {n : Nat} (h1 : a.natAbs < 2 ^ n) (h2 : b.natAbs < 2 ^ n) : (a - b).natAbs < 2 ^ (n + 1) := by
  rw [Nat.pow_succ]
  omega
theorem lt_up {a n m : Nat} (h : a < 2 ^ n) (hm : n ≤ m) : a < 2 ^ m := Nat.lt_of_lt_of_le h (Nat.pow_le_pow_right (by decide) hm)
theorem den_ne (x : Rat) : (x.den : Int) ≠ 0 := by
  have := x.den_nz
  omega
theorem add_eq (x y : Rat) : Rat.divInt (x.num * y.den + y.num * x.den) (x.den * y.den) = x + y := by
  conv => rhs; rw [← Rat.num_divInt_den x, ← Rat.num_divInt_den y]
  rw [Rat.divInt_add_divInt _ _ (den_ne x) (den_ne y)]
theorem sub_eq (x y : Rat) : Rat.divInt (x.num * y.den - y.num * x.den) (x.den * y.den) = x - y := by
  conv => rhs; rw [← Rat.num_divInt_den x, ← Rat.num_divInt_den y]
  rw [Rat.divInt_sub_divInt _ _ (den_ne x) (den_ne y)]
theorem mul_eq (x y : Rat) : Rat.divInt (x.num * y.num) (x.den * y.den) = x * y := by
  conv => rhs; rw [← Rat.num_divInt_den x, ← Rat.num_divInt_den y]
  rw [Rat.divInt_mul_divInt]
theorem div_eq (x y : Rat) : Rat.divInt (x.num * y.den) (x.den * y.num) = x / y := by
  rw [Rat.div_def]
  conv => rhs; rw [← Rat.num_divInt_den x, ← Rat.num_divInt_den y, Rat.inv_divInt]
  rw [Rat.divInt_mul_divInt]
theorem num_ne {x : Rat} (h : x ≠ 0) : x.num ≠ 0 := fun e => h (Rat.num_eq_zero.mp e)
theorem bd_add {x y : Rat} {n m : Nat} (h1 : Bd n x) (h2 : Bd m y) : Bd (n + m + 1) (x + y) := by
  rw [← add_eq]
  have a1 : (x.den : Int).natAbs < 2 ^ n := h1.2
  have a2 : (y.den : Int).natAbs < 2 ^ m := h2.2
  have d := Int.mul_ne_zero (den_ne x) (den_ne y)
  refine bd_div d (ia_lt (im_lt h1.1 a2) ?_) (lt_up (im_lt a1 a2) (by omega))
  have := im_lt h2.1 a1
  rwa [Nat.add_comm m n] at this
theorem bd_sub {x y : Rat} {n m : Nat} (h1 : Bd n x) (h2 : Bd m y) : Bd (n + m + 1) (x - y) := by
  rw [← sub_eq]
  have a1 : (x.den : Int).natAbs < 2 ^ n := h1.2
  have a2 : (y.den : Int).natAbs < 2 ^ m := h2.2
  have d := Int.mul_ne_zero (den_ne x) (den_ne y)
  refine bd_div d (is_lt (im_lt h1.1 a2) ?_) (lt_up (im_lt a1 a2) (by omega))
  have := im_lt h2.1 a1
  rwa [Nat.add_comm m n] at this
theorem bd_mul {x y : Rat} {n m : Nat} (h1 : Bd n x) (h2 : Bd m y) : Bd (n + m) (x * y) := by
  rw [← mul_eq]
  have a1 : (x.den : Int).natAbs < 2 ^ n := h1.2
  have a2 : (y.den : Int).natAbs < 2 ^ m := h2.2
  exact bd_div (Int.mul_ne_zero (den_ne x) (den_ne y)) (im_lt h1.1 h2.1) (im_lt a1 a2)
theorem bd_quo {x y : Rat} {n m : Nat} (h1 : Bd n x) (h2 : Bd m y) (h : y ≠ 0) : Bd (n + m) (x / y) := by
  rw [← div_eq]
  have a1 : (x.den : Int).natAbs < 2 ^ n := h1.2
  have a2 : (y.den : Int).natAbs < 2 ^ m := h2.2
  exact bd_div (Int.mul_ne_zero (den_ne x) (num_ne h)) (im_lt h1.1 a2) (im_lt a1 h2.1)
theorem lt_eq (x y : Rat) : decide (x.num * y.den < y.num * x.den) = decide (x < y) := by
  rw [decide_eq_decide]
  exact (Rat.lt_iff x y).symm
theorem red_self {x : Rat} : Nat.gcd x.num.natAbs (x.den : Int).natAbs = 1 := by
  have := x.reduced
  exact this
theorem made_self (x : Rat) {c : Int} (h : c ≠ 0) : Rat.divInt (x.num * c) (x.den * c) = x := by
  rw [Rat.divInt_mul_right h, Rat.num_divInt_den]
theorem made_neg (x : Rat) : Rat.divInt (0 - x.num) (0 - x.den) = x := by
  rw [show (0 : Int) - x.num = -x.num by omega, show (0 : Int) - x.den = -x.den by omega, Rat.neg_divInt_neg, Rat.num_divInt_den]
theorem ext_iff {x y : Rat} : (x.num = y.num ∧ (x.den : Int) = y.den) ↔ x = y := ⟨fun h => Rat.ext h.1 (by have := h.2; omega), fun h => by rw [h]; exact ⟨rfl, rfl⟩⟩
end Fr
/-! general rules over the layer: what evaluates to a value of which something is known (EvP), reduced pairs as tuples (IsF), the draws' reader (RdAt) -/
namespace Fx
open PySem PySem.Spec PyProof.Rows L2 Evl
abbrev VP := V → Hp → Prop
def Mono (P : VP) : Prop := ∀ v H H', Ex H H' → P v H → P v H'
def EvP (te : TE) (σ : L2.St) (H : Hp) (P : VP) : Prop := ∀ H1, Ex H H1 → ∀ Q : VK, (∀ v H2, Ex H1 H2 → P v H2 → Q v H2) → te σ H1 Q
section
variable {te ta tb : TE} {σ : L2.St} {H : Hp} {P P' : VP} {v x y z : V}
theorem EvP.of (h : Ev te σ H v) : EvP te σ H (fun x _ => x = v) := fun H1 e Q q => h H1 e Q fun H2 e2 => q v H2 e2 rfl
theorem EvP.ofU {xs : List V} (h : EvU te σ H xs) : EvP te σ H (fun x H' => ∃ p, x = .ref p ∧ H' p = some (.tup xs)) := fun H1 e Q q => h H1 e Q fun p H2 _ e2 hp => q _ H2 e2 ⟨p, rfl, hp⟩
theorem EvP.mono {H' : Hp} (e : Ex H H') (h : EvP te σ H P) : EvP te σ H' P := fun H1 a Q q => h H1 (e.trans a) Q q
theorem EvP.imp (h : EvP te σ H P) (k : ∀ v H', Ex H H' → P v H' → P' v H') : EvP te σ H P' := fun H1 e Q q => h H1 e Q fun v H2 e2 p => q v H2 e2 (k v H2 (e.trans e2) p)
theorem ev_op2 {r : R2} (ha : EvP ta σ H P) (mP : Mono P) (hb : EvP tb σ H P') (hr : ∀ x y H1, Ex H H1 → P x H1 → P' y H1 → RV r x y H1 z) : Ev (tOp r ta tb) σ H z := fun H1 e Q q =>
  ha H1 e _ fun x H2 e2 p => hb H2 (e.trans e2) _ fun y H3 e3 p' => hr x y H3 (e.trans (e2.trans e3)) (mP _ _ _ e3 p) p' H3 (Ex.refl _) Q fun H4 e4 => q H4 (e2.trans (e3.trans e4))
theorem ev_op1 {r : R2} (ha : EvP ta σ H P) (hb : Ev tb σ H y) (mP : Mono P) (hr : ∀ x H1, Ex H H1 → P x H1 → RV r x y H1 z) : Ev (tOp r ta tb) σ H z :=
  ev_op2 ha mP (EvP.of hb) fun x y' H1 e p ey => by
    subst ey
    exact hr x H1 e p
end
/-! ### a tuple of two ints that is the reduced pair of a rational -/
def frO (r : Rat) : HO := .tup [.int r.num, .int (r.den : Int)]
def IsF (r : Rat) : VP := fun v H => ∃ p, v = .ref p ∧ H p = some (frO r)
theorem IsF.mono {r : Rat} : Mono (IsF r) := fun _ _ _ e ⟨p, h1, h2⟩ => ⟨p, h1, e p _ h2⟩
section
variable {te ta tb : TE} {σ : L2.St} {H : Hp} {K : PySem.W.Frag} {r r' : Rat} {p : Addr} {v x y z : V}
theorem IsF.sq (h : H p = some (frO r)) : SqT K H p [.int r.num, .int (r.den : Int)] := st_of h
theorem evF_var {i : Nat} (h : σ[i]? = some (some (.ref p))) (hp : H p = some (frO r)) : EvP (tVar i) σ H (IsF r) := fun H1 e Q q => ⟨.ref p, h, q _ H1 (Ex.refl _) ⟨p, rfl, e p _ hp⟩⟩
theorem evF_tup {n d : Int} (hn : r.num = n) (hd : (r.den : Int) = d) (ha : Ev ta σ H (.int n)) (hb : Ev tb σ H (.int d)) : EvP (tTup (tCons ta (tCons tb tNil))) σ H (IsF r) := by
  have h := EvP.ofU (eu_tup (ea_cons ha (ea_cons hb ea_nil)) (by show 2 ≤ 100000; decide))
  refine h.imp fun v H' _ ⟨p, h1, h2⟩ => ⟨p, h1, ?_⟩
  rw [h2, frO, hn, hd]
theorem ev_ix0 (h : EvP te σ H (IsF r)) : Ev (tOp (rIxT K) te (tC (.int 0))) σ H (.int r.num) := ev_op1 h ev_c IsF.mono fun x H1 _ ⟨p, e, hp⟩ => by
  subst e
  exact rv_ixT (IsF.sq hp) rfl
theorem ev_ix1 (h : EvP te σ H (IsF r)) : Ev (tOp (rIxT K) te (tC (.int 1))) σ H (.int (r.den : Int)) := ev_op1 h ev_c IsF.mono fun x H1 _ ⟨p, e, hp⟩ => by
  subst e
  exact rv_ixT (IsF.sq hp) rfl
theorem dpF (h : H p = some (frO r)) : Dp K H (.ref p) (.tuple [.int r.num, .int (r.den : Int)]) := .tup (IsF.sq h) (.cons (.int _) (.cons (.int _) .nil))
theorem eqvF (r r' : Rat) : PyData.eqv (.tuple [.int r.num, .int (r.den : Int)]) (.tuple [.int r'.num, .int (r'.den : Int)]) = decide (r = r') := by
  rw [PyData.eqv, PyData.eqvAll, PyData.eqvAll, PyData.eqvAll, PyData.eqv, PyData.eqv, Bool.and_true]
  by_cases e : r = r'
  · subst e
    simp
  · rw [decide_eq_false e]
    by_cases e1 : r.num = r'.num
    · have e2 : (r.den : Int) ≠ r'.den := fun e2 => e (Rat.ext e1 (by omega))
      simp [beq_eq_false_iff_ne.mpr e2]
    · simp [beq_eq_false_iff_ne.mpr e1]
theorem shF (r : Rat) : SeqAt.shaped (.tuple [.int r.num, .int (r.den : Int)]) = true := rfl
theorem ev_eqF (ha : EvP ta σ H (IsF r)) (hb : EvP tb σ H (IsF r')) : Ev (tOp (rEqD K) ta tb) σ H (.bl (decide (r = r'))) := ev_op2 ha IsF.mono hb fun x y H1 _ ⟨p, e, hp⟩ ⟨q, e', hq⟩ => by
  subst e e'
  refine fun H2 e2 Q k => ⟨_, _, dpF (e2 _ _ hp), dpF (e2 _ _ hq), shF r, shF r', ?_⟩
  rw [eqvF]
  exact k H2 (Ex.refl _)
theorem ev_neF (ha : EvP ta σ H (IsF r)) (hb : EvP tb σ H (IsF r')) : Ev (tOp (rNeD K) ta tb) σ H (.bl (!decide (r = r'))) := ev_op2 ha IsF.mono hb fun x y H1 _ ⟨p, e, hp⟩ ⟨q, e', hq⟩ => by
  subst e e'
  refine fun H2 e2 Q k => ⟨_, _, dpF (e2 _ _ hp), dpF (e2 _ _ hq), shF r, shF r', ?_⟩
  rw [eqvF]
  exact k H2 (Ex.refl _)
/-! ### a def of two pairs: to a pair; to a truth value -/
def spF2 (ok : Rat → Rat → Prop) (f : Rat → Rat → Rat) : Sp := fun vs H Q _ => ∃ (a b : Addr) (x y : Rat), vs = [.ref a, .ref b] ∧ H a = some (frO x) ∧ H b = some (frO y) ∧ ok x y ∧ ∀ H' p, Ex H H' → H' p = some (frO (f x y)) → Q (.ref p) H'
def spB2 (ok : Rat → Rat → Prop) (f : Rat → Rat → Bool) : Sp := fun vs H Q _ => ∃ (a b : Addr) (x y : Rat), vs = [.ref a, .ref b] ∧ H a = some (frO x) ∧ H b = some (frO y) ∧ ok x y ∧ Q (.bl (f x y)) H
def spI2F (ok : Int → Int → Prop) (f : Int → Int → Rat) : Sp := fun vs H Q _ => ∃ (i j : Int), vs = [.int i, .int j] ∧ ok i j ∧ ∀ H' p, Ex H H' → H' p = some (frO (f i j)) → Q (.ref p) H'
theorem evF_call {ok : Rat → Rat → Prop} {f : Rat → Rat → Rat} {E : XK} (ha : EvP ta σ H (IsF r)) (hb : EvP tb σ H (IsF r')) (hk : ok r r') : EvP (tCall (spF2 ok f) [] E (tCons ta (tCons tb tNil))) σ H (IsF (f r r')) := fun H1 e Q q =>
  ha H1 e _ fun x H2 e2 ⟨p, h1, h2⟩ => hb H2 (e.trans e2) _ fun y H3 e3 ⟨p', h1', h2'⟩ => by
    subst h1 h1'
    exact ⟨p, p', r, r', rfl, e3 _ _ h2, h2', hk, fun H4 z e4 hz => q _ H4 (e2.trans (e3.trans e4)) ⟨z, rfl, hz⟩⟩
theorem ev_callB {ok : Rat → Rat → Prop} {f : Rat → Rat → Bool} {E : XK} (ha : EvP ta σ H (IsF r)) (hb : EvP tb σ H (IsF r')) (hk : ok r r') : Ev (tCall (spB2 ok f) [] E (tCons ta (tCons tb tNil))) σ H (.bl (f r r')) := fun H1 e Q q =>
  ha H1 e _ fun x H2 e2 ⟨p, h1, h2⟩ => hb H2 (e.trans e2) _ fun y H3 e3 ⟨p', h1', h2'⟩ => by
    subst h1 h1'
    exact ⟨p, p', r, r', rfl, e3 _ _ h2, h2', hk, q H3 (e2.trans e3)⟩
theorem evF_callI {ok : Int → Int → Prop} {f : Int → Int → Rat} {E : XK} {i j : Int} (ha : Ev ta σ H (.int i)) (hb : Ev tb σ H (.int j)) (hk : ok i j) : EvP (tCall (spI2F ok f) [] E (tCons ta (tCons tb tNil))) σ H (IsF (f i j)) := fun H1 e Q q =>
  ha H1 e _ fun H2 e2 => hb H2 (e.trans e2) _ fun H3 e3 => ⟨i, j, rfl, hk, fun H4 z e4 hz => q _ H4 (e2.trans (e3.trans e4)) ⟨z, rfl, hz⟩⟩
theorem EvP.cast {s s' : Rat} (h : EvP te σ H (IsF s)) (e : s = s') : EvP te σ H (IsF s') := e ▸ h
end
/-! ### floor division by a great divisor of any sign -/
section
variable {X : Cx}
def CDivS (_ j : Int) : Prop := j ≠ 0 ∧ j.natAbs.log2 < 9000
theorem op_fdivWN : OpR X (binaryOp .FloorDiv) (rI CDivS fun i j => .int (i.fdiv j)) := opI fun i j _ _ _ _ _ hc q => floordiv_int hc.1 q (.inl (PyProof.noPylong_of_log2 hc.2))
theorem cdivS {i j : Int} {b : Nat} (h : j ≠ 0) (hb : j.natAbs < 2 ^ b) (h0 : 0 < b) (h9 : b ≤ 9000) : CDivS i j := ⟨h, Nat.lt_of_lt_of_le (PySem.Flt.log2_lt_of h0 hb) h9⟩
end
end Fx
/-! ### list.count over truth values; a tuple times 1 -/
namespace Fx
open PySem PySem.Spec PyProof.Rows L2
def eqb (k : Bool) (v : Value) : Bool := match v with
  | .bool b => b == k
  | _ => false
theorem vals_bl : ∀ {bs : List Bool} {us : List Value}, Vals (bs.map V.bl) us → us = bs.map Value.bool
  | [], _, h => by
    cases h
    rfl
  | b :: r, _, h => by
    cases h with
    | cons a t =>
      have e := vals_bl t
      rw [e, show _ = Value.bool b from a]
      rfl
theorem eqb_count (k : Bool) : ∀ bs : List Bool, (bs.map Value.bool).countP (eqb k) = bs.count k
  | [] => rfl
  | b :: r => by
    rw [List.map_cons, List.countP_cons, List.count_cons, eqb_count k r] <;> rfl
section
variable {X : Cx}
def rCntB (K : PySem.W.Frag) : V → List V → Hp → VK → Prop := fun x xs H Q => ∃ (p : Addr) (bs : List Bool) (k : Bool), x = .ref p ∧ xs = [.bl k] ∧ SqL K H p (bs.map V.bl) ∧ Q (.int (bs.count k : Nat)) H
theorem mt_countB : MtR X "list.count" (rCntB X.K) := by
  intro pins s σ H x xs v us Q I rx rxs h
  obtain ⟨p, bs, k, rfl, rfl, hs, q⟩ := h
  cases rx
  obtain ⟨u, rfl, ru⟩ := rxs.one
  cases (show u = Value.bool k from ru)
  obtain ⟨its, rv, ⟨⟨cls, dd, data, sl⟩, n, ho, hc, hdn, hd⟩, hlen⟩ := I.list hs
  simp only at hc hd
  subst hc hd
  have ei := vals_bl rv
  subst ei
  refine call_meets PySem.F.slot_list_count ⟨_, ho, rfl⟩ PySem.F.entry_list_count (PySem.F.args_list_count_2 _ _)
    (SeqAt.list_countAt p (bs.map Value.bool).toArray n dd sl (.bool k) (eqb k)) ⟨ho, fun y hy => ?_, ?_⟩
  · obtain ⟨b, _, e⟩ := List.mem_map.mp (show y ∈ bs.map Value.bool by simpa using hy)
    subst e
    exact SeqAt.EqAt.bool_bool b k
  · have ec : (bs.map Value.bool).toArray.toList.countP (eqb k) = bs.count k := eqb_count k bs
    refine ⟨.int (bs.count k : Nat), H, I.tok _, ⟨s.toks, ?_⟩, q⟩
    show Value.int (((bs.map Value.bool).toArray.toList.countP (eqb k) : Nat) : Int) s.toks = Value.int ((bs.count k : Nat) : Int) s.toks
    rw [ec]
end
theorem tuple_mul1 (l : Addr) (items : Array Value) (n : Nat) (dd : Option Addr) (sl : Array (Option Value)) (x : Int) (u : Tok) (c0 : (decide (x < -(2 ^ 63)) || decide (x ≥ 2 ^ 63)) = false) (c1 : (items.isEmpty || x == 1) = true) :
    Meets (Builtin.«tuple.__mul__» ⟨[.ref l, .int x u], []⟩) (fun _ R s => s.heap.get? l = some { cls := .type "tuple", dict := dd, data := .seq items n, slots := sl } ∧
      R (.ok (.ret (Value.ref l))) s) :=
  .of_wp fun prog w A R s h => by
    obtain ⟨hp, g, d, tk, os⟩ := s
    obtain ⟨hl, h⟩ := h
    have f1 := AutoSeq1.idx_int
    wp_walk using wpAny_loadPart' hl
    repeat (first
      | (refine wpAny_ite_false (decide_eq_false (by rw [c0]; exact Bool.false_ne_true)) ?_; wp_walk using wpAny_loadPart' hl)
      | (refine wpAny_ite_true (decide_eq_true c1) ?_; wp_walk using wpAny_loadPart' hl))
    exact ⟨_, rfl, h⟩
def rRepT1 (K : PySem.W.Frag) : R2 := fun x y H Q => ∃ l xs, x = .ref l ∧ y = .int 1 ∧ SqT K H l xs ∧ Q (.ref l) H
section
variable {X : Cx}
theorem op_repT1 : OpR X (binaryOp .Mult) (rRepT1 X.K) := by
  intro pins s σ H x y v u Q I rx ry h
  obtain ⟨l, xs, rfl, rfl, hT, q⟩ := h
  cases rx
  obtain ⟨t, rfl⟩ := ry
  obtain ⟨its, r, ⟨⟨cls, dd, data, sl⟩, ho, hc, n, hd⟩, hs⟩ := I.tuple hT
  simp only at hc hd
  subst hc hd
  have c0 : (decide ((1 : Int) < -(2 ^ 63)) || decide ((1 : Int) ≥ 2 ^ 63)) = false := by decide
  have c1 : (its.toArray.isEmpty || (1 : Int) == 1) = true := by simp
  refine wpAny_binaryOp_repeat_ref (T := "tuple") (U := "int") (by decide) ⟨_, ho, rfl⟩ (fun s' => typeIs_int s' 1 t) noFill_tuple_mul F.fills_int_mul F.slot_int_rmul repeat_tuple F.slot_int_index.lookup
    (call_meets F.slot_int_rmul (typeIs_int s 1 t) F.entry_int_rmul (F.args_int_rmul_2 _ _) (int_rmul_tuple 1 t l its.toArray n dd sl)
      ⟨ho, rfl, ⟨_, ho, rfl⟩, call_meets F.slot_tuple_mul ⟨_, ho, rfl⟩ F.entry_tuple_mul (F.args_tuple_mul_2 _ _) (tuple_mul1 l its.toArray n dd sl 1 t c0 c1) ⟨ho, ?_⟩⟩)
  exact ⟨.ref l, H, I, rfl, q⟩
end
end Fx
/-! ### more evaluations -/
namespace Fx
open PySem PySem.Spec PyProof.Rows L2 Evl Fr
section
variable {te ta tb tl : TE} {t : TT} {σ : L2.St} {H : Hp} {K : PySem.W.Frag} {v x y z : V}
theorem ev_neB {a b : Bool} (ha : Ev ta σ H (.bl a)) (hb : Ev tb σ H (.bl b)) : Ev (tOp rNe ta tb) σ H (.bl (!decide (a = b))) := by
  have h := ev_op (z := .bl (!decide (V.bl a = V.bl b))) ha hb (rv_ne rfl)
  have e : decide (V.bl a = V.bl b) = decide (a = b) := decide_eq_decide.mpr ⟨fun h => V.bl.inj h, fun h => by rw [h]⟩
  rw [e] at h
  exact h
theorem ev_neI {a b : Int} (ha : Ev ta σ H (.int a)) (hb : Ev tb σ H (.int b)) : Ev (tOp rNe ta tb) σ H (.bl (!decide (a = b))) := by
  have h := ev_op (z := .bl (!decide (V.int a = V.int b))) ha hb (rv_ne rfl)
  have e : decide (V.int a = V.int b) = decide (a = b) := decide_eq_decide.mpr ⟨fun h => V.int.inj h, fun h => by rw [h]⟩
  rw [e] at h
  exact h
theorem ev_eqI {a b : Int} (ha : Ev ta σ H (.int a)) (hb : Ev tb σ H (.int b)) : Ev (tOp rEq ta tb) σ H (.bl (decide (a = b))) := by
  have h := ev_op (z := .bl (decide (V.int a = V.int b))) ha hb (rv_eq rfl)
  have e : decide (V.int a = V.int b) = decide (a = b) := decide_eq_decide.mpr ⟨fun h => V.int.inj h, fun h => by rw [h]⟩
  rw [e] at h
  exact h
theorem ev_countB {bs : List Bool} {k : Bool} (h : EvL ta σ H (bs.map V.bl)) : Ev (tBM K "list" (rCntB K) ta (tCons (tC (.bl k)) tNil)) σ H (.int (bs.count k : Nat)) := fun H1 e Q q =>
  h H1 e _ fun p H2 _ e2 hp => ⟨.inl ⟨rfl, _, sq_of hp⟩, p, bs, k, rfl, rfl, sq_of hp, q H2 e2⟩
/-- a comprehension over a new tuple of which no item passes the test -/
theorem el_lcTno {Pe : VP} {j : Nat} {vs : List Nat} (mP : Mono Pe) (h : EvP tl σ H (fun v H' => ∃ p ps, v = .ref p ∧ H' p = some (.tup ps) ∧ ∀ x ∈ ps, Pe x H')) (hw : ∀ x, wipe ((wipe σ vs).set j (some x)) vs = wipe σ vs)
    (hno : ∀ x H1, Ex H H1 → Pe x H1 → EvT t ((wipe σ vs).set j (some x)) H1 false) : EvL (tLc (iTup K tl) (gName j) t te vs) σ H [] := fun H0 e Q q => h H0 e _ fun v H1 e1 ⟨p, ps, ev, hp, hel⟩ => by
  subst ev
  exact ⟨p, rfl, ⟨ps, st_of hp⟩, fun Dl hD => lc_tup (xs := ps) (fun i H' => Ex H1 H' ∧ H' Dl = some (.lst [])) ⟨Ex.new hD, upd_same⟩ (fun i H' _ w => st_of (w.1 p _ hp))
    (fun i x H' hi w => ⟨hw x, hno x H' (e.trans (e1.trans w.1)) (mP _ _ _ w.1 (hel x (List.mem_of_getElem? hi))) H' (Ex.refl _) _ fun H3 e3 => iteF ⟨w.1.trans e3, e3 _ _ w.2⟩⟩) (fun H' w => q Dl H' (fresh_back e1 hD) (e1.trans w.1) w.2)⟩
theorem evp_tup3 {P : VP} (mP : Mono P) (ha : EvP ta σ H P) (hb : EvP tb σ H P) (hc : EvP tl σ H P) : EvP (tTup (tCons ta (tCons tb (tCons tl tNil)))) σ H (fun v H' => ∃ p ps, v = .ref p ∧ H' p = some (.tup ps) ∧ ∀ x ∈ ps, P x H') := fun H1 e Q q =>
  ha H1 e _ fun x H2 e2 p2 => hb H2 (e.trans e2) _ fun y H3 e3 p3 => hc H3 (e.trans (e2.trans e3)) _ fun z H4 e4 p4 => ⟨by show 3 ≤ sizeLine; decide, fun p hp => by
    have n := Ex.new (o := .tup [x, y, z]) hp
    refine q _ _ (e2.trans (e3.trans (e4.trans n))) ⟨p, _, rfl, upd_same, fun u hu => ?_⟩
    simp only [List.mem_cons, List.not_mem_nil, or_false] at hu
    rcases hu with rfl | rfl | rfl
    · exact mP _ _ _ (e3.trans (e4.trans n)) p2
    · exact mP _ _ _ (e4.trans n) p3
    · exact mP _ _ _ n p4⟩
theorem ev_neL0 (ha : EvL ta σ H []) (hb : EvL tb σ H []) : Ev (tOp (rNeD K) ta tb) σ H (.bl false) := ev_opLL ha hb fun p q H1 hp hq e => fun H2 e2 Q k =>
  ⟨.list [], .list [], .lst (sq_of (e2 _ _ hp)) .nil, .lst (sq_of (e2 _ _ hq)) .nil, rfl, rfl, k H2 (Ex.refl _)⟩
theorem IsF.ofP {te : TE} {r : Rat} (h : EvP te σ H (IsF r)) : EvP te σ H (fun v H' => ∃ s : Rat, IsF s v H') := h.imp fun _ _ _ p => ⟨r, p⟩
theorem IsF.monoE : Mono (fun v H' => ∃ s : Rat, IsF s v H') := fun _ _ _ e ⟨s, p⟩ => ⟨s, IsF.mono _ _ _ e p⟩
end
/-! ### the mathematics of the rules of reckoning -/
theorem bd0 : Bd 1 (0 : Rat) := ⟨by decide, by decide⟩
theorem bd1 : Bd 1 (1 : Rat) := ⟨by decide, by decide⟩
theorem num_pos {z : Rat} : (0 < z.num) ↔ 0 < z := by
  rw [Rat.lt_iff]
  simp
theorem num_neg {z : Rat} : (z.num < 0) ↔ z < 0 := by
  rw [Rat.lt_iff]
  simp
theorem dd {p q : Prop} [Decidable p] [Decidable q] (h : p ↔ q) : (decide p = decide q) := decide_eq_decide.mpr h
theorem nf {b : Bool} (h : b = true) : (!b) = false := by rw [h]; rfl
theorem lt_add (x y z : Rat) : x < y ↔ x + z < y + z := by grind
theorem lt_mul {x y z : Rat} (h : 0 < z) : x < y ↔ x * z < y * z := (Rat.mul_lt_mul_right h).symm
theorem lt_mul_neg {x y z : Rat} (h : z < 0) : x < y ↔ y * z < x * z := by
  have h' : 0 < -z := by grind
  have k := Rat.mul_lt_mul_right (a := x) (b := y) h'
  rw [← k]
  grind
end Fx
/-! ### the reader of the draws -/
namespace Fx
open PySem PySem.Spec PyProof.Rows L2 Evl
def rdK (l : Addr) (spot rest calls : Int) : List (Key × V) := [(.inr "cells", .ref l), (.inr "spot", .int spot), (.inr "rest", .int rest), (.inr "calls", .int calls)]
theorem n1 : ¬ ((Sum.inr "cells" : Key) = (Sum.inr "spot" : Key)) := by decide +kernel
theorem n2 : ¬ ((Sum.inr "cells" : Key) = (Sum.inr "rest" : Key)) := by decide +kernel
theorem n3 : ¬ ((Sum.inr "cells" : Key) = (Sum.inr "calls" : Key)) := by decide +kernel
theorem n4 : ¬ ((Sum.inr "spot" : Key) = (Sum.inr "rest" : Key)) := by decide +kernel
theorem n5 : ¬ ((Sum.inr "spot" : Key) = (Sum.inr "calls" : Key)) := by decide +kernel
theorem n6 : ¬ ((Sum.inr "rest" : Key) = (Sum.inr "calls" : Key)) := by decide +kernel
theorem n4' : ¬ ((Sum.inr "rest" : Key) = (Sum.inr "spot" : Key)) := by decide +kernel
theorem n5' : ¬ ((Sum.inr "calls" : Key) = (Sum.inr "spot" : Key)) := by decide +kernel
theorem n6' : ¬ ((Sum.inr "calls" : Key) = (Sum.inr "rest" : Key)) := by decide +kernel
section
variable {l : Addr} {s r c z : Int}
theorem val_cells : valV (rdK l s r c) (.inr "cells") = some (.ref l) := valV_pos rfl
theorem val_spot : valV (rdK l s r c) (.inr "spot") = some (.int s) := (valV_neg n1).trans (valV_pos rfl)
theorem val_rest : valV (rdK l s r c) (.inr "rest") = some (.int r) := (valV_neg n2).trans ((valV_neg n4).trans (valV_pos rfl))
theorem val_calls : valV (rdK l s r c) (.inr "calls") = some (.int c) := (valV_neg n3).trans ((valV_neg n5).trans ((valV_neg n6).trans (valV_pos rfl)))
theorem put_spot : putK (rdK l s r c) (.inr "spot") (.int z) = rdK l z r c := by
  unfold putK
  rw [if_pos (by rw [valV_any, val_spot]; rfl)]
  show [(if _ then _ else _), (if _ then _ else _), (if _ then _ else _), (if _ then _ else _)] = rdK l z r c
  rw [if_neg n1, if_pos rfl, if_neg n4', if_neg n5']
  rfl
theorem put_rest : putK (rdK l s r c) (.inr "rest") (.int z) = rdK l s z c := by
  unfold putK
  rw [if_pos (by rw [valV_any, val_rest]; rfl)]
  show [(if _ then _ else _), (if _ then _ else _), (if _ then _ else _), (if _ then _ else _)] = rdK l s z c
  rw [if_neg n2, if_neg n4, if_pos rfl, if_neg n6']
  rfl
theorem put_calls : putK (rdK l s r c) (.inr "calls") (.int z) = rdK l s r z := by
  unfold putK
  rw [if_pos (by rw [valV_any, val_calls]; rfl)]
  show [(if _ then _ else _), (if _ then _ else _), (if _ then _ else _), (if _ then _ else _)] = rdK l s r z
  rw [if_neg n3, if_neg n5, if_neg n6, if_pos rfl]
  rfl
end
section
variable {H : Hp} {d l : Addr} {s r c z : Int}
theorem get_cells (h : H d = some (.dK (rdK l s r c))) : DGet H d (.str "cells") (some (.ref l)) := by
  rw [← val_cells (l := l) (s := s) (r := r) (c := c)]
  exact DGet.k (k := .inr "cells") h
theorem get_spot (h : H d = some (.dK (rdK l s r c))) : DGet H d (.str "spot") (some (.int s)) := by
  rw [← val_spot (l := l) (s := s) (r := r) (c := c)]
  exact DGet.k (k := .inr "spot") h
theorem get_rest (h : H d = some (.dK (rdK l s r c))) : DGet H d (.str "rest") (some (.int r)) := by
  rw [← val_rest (l := l) (s := s) (r := r) (c := c)]
  exact DGet.k (k := .inr "rest") h
theorem get_calls (h : H d = some (.dK (rdK l s r c))) : DGet H d (.str "calls") (some (.int c)) := by
  rw [← val_calls (l := l) (s := s) (r := r) (c := c)]
  exact DGet.k (k := .inr "calls") h
theorem rd_len : (rdK l s r c).length < sizeLine := by show 4 < sizeLine; decide
theorem dput_spot : DPut (upd H d (.dK (rdK l s r c))) d (.str "spot") (.int z) (upd H d (.dK (rdK l z r c))) := by
  have h := DPut.k (H := upd H d (.dK (rdK l s r c))) (a := d) (k := .inr "spot") (v := .int z) upd_same rd_len
  rw [put_spot, upd_upd] at h
  exact h
theorem dput_rest : DPut (upd H d (.dK (rdK l s r c))) d (.str "rest") (.int z) (upd H d (.dK (rdK l s z c))) := by
  have h := DPut.k (H := upd H d (.dK (rdK l s r c))) (a := d) (k := .inr "rest") (v := .int z) upd_same rd_len
  rw [put_rest, upd_upd] at h
  exact h
theorem dput_calls (h : H d = some (.dK (rdK l s r c))) : DPut H d (.str "calls") (.int z) (upd H d (.dK (rdK l s r z))) := by
  have h := DPut.k (k := .inr "calls") (v := .int z) h rd_len
  rw [put_calls] at h
  exact h
end
/-- the reader at d, its cells at l, after at most n draws -/
def RdAt (H : Hp) (d l : Addr) (n : Nat) : Prop := ∃ (ns : List Int) (s r c : Int), H d = some (.dK (rdK l s r c)) ∧ H l = some (.lst (ns.map V.int)) ∧ ns.length ≤ 63 ∧ 0 ≤ s ∧ 0 ≤ c ∧ c ≤ n
/-- all but what stands at d is as it was -/
def Kp (d : Addr) (H H' : Hp) : Prop := ∀ b o, H b = some o → b ≠ d → H' b = some o
theorem Kp.refl (d : Addr) (H : Hp) : Kp d H H := fun _ _ h _ => h
theorem Kp.trans {d : Addr} {H H1 H2 : Hp} (a : Kp d H H1) (b : Kp d H1 H2) : Kp d H H2 := fun x o h n => b x o (a x o h n) n
theorem Kp.ex {d : Addr} {H H1 : Hp} (e : Ex H H1) : Kp d H H1 := fun x o h _ => e x o h
theorem Kp.upd {d : Addr} {H : Hp} {o : HO} : Kp d H (upd H d o) := fun b u h n => by
  rw [upd_ne n]
  exact h
/-- what H does not know may change -/
theorem Kp.mut {d p : Addr} {H H1 : Hp} {o : HO} (k : Kp d H H1) (h : H p = none) : Kp d H (L2.upd H1 p o) := fun b u hb n => by
  rw [upd_ne (ne_of_none hb h)]
  exact k b u hb n
section
variable {H H' : Hp} {d l : Addr} {n m : Nat}
theorem RdAt.ex (h : RdAt H d l n) (e : Ex H H') : RdAt H' d l n := by
  obtain ⟨ns, s, r, c, h1, h2, h3⟩ := h
  exact ⟨ns, s, r, c, e _ _ h1, e _ _ h2, h3⟩
theorem RdAt.mono (h : RdAt H d l n) (e : n ≤ m) : RdAt H d l m := by
  obtain ⟨ns, s, r, c, h1, h2, h3, h4, h5, h6⟩ := h
  exact ⟨ns, s, r, c, h1, h2, h3, h4, h5, by omega⟩
theorem RdAt.is (h : RdAt H d l n) : ∃ kvs, H d = some (.dK kvs) := by
  obtain ⟨ns, s, r, c, h1, _⟩ := h
  exact ⟨_, h1⟩
theorem RdAt.isL (h : RdAt H d l n) : ∃ o, H l = some o := by
  obtain ⟨ns, s, r, c, _, h1, _⟩ := h
  exact ⟨_, h1⟩
theorem RdAt.upd (h : RdAt H d l n) {p : Addr} {o : HO} (h1 : p ≠ d) (h2 : p ≠ l) : RdAt (L2.upd H p o) d l n := by
  obtain ⟨ns, s, r, c, q1, q2, q3⟩ := h
  exact ⟨ns, s, r, c, by rw [upd_ne h1.symm]; exact q1, by rw [upd_ne h2.symm]; exact q2, q3⟩
theorem RdAt.neT (h : RdAt H d l n) {a : Addr} {xs : List V} (ha : H a = some (.tup xs)) : a ≠ d := by
  obtain ⟨kvs, h1⟩ := h.is
  exact ne_of ha h1 (by intro z; cases z)
theorem RdAt.neL (h : RdAt H d l n) {a : Addr} {xs : List V} (ha : H a = some (.lst xs)) : a ≠ d := by
  obtain ⟨kvs, h1⟩ := h.is
  exact ne_of ha h1 (by intro z; cases z)
theorem RdAt.neN (h : RdAt H d l n) {a : Addr} (ha : H a = none) : a ≠ l := by
  obtain ⟨o, h1⟩ := h.isL
  exact (ne_of_none h1 ha).symm
end
def spDraw : Sp := fun vs H Q _ => ∃ (d l : Addr) (many : Int) (n : Nat), vs = [.ref d, .int many] ∧ RdAt H d l n ∧ n ≤ 1000000 ∧ 0 < many ∧ many < 2 ^ 60 ∧ ∀ H' r, Kp d H H' → RdAt H' d l (n + 1) → 0 ≤ r → r < many → Q (.int r) H'
end Fx
/-! ### tuples of ints; comprehensions over range; draws in comprehensions -/
namespace Fx
open PySem PySem.Spec PyProof.Rows L2 Evl
def dot : List Int → List Int → Int
  | x :: xs, y :: ys => x * y + dot xs ys
  | _, _ => 0
theorem dot_add : ∀ xs ys zs : List Int, xs.length = ys.length → ys.length = zs.length → dot xs (List.zipWith (· + ·) ys zs) = dot xs ys + dot xs zs
  | [], _, _, _, _ => rfl
  | _ :: _, [], _, h, _ => nomatch h
  | _ :: _, _ :: _, [], _, h => nomatch h
  | x :: xs, y :: ys, z :: zs, h1, h2 => by
    have ih := dot_add xs ys zs (Nat.succ.inj h1) (Nat.succ.inj h2)
    show x * (y + z) + dot xs (List.zipWith (· + ·) ys zs) = (x * y + dot xs ys) + (x * z + dot xs zs)
    rw [ih]
    grind
theorem dot_sub : ∀ xs ys zs : List Int, xs.length = ys.length → ys.length = zs.length → dot (List.zipWith (· - ·) xs ys) zs = dot xs zs - dot ys zs
  | [], [], _, _, _ => by
    simp [dot]
  | [], _ :: _, _, h, _ => nomatch h
  | _ :: _, [], _, h, _ => nomatch h
  | _ :: _, _ :: _, [], _, h => nomatch h
  | x :: xs, y :: ys, z :: zs, h1, h2 => by
    have ih := dot_sub xs ys zs (Nat.succ.inj h1) (Nat.succ.inj h2)
    show (x - y) * z + dot (List.zipWith (· - ·) xs ys) zs = (x * z + dot xs zs) - (y * z + dot ys zs)
    rw [ih]
    grind
theorem dot_zero : ∀ (n : Nat) (ys : List Int), dot (List.replicate n 0) ys = 0
  | 0, _ => rfl
  | n + 1, [] => rfl
  | n + 1, y :: ys => by
    show 0 * y + dot (List.replicate n 0) ys = 0
    rw [dot_zero n ys]
    omega
theorem dot_one : ∀ (n : Nat) (ys : List Int), ys.length = n → dot (List.replicate n 1) ys = ys.sum
  | 0, [], _ => rfl
  | 0, _ :: _, h => nomatch h
  | n + 1, [], h => nomatch h
  | n + 1, y :: ys, h => by
    show 1 * y + dot (List.replicate n 1) ys = (y :: ys).sum
    rw [dot_one n ys (Nat.succ.inj h), List.sum_cons]
    omega
theorem dot_app : ∀ xs xs' ys ys' : List Int, xs.length = ys.length → dot (xs ++ xs') (ys ++ ys') = dot xs ys + dot xs' ys'
  | [], _, [], _, _ => by
    simp [dot]
  | [], _, _ :: _, _, h => nomatch h
  | _ :: _, _, [], _, h => nomatch h
  | x :: xs, xs', y :: ys, ys', h => by
    have ih := dot_app xs xs' ys ys' (Nat.succ.inj h)
    show x * y + dot (xs ++ xs') (ys ++ ys') = (x * y + dot xs ys) + dot xs' ys'
    rw [ih]
    omega
theorem dot_sum : ∀ xs ys : List Int, (List.zipWith (· * ·) xs ys).sum = dot xs ys
  | [], _ => by simp [dot]
  | _ :: _, [] => by simp [dot]
  | x :: xs, y :: ys => by
    show (x * y :: List.zipWith (· * ·) xs ys).sum = x * y + dot xs ys
    rw [List.sum_cons, dot_sum xs ys]
theorem range_zip (f : Int → Int → Int) {m : Nat} {xs ys : List Int} (h1 : xs.length = m) (h2 : ys.length = m) : (List.range m).map (fun i => V.int (f (xs.getD i 0) (ys.getD i 0))) = (List.zipWith f xs ys).map V.int := by
  refine List.ext_getElem ?_ fun i g1 g2 => ?_
  · rw [List.length_map, List.length_range, List.length_map, List.length_zipWith, h1, h2, Nat.min_self]
  · rw [List.length_map, List.length_range] at g1
    have a1 : i < xs.length := by omega
    have a2 : i < ys.length := by omega
    rw [List.getElem_map, List.getElem_map, List.getElem_range, List.getElem_zipWith, List.getD_eq_getElem?_getD, List.getD_eq_getElem?_getD, List.getElem?_eq_getElem a1, List.getElem?_eq_getElem a2]
    rfl
theorem given_all (n : Nat) (v : Nat → V) : given n (fun _ => true) v = (List.range n).map v := by
  unfold given
  rw [List.filter_eq_self.mpr (fun _ _ => rfl)]
def rTupOf (K : PySem.W.Frag) : List V → Hp → VK → Prop := fun xs H Q => ∃ p ys, xs = [.ref p] ∧ ((SqL K H p ys ∧ ∀ l, H l = none → Q (.ref l) (upd H l (.tup ys))) ∨ (SqT K H p ys ∧ Q (.ref p) H))
theorem call_tupleOf {X : Cx} : CallR X (.type "tuple") (rTupOf X.K) := call_tuple_of
/-- a tuple of ints -/
def IsT (xs : List Int) : VP := fun v H => ∃ p, v = .ref p ∧ H p = some (.tup (xs.map V.int))
theorem IsT.mono {xs : List Int} : Mono (IsT xs) := fun _ _ _ e ⟨p, h1, h2⟩ => ⟨p, h1, e p _ h2⟩
/-- the bound of what is multiplied -/
def Sm (xs : List Int) : Prop := ∀ x ∈ xs, x.natAbs < 2 ^ 400
def spTot : Sp := fun vs H Q _ => ∃ (a b : Addr) (xs ys : List Int), vs = [.ref a, .ref b] ∧ H a = some (.tup (xs.map V.int)) ∧ H b = some (.tup (ys.map V.int)) ∧ xs.length = ys.length ∧ xs.length ≤ 1000 ∧ Sm xs ∧ Sm ys ∧ ∀ H', Ex H H' → Q (.int (dot xs ys)) H'
section
variable {te ta tb tl : TE} {σ : L2.St} {H : Hp} {K : PySem.W.Frag} {v x y z : V} {xs ys : List Int}
theorem evT_var {i : Nat} {p : Addr} (h : σ[i]? = some (some (.ref p))) (hp : H p = some (.tup (xs.map V.int))) : EvP (tVar i) σ H (IsT xs) := fun H1 e Q q => ⟨.ref p, h, q _ H1 (Ex.refl _) ⟨p, rfl, e p _ hp⟩⟩
theorem ev_tot {E : XK} (ha : EvP ta σ H (IsT xs)) (hb : EvP tb σ H (IsT ys)) (hl : xs.length = ys.length) (h1 : xs.length ≤ 1000) (sx : Sm xs) (sy : Sm ys) : Ev (tCall spTot [] E (tCons ta (tCons tb tNil))) σ H (.int (dot xs ys)) := fun H1 e Q q =>
  ha H1 e _ fun x H2 e2 ⟨p, g1, g2⟩ => hb H2 (e.trans e2) _ fun y H3 e3 ⟨p', g1', g2'⟩ => by
    subst g1 g1'
    exact ⟨p, p', xs, ys, rfl, e3 _ _ g2, g2', hl, h1, sx, sy, fun H4 e4 => q H4 (e2.trans (e3.trans e4))⟩
theorem ev_ixT {i : Nat} (ha : EvP ta σ H (IsT xs)) (hb : Ev tb σ H (.int (i : Int))) (hi : i < xs.length) : Ev (tOp (rIxT K) ta tb) σ H (.int (xs.getD i 0)) := ev_op1 ha hb IsT.mono fun x H1 _ ⟨p, e, hp⟩ => by
  subst e
  refine rv_ixT (st_of hp) (atI_nat ?_)
  rw [List.getElem?_map, List.getElem?_eq_getElem hi, List.getD_eq_getElem?_getD, List.getElem?_eq_getElem hi]
  rfl
/-- tuple([..]) -/
theorem evT_of (h : EvL ta σ H (xs.map V.int)) : EvP (tCB (rTupOf K) (tCons ta tNil)) σ H (IsT xs) := fun H1 e Q q =>
  h H1 e _ fun p H2 _ e2 hp => ⟨p, _, rfl, .inl ⟨sq_of hp, fun l hl => q _ _ (e2.trans (Ex.new hl)) ⟨l, rfl, upd_same⟩⟩⟩
theorem evT_rep {n : Int} {m : Nat} (hm : 1 ≤ m) (hm2 : m ≤ 1000) (hb : Ev tb σ H (.int (m : Int))) : EvP (tOp (fun x y H Q => rRepT K x y H Q ∨ rRepT1 K x y H Q) (tTup (tCons (tC (.int n)) tNil)) tb) σ H (IsT (List.replicate m n)) := fun H1 e Q q =>
  (EvP.ofU (eu_tup (ea_cons ev_c ea_nil) (by show 1 ≤ 100000; decide))) H1 e _ fun x H2 e2 ⟨p, ex, hp⟩ => by
    subst ex
    refine hb H2 (e.trans e2) _ fun H3 e3 => ?_
    by_cases h : m = 1
    · subst h
      exact .inr ⟨p, _, rfl, rfl, st_of (e3 _ _ hp), q _ _ (e2.trans e3) ⟨p, rfl, e3 _ _ hp⟩⟩
    · refine .inl ⟨p, (m : Int), _, rfl, rfl, st_of (e3 _ _ hp), (by intro z; cases z), by omega, by omega, by show 1 ≤ 1000; decide, fun l hl => q _ _ (e2.trans (e3.trans (Ex.new hl))) ⟨l, rfl, ?_⟩⟩
      rw [upd_same]
      congr 2
      have : ∀ k : Nat, (List.replicate k [V.int n]).flatten = (List.replicate k n).map V.int := fun k => by
        induction k with
        | zero => rfl
        | succ k ih =>
          rw [List.replicate_succ, List.flatten_cons, ih, List.replicate_succ, List.map_cons]
          rfl
      rw [Int.toNat_natCast]
      exact this m
theorem evT_cat (ha : EvP ta σ H (IsT xs)) (hb : EvP tb σ H (IsT ys)) (hx : xs ≠ []) (hy : ys ≠ []) (hl : xs.length + ys.length ≤ 1000) : EvP (tOp (rCatT K) ta tb) σ H (IsT (xs ++ ys)) := fun H1 e Q q =>
  ha H1 e _ fun x H2 e2 ⟨p, g1, g2⟩ => hb H2 (e.trans e2) _ fun y H3 e3 ⟨p', g1', g2'⟩ => by
    subst g1 g1'
    refine ⟨p, p', _, _, rfl, rfl, st_of (e3 _ _ g2), st_of g2', fun z => hx (List.map_eq_nil_iff.mp z), ?_, fun z => absurd (List.map_eq_nil_iff.mp z) hy, fun _ l hl => q _ _ (e2.trans (e3.trans (Ex.new hl))) ⟨l, rfl, ?_⟩⟩
    · rw [List.length_map, List.length_map]
      exact Nat.le_trans hl (by decide)
    · rw [upd_same, List.map_append]
end
/-! ### sum of a tuple -/
section
variable {X : Cx}
def rSumT (K : PySem.W.Frag) : List V → Hp → VK → Prop := fun vs H Q => ∃ (a : Addr) (ns : List Int), vs = [V.ref a] ∧ SqT K H a (ns.map V.int) ∧ Q (.int ns.sum) H
theorem cr_sumT (hc : X.calm = true) : CallR X (.builtin "sum") (rSumT X.K) := by
  intro pins s σ H vs us Q I r h
  obtain ⟨a, ns, rfl, hs, q⟩ := h
  obtain ⟨its, rv, hl, _⟩ := I.tuple hs
  rw [Vals.ref1 r]
  have hi := rv.ints
  obtain ⟨xs, e⟩ := hi.allInts.items
  have hn : numsOf (intItems xs).toList = ns := by rw [← e]; exact hi.numsOf
  rw [nums_intItems] at hn
  have hl2 : s.heap.IsTuple a (intItems xs) := by rw [← e]; exact hl
  refine PySem.W.ktm_sumG (I.ok.hd hc) hl2 fun h' tk t' hk => ⟨.int _, H, I.kept hk, ⟨_, rfl⟩, ?_⟩
  rw [preSum_eq, List.take_of_length_le (by simp), hn]
  exact q
end
theorem ev_sumT {ta : TE} {σ : L2.St} {H : Hp} {K : PySem.W.Frag} {xs : List Int} (ha : EvP ta σ H (IsT xs)) : Ev (tCB (rSumT K) (tCons ta tNil)) σ H (.int xs.sum) := fun H1 e Q q =>
  ha H1 e _ fun x H2 e2 ⟨p, g1, g2⟩ => by
    subst g1
    exact ⟨p, xs, rfl, st_of g2, q _ e2⟩
/-! ### draws in comprehensions -/
def Drawn (te : TE) (σ : L2.St) (d l : Addr) (lo hi : Int) : Prop := ∀ H n, RdAt H d l n → n ≤ 900000 → ∀ Q : VK, (∀ H' v, Kp d H H' → RdAt H' d l (n + 1) → lo ≤ v → v ≤ hi → Q (.int v) H') → te σ H Q
theorem lc_drawn {ta : TA} {σ : L2.St} {H : Hp} {te : TE} {j m n : Nat} {vs : List Nat} {d l : Addr} {lo hi : Int} {Q : VK} (h : EvA ta σ H [.int (m : Int)]) (hm : m ≤ 1000) (hR : RdAt H d l n) (hn : n + m ≤ 900000)
    (hw : ∀ x, wipe ((wipe σ vs).set j (some x)) vs = wipe σ vs) (hd : ∀ x, Drawn te ((wipe σ vs).set j (some x)) d l lo hi)
    (q : ∀ D H' (js : List Int), H D = none → Kp d H H' → RdAt H' d l (n + m) → H' D = some (.lst (js.map V.int)) → js.length = m → (∀ v ∈ js, lo ≤ v ∧ v ≤ hi) → Q (.ref D) H') : tLc (iRng1 ta) (gName j) tYes te vs σ H Q := by
  refine h H (Ex.refl H) _ fun H1 e1 => ⟨(m : Int), rfl, by omega, by omega, fun Dl hD => ?_⟩
  have hD0 : H Dl = none := fresh_back e1 hD
  have hDl : Dl ≠ l := hR.neN hD0
  refine lc_range (lo := 0) (n := (m : Int).toNat) (fun i H' => Kp d H H' ∧ RdAt H' d l (n + i) ∧ ∃ js : List Int, H' Dl = some (.lst (js.map V.int)) ∧ js.length = i ∧ ∀ v ∈ js, lo ≤ v ∧ v ≤ hi) ?_ (fun i H' hi' p => ?_) (fun H' p => ?_)
  · exact ⟨(Kp.ex e1).mut hD0, (hR.ex e1).ex (Ex.new hD), [], upd_same, rfl, fun _ hv => nomatch hv⟩
  · obtain ⟨k1, R1, js, g1, g2, g3⟩ := p
    have nd : Dl ≠ d := R1.neL g1
    refine ⟨hw _, ?_⟩
    show te _ _ _
    refine hd _ H' (n + i) R1 (by omega) _ fun H2 v k2 R2 a1 a2 => ⟨js.map V.int, k2 _ _ g1 nd, ?_, (k1.trans k2).mut hD0, R2.upd nd hDl, js ++ [v], ?_, ?_, fun u hu => ?_⟩
    · rw [List.length_map]
      exact sz_lt (by omega)
    · rw [upd_same, List.map_append]
      rfl
    · rw [List.length_append, g2]
      rfl
    · rcases List.mem_append.mp hu with hu | hu
      · exact g3 u hu
      · rw [List.mem_singleton.mp hu]
        exact ⟨a1, a2⟩
  · obtain ⟨k1, R1, js, g1, g2, g3⟩ := p
    rw [Int.toNat_natCast] at R1 g2
    exact q Dl H' js hD0 k1 R1 g1 g2 g3
/-- tuple([.. for k in range(m)]) of draws, by an element's word -/
def DrawnT (te : TE) (σ : L2.St) (d l : Addr) (m : Nat) (lo hi : Int) : Prop := ∀ H n, RdAt H d l n → n ≤ 800000 → ∀ Q : VK, (∀ H' p (js : List Int), Kp d H H' → RdAt H' d l (n + m) → H' p = some (.tup (js.map V.int)) → js.length = m → (∀ v ∈ js, lo ≤ v ∧ v ≤ hi) → Q (.ref p) H') → te σ H Q
theorem drawnT_of {ta : TA} {σ : L2.St} {te : TE} {j m : Nat} {vs : List Nat} {d l : Addr} {lo hi : Int} (h : ∀ H, EvA ta σ H [.int (m : Int)]) (hm : m ≤ 1000)
    (hw : ∀ x, wipe ((wipe σ vs).set j (some x)) vs = wipe σ vs) (hd : ∀ x, Drawn te ((wipe σ vs).set j (some x)) d l lo hi) {K : PySem.W.Frag} :
    DrawnT (tCB (rTupOf K) (tCons (tLc (iRng1 ta) (gName j) tYes te vs) tNil)) σ d l m lo hi := fun H n hR hn Q q => by
  have z := lc_drawn (Q := fun v H1 => ∃ p ys, [v] = [V.ref p] ∧ ((SqL K H1 p ys ∧ ∀ l, H1 l = none → Q (.ref l) (upd H1 l (.tup ys))) ∨ (SqT K H1 p ys ∧ Q (.ref p) H1))) (h H) hm hR (by omega) hw hd fun D H' js hD k R g1 g2 g3 => ⟨D, _, rfl, .inl ⟨sq_of g1, fun t ht => q _ t js (k.trans (Kp.ex (Ex.new ht))) (R.ex (Ex.new ht)) upd_same g2 g3⟩⟩
  exact z
/-- a list of two such tuples -/
theorem lc_two {σ : L2.St} {H : Hp} {te : TE} {j m n : Nat} {vs : List Nat} {d l : Addr} {lo hi : Int} {Q : VK} (hm : m ≤ 1000) (hR : RdAt H d l n) (hn : n + 2 * m ≤ 700000)
    (hw : ∀ x, wipe ((wipe σ vs).set j (some x)) vs = wipe σ vs) (hd : ∀ x, DrawnT te ((wipe σ vs).set j (some x)) d l m lo hi)
    (q : ∀ D H' (p1 p2 : Addr) (xs ys : List Int), Kp d H H' → RdAt H' d l (n + 2 * m) → H' D = some (.lst [.ref p1, .ref p2]) → H' p1 = some (.tup (xs.map V.int)) → H' p2 = some (.tup (ys.map V.int)) → xs.length = m → ys.length = m →
      (∀ v ∈ xs, lo ≤ v ∧ v ≤ hi) → (∀ v ∈ ys, lo ≤ v ∧ v ≤ hi) → Q (.ref D) H') : tLc (iRng1 (tCons (tC (.int 2)) tNil)) (gName j) tYes te vs σ H Q := by
  refine ⟨2, rfl, by decide, by decide, fun Dl hD => ?_⟩
  have hDl : Dl ≠ l := hR.neN hD
  refine lc_range (lo := 0) (n := (2 : Int).toNat) (fun i H' => Kp d H H' ∧ RdAt H' d l (n + i * m) ∧ ∃ ps : List Addr, H' Dl = some (.lst (ps.map V.ref)) ∧ ps.length = i ∧ ∀ p ∈ ps, ∃ js : List Int, H' p = some (.tup (js.map V.int)) ∧ js.length = m ∧ ∀ v ∈ js, lo ≤ v ∧ v ≤ hi) ?_ (fun i H' hi' p => ?_) (fun H' p => ?_)
  · exact ⟨(Kp.refl d H).mut hD, by simpa using hR.ex (Ex.new hD), [], upd_same, rfl, fun _ hv => nomatch hv⟩
  · obtain ⟨k1, R1, ps, g1, g2, g3⟩ := p
    have nd : Dl ≠ d := R1.neL g1
    have hi2 : i < 2 := hi'
    have him : i * m ≤ 2 * m := Nat.mul_le_mul_right m (by omega)
    refine ⟨hw _, ?_⟩
    show te _ _ _
    refine hd _ H' (n + i * m) R1 (by omega) _ fun H2 p js k2 R2 f1 f2 f3 => ⟨ps.map V.ref, k2 _ _ g1 nd, ?_, (k1.trans k2).mut hD, ?_, ps ++ [p], ?_, ?_, fun u hu => ?_⟩
    · rw [List.length_map]
      exact sz_lt (by omega)
    · have := R2.upd (o := HO.lst (ps.map V.ref ++ [.ref p])) nd hDl
      rw [Nat.add_mul, Nat.one_mul, ← Nat.add_assoc]
      exact this
    · rw [upd_same, List.map_append]
      rfl
    · rw [List.length_append, g2]
      rfl
    · have keep : ∀ (a : Addr) (xs : List V), H2 a = some (.tup xs) → (upd H2 Dl (.lst (ps.map V.ref ++ [.ref p]))) a = some (.tup xs) := fun a xs ha => by
        rw [upd_ne (ne_of ha (k2 _ _ g1 nd) (by intro z; cases z))]
        exact ha
      rcases List.mem_append.mp hu with hu | hu
      · obtain ⟨js', z1, z2⟩ := g3 u hu
        exact ⟨js', keep u _ (k2 _ _ z1 (R1.neT z1)), z2⟩
      · rw [List.mem_singleton.mp hu]
        exact ⟨js, keep p _ f1, f2, f3⟩
  · obtain ⟨k1, R1, ps, g1, g2, g3⟩ := p
    have g2' : ps.length = 2 := g2
    match ps, g2' with
    | [p1, p2], _ =>
      obtain ⟨xs, x1, x2, x3⟩ := g3 p1 (by simp)
      obtain ⟨ys, y1, y2, y3⟩ := g3 p2 (by simp)
      exact q Dl H' p1 p2 xs ys k1 R1 g1 x1 y1 x2 y2 x3 y3
end Fx
/-! ### zip of two tuples in a comprehension; lists of one length -/
namespace Fx
open PySem PySem.Spec PyProof.Rows L2 Evl
theorem lc_zipT {K : PySem.W.Frag} {a b : Addr} {xs ys : List V} {g : TG} {tt : TT} {te : TE} {vs : List Nat} {σ : L2.St} {H1 : Hp} {D : Addr} {Qd : Hp → Prop} (hl : xs.length = ys.length) (Pv : Nat → Hp → Prop) (h0 : Pv 0 (upd H1 D (.lst []))) (hq : ∀ i H, Pv i H → SqT K H a xs ∧ SqT K H b ys)
    (hs : ∀ (i : Nat) (x y : V) (T : Addr) (H : Hp), xs[i]? = some x → ys[i]? = some y → Pv i H → H T = none → g (.ref T) (wipe σ vs) (upd H T (.tup [x, y])) fun σ2 H2 => wipe σ2 vs = wipe σ vs ∧ tt σ2 H2 fun b H3 =>
      if b = true then te σ2 H3 fun y H4 => ∃ acc, H4 D = some (.lst acc) ∧ acc.length < sizeLine ∧ Pv (i + 1) (upd H4 D (.lst (acc ++ [y]))) else Pv (i + 1) H3) (hd : ∀ H, Pv xs.length H → Qd H) :
    ∃ W : Nat → Nat → Hp → Prop, (∃ m, W 0 m (upd H1 D (.lst []))) ∧ ∀ i m H, W i m H →
      ((RZ.ItzT K a b).stop i H ∧ Qd H) ∨ ((RZ.ItzT K a b).go i H ∧ ∃ Nx : Hp → Prop, (∀ H', Nx H' → ∃ m', m' < m ∧ W (i + 1) m' H') ∧ ∀ x H', (RZ.ItzT K a b).yld i H x H' → g x (wipe σ vs) H' fun σ2 H2 => wipe σ2 vs = wipe σ vs ∧ tt σ2 H2 fun b H3 =>
        if b = true then te σ2 H3 fun y H4 => ∃ acc, H4 D = some (.lst acc) ∧ acc.length < sizeLine ∧ Nx (upd H4 D (.lst (acc ++ [y]))) else Nx H3) := by
  refine ⟨fun i m H => m = xs.length - i ∧ i ≤ xs.length ∧ Pv i H, ⟨xs.length, by simp, Nat.zero_le _, h0⟩, ?_⟩
  rintro i m H ⟨rfl, hi, p⟩
  obtain ⟨qx, qy⟩ := hq i H p
  by_cases hlt : i < xs.length
  · have hx : xs[i]? = some xs[i] := List.getElem?_eq_getElem hlt
    have hlt2 : i < ys.length := by omega
    have hy : ys[i]? = some ys[i] := List.getElem?_eq_getElem hlt2
    refine .inr ⟨⟨xs, ys, _, _, qx, qy, hx, hy⟩, Pv (i + 1), fun H' p' => ⟨xs.length - (i + 1), by omega, rfl, hlt, p'⟩, fun v H' y => ?_⟩
    obtain ⟨T, x', y', rfl, hT, rfl, f1, f2⟩ := y
    exact hs i x' y' T H (f1 xs qx) (f2 ys qy) p hT
  · have e : i = xs.length := by omega
    subst e
    exact .inl ⟨⟨xs, ys, qx, qy, Or.inl (Nat.le_refl _)⟩, hd H p⟩
def Lm (m : Nat) (xs : List Int) : Prop := xs.length = m ∧ Sm xs
theorem sm_of {xs : List Int} (h : ∀ v ∈ xs, -1000 ≤ v ∧ v ≤ 1000) : Sm xs := fun v hv => Nat.lt_of_lt_of_le (show v.natAbs < 2 ^ 10 by have := h v hv; omega) (Nat.pow_le_pow_right (by decide) (by decide))
theorem zw_mem {f : Int → Int → Int} : ∀ {xs ys : List Int} {v : Int}, v ∈ List.zipWith f xs ys → ∃ x y, x ∈ xs ∧ y ∈ ys ∧ v = f x y
  | [], _, _, h => by simp at h
  | _ :: _, [], _, h => by simp at h
  | x :: xs, y :: ys, v, h => by
    rcases List.mem_cons.mp (show v ∈ f x y :: List.zipWith f xs ys from h) with h | h
    · exact ⟨x, y, by simp, by simp, h⟩
    · obtain ⟨x', y', h1, h2, h3⟩ := zw_mem h
      exact ⟨x', y', List.mem_cons_of_mem _ h1, List.mem_cons_of_mem _ h2, h3⟩
theorem lm_zw {f : Int → Int → Int} {m : Nat} {xs ys : List Int} {a b : Int} (hf : ∀ x y, x ∈ xs → y ∈ ys → -1000 ≤ f x y ∧ f x y ≤ 1000) (h1 : xs.length = m) (h2 : ys.length = m) : Lm m (List.zipWith f xs ys) := by
  refine ⟨by rw [List.length_zipWith, h1, h2, Nat.min_self], sm_of fun v hv => ?_⟩
  obtain ⟨x, y, hx, hy, e⟩ := zw_mem hv
  rw [e]
  exact hf x y hx hy
theorem lm_rep {m : Nat} {n : Int} (h : -1000 ≤ n ∧ n ≤ 1000) : Lm m (List.replicate m n) := ⟨List.length_replicate, sm_of fun v hv => by rw [List.eq_of_mem_replicate hv]; exact h⟩
theorem lm_app {m k : Nat} {xs ys : List Int} (h1 : Lm m xs) (h2 : Lm k ys) : Lm (m + k) (xs ++ ys) := ⟨by rw [List.length_append, h1.1, h2.1], fun v hv => (List.mem_append.mp hv).elim (h1.2 v) (h2.2 v)⟩
section
variable {te ta tb tl : TE} {tz : TS} {D : Ends} {t : TT} {σ : L2.St} {H : Hp} {K : PySem.W.Frag} {v x y z : V} {xs ys : List Int}
theorem ev_totL {E : XK} {m : Nat} (ha : EvP ta σ H (IsT xs)) (hb : EvP tb σ H (IsT ys)) (lx : Lm m xs) (ly : Lm m ys) (hm : m ≤ 1000) : Ev (tCall spTot [] E (tCons ta (tCons tb tNil))) σ H (.int (dot xs ys)) :=
  ev_tot ha hb (lx.1.trans ly.1.symm) (by rw [lx.1]; exact hm) lx.2 ly.2
theorem q_asgP {P : VP} {i : Nat} (h : EvP te σ H P) (k : ∀ v H1, Ex H H1 → P v H1 → tz D (σ.set i (some v)) H1) : tSeq (tAsg te (gName i)) tz D σ H := h H (Ex.refl H) _ fun v H1 e p => k v H1 e p
/-- [f(xs[k], ys[k]) for k in range(m)] -/
theorem el_zw {ta : TA} {j m : Nat} {vs : List Nat} {f : Int → Int → Int} (h : EvA ta σ H [.int (m : Int)]) (hm : m ≤ 1000) (hx : xs.length = m) (hy : ys.length = m) (hw : ∀ x, wipe ((wipe σ vs).set j (some x)) vs = wipe σ vs)
    (he : ∀ (i : Nat) H1, Ex H H1 → i < m → Ev te ((wipe σ vs).set j (some (.int (i : Int)))) H1 (.int (f (xs.getD i 0) (ys.getD i 0)))) : EvL (tLc (iRng1 ta) (gName j) tYes te vs) σ H ((List.zipWith f xs ys).map V.int) := by
  have z := el_lcR1 (t := tYes) (te := te) (j := j) (vs := vs) (fun _ => true) (fun i => V.int (f (xs.getD i 0) (ys.getD i 0))) h (by omega) hw (fun i H1 _ _ => fun H2 _ Q q => q H2 (Ex.refl _)) (fun i H1 e hi _ => he i H1 e (by omega))
  rw [given_all, Int.toNat_natCast, range_zip f hx hy] at z
  exact z
end
end Fx
/-! ### data of tuples, and readings beside things that change -/
namespace Dt
open PySem PySem.Spec PyProof.Rows L2 Evl Fx
mutual
/-- data without lists and dicts -/
def flat : PyData → Bool
  | .none => true
  | .bool _ => true
  | .int _ => true
  | .str _ => true
  | .list _ => false
  | .tuple ds => flats ds
  | .dict _ => false
def flats : List PyData → Bool
  | [] => true
  | d :: ds => flat d && flats ds
end
theorem flats_cons {d : PyData} {ds : List PyData} : flats (d :: ds) = true ↔ flat d = true ∧ flats ds = true := by
  rw [flats, Bool.and_eq_true]
theorem flats_all : ∀ {ds : List PyData}, flats ds = true ↔ ∀ d ∈ ds, flat d = true
  | [] => by simp [flats]
  | d :: ds => by rw [flats_cons, flats_all, List.forall_mem_cons]
theorem flat_tup {ds : List PyData} : flat (.tuple ds) = flats ds := by rw [flat]
section
variable {K : PySem.W.Frag} {H H' : Hp}
/-- tuples are kept -/
def KT (K : PySem.W.Frag) (H H' : Hp) : Prop := ∀ a xs, SqT K H a xs → SqT K H' a xs
mutual
theorem dp_kt (k : KT K H H') : ∀ (d : PyData) (v : V), flat d = true → Dp K H v d → Dp K H' v d
  | .none, _, _, h => by cases h; exact .non
  | .bool _, _, _, h => by cases h; exact .bl _
  | .int _, _, _, h => by cases h; exact .int _
  | .str _, _, _, h => by cases h; exact .str _
  | .list _, _, f, _ => by simp [flat] at f
  | .tuple ds, _, f, h => by
    cases h with
    | tup h1 h2 => exact .tup (k _ _ h1) (dps_kt k ds _ (by rwa [flat] at f) h2)
  | .dict _, _, f, _ => by simp [flat] at f
theorem dps_kt (k : KT K H H') : ∀ (ds : List PyData) (vs : List V), flats ds = true → DpAll K H vs ds → DpAll K H' vs ds
  | [], _, _, h => by cases h; exact .nil
  | d :: ds, _, f, h => by
    have f' := flats_cons.mp f
    cases h with
    | cons h1 h2 => exact .cons (dp_kt k d _ f'.1 h1) (dps_kt k ds _ f'.2 h2)
end
mutual
theorem dp_ex (e : Ex H H') : ∀ (d : PyData) (v : V), Dp K H v d → Dp K H' v d
  | .none, _, h => by cases h; exact .non
  | .bool _, _, h => by cases h; exact .bl _
  | .int _, _, h => by cases h; exact .int _
  | .str _, _, h => by cases h; exact .str _
  | .list ds, _, h => by
    cases h with
    | lst h1 h2 => exact .lst (ex_l e h1) (dps_ex e ds _ h2)
  | .tuple ds, _, h => by
    cases h with
    | tup h1 h2 => exact .tup (ex_t e h1) (dps_ex e ds _ h2)
  | .dict _, _, h => nomatch h
theorem dps_ex (e : Ex H H') : ∀ (ds : List PyData) (vs : List V), DpAll K H vs ds → DpAll K H' vs ds
  | [], _, h => by cases h; exact .nil
  | d :: ds, _, h => by
    cases h with
    | cons h1 h2 => exact .cons (dp_ex e d _ h1) (dps_ex e ds _ h2)
end
theorem dps_len : ∀ {ds : List PyData} {vs : List V}, DpAll K H vs ds → vs.length = ds.length
  | [], _, h => by cases h; rfl
  | d :: ds, _, h => by
    cases h with
    | cons h1 h2 => simp [dps_len h2]
theorem dps_get : ∀ {ds : List PyData} {vs : List V} {i : Nat} {d : PyData}, DpAll K H vs ds → ds[i]? = some d → ∃ v, vs[i]? = some v ∧ Dp K H v d
  | [], _, _, _, _, e => by simp at e
  | d :: ds, _, i, d', h, e => by
    cases h with
    | @cons v vs _ _ h1 h2 =>
      cases i with
      | zero =>
        rw [List.getElem?_cons_zero] at e
        cases e
        exact ⟨v, rfl, h1⟩
      | succ i =>
        rw [List.getElem?_cons_succ] at e
        obtain ⟨u, q1, q2⟩ := dps_get h2 e
        exact ⟨u, by rw [List.getElem?_cons_succ]; exact q1, q2⟩
theorem dps_app : ∀ {ds es : List PyData} {vs us : List V}, DpAll K H vs ds → DpAll K H us es → DpAll K H (vs ++ us) (ds ++ es)
  | [], _, _, _, h, h' => by cases h; exact h'
  | d :: ds, _, _, _, h, h' => by
    cases h with
    | cons h1 h2 => exact .cons h1 (dps_app h2 h')
theorem dps_snoc {ds : List PyData} {d : PyData} {vs : List V} {v : V} (h : DpAll K H vs ds) (h' : Dp K H v d) : DpAll K H (vs ++ [v]) (ds ++ [d]) := dps_app h (.cons h' .nil)
theorem dps_rev : ∀ {ds : List PyData} {vs : List V}, DpAll K H vs ds → DpAll K H vs.reverse ds.reverse
  | [], _, h => by cases h; exact .nil
  | d :: ds, _, h => by
    cases h with
    | cons h1 h2 =>
      rw [List.reverse_cons, List.reverse_cons]
      exact dps_snoc (dps_rev h2) h1
theorem dps_take : ∀ {n : Nat} {ds : List PyData} {vs : List V}, DpAll K H vs ds → DpAll K H (vs.take n) (ds.take n)
  | 0, _, _, _ => by rw [List.take_zero, List.take_zero]; exact .nil
  | n + 1, [], _, h => by cases h; exact .nil
  | n + 1, d :: ds, _, h => by
    cases h with
    | cons h1 h2 => exact .cons h1 (dps_take h2)
theorem dps_drop : ∀ {n : Nat} {ds : List PyData} {vs : List V}, DpAll K H vs ds → DpAll K H (vs.drop n) (ds.drop n)
  | 0, _, _, h => by rw [List.drop_zero, List.drop_zero]; exact h
  | n + 1, [], _, h => by cases h; exact .nil
  | n + 1, d :: ds, _, h => by
    cases h with
    | cons h1 h2 =>
      rw [List.drop_succ_cons, List.drop_succ_cons]
      exact dps_drop h2
theorem dps_last {ds : List PyData} {d : PyData} {vs : List V} (h : DpAll K H vs (ds ++ [d])) : ∃ us u, vs = us ++ [u] ∧ DpAll K H us ds ∧ Dp K H u d := by
  have hl := dps_len h
  rw [List.length_append, List.length_singleton] at hl
  have hv : vs ≠ [] := by intro e; rw [e] at hl; simp at hl
  have e := List.dropLast_concat_getLast hv
  have h1 := dps_take (n := ds.length) h
  have h2 := dps_drop (n := ds.length) h
  rw [List.take_left] at h1
  rw [List.drop_left] at h2
  have e1 : vs.take ds.length = vs.dropLast := by rw [List.dropLast_eq_take, hl, Nat.add_sub_cancel]
  have e2 : vs.drop ds.length = [vs.getLast hv] := by
    have q : (vs.dropLast ++ [vs.getLast hv]).drop ds.length = [vs.getLast hv] := by
      have l1 : vs.dropLast.length = ds.length := by rw [List.length_dropLast, hl, Nat.add_sub_cancel]
      rw [← l1]
      exact List.drop_left
    rwa [e] at q
  rw [e1] at h1
  rw [e2] at h2
  cases h2 with
  | cons h3 h4 => exact ⟨_, _, e.symm, h1, h3⟩
/-- a value that reads as d -/
def IsD (K : PySem.W.Frag) (d : PyData) : VP := fun v H => Dp K H v d
end
/-- all but S is kept -/
def Kx (S : Addr → Prop) (H H' : Hp) : Prop := ∀ b o, H b = some o → ¬ S b → H' b = some o
theorem Kx.refl {S : Addr → Prop} {H : Hp} : Kx S H H := fun _ _ h _ => h
theorem Kx.trans {S : Addr → Prop} {H H1 H2 : Hp} (a : Kx S H H1) (b : Kx S H1 H2) : Kx S H H2 := fun x o h n => b x o (a x o h n) n
theorem Kx.ex {S : Addr → Prop} {H H1 : Hp} (e : Ex H H1) : Kx S H H1 := fun x o h _ => e x o h
theorem Kx.mut {S : Addr → Prop} {H H1 : Hp} {p : Addr} {o : HO} (k : Kx S H H1) (h : H p = none) : Kx S H (upd H1 p o) := fun b u hb n => by
  have : b ≠ p := by rintro rfl; rw [h] at hb; cases hb
  rw [upd_ne this]
  exact k b u hb n
theorem Kx.at {S : Addr → Prop} {H H1 : Hp} {p : Addr} {o : HO} (k : Kx S H H1) (h : S p) : Kx S H (upd H1 p o) := fun b u hb n => by
  have : b ≠ p := by rintro rfl; exact n h
  rw [upd_ne this]
  exact k b u hb n
def mutO (o : HO) : Prop := (∃ xs, o = .lst xs) ∨ ∃ kvs, o = .dK kvs
/-- what may change (S), where what is told of it stands (T), what is told (G, after so many turns), how many turns there may be -/
structure Fd where
  S : Addr → Prop
  T : Addr → Prop
  G : Nat → Hp → Prop
  N : Nat
structure Fd.Ok (F : Fd) : Prop where
  sub : ∀ {a}, F.S a → F.T a
  at_ : ∀ {n H a}, F.G n H → F.T a → ∃ o, H a = some o ∧ mutO o
  loc : ∀ {n H H'}, F.G n H → (∀ a o, F.T a → H a = some o → H' a = some o) → F.G n H'
  up : ∀ {n m H}, F.G n H → n ≤ m → F.G m H
/-- nothing changes -/
def F0 : Fd := ⟨fun _ => False, fun _ => False, fun _ _ => True, 0⟩
theorem F0.ok : F0.Ok := ⟨fun h => h, fun _ h => h.elim, fun _ _ => trivial, fun _ _ => trivial⟩
theorem F0.g {n : Nat} {H : Hp} : F0.G n H := trivial
theorem F0.ex {H H' : Hp} (e : Kx F0.S H H') : Ex H H' := fun a o h => e a o h fun z => z
def MonoF (F : Fd) (P : VP) : Prop := ∀ n v H H', F.G n H → Kx F.S H H' → P v H → P v H'
def MonoA (F : Fd) (P : List V → Hp → Prop) : Prop := ∀ n v H H', F.G n H → Kx F.S H H' → P v H → P v H'
def EvR (F : Fd) (te : TE) (σ : L2.St) (H : Hp) (k : Nat) (P : VP) : Prop := ∀ n H1, n + k ≤ F.N → F.G n H1 → Kx F.S H H1 → ∀ Q : VK, (∀ v H2, Kx F.S H1 H2 → F.G (n + k) H2 → P v H2 → Q v H2) → te σ H1 Q
def EvRA (F : Fd) (ta : TA) (σ : L2.St) (H : Hp) (k : Nat) (P : List V → Hp → Prop) : Prop := ∀ n H1, n + k ≤ F.N → F.G n H1 → Kx F.S H H1 → ∀ Q : List V → Hp → Prop, (∀ v H2, Kx F.S H1 H2 → F.G (n + k) H2 → P v H2 → Q v H2) → ta σ H1 Q
def EvRT (F : Fd) (tt : TT) (σ : L2.St) (H : Hp) (k : Nat) (b : Bool) : Prop := ∀ n H1, n + k ≤ F.N → F.G n H1 → Kx F.S H H1 → ∀ Q : Bool → Hp → Prop, (∀ H2, Kx F.S H1 H2 → F.G (n + k) H2 → Q b H2) → tt σ H1 Q
section
variable {F : Fd} {K : PySem.W.Frag} {te ta tb tc : TE} {tr : TA} {tt tu : TT} {σ : L2.St} {H H' : Hp} {P P' R : VP} {PA : List V → Hp → Prop} {d d' d2 : PyData} {ds : List PyData} {n k ka kb : Nat} {v : V}
theorem Fd.Ok.ex (o : F.Ok) (g : F.G n H) (e : Ex H H') : F.G n H' := o.loc g fun a u _ h => e a u h
theorem Fd.Ok.kt (o : F.Ok) (g : F.G n H) (e : Kx F.S H H') : KT K H H' := fun a xs h => by
  rcases h with (h | ⟨u, h⟩) | h
  · refine .inl (.inl (e a _ h fun hs => ?_))
    obtain ⟨w, q, m⟩ := o.at_ g (o.sub hs)
    rw [h] at q
    cases q
    rcases m with ⟨_, m⟩ | ⟨_, m⟩ <;> cases m
  · refine .inl (.inr ⟨u, e a _ h fun hs => ?_⟩)
    obtain ⟨w, q, m⟩ := o.at_ g (o.sub hs)
    rw [h] at q
    cases q
    rcases m with ⟨_, m⟩ | ⟨_, m⟩ <;> cases m
  · exact .inr h
theorem Fd.Ok.new (o : F.Ok) (g : F.G n H) {p : Addr} (h : H p = none) : ¬ F.T p := fun t => by
  obtain ⟨w, q, _⟩ := o.at_ g t
  rw [h] at q
  cases q
/-- at an address that was new, something else may be put -/
theorem Fd.Ok.put (o : F.Ok) {m : Nat} (g0 : F.G m H) {p : Addr} (h : H p = none) {u : HO} (g : F.G n H') : F.G n (upd H' p u) := o.loc g fun a w t q => by
  have : a ≠ p := by rintro rfl; exact o.new g0 h t
  rw [upd_ne this]
  exact q
theorem mono_d (o : F.Ok) (f : flat d = true) : MonoF F (IsD K d) := fun n v H H' g e p => dp_kt (o.kt g e) d v f p
theorem mono_ds (o : F.Ok) (f : flats ds = true) : MonoA F (fun vs H => DpAll K H vs ds) := fun n v H H' g e p => dps_kt (o.kt g e) ds v f p
theorem mono_eq {x : V} : MonoF F (fun v _ => v = x) := fun _ _ _ _ _ _ p => p
theorem EvR.mono (h : EvR F te σ H k P) (e : Kx F.S H H') : EvR F te σ H' k P := fun n H1 hn g e1 Q q => h n H1 hn g (e.trans e1) Q q
theorem EvRT.mono {b : Bool} (h : EvRT F tt σ H k b) (e : Kx F.S H H') : EvRT F tt σ H' k b := fun n H1 hn g e1 Q q => h n H1 hn g (e.trans e1) Q q
theorem EvRA.mono (h : EvRA F tr σ H k PA) (e : Kx F.S H H') : EvRA F tr σ H' k PA := fun n H1 hn g e1 Q q => h n H1 hn g (e.trans e1) Q q
theorem EvR.imp (h : EvR F te σ H k P) (i : ∀ n v H', F.G n H' → Kx F.S H H' → P v H' → P' v H') : EvR F te σ H k P' := fun n H1 hn g e1 Q q => h n H1 hn g e1 Q fun v H2 e2 g2 p => q v H2 e2 g2 (i _ v H2 g2 (e1.trans e2) p)
theorem EvR.cast (h : EvR F te σ H k (IsD K d)) (e : d = d') : EvR F te σ H k (IsD K d') := e ▸ h
theorem EvR.up {k' : Nat} (o : F.Ok) (h : EvR F te σ H k P) (hk : k ≤ k') : EvR F te σ H k' P := fun n H1 hn g e1 Q q => h n H1 (by omega) g e1 Q fun v H2 e2 g2 p => q v H2 e2 (o.up g2 (by omega)) p
theorem EvRT.up {k' : Nat} {b : Bool} (o : F.Ok) (h : EvRT F tt σ H k b) (hk : k ≤ k') : EvRT F tt σ H k' b := fun n H1 hn g e1 Q q => h n H1 (by omega) g e1 Q fun H2 e2 g2 => q H2 e2 (o.up g2 (by omega))
theorem r_var {i : Nat} (m : MonoF F P) (g0 : F.G n H) (h : σ[i]? = some (some v)) (p : P v H) : EvR F (tVar i) σ H 0 P := fun n1 H1 hn g e Q q => ⟨v, h, q v H1 Kx.refl g (m n v H H1 g0 e p)⟩
theorem rd_var (o : F.Ok) (g0 : F.G n H) {i : Nat} (h : σ[i]? = some (some v)) (p : Dp K H v d) (f : flat d = true := by rfl) : EvR F (tVar i) σ H 0 (IsD K d) := r_var (mono_d o f) g0 h p
theorem rv_var {i : Nat} (h : σ[i]? = some (some v)) : EvR F (tVar i) σ H 0 (fun x _ => x = v) := fun n1 H1 hn g e Q q => ⟨v, h, q v H1 Kx.refl g rfl⟩
theorem rv_c : EvR F (tC v) σ H 0 (fun x _ => x = v) := fun n1 H1 hn g e Q q => q v H1 Kx.refl g rfl
theorem rd_int {i : Int} : EvR F (tC (.int i)) σ H 0 (IsD K (.int i)) := fun n1 H1 hn g e Q q => q _ H1 Kx.refl g (.int i)
theorem rd_str {i : Str} : EvR F (tC (.str i)) σ H 0 (IsD K (.str i)) := fun n1 H1 hn g e Q q => q _ H1 Kx.refl g (.str i)
theorem rd_bl {i : Bool} : EvR F (tC (.bl i)) σ H 0 (IsD K (.bool i)) := fun n1 H1 hn g e Q q => q _ H1 Kx.refl g (.bl i)
theorem rv_int {i : Int} (h : EvR F te σ H k (IsD K (.int i))) : EvR F te σ H k (fun x _ => x = .int i) := h.imp fun _ v _ _ _ p => by cases p; rfl
theorem rv_str {i : Str} (h : EvR F te σ H k (IsD K (.str i))) : EvR F te σ H k (fun x _ => x = .str i) := h.imp fun _ v _ _ _ p => by cases p; rfl
theorem rv_bl {i : Bool} (h : EvR F te σ H k (IsD K (.bool i))) : EvR F te σ H k (fun x _ => x = .bl i) := h.imp fun _ v _ _ _ p => by cases p; rfl
theorem rd_ofI {i : Int} (h : EvR F te σ H k (fun x _ => x = .int i)) : EvR F te σ H k (IsD K (.int i)) := h.imp fun _ v _ _ _ p => by subst p; exact .int i
theorem rd_ofB {i : Bool} (h : EvR F te σ H k (fun x _ => x = .bl i)) : EvR F te σ H k (IsD K (.bool i)) := h.imp fun _ v _ _ _ p => by subst p; exact .bl i
theorem rd_ofS {i : Str} (h : EvR F te σ H k (fun x _ => x = .str i)) : EvR F te σ H k (IsD K (.str i)) := h.imp fun _ v _ _ _ p => by subst p; exact .str i
theorem r_op {r : R2} (o : F.Ok) (mP : MonoF F P) (ha : EvR F ta σ H ka P) (hb : EvR F tb σ H kb P') (hr : ∀ x y n H1, F.G n H1 → Kx F.S H H1 → P x H1 → P' y H1 → ∀ Q : VK, (∀ z H2, Ex H1 H2 → R z H2 → Q z H2) → r x y H1 Q) : EvR F (tOp r ta tb) σ H (ka + kb) R :=
  fun n H1 hn g e Q q => ha n H1 (by omega) g e _ fun x H2 e2 g2 p => hb (n + ka) H2 (by omega) g2 (e.trans e2) _ fun y H3 e3 g3 p' => hr x y _ H3 g3 (e.trans (e2.trans e3)) (mP _ _ _ _ g2 e3 p) p' Q fun z H4 e4 pz =>
    q z H4 (e2.trans (e3.trans (Kx.ex e4))) (by rw [← Nat.add_assoc]; exact o.ex g3 e4) pz
theorem ra_nil : EvRA F tNil σ H 0 (fun vs H => DpAll K H vs []) := fun n1 H1 hn g e Q q => q _ H1 Kx.refl g .nil
theorem ra_cons (o : F.Ok) (h : EvR F te σ H ka (IsD K d)) (hr : EvRA F tr σ H kb (fun vs H => DpAll K H vs ds)) (f : flat d = true := by rfl) : EvRA F (tCons te tr) σ H (ka + kb) (fun vs H => DpAll K H vs (d :: ds)) :=
  fun n H1 hn g e Q q => h n H1 (by omega) g e _ fun x H2 e2 g2 p => hr (n + ka) H2 (by omega) g2 (e.trans e2) _ fun vs H3 e3 g3 p' => q (x :: vs) H3 (e2.trans e3) (by rw [← Nat.add_assoc]; exact g3) (.cons (mono_d o f _ _ _ _ g2 e3 p) p')
theorem rd_tup (o : F.Ok) (h : EvRA F tr σ H k (fun vs H => DpAll K H vs ds)) (f : flats ds = true := by rfl) (hl : ds.length ≤ 100000 := by simp) : EvR F (tTup tr) σ H k (IsD K (.tuple ds)) :=
  fun n H1 hn g e Q q => h n H1 hn g e _ fun vs H2 e2 g2 p => ⟨sz_of (by rw [dps_len p]; exact hl), fun a ha => q (.ref a) _ (e2.trans (Kx.ex (Ex.new ha))) (o.ex g2 (Ex.new ha)) (.tup (st_of upd_same) (dps_ex (Ex.new ha) _ _ p))⟩
theorem rd_ix {i : Int} (o : F.Ok) (ha : EvR F ta σ H ka (IsD K (.tuple ds))) (hb : EvR F tb σ H kb (fun x _ => x = .int i)) (j : Nat) (hj : ixN ds.length i = some j) (hd : ds[j]? = some d) (f : flat (.tuple ds) = true := by rfl) : EvR F (tOp (rIxT K) ta tb) σ H (ka + kb) (IsD K d) :=
  r_op o (mono_d o f) ha hb fun x y n H1 g e px py Q q => by
    subst py
    cases px with
    | tup h1 h2 =>
      obtain ⟨u, hu, hdu⟩ := dps_get h2 hd
      exact ⟨_, _, i, u, rfl, rfl, h1, by unfold atI; rw [dps_len h2, hj]; exact hu, q u H1 (Ex.refl _) hdu⟩
theorem rb_eq (o : F.Ok) (ha : EvR F ta σ H ka (IsD K d)) (hb : EvR F tb σ H kb (IsD K d')) (sd : SeqAt.shaped d = true) (sd' : SeqAt.shaped d' = true) (f : flat d = true := by rfl) : EvR F (tOp (rEqD K) ta tb) σ H (ka + kb) (fun x _ => x = .bl (PyData.eqv d d')) :=
  r_op o (mono_d o f) ha hb fun x y n H1 g e px py Q q => ⟨d, d', px, py, sd, sd', q _ H1 (Ex.refl _) rfl⟩
theorem rb_ne (o : F.Ok) (ha : EvR F ta σ H ka (IsD K d)) (hb : EvR F tb σ H kb (IsD K d')) (sd : SeqAt.shaped d = true) (sd' : SeqAt.shaped d' = true) (f : flat d = true := by rfl) : EvR F (tOp (rNeD K) ta tb) σ H (ka + kb) (fun x _ => x = .bl (!PyData.eqv d d')) :=
  r_op o (mono_d o f) ha hb fun x y n H1 g e px py Q q => ⟨d, d', px, py, sd, sd', q _ H1 (Ex.refl _) rfl⟩
/-- tests -/
theorem rt_val {b : Bool} (h : EvR F te σ H k (fun x _ => x = .bl b)) : EvRT F (tTest te) σ H k b := fun n H1 hn g e Q q => h n H1 hn g e _ fun v H2 e2 g2 p => ⟨b, p, q H2 e2 g2⟩
theorem rt_B {b : Bool} (h : EvR F te σ H k (fun x _ => x = .bl b)) : EvRT F (tB te) σ H k b := fun n H1 hn g e Q q => h n H1 hn g e _ fun v H2 e2 g2 p => ⟨b, p, q H2 e2 g2⟩
theorem rt_not {a : Bool} (h1 : EvRT F tt σ H k a) : EvRT F (tNot tt) σ H k (!a) := fun n H1 hn g e _ q => h1 n H1 hn g e _ fun H2 e2 g2 => q H2 e2 g2
theorem rt_is {a b : Bool} (h : EvRT F tt σ H k a) (e : a = b) : EvRT F tt σ H k b := e ▸ h
theorem rt_and {a b : Bool} (o : F.Ok) (h1 : EvRT F tt σ H ka a) (h2 : a = true → EvRT F tu σ H kb b) : EvRT F (tAnd tt tu) σ H (ka + kb) (a && b) := fun n H1 hn g e Q q => h1 n H1 (by omega) g e _ fun H2 e2 g2 => by
  cases a with
  | false => exact q H2 e2 (o.up g2 (by omega))
  | true => exact h2 rfl (n + ka) H2 (by omega) g2 (e.trans e2) _ fun H3 e3 g3 => q H3 (e2.trans e3) (by rw [← Nat.add_assoc]; exact g3)
theorem rt_or {a b : Bool} (o : F.Ok) (h1 : EvRT F tt σ H ka a) (h2 : a = false → EvRT F tu σ H kb b) : EvRT F (tOr tt tu) σ H (ka + kb) (a || b) := fun n H1 hn g e Q q => h1 n H1 (by omega) g e _ fun H2 e2 g2 => by
  cases a with
  | true => exact q H2 e2 (o.up g2 (by omega))
  | false => exact h2 rfl (n + ka) H2 (by omega) g2 (e.trans e2) _ fun H3 e3 g3 => q H3 (e2.trans e3) (by rw [← Nat.add_assoc]; exact g3)
theorem r_if {b : Bool} (o : F.Ok) (h : EvRT F tt σ H ka b) (h1 : b = true → EvR F ta σ H kb P) (h2 : b = false → EvR F tb σ H kb P) : EvR F (tIf tt ta tb) σ H (ka + kb) P := fun n H1 hn g e Q q => h n H1 (by omega) g e _ fun H2 e2 g2 => by
  cases b with
  | true => exact h1 rfl (n + ka) H2 (by omega) g2 (e.trans e2) _ fun v H3 e3 g3 p => q v H3 (e2.trans e3) (by rw [← Nat.add_assoc]; exact g3) p
  | false => exact h2 rfl (n + ka) H2 (by omega) g2 (e.trans e2) _ fun v H3 e3 g3 p => q v H3 (e2.trans e3) (by rw [← Nat.add_assoc]; exact g3) p
theorem rb_and {a b : Bool} (o : F.Ok) (h1 : EvR F ta σ H ka (fun x _ => x = .bl a)) (h2 : a = true → EvR F tb σ H kb (fun x _ => x = .bl b)) : EvR F (tAndV ta tb) σ H (ka + kb) (fun x _ => x = .bl (a && b)) := fun n H1 hn g e Q q => h1 n H1 (by omega) g e _ fun v H2 e2 g2 p => ⟨a, p, by
  cases a with
  | false => exact q _ H2 e2 (o.up g2 (by omega)) rfl
  | true => exact h2 rfl (n + ka) H2 (by omega) g2 (e.trans e2) _ fun v H3 e3 g3 p => q v H3 (e2.trans e3) (by rw [← Nat.add_assoc]; exact g3) p⟩
theorem rb_or {a b : Bool} (o : F.Ok) (h1 : EvR F ta σ H ka (fun x _ => x = .bl a)) (h2 : a = false → EvR F tb σ H kb (fun x _ => x = .bl b)) : EvR F (tOrV ta tb) σ H (ka + kb) (fun x _ => x = .bl (a || b)) := fun n H1 hn g e Q q => h1 n H1 (by omega) g e _ fun v H2 e2 g2 p => ⟨a, p, by
  cases a with
  | true => exact q _ H2 e2 (o.up g2 (by omega)) rfl
  | false => exact h2 rfl (n + ka) H2 (by omega) g2 (e.trans e2) _ fun v H3 e3 g3 p => q v H3 (e2.trans e3) (by rw [← Nat.add_assoc]; exact g3) p⟩
theorem rb_not {a : Bool} (h1 : EvR F ta σ H k (fun x _ => x = .bl a)) : EvR F (tNotV ta) σ H k (fun x _ => x = .bl (!a)) := fun n H1 hn g e _ q => h1 n H1 hn g e _ fun v H2 e2 g2 p => ⟨a, p, q _ H2 e2 g2 rfl⟩
end
end Dt
/-! ### comprehensions, calls and statements beside things that change -/
namespace Dt
open PySem PySem.Spec PyProof.Rows L2 Evl Fx
section
variable {F : Fd} {K : PySem.W.Frag} {te ta tb tl : TE} {tr : TA} {tt tu : TT} {g : TG} {σ : L2.St} {H H' : Hp} {P P' R : VP} {d d' d2 : PyData} {ds es : List PyData} {n k ka kb kt ke : Nat} {v : V}
/-- a list of its own that reads as these data -/
def IsL (F : Fd) (K : PySem.W.Frag) (ds : List PyData) : VP := fun v H => ∃ p xs, v = .ref p ∧ ¬ F.T p ∧ H p = some (.lst xs) ∧ DpAll K H xs ds
theorem mono_l (o : F.Ok) (f : flats ds = true) : MonoF F (IsL F K ds) := fun n v H H' g e ⟨p, xs, e1, h1, h2, h3⟩ => ⟨p, xs, e1, h1, e _ _ h2 fun s => h1 (o.sub s), mono_ds o f n _ _ _ g e h3⟩
theorem IsL.dp (h : IsL F K ds v H) : Dp K H v (.list ds) := by
  obtain ⟨p, xs, rfl, _, h2, h3⟩ := h
  exact .lst (sq_of h2) h3
/-- where a value is put, on a heap that stays -/
def Gv (g : TG) (x : V) (σ : L2.St) (H : Hp) (σ2 : L2.St) : Prop := ∀ Q : L2.St → Hp → Prop, Q σ2 H → g x σ H Q
theorem gv_name {i : Nat} {x : V} : Gv (gName i) x σ H (σ.set i (some x)) := fun Q q => q
def outs (f : Nat → Bool) (e : Nat → PyData) (i : Nat) : List PyData := ((List.range i).filter f).map e
theorem outs_yes {f : Nat → Bool} {e : Nat → PyData} {i : Nat} (h : f i = true) : outs f e (i + 1) = outs f e i ++ [e i] := by
  unfold outs
  rw [List.range_succ, List.filter_append, List.map_append, List.filter_cons, if_pos h]
  rfl
theorem outs_no {f : Nat → Bool} {e : Nat → PyData} {i : Nat} (h : f i = false) : outs f e (i + 1) = outs f e i := by
  unfold outs
  rw [List.range_succ, List.filter_append, List.map_append, List.filter_cons, if_neg (by rw [h]; exact Bool.false_ne_true)]
  simp
theorem outs_len {f : Nat → Bool} {e : Nat → PyData} {i : Nat} : (outs f e i).length ≤ i := by
  unfold outs
  rw [List.length_map]
  have h := List.length_filter_le f (List.range i)
  rwa [List.length_range] at h
theorem outs_flat {f : Nat → Bool} {e : Nat → PyData} {i m : Nat} (h : ∀ j, j < m → f j = true → flat (e j) = true) (hi : i ≤ m) : flats (outs f e i) = true := flats_all.mpr fun d hd => by
  unfold outs at hd
  obtain ⟨j, hj, rfl⟩ := List.mem_map.mp hd
  have q := List.mem_filter.mp hj
  exact h j (by have := List.mem_range.mp q.1; omega) q.2
theorem outs_all {e : Nat → PyData} {i : Nat} : outs (fun _ => true) e i = (List.range i).map e := by
  unfold outs
  rw [List.filter_eq_self.mpr fun _ _ => rfl]
/-- within a comprehension -/
def Cd (F : Fd) (K : PySem.W.Frag) (H1 : Hp) (Dl : Addr) (n0 k : Nat) (f : Nat → Bool) (e : Nat → PyData) (i : Nat) (H' : Hp) : Prop :=
  Kx F.S H1 H' ∧ F.G (n0 + i * k) H' ∧ ∃ vs, H' Dl = some (.lst vs) ∧ DpAll K H' vs (outs f e i)
theorem cd_turn (o : F.Ok) {H1 H' : Hp} {Dl : Addr} {n0 m i : Nat} {f : Nat → Bool} {e : Nat → PyData} {σ2 : L2.St} (g1 : F.G n0 H1) (hD : H1 Dl = none) (p : Cd F K H1 Dl n0 (kt + ke) f e i H') (hi : i < m) (hm : m ≤ 40000) (hN : n0 + m * (kt + ke) ≤ F.N)
    (fl : ∀ j, j < m → f j = true → flat (e j) = true) (ht : EvRT F tt σ2 H' kt (f i)) (he : f i = true → EvR F te σ2 H' ke (IsD K (e i))) :
    tt σ2 H' fun b H3 => if b = true then te σ2 H3 fun y H4 => ∃ acc, H4 Dl = some (.lst acc) ∧ acc.length < sizeLine ∧ Cd F K H1 Dl n0 (kt + ke) f e (i + 1) (upd H4 Dl (.lst (acc ++ [y]))) else Cd F K H1 Dl n0 (kt + ke) f e (i + 1) H3 := by
  obtain ⟨p1, p2, vs, p3, p4⟩ := p
  have nS : ¬ F.S Dl := fun s => o.new g1 hD (o.sub s)
  have hk : n0 + (i + 1) * (kt + ke) = n0 + i * (kt + ke) + kt + ke := by rw [Nat.succ_mul]; omega
  have hb : n0 + i * (kt + ke) + (kt + ke) ≤ F.N := by
    have : (i + 1) * (kt + ke) ≤ m * (kt + ke) := Nat.mul_le_mul_right _ hi
    rw [Nat.succ_mul] at this
    omega
  have fo : flats (outs f e i) = true := outs_flat fl (by omega)
  refine ht _ H' (by omega) p2 Kx.refl _ fun H3 e3 g3 => ?_
  cases hf : f i with
  | true =>
    show te σ2 H3 fun y H4 => _
    refine he hf _ H3 (by omega) g3 e3 _ fun y H4 e4 g4 hy => ⟨vs, e4 _ _ (e3 _ _ p3 nS) nS, sz_lt (by rw [dps_len p4]; have := outs_len (f := f) (e := e) (i := i); omega), (p1.trans (e3.trans e4)).mut hD, ?_, vs ++ [y], upd_same, ?_⟩
    · rw [hk]
      exact o.put g1 hD g4
    · rw [outs_yes hf]
      have h4 : DpAll K H4 vs (outs f e i) := mono_ds o fo _ _ _ _ g3 e4 (mono_ds o fo _ _ _ _ p2 e3 p4)
      have kt' : KT K H4 (upd H4 Dl (.lst (vs ++ [y]))) := fun a xs h => by
        have hne : ∀ u, H4 a = some u → (∀ ys, u ≠ .lst ys) → a ≠ Dl := fun u q z => by
          rintro rfl
          rw [e4 _ _ (e3 _ _ p3 nS) nS] at q
          cases q
          exact z _ rfl
        rcases h with (h | ⟨u, h⟩) | h
        · exact .inl (.inl (by rw [upd_ne (hne _ h fun _ z => by cases z)]; exact h))
        · exact .inl (.inr ⟨u, by rw [upd_ne (hne _ h fun _ z => by cases z)]; exact h⟩)
        · exact .inr h
      exact dps_snoc (dps_kt kt' _ _ fo h4) (dp_kt kt' _ _ (fl i hi hf) hy)
  | false =>
    show Cd F K H1 Dl n0 (kt + ke) f e (i + 1) H3
    refine ⟨p1.trans e3, by rw [hk]; exact o.up g3 (by omega), vs, e3 _ _ p3 nS, ?_⟩
    rw [outs_no hf]
    exact mono_ds o fo _ _ _ _ p2 e3 p4
theorem kt_new {H : Hp} {p : Addr} {u : HO} (h : H p = none) : KT K H (upd H p u) := fun a xs q => ex_t (Ex.new h) q
/-- [e for .. in xs if ..], xs a list -/
theorem r_lcL (o : F.Ok) {vs : List Nat} (f : Nat → Bool) (e : Nat → PyData) (h : EvR F tl σ H k (IsL F K ds)) (fd : flats ds = true) (hm : ds.length ≤ 40000) (fl : ∀ j, j < ds.length → f j = true → flat (e j) = true)
    (ht : ∀ i x d n H', ds[i]? = some d → Dp K H' x d → F.G n H' → Kx F.S H H' → ∃ σ2, Gv g x (wipe σ vs) H' σ2 ∧ wipe σ2 vs = wipe σ vs ∧ EvRT F tt σ2 H' kt (f i) ∧ (f i = true → EvR F te σ2 H' ke (IsD K (e i)))) :
    EvR F (tLc (iList K tl) g tt te vs) σ H (k + ds.length * (kt + ke)) (IsL F K (outs f e ds.length)) := fun n H0 hn g0 e0 Q q => h n H0 (by omega) g0 e0 _ fun v H1 e1 g1 ⟨a, xs, ev, hT, ha, hx⟩ => by
  subst ev
  have hl := dps_len hx
  have nS : ¬ F.S a := fun s => hT (o.sub s)
  refine ⟨a, rfl, ⟨xs, sq_of ha⟩, fun Dl hD => lc_list (xs := xs) (Cd F K H1 Dl (n + k) (kt + ke) f e) ?_ (fun i H' _ p => sq_of (p.1 a _ ha nS)) (fun i x H' hi p => ?_) fun H' p => ?_⟩
  · exact ⟨Kx.ex (Ex.new hD), by rw [Nat.zero_mul]; exact o.put g1 hD g1, [], upd_same, .nil⟩
  · have hlt := (List.getElem?_eq_some_iff.mp hi).1
    have hdi : ds[i]? = some ds[i] := List.getElem?_eq_getElem (by omega)
    obtain ⟨u, hu, hdu⟩ := dps_get (mono_ds o fd _ _ _ _ g1 p.1 hx) hdi
    rw [hi] at hu
    cases hu
    obtain ⟨σ2, q1, q2, q3, q4⟩ := ht i x _ _ H' hdi hdu p.2.1 (e0.trans (e1.trans p.1))
    exact q1 _ ⟨q2, cd_turn o g1 hD p (by omega) hm (by rw [Nat.add_assoc]; exact hn) fl q3 q4⟩
  · rw [hl] at p
    obtain ⟨p1, p2, ws, p3, p4⟩ := p
    exact q (.ref Dl) H' (e1.trans p1) (by rw [← Nat.add_assoc]; exact p2) ⟨Dl, ws, rfl, o.new g1 hD, p3, p4⟩
/-- .. xs a tuple -/
theorem r_lcT (o : F.Ok) {vs : List Nat} (f : Nat → Bool) (e : Nat → PyData) (h : EvR F tl σ H k (IsD K (.tuple ds))) (fd : flats ds = true) (hm : ds.length ≤ 40000) (fl : ∀ j, j < ds.length → f j = true → flat (e j) = true)
    (ht : ∀ i x d n H', ds[i]? = some d → Dp K H' x d → F.G n H' → Kx F.S H H' → ∃ σ2, Gv g x (wipe σ vs) H' σ2 ∧ wipe σ2 vs = wipe σ vs ∧ EvRT F tt σ2 H' kt (f i) ∧ (f i = true → EvR F te σ2 H' ke (IsD K (e i)))) :
    EvR F (tLc (iTup K tl) g tt te vs) σ H (k + ds.length * (kt + ke)) (IsL F K (outs f e ds.length)) := fun n H0 hn g0 e0 Q q => h n H0 (by omega) g0 e0 _ fun v H1 e1 g1 hd => by
  cases hd with
  | @tup a xs _ ha hx =>
  have hl := dps_len hx
  refine ⟨a, rfl, ⟨xs, ha⟩, fun Dl hD => lc_tup (xs := xs) (Cd F K H1 Dl (n + k) (kt + ke) f e) ?_ (fun i H' _ p => o.kt g1 p.1 _ _ ha) (fun i x H' hi p => ?_) fun H' p => ?_⟩
  · exact ⟨Kx.ex (Ex.new hD), by rw [Nat.zero_mul]; exact o.put g1 hD g1, [], upd_same, .nil⟩
  · have hlt := (List.getElem?_eq_some_iff.mp hi).1
    have hdi : ds[i]? = some ds[i] := List.getElem?_eq_getElem (by omega)
    obtain ⟨u, hu, hdu⟩ := dps_get (mono_ds o fd _ _ _ _ g1 p.1 hx) hdi
    rw [hi] at hu
    cases hu
    obtain ⟨σ2, q1, q2, q3, q4⟩ := ht i x _ _ H' hdi hdu p.2.1 (e0.trans (e1.trans p.1))
    exact q1 _ ⟨q2, cd_turn o g1 hD p (by omega) hm (by rw [Nat.add_assoc]; exact hn) fl q3 q4⟩
  · rw [hl] at p
    obtain ⟨p1, p2, ws, p3, p4⟩ := p
    exact q (.ref Dl) H' (e1.trans p1) (by rw [← Nat.add_assoc]; exact p2) ⟨Dl, ws, rfl, o.new g1 hD, p3, p4⟩
/-- .. over range(m) -/
theorem r_lcR (o : F.Ok) {vs : List Nat} {m : Nat} (f : Nat → Bool) (e : Nat → PyData) (h : EvRA F tr σ H k (fun us _ => us = [.int (m : Int)])) (hm : m ≤ 40000) (fl : ∀ j, j < m → f j = true → flat (e j) = true)
    (ht : ∀ i n H', i < m → F.G n H' → Kx F.S H H' → ∃ σ2, Gv g (.int (i : Int)) (wipe σ vs) H' σ2 ∧ wipe σ2 vs = wipe σ vs ∧ EvRT F tt σ2 H' kt (f i) ∧ (f i = true → EvR F te σ2 H' ke (IsD K (e i)))) :
    EvR F (tLc (iRng1 tr) g tt te vs) σ H (k + m * (kt + ke)) (IsL F K (outs f e m)) := fun n H0 hn g0 e0 Q q => h n H0 (by omega) g0 e0 _ fun us H1 e1 g1 hd => by
  subst hd
  refine ⟨(m : Int), rfl, by omega, by omega, fun Dl hD => lc_range (lo := 0) (n := (m : Int).toNat) (Cd F K H1 Dl (n + k) (kt + ke) f e) ?_ (fun i H' hi p => ?_) fun H' p => ?_⟩
  · exact ⟨Kx.ex (Ex.new hD), by rw [Nat.zero_mul]; exact o.put g1 hD g1, [], upd_same, .nil⟩
  · have him : i < m := by omega
    have e00 : (0 : Int) + (i : Int) = (i : Int) := Int.zero_add _
    obtain ⟨σ2, q1, q2, q3, q4⟩ := ht i _ H' him p.2.1 (e0.trans (e1.trans p.1))
    rw [e00]
    exact q1 _ ⟨q2, cd_turn o g1 hD p him hm (by rw [Nat.add_assoc]; exact hn) fl q3 q4⟩
  · rw [show (m : Int).toNat = m from Int.toNat_natCast m] at p
    obtain ⟨p1, p2, ws, p3, p4⟩ := p
    exact q (.ref Dl) H' (e1.trans p1) (by rw [← Nat.add_assoc]; exact p2) ⟨Dl, ws, rfl, o.new g1 hD, p3, p4⟩
/-- no test -/
theorem rt_yes {b : Bool} (h : b = true) : EvRT F (fun _ H Q => Q true H) σ H 0 b := fun n H1 hn g e Q q => h ▸ q H1 Kx.refl g
/-- tuple(xs), xs a list of its own -/
theorem rd_tupOf (o : F.Ok) (h : EvR F te σ H k (IsL F K ds)) : EvR F (tCB (rTupOf K) (tCons te tNil)) σ H k (IsD K (.tuple ds)) := fun n H1 hn g e Q q => h n H1 hn g e _ fun v H2 e2 g2 ⟨p, xs, ev, hT, ha, hx⟩ => by
  subst ev
  exact ⟨p, xs, rfl, .inl ⟨sq_of ha, fun l hl => q (.ref l) _ (e2.trans (Kx.ex (Ex.new hl))) (o.ex g2 (Ex.new hl)) (.tup (st_of upd_same) (dps_ex (Ex.new hl) _ _ hx))⟩⟩
/-- the promise of a def that changes nothing: of data, data -/
def spD (K : PySem.W.Frag) (R : List PyData → PyData → Prop) : Sp := fun vs H Q _ => ∃ ds d, DpAll K H vs ds ∧ R ds d ∧ ∀ v H', Ex H H' → Dp K H' v d → Q v H'
/-- .. a new list of data -/
def spL (K : PySem.W.Frag) (R : List PyData → List PyData → Prop) : Sp := fun vs H Q _ => ∃ ds es, DpAll K H vs ds ∧ R ds es ∧ ∀ p xs H', H p = none → Ex H H' → H' p = some (.lst xs) → DpAll K H' xs es → Q (.ref p) H'
theorem rd_call {Rl : List PyData → PyData → Prop} {E : XK} (o : F.Ok) (h : EvRA F tr σ H k (fun vs H => DpAll K H vs ds)) (hR : Rl ds d) : EvR F (tCall (spD K Rl) [] E tr) σ H k (IsD K d) := fun n H1 hn g e Q q => h n H1 hn g e _ fun vs H2 e2 g2 p =>
  ⟨ds, d, by rw [List.append_nil]; exact p, hR, fun v H3 e3 hv => q v H3 (e2.trans (Kx.ex e3)) (o.ex g2 e3) hv⟩
theorem rl_call {Rl : List PyData → List PyData → Prop} {E : XK} (o : F.Ok) (h : EvRA F tr σ H k (fun vs H => DpAll K H vs ds)) (hR : Rl ds es) : EvR F (tCall (spL K Rl) [] E tr) σ H k (IsL F K es) := fun n H1 hn g e Q q => h n H1 hn g e _ fun vs H2 e2 g2 p =>
  ⟨ds, es, by rw [List.append_nil]; exact p, hR, fun a xs H3 ha e3 hv hx => q (.ref a) H3 (e2.trans (Kx.ex e3)) (o.ex g2 e3) ⟨a, xs, rfl, o.new g2 ha, hv, hx⟩⟩
end
end Dt
/-! ### sorted of data, a tuple turned round, a list extended by a tuple -/
namespace HT
open PySem PySem.Calls PyProof.Rows
section
variable {prog : Program} {w : World} {A : Around} {E : Value → Shared → Prop} {s : Shared}
theorem adjust_back (n : Nat) : Builtin.Slice.sliceAdjust none none (-1) (n : Int) = ((n : Int) - 1, -1) := rfl
theorem places_back (n : Nat) : Builtin.Slice.slicePlaces ((n : Int) - 1) (-1) (-1) = n := by
  unfold Builtin.Slice.slicePlaces
  rw [if_neg (by decide)]
  by_cases h : (n : Int) - 1 > -1
  · rw [if_pos h]
    have : ((n : Int) - 1 - -1 - 1) / -(-1) = (n : Int) - 1 := by rw [show -(-1 : Int) = 1 from rfl, Int.ediv_one]; omega
    rw [this]
    omega
  · rw [if_neg h]
    omega
theorem applied_back {sl : Addr} {vl vu vs : Value} {n : Nat} {Q : Int × Int × Nat → Shared → Prop} (hs : s.heap.IsSliceOf sl vl vu vs) (pl : IsPart vl none) (pu : IsPart vu none) (ps : IsPart vs (some (-1)))
    (h : Q ((n : Int) - 1, -1, n) s) : wpAny (model prog w) A (Builtin.Slice.sliceApplied (.ref sl) (pure (n : Int))) Q E s := by
  obtain ⟨os, hos, hcs, hds⟩ := id hs
  unfold Builtin.Slice.sliceApplied Builtin.Slice.sliceFields
  refine wpAny_bind (wpAny_bind (wpAny_field hos hds (x := vl) rfl (wpAny_bind (wpAny_field hos hds (x := vu) rfl (wpAny_bind (wpAny_field hos hds (x := vs) rfl (wpAny_pure ?_)))))))
  refine wpAny_bind (slicePart_ ps ?_)
  show wpAny _ _ (if ((-1 : Int) == 0) = true then _ else _) _ _ s
  rw [if_neg (by decide)]
  refine wpAny_bind (slicePart_ pl (wpAny_bind (slicePart_ pu (wpAny_bind (wpAny_pure ?_)))))
  show wpAny _ _ (match Builtin.Slice.sliceAdjust none none (-1) (n : Int) with | (lo, hi) => pure (lo, (-1 : Int), Builtin.Slice.slicePlaces lo hi (-1))) _ _ s
  rw [adjust_back]
  show wpAny _ _ (pure ((n : Int) - 1, (-1 : Int), Builtin.Slice.slicePlaces ((n : Int) - 1) (-1) (-1))) _ _ s
  rw [places_back]
  exact wpAny_pure h
theorem fm_congr {α β : Type} {f g : α → Option β} : ∀ {l : List α}, (∀ m ∈ l, f m = g m) → l.filterMap f = l.filterMap g
  | [], _ => rfl
  | a :: l, h => by
    rw [List.filterMap_cons, List.filterMap_cons, h a (List.mem_cons_self ..), fm_congr fun m hm => h m (List.mem_cons_of_mem _ hm)]
theorem pick_back (xs : Array Value) : ((List.range xs.size).filterMap fun (m : Nat) => xs[((xs.size : Int) - 1 + (m : Int) * -1).toNat]?) = xs.toList.reverse := by
  have e : ∀ m ∈ List.range xs.size, xs[((xs.size : Int) - 1 + (m : Int) * -1).toNat]? = xs.toList.reverse[m]? := fun m hm => by
    have hm' := List.mem_range.mp hm
    have : ((xs.size : Int) - 1 + (m : Int) * -1).toNat = xs.toList.length - 1 - m := by rw [Array.length_toList]; omega
    rw [this, List.getElem?_reverse (by rw [Array.length_toList]; exact hm'), Array.getElem?_toList]
  rw [fm_congr e]
  have hl : xs.size = xs.toList.reverse.length := by rw [List.length_reverse, Array.length_toList]
  rw [hl]
  generalize xs.toList.reverse = l
  clear e hl
  induction l with
  | nil => rfl
  | cons a l ih =>
    rw [List.length_cons, List.range_succ_eq_map, List.filterMap_cons, List.filterMap_map]
    show a :: _ = _
    congr 1
theorem getItem_tuple_back {t sl : Addr} {items : Array Value} {vl vu vs : Value} {Q : Value → Shared → Prop} (ht : IsTup s.heap t items) (hs : s.heap.IsSliceOf sl vl vu vs) (pl : IsPart vl none) (pu : IsPart vu none) (ps : IsPart vs (some (-1)))
    (h : Q (.ref s.heap.objs.size) { s with heap := s.heap.push { cls := .type "tuple", data := .seq items.toList.reverse.toArray } }) (hsz : items.size ≤ sizeLine) : wpAny (model prog w) A (getItem (.ref t) (.ref sl)) Q E s := by
  have hz : sizeOk (.seq items.toList.reverse.toArray) := by
    show items.toList.reverse.toArray.size ≤ sizeLine
    rw [List.size_toArray, List.length_reverse, Array.length_toList]
    exact hsz
  obtain ⟨os, hos, hcs, hds⟩ := id hs
  have hTs : s.TypeIs (.ref sl) "slice" := ⟨os, hos, hcs⟩
  unfold getItem
  try with_reducible refine wpAny_holding ?_
  first | refine wpAny_bind (wpAny_pure ?_) | skip
  refine wpAny_bind (wpAny_sequenceKey ht.typeIs (by decide) ?_)
  refine wpAny_bind (wpAny_callSpecial?_slot (name := Str.ofString "__getitem__") ht.typeIs PyProof.Rows.slot_tuple_getitem
    (wpAny_call_entry PyProof.Rows.slot_tuple_getitem ht.typeIs entry_tuple_getitem ?_ (args_tuple_getitem _ _)))
  show wpAny _ _ (Builtin.Tuple.tupleItemsOf (.ref t) >>= _) _ _ s
  refine wpAny_bind (tupleItemsOf_ ht ?_)
  refine wpAny_bind (wpAny_typeOf hTs ?_)
  rw [if_pos (by decide)]
  refine wpAny_bind (applied_back hs pl pu ps ?_)
  have hno : ¬ ((((items.size : Int) - 1) == 0 && (-1 : Int) == 1 && items.size == items.size) = true) := by
    intro q
    rw [Bool.and_eq_true, Bool.and_eq_true] at q
    exact absurd q.1.2 (by decide)
  show wpAny _ _ (if (((items.size : Int) - 1) == 0 && (-1 : Int) == 1 && items.size == items.size) = true then _ else _) _ _ s
  rw [if_neg hno, pick_back]
  first
    | exact wpAny_bind (m := Builtin.Tuple.tupleExact _) (wpAny_newObj_type (wpAny_pure ⟨_, rfl, wpAny_pure h⟩) hz)
    | exact wpAny_bind (m := Builtin.Tuple.tupleExact _) (wpAny_newObj_type (wpAny_bind (wpAny_pure (wpAny_pure ⟨_, rfl, wpAny_pure h⟩))) hz)
    | exact wpAny_bind (wpAny_bind (m := Builtin.Tuple.tupleExact _) (wpAny_newObj_type (wpAny_pure (wpAny_pure ⟨_, rfl, wpAny_pure h⟩)) hz))
    | exact wpAny_bind (wpAny_bind (m := Builtin.Tuple.tupleExact _) (wpAny_newObj_type (wpAny_pure ⟨_, rfl, wpAny_pure h⟩) hz))
end
end HT
namespace L2
open PySem PySem.Spec PyProof.Rows
section
variable {X : Cx}
/-- t[::-1] -/
def tRevT (K : PySem.W.Frag) (te : TE) : TE := fun σ H Q => te σ H fun x H1 => ∃ a xs, x = .ref a ∧ SqT K H1 a xs ∧ ∀ p, H1 p = none → Q (.ref p) (upd H1 p (.tup xs.reverse))
theorem pe_revT {e : Expr} {te : TE} {k : Nat} {p1 p2 p3 pos : Pos} (he : PE X e te) : PE X (.Subscript e (.Slice none none (some (.UnaryOp .USub (.Constant (.int 1) k p1) p2)) p3) pos) (tRevT X.K te) := by
  refine ⟨fun pins s σ H Q I h => ?_⟩
  refine Subscript_ (thn (he.run pins s σ H _ I h) fun v s1 ⟨x, H1, I1, r1, q1⟩ => ?_)
  obtain ⟨a, xs, ex, hx, q⟩ := q1
  subst ex
  cases r1
  have hst : PO X (some (.UnaryOp .USub (.Constant (.int 1) k p1) p2)) (tPart (tUn (rU fun i => .int (-i)) (tC (.int 1)))) := po_some (pe_un un_neg pe_int)
  refine wpAny_Slice (thn (po_none.run pins s1 σ H1 (fun o H2 => o = none ∧ H2 = H1) I1 ⟨rfl, rfl⟩) fun vl s2 ⟨l, H2, I2, pl, el, e2⟩ => ?_)
  subst el e2
  refine thn (po_none.run pins s2 σ H2 (fun o H3 => o = none ∧ H3 = H2) I2 ⟨rfl, rfl⟩) fun vu s3 ⟨u, H3, I3, pu, eu, e3⟩ => ?_
  subst eu e3
  refine thn (hst.run pins s3 σ H3 (fun o H4 => o = some (-1) ∧ H4 = H3) I3 ⟨1, rfl, -1, rfl, rfl, rfl⟩) fun vs s4 ⟨o, H4, I4, ps, eo, e4⟩ => ?_
  subst eo e4
  have I5 : Inv X pins σ H4 { s4 with heap := s4.heap.push { cls := .type "slice", data := .fields #[vl, vu, vs] } } := I4.kept (t' := s4.toks) fun b ob q => Heap.get?_push_of_some _ q
  obtain ⟨its, r, ht, hz⟩ := I5.tuple hx
  have hlen := r.length
  show wpAny (model X.prog X.w) X.A (subscriptTail e (.Slice none none (some (.UnaryOp .USub (.Constant (.int 1) k p1) p2)) p3) (.ref a) (.ref s4.heap.objs.size)) (EP X pins σ Q) X.xe { s4 with heap := s4.heap.push { cls := .type "slice", data := .fields #[vl, vu, vs] } }
  refine tail_any (ops := [.ref a, .ref s4.heap.objs.size]) ht.typeIs (PyProof.Rows.slot_tuple_getitem.lookup) ?_ (by with_unfolding_all rfl)
  refine HT.getItem_tuple_back ht (Heap.IsSliceOf.new _ vl vu vs) pl pu ps ?_ (by rw [List.size_toArray]; omega)
  refine ⟨.ref _, _, I5.laid (t' := s4.toks) (o := .tup xs.reverse) (fun b ob q => Heap.get?_push_of_some _ q) (Nat.le_refl _) ?_, rfl, q _ (I5.hok.fresh (Nat.le_refl _))⟩
  exact ⟨by rw [List.length_reverse]; exact hz, its.reverse, r.reverse, ⟨_, Heap.get?_push_size _ rfl, rfl, 0, rfl⟩⟩
/-- sorted(xs): data that are alike -/
def rSortD (K : PySem.W.Frag) : List V → Hp → VK → Prop := fun us H Q => ∃ a vs ds, us = [.ref a] ∧ SqL K H a vs ∧ DpAll K H vs ds ∧ PySem.W.AllAlike ds ∧ PySem.W.Sortable ds ∧ (∀ d ∈ ds, PyData.depth d ≤ 40) ∧
  ∀ l ws, H l = none → DpAll K H ws (ds.mergeSort (PySem.W.dataLe false id)) → Q (.ref l) (upd H l (.lst ws))
theorem each_zip {K : PySem.W.Frag} {H : Hp} : ∀ {us : List Value} {vs : List V} {ds : List PyData}, Vals vs us → DpAll K H vs ds → PySem.W.EachIs (fun u (b : V × PyData) => RelV b.1 u ∧ Dp K H b.1 b.2) us (vs.zip ds)
  | _, _, _, .nil, .nil => .nil
  | _, _, _, .cons r rs, .cons h hs => .cons ⟨r, h⟩ (each_zip rs hs)
theorem zip_snd {K : PySem.W.Frag} {H : Hp} : ∀ {vs : List V} {ds : List PyData}, DpAll K H vs ds → (vs.zip ds).map Prod.snd = ds
  | _, _, .nil => rfl
  | _, _, .cons _ hs => by rw [List.zip_cons_cons, List.map_cons, zip_snd hs]
theorem each_back {K : PySem.W.Frag} {H : Hp} : ∀ {us : List Value} {bs : List (V × PyData)}, PySem.W.EachIs (fun u (b : V × PyData) => RelV b.1 u ∧ Dp K H b.1 b.2) us bs → Vals (bs.map Prod.fst) us ∧ DpAll K H (bs.map Prod.fst) (bs.map Prod.snd)
  | _, _, .nil => ⟨.nil, .nil⟩
  | _, _, .cons h t => ⟨.cons h.1 (each_back t).1, .cons h.2 (each_back t).2⟩
theorem cr_sortedD (hu : X.A.units + 64 < cLine) : CallR X (.builtin "sorted") (rSortD X.K) := by
  intro pins s σ H vs us Q I r h
  obtain ⟨a, xs, ds, rfl, hs, hd, hal, hk, hdp, q⟩ := h
  obtain ⟨its, rv, hl, hz⟩ := I.list hs
  rw [Vals.ref1 r]
  have e := each_zip rv hd
  have ez := zip_snd hd
  have er : PySem.W.EachIs (fun v (b : V × PyData) => ∃ as, Reads s.heap v b.2 as) its (xs.zip ds) := e.mono fun u b ⟨h1, h2⟩ => Dp.reads I b.2 b.1 u h2 h1
  have len : (xs.zip ds).length = xs.length := by
    have := congrArg List.length ez
    rw [List.length_map] at this
    rw [this]
    have l2 := rv.length
    have l3 := e.length
    omega
  refine PySem.W.sorted_data (enc := Prod.snd) hl.isList e er (by rw [ez]; exact hal) (by rw [ez]; exact hk) (by rw [len]; exact hz) (fun b hb => ?_) fun out h1 h2 => ?_
  · have : b.2 ∈ ds := by rw [← ez]; exact List.mem_map.mpr ⟨b, hb, rfl⟩
    have := hdp _ this
    omega
  · obtain ⟨ep, he'⟩ := PyProof.Rows.sortedAll_at s.heap its out.toArray
    obtain ⟨b1, b2⟩ := each_back h2
    have hm : ((xs.zip ds).mergeSort (PySem.W.dataLe false Prod.snd)).map Prod.snd = ds.mergeSort (PySem.W.dataLe false id) := by
      exact (List.map_mergeSort (r := PySem.W.dataLe false Prod.snd) (s := PySem.W.dataLe false id) (f := Prod.snd) (l := xs.zip ds) (fun _ _ _ _ => rfl)).trans (by rw [ez])
    rw [hm] at b2
    have hlen : (((xs.zip ds).mergeSort (PySem.W.dataLe false Prod.snd)).map Prod.fst).length ≤ sizeLine := by rw [List.length_map, List.length_mergeSort, len]; exact hz
    exact ⟨.ref _, upd H (s.heap.objs.size + 1) (.lst _), I.laid (t' := s.toks) (fun _ _ => PyProof.Rows.sortedAll_old) (Nat.le_succ _) ⟨hlen, out, ep, b1, he'⟩, rfl, q _ _ (I.hok.fresh (Nat.le_succ _)) b2⟩
end
end L2
/-! ### sorted of pieces: tuples that begin with a word; two are alike, or their words differ -/
namespace So
open PySem PySem.W PySem.Calls PyProof.Rows
/-- they begin with words that differ -/
def HeadsNe (d d' : PyData) : Prop := ∃ (a b : PySem.Str) (r r' : List PyData), d = .tuple (.str a :: r) ∧ d' = .tuple (.str b :: r') ∧ a ≠ b
def Worded (d : PyData) : Prop := ∃ (a : PySem.Str) (r : List PyData), d = .tuple (.str a :: r)
structure Near (ds : List PyData) : Prop where
  word : ∀ d ∈ ds, Worded d
  two : ∀ d ∈ ds, ∀ d' ∈ ds, alike d d' = true ∨ HeadsNe d d'
section
variable {h : Heap} {ds : List PyData} {v : Value} {d d' : PyData} {as as' : List Addr}
theorem heads_not (r : Reads h v d as) (r' : Reads h v d' as') (n : HeadsNe d d') : False := by
  obtain ⟨a, b, q, q', rfl, rfl, hne⟩ := n
  cases r with
  | @tuple l o xs n1 _ _ h1 h2 h3 h4 =>
    cases r' with
    | @tuple _ o' xs' n2 _ _ k1 k2 k3 k4 =>
      have eo : o = o' := Option.some.inj (h1.symm.trans k1)
      subst eo
      have ex : Data.seq xs n1 = Data.seq xs' n2 := h3.symm.trans k3
      cases ex
      generalize xs.toList = us at h4 k4
      cases h4 with
      | cons g1 _ =>
        cases k4 with
        | cons g2 _ =>
          cases g1
          cases g2
          exact hne rfl
theorem near_one (N : Near ds) (hd : d ∈ ds) (hd' : d' ∈ ds) (r : Reads h v d as) (r' : Reads h v d' as') : d = d' := by
  rcases N.two d hd d' hd' with q | q
  · exact alike_unique _ _ _ _ _ q r r'
  · exact (heads_not r r' q).elim
theorem key_of (N : Near ds) (hd : d ∈ ds) (r : Reads h v d as) : (dataKind h ds).keyOf v = some (keyToks d) := by
  have ex : ∃ z, z ∈ ds ∧ ∃ zs, Reads h v z zs := ⟨d, hd, as, r⟩
  obtain ⟨m, zs, rz⟩ := ex.choose_spec
  have := near_one N m hd rz r
  show (open Classical in if q : ∃ d, d ∈ ds ∧ ∃ as, Reads h v d as then some (keyToks q.choose) else none) = _
  rw [dif_pos ex, this]
end
theorem toks_heads {a b : PySem.Str} {r r' : List PyData} (hne : a ≠ b) : dataLt (.tuple (.str a :: r)) (.tuple (.str b :: r')) = dataLt (.str a) (.str b) := by
  rw [dataLt_tuple]
  exact dataLt_all_no rfl (by rw [PyData.eqv]; exact beq_false_of_ne hne)
section
variable {prog : Program} {w : World} {A : Around} {s : Shared}
theorem lex_heads {b fin : Bool} {Q : Bool → Shared → Prop} {x y : PySem.Str} {xs ys : List PyData} {vs ws : List Value} {as bs : List Addr} (hne : x ≠ y) (ra : ReadsAll s.heap vs (.str x :: xs) as) (rb : ReadsAll s.heap ws (.str y :: ys) bs) (hu : A.units < cLine)
    (q : Q (dataLt (.str x) (.str y)) s) : KatLex prog w A b fin Q (vs.zip ws) 0 s := by
  cases ra with
  | cons r1 _ =>
    cases rb with
    | cons r2 _ =>
      rw [List.zip_cons_cons]
      have room : A.units + min (PyData.depth (.str x)) (PyData.depth (.str y)) < cLine := by
        show A.units + min 0 0 < cLine
        simpa using hu
      refine kat_cons (eqAt_alike (.str x) (.str y) A s _ _ _ _ r1 r2 rfl room prog w _ _ ?_)
      rw [show PyData.eqv (.str x) (.str y) = false by rw [PyData.eqv]; exact beq_false_of_ne hne]
      exact kat_no (oneLt_alike (fun _ t e => by cases e) r1 r2 rfl (fun e => by cases e) room q)
theorem sorts_near {vs : List Value} {ds : List PyData} (e : EachIs (fun v d => ∃ as, Reads s.heap v d as) vs ds) (N : Near ds) (hu : ∀ d ∈ ds, A.units + d.depth < cLine) : SortsAt prog w A s (dataKind s.heap ds) vs := by
  refine ⟨fun v hv => ?_, tuples' true, fun E x y a b Q ha hb q => ?_, fun h2 E Q hq => ?_⟩
  · obtain ⟨d, hd, as, r⟩ := e.left v hv
    exact ⟨_, key_of N hd r⟩
  · obtain ⟨d, as, hd, ra, rfl⟩ := dataKind_inv ha
    obtain ⟨d', as', hd', rb, rfl⟩ := dataKind_inv hb
    have q' : Q (dataLt d d') s := q
    have u1 := hu d hd
    have u2 := hu d' hd'
    have two := N.two d hd d' hd'
    obtain ⟨x1, r1, rfl⟩ := N.word d hd
    obtain ⟨x2, r2, rfl⟩ := N.word d' hd'
    cases ra with
    | @tuple l o xs n _ _ h1 h2 h3 h4 =>
      cases rb with
      | @tuple l' o' xs' n' _ _ k1 k2 k3 k4 =>
        refine kat_lt h1 h3 k1 k3 ?_
        by_cases hx : x1 = x2
        · subst hx
          have al : alike (.tuple (.str x1 :: r1)) (.tuple (.str x1 :: r2)) = true := by
            rcases two with z | ⟨_, _, _, _, z1, z2, z⟩
            · exact z
            · cases z1
              cases z2
              exact (z rfl).elim
          rw [dataLt_tuple] at q'
          have l1 := SeqAt.ReadsAll.length _ _ _ h4
          have l2 := SeqAt.ReadsAll.length _ _ _ k4
          rw [Array.length_toList] at l1 l2
          have d1 : PyData.depth (.tuple (.str x1 :: r1)) = PyData.depthAll (.str x1 :: r1) + 1 := by rw [PyData.depth]
          refine katLex_alike (.str x1 :: r1) (.str x1 :: r2) 0 _ _ _ _ h4 k4 (by simpa [alike] using al) ?_ (fun _ _ x r t ex et => ?_) (by rw [l1, l2]) q'
          · have := Nat.min_le_left (PyData.depthAll (.str x1 :: r1)) (PyData.depthAll (.str x1 :: r2))
            omega
          · subst et
            cases ex
        · rw [toks_heads hx] at q'
          exact lex_heads hx h4 k4 (by omega) q'
  · cases ds with
    | nil =>
      cases e
      simp at h2
    | cons d₀ ds₀ =>
      obtain ⟨fs, t1, t2, t3⟩ := each_katTups e fun d hd => let ⟨a, r, q⟩ := N.word d hd; ⟨.str a, r, q⟩
      have hT : (Value.type "str" != Value.type "tuple") = true := by decide
      refine kat_kind (T := Value.type "str") t1 (by omega) (fun f hf => ?_) (beq_self_eq_true _) (by rw [hT]; exact hq)
      obtain ⟨x, r, as, m1, m2⟩ := t3 f hf
      obtain ⟨a, r', q⟩ := N.word _ m1
      cases q
      exact looks_reads m2
theorem vals_near {h' : Heap} {β : Type} {R : Value → β → Prop} {f : β → PyData} {vs : List Value} {bs : List β} (e : EachIs R vs bs) (er : EachIs (fun v b => ∃ as, Reads h' v (f b) as) vs bs) (N : Near (bs.map f)) :
    EachIs R (sortVals (dataKind h' (bs.map f)) false vs vs) (bs.mergeSort (dataLe false f)) := by
  have e2 := each_map (R := fun v d => ∃ as, Reads h' v d as) f er
  exact sortVals_each (κ := dataKind h' (bs.map f)) (fun b => keyToks (f b)) e (each_of_map f ((each_mem e2).mono fun v d ⟨⟨as, r⟩, hd⟩ => key_of N hd r))
end
end So
namespace L2
open PySem PySem.Spec PyProof.Rows
section
variable {X : Cx}
/-- sorted(xs), xs as in So.Near -/
def rSortN (K : PySem.W.Frag) : List V → Hp → VK → Prop := fun us H Q => ∃ (a : Addr) (xs : List V) (ds : List PyData), us = [.ref a] ∧ SqL K H a xs ∧ DpAll K H xs ds ∧ So.Near ds ∧ (∀ d ∈ ds, PyData.depth d ≤ 40) ∧
  ∀ l ws, H l = none → DpAll K H ws (ds.mergeSort (PySem.W.dataLe false id)) → Q (.ref l) (upd H l (.lst ws))
theorem cr_sortedN (hu : X.A.units + 64 < cLine) : CallR X (.builtin "sorted") (rSortN X.K) := by
  intro pins s σ H vs us Q I r h
  obtain ⟨a, xs, ds, rfl, hs, hd, hN, hdp, q⟩ := h
  obtain ⟨its, rv, hl, hz⟩ := I.list hs
  rw [Vals.ref1 r]
  have e := each_zip rv hd
  have ez := zip_snd hd
  have lenI := rv.length
  have lenZ := e.length
  have pre : ∀ b o, s.heap.get? b = some o → (PySem.W.sortingHeap (PySem.W.copyHeap s.heap its) (s.heap.objs.size + 1) its).get? b = some o := fun b o q => PySem.W.sorting_copy_old q
  have er : PySem.W.EachIs (fun v (b : V × PyData) => ∃ as, Reads (PySem.W.sortingHeap (PySem.W.copyHeap s.heap its) (s.heap.objs.size + 1) its) v b.2 as) its (xs.zip ds) := e.mono fun u b ⟨h1, h2⟩ => by
    obtain ⟨as, z⟩ := Dp.reads I b.2 b.1 u h2 h1
    exact ⟨as, PyProof.Rows.Reads.keeps pre z⟩
  have N' : So.Near ((xs.zip ds).map Prod.snd) := by rw [ez]; exact hN
  have S := So.sorts_near (prog := X.prog) (w := X.w) (A := X.A.in1.in1) (s := { s with heap := PySem.W.sortingHeap (PySem.W.copyHeap s.heap its) (s.heap.objs.size + 1) its }) (PySem.W.each_map (R := fun v d => ∃ as, Reads (PySem.W.sortingHeap (PySem.W.copyHeap s.heap its) (s.heap.objs.size + 1) its) v d as) Prod.snd er) N' (fun d m => by
    rw [ez] at m
    have := hdp d m
    show X.A.units + 2 + _ < _
    omega)
  refine PySem.W.sorted_vals hl.isList S (by omega) ?_
  obtain ⟨ep, he'⟩ := PyProof.Rows.sortedAll_at s.heap its (PySem.W.sortVals (PySem.W.dataKind (PySem.W.sortingHeap (PySem.W.copyHeap s.heap its) (s.heap.objs.size + 1) its) ((xs.zip ds).map Prod.snd)) false its its).toArray
  obtain ⟨b1, b2⟩ := each_back (So.vals_near e er N')
  have hm : ((xs.zip ds).mergeSort (PySem.W.dataLe false Prod.snd)).map Prod.snd = ds.mergeSort (PySem.W.dataLe false id) :=
    (List.map_mergeSort (r := PySem.W.dataLe false Prod.snd) (s := PySem.W.dataLe false id) (f := Prod.snd) (l := xs.zip ds) (fun _ _ _ _ => rfl)).trans (by rw [ez])
  rw [hm] at b2
  have hlen : (((xs.zip ds).mergeSort (PySem.W.dataLe false Prod.snd)).map Prod.fst).length ≤ sizeLine := by rw [List.length_map, List.length_mergeSort]; omega
  exact ⟨.ref _, upd H (s.heap.objs.size + 1) (.lst _), I.laid (t' := s.toks) (fun _ _ => PyProof.Rows.sortedAll_old) (Nat.le_succ _) ⟨hlen, _, ep, b1, he'⟩, rfl, q _ _ (I.hok.fresh (Nat.le_succ _)) b2⟩
end
end L2
/-! ### lists that are filled and emptied; slices of data -/
namespace PySem.AutoSeq1
open PySem
theorem list_extendT (l : Addr) (items : Array Value) (n : Nat) (b : Addr) (items2 : Array Value) (n2 : Nat) (dd : Option Addr) (sl : Array (Option Value)) (hs0 : ¬(!items.isEmpty && Builtin.List.listTooLong (items.size + items2.size)) = true) (hs1 : items.size ≤ sizeLine) (hs2 : items.size + items2.size ≤ sizeLine + 1) :
    Meets (Builtin.«list.extend» ⟨[.ref l, .ref b], []⟩) (fun _ R s => s.heap.get? l = some { cls := .type "list", dict := none, data := .seq items n, slots := #[] } ∧ s.heap.get? b = some { cls := .type "tuple", dict := dd, data := .seq items2 n2, slots := sl } ∧ R (.ok (.ret Value.none)) { s with heap := s.heap.update l (Obj.mapSeq fun x => x ++ items2), toks := s.toks }) :=
  .of_wp fun prog w A R s h => by
    obtain ⟨hp, g, d, tk, os⟩ := s; obtain ⟨hl, hb, h⟩ := h; have f1 := idx_int; have f2 := sub_tuple_tuple; have f3 := sub_list_list; have f4 := sub_tuple_list; have f5 := sub_list_tuple;
    have hz' : (items ++ items2).size ≤ sizeLine + 1 := by rw [Array.size_append]; exact hs2
    wp_walk using (wpAny_updateSeq hl rfl (hz := hs1) (_hz' := hz')), wpAny_loadPart' hl, wpAny_loadPart' hb; exact ⟨_, rfl, h⟩
end PySem.AutoSeq1
namespace L2
open PySem PySem.Spec PyProof.Rows
section
variable {X : Cx}
/-- xs.extend(t), t a tuple -/
def rExtendT (K : PySem.W.Frag) : V → List V → Hp → VK → Prop := fun x vs H Q => ∃ l b xs zs, x = .ref l ∧ vs = [.ref b] ∧ H l = some (.lst xs) ∧ SqT K H b zs ∧ xs.length + zs.length ≤ sizeLine ∧ Q .non (upd H l (.lst (xs ++ zs)))
theorem mt_extendT : MtM X "list.extend" (rExtendT X.K) := by
  intro pins s σ H x vs v us Q I rx rv h
  obtain ⟨l, b, xs, zs, rfl, rfl, hH, hB, hz, q⟩ := h
  cases rx
  obtain ⟨u, rfl, ru⟩ := rv.one
  cases ru
  obtain ⟨z, its, n, r, hl, e⟩ := I.lstM hH
  obtain ⟨its2, r2, ⟨⟨cls2, dd2, data2, sl2⟩, e2, hc2, n2, hd2⟩, hz2⟩ := I.tuple hB
  simp only at hc2 hd2
  subst hc2 hd2
  have hl2 := r2.length
  have hsz : its.toArray.size + its2.toArray.size ≤ sizeLine := by rw [List.size_toArray, List.size_toArray]; omega
  have hlong : ¬ (!its.toArray.isEmpty && Builtin.List.listTooLong (its.toArray.size + its2.toArray.size)) = true := by
    rw [notLongL hsz, Bool.and_false]
    exact Bool.false_ne_true
  refine call_meets F.slot_list_extend ⟨_, e, rfl⟩ F.entry_list_extend (F.args_list_extend_2 _ _)
    (AutoSeq1.list_extendT l its.toArray n b its2.toArray n2 dd2 sl2 hlong (by rw [List.size_toArray]; omega) (by omega)) ⟨e, e2, ?_⟩
  refine ⟨.non, _, I.lset (its' := its ++ its2) hH e (by simp) (r.append r2) ?_, rfl, q⟩
  rw [List.length_append]
  omega
end
end L2
namespace Dt
open PySem PySem.Spec PyProof.Rows L2 Evl Fx
section
variable {F : Fd} {K : PySem.W.Frag} {te ta tb tl : TE} {tr : TA} {tt : TT} {g : TG} {tu tw tz : TS} {σ : L2.St} {H H' : Hp} {P P' R : VP} {d d' d2 : PyData} {ds es : List PyData} {n k ka kb kt ke : Nat} {v : V} {D : Ends}
/-! statements -/
theorem q_asgR {i : Nat} (h : EvR F te σ H k P) (g0 : F.G n H) (hn : n + k ≤ F.N) (kk : ∀ v H1, Kx F.S H H1 → F.G (n + k) H1 → P v H1 → tz D (σ.set i (some v)) H1) : tSeq (tAsg te (gName i)) tz D σ H := h n H hn g0 Kx.refl _ kk
theorem q_asgG (h : EvR F te σ H k P) (g0 : F.G n H) (hn : n + k ≤ F.N) (kk : ∀ v H1, Kx F.S H H1 → F.G (n + k) H1 → P v H1 → g v σ H1 (tz D)) : tSeq (tAsg te g) tz D σ H := h n H hn g0 Kx.refl _ kk
theorem s_retR (h : EvR F te σ H k P) (g0 : F.G n H) (hn : n + k ≤ F.N) (kk : ∀ v H1, Kx F.S H H1 → F.G (n + k) H1 → P v H1 → D.rt v H1) : tRet te D σ H := h n H hn g0 Kx.refl _ kk
theorem s_ifR {b : Bool} (h : EvRT F tt σ H k b) (g0 : F.G n H) (hn : n + k ≤ F.N) (h1 : b = true → ∀ H1, Kx F.S H H1 → F.G (n + k) H1 → tu D σ H1) (h2 : b = false → ∀ H1, Kx F.S H H1 → F.G (n + k) H1 → tw D σ H1) : tIfS tt tu tw D σ H := h n H hn g0 Kx.refl _ fun H1 e1 g1 => by
  cases b with
  | true => exact h1 rfl H1 e1 g1
  | false => exact h2 rfl H1 e1 g1
/-- if ..: return ..; the rest -/
theorem q_whenR {b : Bool} (h : EvRT F tt σ H k b) (g0 : F.G n H) (hn : n + k ≤ F.N) (h1 : b = true → ∀ H1, Kx F.S H H1 → F.G (n + k) H1 → tu { D with nx := tz D } σ H1) (h2 : b = false → ∀ H1, Kx F.S H H1 → F.G (n + k) H1 → tz D σ H1) : tSeq (tIfS tt tu tNext) tz D σ H :=
  s_ifR (D := { D with nx := tz D }) h g0 hn h1 h2
/-- xs.append(e) -/
theorem q_appR {i : Nat} {l : Addr} {xs : List V} (hv : σ[i]? = some (some (.ref l))) (hl : H l = some (.lst xs)) (hT : ¬ F.S l) (h : EvR F te σ H k P) (g0 : F.G n H) (hn : n + k ≤ F.N) (hz : xs.length < 100000)
    (kk : ∀ v H1, Kx F.S H H1 → F.G (n + k) H1 → P v H1 → H1 l = some (.lst xs) → D.nx σ (upd H1 l (.lst (xs ++ [v])))) : tDrop (tBM K "list" rAppend (tVar i) (tCons te tNil)) D σ H :=
  ⟨.ref l, hv, .inl ⟨rfl, xs, sq_of hl⟩, h n H hn g0 Kx.refl _ fun v H1 e1 g1 p => ⟨l, xs, v, rfl, rfl, e1 _ _ hl hT, sz_lt hz, kk v H1 e1 g1 p (e1 _ _ hl hT)⟩⟩
/-- xs.extend(ys) -/
theorem q_extL {i : Nat} {l : Addr} {xs : List V} (hv : σ[i]? = some (some (.ref l))) (hl : H l = some (.lst xs)) (hT : ¬ F.S l) (h : EvR F te σ H k (IsL F K ds)) (g0 : F.G n H) (hn : n + k ≤ F.N) (hz : xs.length + ds.length ≤ 100000)
    (kk : ∀ zs H1, Kx F.S H H1 → F.G (n + k) H1 → DpAll K H1 zs ds → H1 l = some (.lst xs) → D.nx σ (upd H1 l (.lst (xs ++ zs)))) : tDrop (tBM K "list" rExtend (tVar i) (tCons te tNil)) D σ H :=
  ⟨.ref l, hv, .inl ⟨rfl, xs, sq_of hl⟩, h n H hn g0 Kx.refl _ fun v H1 e1 g1 ⟨b, zs, ev, _, hb, hd⟩ => ⟨l, b, xs, zs, rfl, by rw [ev], e1 _ _ hl hT, hb, by rw [dps_len hd]; exact sz_of hz, kk zs H1 e1 g1 hd (e1 _ _ hl hT)⟩⟩
theorem q_extT {i : Nat} {l : Addr} {xs : List V} (hv : σ[i]? = some (some (.ref l))) (hl : H l = some (.lst xs)) (hT : ¬ F.S l) (h : EvR F te σ H k (IsD K (.tuple ds))) (g0 : F.G n H) (hn : n + k ≤ F.N) (hz : xs.length + ds.length ≤ 100000)
    (kk : ∀ zs H1, Kx F.S H H1 → F.G (n + k) H1 → DpAll K H1 zs ds → H1 l = some (.lst xs) → D.nx σ (upd H1 l (.lst (xs ++ zs)))) : tDrop (tBM K "list" (rExtendT K) (tVar i) (tCons te tNil)) D σ H :=
  ⟨.ref l, hv, .inl ⟨rfl, xs, sq_of hl⟩, h n H hn g0 Kx.refl _ fun v H1 e1 g1 hd => by
    cases hd with
    | @tup b zs _ hb hd => exact ⟨l, b, xs, zs, rfl, rfl, e1 _ _ hl hT, hb, by rw [dps_len hd]; exact sz_of hz, kk zs H1 e1 g1 hd (e1 _ _ hl hT)⟩⟩
/-- .. = xs.pop() -/
theorem q_popR {i : Nat} {l : Addr} {xs : List V} {y : V} (hv : σ[i]? = some (some (.ref l))) (hl : H l = some (.lst (xs ++ [y]))) (kk : g y σ (upd H l (.lst xs)) (tz D)) : tSeq (tAsg (tBM0 K "list" rPop (tVar i)) g) tz D σ H :=
  ⟨.ref l, hv, .inl ⟨rfl, _, sq_of hl⟩, l, xs ++ [y], y, rfl, rfl, hl, by simp, by rw [List.dropLast_concat]; exact kk⟩
/-! expressions -/
theorem rd_revT (o : F.Ok) (h : EvR F te σ H k (IsD K (.tuple ds))) : EvR F (tRevT K te) σ H k (IsD K (.tuple ds.reverse)) := fun n H1 hn g e Q q => h n H1 hn g e _ fun v H2 e2 g2 hd => by
  cases hd with
  | @tup a xs _ ha hd => exact ⟨a, xs, rfl, ha, fun p hp => q _ _ (e2.trans (Kx.ex (Ex.new hp))) (o.ex g2 (Ex.new hp)) (.tup (st_of upd_same) (dps_ex (Ex.new hp) _ _ (dps_rev hd)))⟩
theorem rl_revL (o : F.Ok) (h : EvR F te σ H k (IsL F K ds)) : EvR F (tRevL K te) σ H k (IsL F K ds.reverse) := fun n H1 hn g e Q q => h n H1 hn g e _ fun v H2 e2 g2 ⟨a, xs, ev, hT, ha, hd⟩ => by
  subst ev
  exact ⟨a, xs, rfl, sq_of ha, fun p hp => q _ _ (e2.trans (Kx.ex (Ex.new hp))) (o.ex g2 (Ex.new hp)) ⟨p, _, rfl, o.new g2 hp, upd_same, dps_ex (Ex.new hp) _ _ (dps_rev hd)⟩⟩
theorem rl_lst (o : F.Ok) (h : EvRA F tr σ H k (fun vs H => DpAll K H vs ds)) (hl : ds.length ≤ 100000 := by simp) : EvR F (tLst tr) σ H k (IsL F K ds) :=
  fun n H1 hn g e Q q => h n H1 hn g e _ fun vs H2 e2 g2 p => ⟨sz_of (by rw [dps_len p]; exact hl), fun a ha => q (.ref a) _ (e2.trans (Kx.ex (Ex.new ha))) (o.ex g2 (Ex.new ha)) ⟨a, vs, rfl, o.new g2 ha, upd_same, dps_ex (Ex.new ha) _ _ p⟩⟩
theorem rl_sorted (o : F.Ok) (h : EvR F te σ H k (IsL F K ds)) (hal : PySem.W.AllAlike ds) (hk : PySem.W.Sortable ds) (hd : ∀ d ∈ ds, PyData.depth d ≤ 40) : EvR F (tCB (rSortD K) (tCons te tNil)) σ H k (IsL F K (ds.mergeSort (PySem.W.dataLe false id))) := fun n H1 hn g e Q q =>
  h n H1 hn g e _ fun v H2 e2 g2 ⟨a, xs, ev, hT, ha, hx⟩ => ⟨a, xs, ds, by rw [ev], sq_of ha, hx, hal, hk, hd, fun p ws hp hw => q _ _ (e2.trans (Kx.ex (Ex.new hp))) (o.ex g2 (Ex.new hp)) ⟨p, ws, rfl, o.new g2 hp, upd_same, dps_ex (Ex.new hp) _ _ hw⟩⟩
theorem rv_lenT (h : EvR F te σ H k (IsD K (.tuple ds))) : EvR F (tCB (rLenS K) (tCons te tNil)) σ H k (fun x _ => x = .int (ds.length : Int)) := fun n H1 hn g e Q q => h n H1 hn g e _ fun v H2 e2 g2 hd => by
  cases hd with
  | @tup a xs _ ha hd => exact ⟨a, xs, rfl, .inr ha, q _ H2 e2 g2 (by rw [dps_len hd])⟩
theorem rv_lenL (h : EvR F te σ H k (IsL F K ds)) : EvR F (tCB (rLenS K) (tCons te tNil)) σ H k (fun x _ => x = .int (ds.length : Int)) := fun n H1 hn g e Q q => h n H1 hn g e _ fun v H2 e2 g2 ⟨a, xs, ev, hT, ha, hd⟩ => by
  subst ev
  exact ⟨a, xs, rfl, .inl (sq_of ha), q _ H2 e2 g2 (by rw [dps_len hd])⟩
/-- (*t, e) -/
theorem ra_star (o : F.Ok) (h : EvR F te σ H ka (IsD K (.tuple ds))) (fd : flats ds = true) (hr : EvRA F tr σ H kb (fun vs H => DpAll K H vs es)) : EvRA F (StX.tStar K te tr) σ H (ka + kb) (fun vs H => DpAll K H vs (ds ++ es)) :=
  fun n H1 hn g e Q q => h n H1 (by omega) g e _ fun v H2 e2 g2 hd => by
    cases hd with
    | @tup a xs _ ha hd => exact ⟨a, xs, rfl, .inl ha, hr (n + ka) H2 (by omega) g2 (e.trans e2) _ fun vs H3 e3 g3 p' => q _ H3 (e2.trans e3) (by rw [← Nat.add_assoc]; exact g3) (dps_app (mono_ds o fd _ _ _ _ g2 e3 hd) p')⟩
theorem rd_ixL {i : Int} (o : F.Ok) (ha : EvR F ta σ H ka (IsL F K ds)) (fd : flats ds = true) (hb : EvR F tb σ H kb (fun x _ => x = .int i)) (j : Nat) (hj : ixN ds.length i = some j) (hd : ds[j]? = some d) : EvR F (tOp (rIxL K) ta tb) σ H (ka + kb) (IsD K d) :=
  r_op o (mono_l o fd) ha hb fun x y n H1 g e ⟨p, xs, ex, hT, hp, hx⟩ py Q q => by
    subst py ex
    obtain ⟨u, hu, hdu⟩ := dps_get hx hd
    exact ⟨_, _, i, u, rfl, rfl, sq_of hp, by unfold atI; rw [dps_len hx, hj]; exact hu, q u H1 (Ex.refl _) hdu⟩
/-- x in a list -/
theorem rb_inL (o : F.Ok) (ha : EvR F ta σ H ka (IsD K d)) (hb : EvR F tb σ H kb (IsL F K ds)) (f : flat d = true) (sd : SeqAt.shaped d = true) (se : SeqAt.shaped (.list ds) = true) : EvR F (tOp (rInD K) ta tb) σ H (ka + kb) (fun x _ => x = .bl (ds.any fun z => PyData.eqv z d)) :=
  r_op o (mono_d o f) ha hb fun x y n H1 g e px py Q q => ⟨d, ds, px, py.dp, sd, se, q _ H1 (Ex.refl _) rfl⟩
/-- t[lo:hi] -/
theorem rd_slT {tlo thi : TO} {lo hi : Option Int} (o : F.Ok) (h : EvR F te σ H k (IsD K (.tuple ds))) (h1 : ∀ H1, EvO tlo σ H1 lo) (h2 : ∀ H1, EvO thi σ H1 hi) : EvR F (tSl (rSlA K) te tlo thi) σ H k (IsD K (.tuple ((ds.drop (HT.sIx ds.length 0 lo)).take (HT.sIx ds.length ds.length hi - HT.sIx ds.length 0 lo)))) := fun n H1 hn g e Q q => h n H1 hn g e _ fun v H2 e2 g2 hd => by
  cases hd with
  | @tup a xs _ ha hd =>
    have hl := dps_len hd
    refine h1 H2 H2 (Ex.refl _) _ fun H3 e3 => h2 H3 H3 (Ex.refl _) _ fun H4 e4 => ?_
    have e34 := e3.trans e4
    refine ⟨a, xs, rfl, ex_t e34 ha, fun ⟨w1, w2⟩ => ?_, fun hw p hp => ?_⟩
    · refine q _ H4 (e2.trans (Kx.ex e34)) (o.ex g2 e34) ?_
      rw [hl] at w1 w2
      rw [w1, w2, Nat.sub_zero, List.drop_zero, List.take_length]
      exact .tup (ex_t e34 ha) (dps_ex e34 _ _ hd)
    · refine q _ _ (e2.trans (Kx.ex (e34.trans (Ex.new hp)))) (o.ex g2 (e34.trans (Ex.new hp))) (.tup (st_of upd_same) (dps_ex (e34.trans (Ex.new hp)) _ _ ?_))
      unfold cutV
      rw [hl]
      exact dps_take (dps_drop hd)
end
end Dt
namespace Dt
open PySem PySem.Spec PyProof.Rows L2 Evl Fx
section
variable {K : PySem.W.Frag} {H H' H1 : Hp} {p : Addr} {xs ys : List V} {u : HO} {d : PyData} {ds : List PyData} {v : V} {F : Fd}
theorem kt_lst (h : H p = some (.lst xs)) : KT K H (upd H p u) := fun a zs q => by
  have hne : ∀ o, H a = some o → (∀ ys, o ≠ .lst ys) → a ≠ p := fun o q z => by
    rintro rfl
    rw [h] at q
    cases q
    exact z _ rfl
  rcases q with (q | ⟨o, q⟩) | q
  · exact .inl (.inl (by rw [upd_ne (hne _ q fun _ z => by cases z)]; exact q))
  · exact .inl (.inr ⟨o, by rw [upd_ne (hne _ q fun _ z => by cases z)]; exact q⟩)
  · exact .inr q
theorem kt_ex (e : Ex H H') : KT K H H' := fun a xs h => ex_t e h
theorem kt_trans (a : KT K H H1) (b : KT K H1 H') : KT K H H' := fun x ys h => b x ys (a x ys h)
/-- the truth of a name that holds a list -/
def tTru (K : PySem.W.Frag) (i : Nat) : TT := fun σ H Q => tVar i σ H fun x H' => ∃ k, TruV K x H' k ∧ Q k H'
theorem et_truL {σ : L2.St} {i : Nat} (hv : σ[i]? = some (some (.ref p))) (h : H p = some (.lst xs)) : EvT (tTru K i) σ H (!xs.isEmpty) := fun H1 e Q q => ⟨.ref p, hv, _, .inl ⟨xs, sq_of (e _ _ h), rfl⟩, q H1 (Ex.refl H1)⟩
theorem F0.kx (e : Ex H H') : Kx F0.S H H' := Kx.ex e
theorem ne_addr {q : Addr} {o : HO} (h : H p = none) (h' : H q = some o) : q ≠ p := by
  rintro rfl
  rw [h] at h'
  cases h'
/-- list(range(n)) -/
theorem rl_listRg {te : TE} {σ : L2.St} {k m : Nat} (o : F.Ok) (h : EvR F te σ H k (fun x _ => x = .int (m : Int))) (hm : m ≤ 100000) : EvR F (tLstRg (tRg1 te)) σ H k (IsL F K ((List.range m).map fun (i : Nat) => PyData.int (i : Int))) := fun n H1 hn g e Q q => h n H1 hn g e _ fun v H2 e2 g2 ev => by
  refine ⟨(m : Int), ev, RgOk.of_le (by omega) (by omega) (by omega) (by omega), fun p hp => q _ _ (e2.trans (Kx.ex (Ex.new hp))) (o.ex g2 (Ex.new hp)) ⟨p, _, rfl, o.new g2 hp, upd_same, ?_⟩⟩
  unfold rgV
  rw [show ((m : Int) - 0).toNat = m by omega]
  clear hp
  generalize upd H2 p _ = H3
  have go : ∀ l : List Nat, DpAll K H3 (l.map fun (i : Nat) => V.int (0 + (i : Int))) (l.map fun (i : Nat) => PyData.int (i : Int)) := fun l => by
    induction l with
    | nil => exact .nil
    | cons a l ih =>
      refine .cons ?_ ih
      show Dp K H3 (V.int (0 + (a : Int))) (PyData.int (a : Int))
      rw [Int.zero_add]
      exact .int _
  exact go _
theorem rl_var {σ : L2.St} {n i : Nat} (o : F.Ok) (g0 : F.G n H) (h : σ[i]? = some (some v)) (p : IsL F K ds v H) (f : flats ds = true) : EvR F (tVar i) σ H 0 (IsL F K ds) := r_var (mono_l o f) g0 h p
theorem range_getD {α : Type} (z : α) : ∀ l : List α, (List.range l.length).map (fun i => l.getD i z) = l
  | [] => rfl
  | a :: l => by
    rw [List.length_cons, List.range_succ_eq_map, List.map_cons, List.map_map]
    show a :: _ = a :: l
    congr 1
    exact range_getD z l
theorem outs_getD (z : PyData) (l : List PyData) {m : Nat} (h : l.length = m) : outs (fun _ => true) (fun i => l.getD i z) m = l := by
  subst h
  rw [outs_all]
  exact range_getD z l
/-- a list that H0 doesn't know -/
def IsN (H0 : Hp) (F : Fd) (K : PySem.W.Frag) (ds : List PyData) : VP := fun v H => ∃ p xs, v = .ref p ∧ H0 p = none ∧ ¬ F.T p ∧ H p = some (.lst xs) ∧ DpAll K H xs ds
theorem kx_none {n : Nat} {p : Addr} (o : F.Ok) (g : F.G n H1) (e : Kx F.S H H1) (h : H1 p = none) : H p = none := by
  cases q : H p with
  | none => rfl
  | some u =>
    by_cases s : F.S p
    · obtain ⟨w, z, _⟩ := o.at_ g (o.sub s)
      rw [h] at z
      cases z
    · rw [e _ _ q s] at h
      cases h
theorem rn_lst {tr : TA} {σ : L2.St} {k : Nat} (o : F.Ok) (h : EvRA F tr σ H k (fun vs H => DpAll K H vs ds)) (hl : ds.length ≤ 100000 := by simp) : EvR F (tLst tr) σ H k (IsN H F K ds) :=
  fun n H1 hn g e Q q => h n H1 hn g e _ fun vs H2 e2 g2 p => ⟨sz_of (by rw [dps_len p]; exact hl), fun a ha => q (.ref a) _ (e2.trans (Kx.ex (Ex.new ha))) (o.ex g2 (Ex.new ha)) ⟨a, vs, rfl, kx_none o g2 (e.trans e2) ha, o.new g2 ha, upd_same, dps_ex (Ex.new ha) _ _ p⟩⟩
theorem dps_uncons {vs : List V} (h : DpAll K H vs (d :: ds)) : ∃ v r, vs = v :: r ∧ Dp K H v d ∧ DpAll K H r ds := by
  cases h with
  | cons h1 h2 => exact ⟨_, _, rfl, h1, h2⟩
theorem dps_none {vs : List V} (h : DpAll K H vs []) : vs = [] := by
  cases h
  rfl
theorem dp_two {d e : PyData} (h : Dp K H v (.tuple [d, e])) : ∃ a x y, v = .ref a ∧ SqT K H a [x, y] ∧ Dp K H x d ∧ Dp K H y e := by
  cases h with
  | tup h1 h2 =>
    cases h2 with
    | cons p1 q1 =>
      cases q1 with
      | cons p2 q2 =>
        cases q2
        exact ⟨_, _, _, rfl, h1, p1, p2⟩
theorem dp_three {d e c : PyData} (h : Dp K H v (.tuple [d, e, c])) : ∃ a x y z, v = .ref a ∧ SqT K H a [x, y, z] ∧ Dp K H x d ∧ Dp K H y e ∧ Dp K H z c := by
  cases h with
  | tup h1 h2 =>
    cases h2 with
    | cons p1 q1 =>
      cases q1 with
      | cons p2 q2 =>
        cases q2 with
        | cons p3 q3 =>
          cases q3
          exact ⟨_, _, _, _, rfl, h1, p1, p2, p3⟩
end
theorem call_lenS {X : Cx} : CallR X (.builtin "len") (rLenS X.K) := by
  intro pins s σ H xs us Q I r h
  obtain ⟨p, ys, rfl, hs, q⟩ := h
  exact call_len pins s σ H _ us Q I r ⟨.ref p, ys.length, rfl, hs.elim (fun h => .inl ⟨ys, h, rfl⟩) fun h => .inr ⟨ys, h, rfl⟩, q⟩
theorem pa_starK {X : Cx} {K : PySem.W.Frag} {e : Expr} {te : TE} {es : List Expr} {t : TA} {p : Pos} (hK : X.K = K) (he : PE X e te) (hr : PA X es t) (hs : starEach (.Starred e p :: es) X.env = (true, eval e X.env) :: starEach es X.env := by rfl) : PA X (.Starred e p :: es) (StX.tStar K te t) := by
  subst hK
  exact StX.pa_star he hr hs
end Dt
namespace Dt
open PySem PySem.Spec PyProof.Rows L2 Evl Fx
/-- zip of two tuples in a comprehension, the first not longer -/
theorem lc_zipLe {K : PySem.W.Frag} {a b : Addr} {xs ys : List V} {g : TG} {tt : TT} {te : TE} {vs : List Nat} {σ : L2.St} {H1 : Hp} {D : Addr} {Qd : Hp → Prop} (hl : xs.length ≤ ys.length) (Pv : Nat → Hp → Prop) (h0 : Pv 0 (upd H1 D (.lst []))) (hq : ∀ i H, Pv i H → SqT K H a xs ∧ SqT K H b ys)
    (hs : ∀ (i : Nat) (x y : V) (T : Addr) (H : Hp), xs[i]? = some x → ys[i]? = some y → Pv i H → H T = none → g (.ref T) (wipe σ vs) (upd H T (.tup [x, y])) fun σ2 H2 => wipe σ2 vs = wipe σ vs ∧ tt σ2 H2 fun b H3 =>
      if b = true then te σ2 H3 fun y H4 => ∃ acc, H4 D = some (.lst acc) ∧ acc.length < sizeLine ∧ Pv (i + 1) (upd H4 D (.lst (acc ++ [y]))) else Pv (i + 1) H3) (hd : ∀ H, Pv xs.length H → Qd H) :
    ∃ W : Nat → Nat → Hp → Prop, (∃ m, W 0 m (upd H1 D (.lst []))) ∧ ∀ i m H, W i m H →
      ((RZ.ItzT K a b).stop i H ∧ Qd H) ∨ ((RZ.ItzT K a b).go i H ∧ ∃ Nx : Hp → Prop, (∀ H', Nx H' → ∃ m', m' < m ∧ W (i + 1) m' H') ∧ ∀ x H', (RZ.ItzT K a b).yld i H x H' → g x (wipe σ vs) H' fun σ2 H2 => wipe σ2 vs = wipe σ vs ∧ tt σ2 H2 fun b H3 =>
        if b = true then te σ2 H3 fun y H4 => ∃ acc, H4 D = some (.lst acc) ∧ acc.length < sizeLine ∧ Nx (upd H4 D (.lst (acc ++ [y]))) else Nx H3) := by
  refine ⟨fun i m H => m = xs.length - i ∧ i ≤ xs.length ∧ Pv i H, ⟨xs.length, by simp, Nat.zero_le _, h0⟩, ?_⟩
  rintro i m H ⟨rfl, hi, p⟩
  obtain ⟨qx, qy⟩ := hq i H p
  by_cases hlt : i < xs.length
  · have hx : xs[i]? = some xs[i] := List.getElem?_eq_getElem hlt
    have hlt2 : i < ys.length := by omega
    have hy : ys[i]? = some ys[i] := List.getElem?_eq_getElem hlt2
    refine .inr ⟨⟨xs, ys, _, _, qx, qy, hx, hy⟩, Pv (i + 1), fun H' p' => ⟨xs.length - (i + 1), by omega, rfl, hlt, p'⟩, fun v H' y => ?_⟩
    obtain ⟨T, x', y', rfl, hT, rfl, f1, f2⟩ := y
    exact hs i x' y' T H (f1 xs qx) (f2 ys qy) p hT
  · have e : i = xs.length := by omega
    subst e
    exact .inl ⟨⟨xs, ys, qx, qy, Or.inl (Nat.le_refl _)⟩, hd H p⟩
section
variable {F : Fd} {K : PySem.W.Frag} {te ta tb tl : TE} {tr : TA} {tt tu : TT} {g : TG} {σ : L2.St} {H H' H1 : Hp} {d d' : PyData} {ds es : List PyData} {n n0 k ka kb kt ke i : Nat} {v : V} {Dl : Addr} {f : Nat → Bool} {e : Nat → PyData}
theorem Cd.new (o : F.Ok) (p : Cd F K H1 Dl n0 k f e i H') {T : Addr} {u : HO} (h : H' T = none) : Cd F K H1 Dl n0 k f e i (upd H' T u) := by
  obtain ⟨p1, p2, vs, p3, p4⟩ := p
  exact ⟨p1.trans (Kx.ex (Ex.new h)), o.ex p2 (Ex.new h), vs, Ex.new h _ _ p3, dps_ex (Ex.new h) _ _ p4⟩
/-- [e for (..) in zip(t, u) if ..], tuples -/
theorem r_lcZ (o : F.Ok) {vs : List Nat} (f : Nat → Bool) (e : Nat → PyData) (h : EvRA F tr σ H k (fun us H => DpAll K H us [.tuple ds, .tuple es])) (fd : flats ds = true) (fe : flats es = true) (hle : ds.length ≤ es.length) (hm : ds.length ≤ 40000) (fl : ∀ j, j < ds.length → f j = true → flat (e j) = true)
    (ht : ∀ i x y T d d' n H', ds[i]? = some d → es[i]? = some d' → Dp K H' x d → Dp K H' y d' → SqT K H' T [x, y] → F.G n H' → Kx F.S H H' → ∃ σ2, Gv g (.ref T) (wipe σ vs) H' σ2 ∧ wipe σ2 vs = wipe σ vs ∧ EvRT F tt σ2 H' kt (f i) ∧ (f i = true → EvR F te σ2 H' ke (IsD K (e i)))) :
    EvR F (tLc (RZ.iZipA K tr) g tt te vs) σ H (k + ds.length * (kt + ke)) (IsL F K (outs f e ds.length)) := fun n H0 hn g0 e0 Q q => h n H0 (by omega) g0 e0 _ fun us H1 e1 g1 hd => by
  obtain ⟨u1, us, rfl, p1, hd⟩ := dps_uncons hd
  obtain ⟨u2, us, rfl, p2, hd⟩ := dps_uncons hd
  obtain rfl := dps_none hd
  cases p1 with
  | @tup a xs _ ha hx =>
  cases p2 with
  | @tup b ys _ hb hy =>
  have hl := dps_len hx
  have hl2 := dps_len hy
  refine ⟨a, b, xs, ys, rfl, .inr ⟨ha, hb, fun Dl hD => lc_zipLe (xs := xs) (by omega) (Cd F K H1 Dl (n + k) (kt + ke) f e) ?_ (fun i H' p => ⟨o.kt g1 p.1 _ _ ha, o.kt g1 p.1 _ _ hb⟩) (fun i x y T H' hi hj p hT => ?_) fun H' p => ?_⟩⟩
  · exact ⟨Kx.ex (Ex.new hD), by rw [Nat.zero_mul]; exact o.put g1 hD g1, [], upd_same, .nil⟩
  · have hlt := (List.getElem?_eq_some_iff.mp hi).1
    have hdi : ds[i]? = some ds[i] := List.getElem?_eq_getElem (by omega)
    have hei : es[i]? = some es[i] := List.getElem?_eq_getElem (by omega)
    have p' : Cd F K H1 Dl (n + k) (kt + ke) f e i (upd H' T (.tup [x, y])) := p.new o hT
    obtain ⟨u, hu, hdu⟩ := dps_get (mono_ds o fd _ _ _ _ g1 p'.1 hx) hdi
    rw [hi] at hu
    cases hu
    obtain ⟨u, hu, hdu'⟩ := dps_get (mono_ds o fe _ _ _ _ g1 p'.1 hy) hei
    rw [hj] at hu
    cases hu
    obtain ⟨σ2, q1, q2, q3, q4⟩ := ht i x y T _ _ _ _ hdi hei hdu hdu' (st_of upd_same) p'.2.1 (e0.trans (e1.trans p'.1))
    exact q1 _ ⟨q2, cd_turn o g1 hD p' (by omega) hm (by rw [Nat.add_assoc]; exact hn) fl q3 q4⟩
  · rw [hl] at p
    obtain ⟨p1, p2, ws, p3, p4⟩ := p
    exact q (.ref Dl) H' (e1.trans p1) (by rw [← Nat.add_assoc]; exact p2) ⟨Dl, ws, rfl, o.new g1 hD, p3, p4⟩
theorem sIx_0 (n d : Nat) : HT.sIx n d none = d := rfl
theorem sIx_last (n : Nat) : HT.sIx n n (some (-1)) = n - 1 := by
  unfold HT.sIx
  simp
  omega
/-- t[:-1] -/
theorem rd_init {σ : L2.St} (o : F.Ok) (h : EvR F te σ H k (IsD K (.tuple ds))) : EvR F (tSl (rSlA K) te tNoPart (tPart (tUn (rU fun i => .int (-i)) (tC (.int 1))))) σ H k (IsD K (.tuple ds.dropLast)) := by
  have z := rd_slT (lo := none) (hi := some (-1)) o h (fun H1 => eo_none) fun H1 => eo_some (ev_un ev_c ru_neg)
  rw [sIx_0, List.drop_zero, sIx_last, Nat.sub_zero, ← List.dropLast_eq_take] at z
  exact z
/-- for .. in zip(t, u), tuples of one length -/
theorem q_forZ {tb tz : TS} {D : Ends} (o : F.Ok) (h : EvRA F tr σ H k (fun us H => DpAll K H us [.tuple ds, .tuple es])) (g0 : F.G n H) (hn : n + k ≤ F.N) (fd : flats ds = true) (fe : flats es = true) (hl : ds.length = es.length) (Pv : Hp → Nat → L2.St → Hp → Prop)
    (h0 : ∀ H1, Kx F.S H H1 → F.G (n + k) H1 → Pv H1 0 σ H1) (hk : ∀ H1 i σ' H', Pv H1 i σ' H' → KT K H1 H')
    (hs : ∀ H1 i x y T d d' σ' H', ds[i]? = some d → es[i]? = some d' → Pv H1 i σ' H' → H' T = none → Dp K (upd H' T (.tup [x, y])) x d → Dp K (upd H' T (.tup [x, y])) y d' → g (.ref T) σ' (upd H' T (.tup [x, y])) fun σ2 H2 => tb { D with nx := Pv H1 (i + 1), ct := Pv H1 (i + 1), bk := tz D } σ2 H2)
    (hd : ∀ H1 σ' H', Kx F.S H H1 → Pv H1 ds.length σ' H' → tz D σ' H') : tSeq (tFor (RZ.iZipA K tr) g tb) tz D σ H := h n H hn g0 Kx.refl _ fun us H1 e1 g1 hu => by
  obtain ⟨u1, us, rfl, p1, hu⟩ := dps_uncons hu
  obtain ⟨u2, us, rfl, p2, hu⟩ := dps_uncons hu
  obtain rfl := dps_none hu
  cases p1 with
  | @tup a xs _ ha hx =>
  cases p2 with
  | @tup b ys _ hb hy =>
  have lx := dps_len hx
  have ly := dps_len hy
  refine ⟨a, b, xs, ys, rfl, .inr ⟨ha, hb, RZ.for_zipT (by omega) (Pv H1) (h0 H1 e1 g1) (fun i σ' H' p => ⟨hk _ _ _ _ p _ _ ha, hk _ _ _ _ p _ _ hb⟩) (fun i x y T σ' H' hi hj p hT => ?_) fun σ' H' p => hd H1 σ' H' e1 (by rw [← lx]; exact p)⟩⟩
  have h1 := (List.getElem?_eq_some_iff.mp hi).1
  have h2 := (List.getElem?_eq_some_iff.mp hj).1
  have hdi : ds[i]? = some ds[i] := List.getElem?_eq_getElem (by omega)
  have hei : es[i]? = some es[i] := List.getElem?_eq_getElem (by omega)
  have kk : KT K H1 (upd H' T (.tup [x, y])) := kt_trans (hk _ _ _ _ p) (kt_ex (Ex.new hT))
  obtain ⟨u, hu, hdu⟩ := dps_get (dps_kt kk _ _ fd hx) hdi
  rw [hi] at hu
  cases hu
  obtain ⟨u, hu, hdu'⟩ := dps_get (dps_kt kk _ _ fe hy) hei
  rw [hj] at hu
  cases hu
  exact hs H1 i x y T _ _ σ' H' hdi hei p hT hdu hdu'
end
end Dt
/-! ### enumerate(t), a tuple -/
namespace DtE
open PySem PySem.Spec PyProof.Rows L2
theorem meets_enumerate_newT (l : Addr) (items : Array Value) :
    Meets (Builtin.«enumerate.__new__» ⟨[.type "enumerate", .ref l], []⟩) (fun _ R s => s.heap.IsTuple l items ∧
      R (.ok (.ret (.ref (s.heap.push { cls := .type "tuple_iterator", data := .fields #[.ref l, .int 0 0] }).objs.size)))
        { s with heap := (s.heap.push { cls := .type "tuple_iterator", data := .fields #[.ref l, .int 0 0] }).push { cls := .type "enumerate", data := .fields #[.none, .bool false, .ref s.heap.objs.size, rawInt 0, .none, .none] } }) :=
  .of_wp fun prog w A R s h => by
    obtain ⟨hp, g, d, tk, os⟩ := s; obtain ⟨hl, h⟩ := h
    have hsub := sub_enumerate
    have hL : Heap.IsTuple (Shared.heap ⟨hp, g, d, tk, os⟩) l items := hl
    wp_walk using wpAny_pyIter_tuple hL
    refine wpAny_stack_any fun st => wpAny_pure ?_
    split
    · rename_i c _ _ _ _ _
      cases (c == Value.type "enumerate")
      · wp_walk using wpAny_pyIter_tuple hL
        exact ⟨_, rfl, h⟩
      · wp_walk using wpAny_pyIter_tuple hL
        exact ⟨_, rfl, h⟩
    · wp_walk using wpAny_pyIter_tuple hL
      exact ⟨_, rfl, h⟩
section
variable {prog : Program} {w : World} {A : Around} {E : Value → Shared → Prop} {s : Shared}
theorem call_enumerate_tuple {l : Addr} {items : Array Value} {Q : Value → Shared → Prop} (hL : s.heap.IsTuple l items)
    (h : ∀ h', IsEnum h' (s.heap.objs.size + 1) s.heap.objs.size 0 .none → h'.IsTupleIter s.heap.objs.size l 0 → h'.objs.size = s.heap.objs.size + 2 →
      (∀ b o, s.heap.get? b = some o → h'.get? b = some o) → Q (.ref (s.heap.objs.size + 1)) { s with heap := h' }) :
    wpAny (model prog w) A (call (.type "enumerate") [.ref l]) Q E s := by
  refine callType_new F.called_enumerate (by decide) (F.typeCall_enumerate_1 _) (F.newCall_enumerate_1 _) (fun obj => F.args_object_init_2 obj _) F.entry_enumerate_new
    (meets_enumerate_newT l items) ⟨hL, ?_⟩
  have hz : (s.heap.push { cls := .type "tuple_iterator", data := .fields #[.ref l, .int 0 0] }).objs.size = s.heap.objs.size + 1 := Heap.size_push ..
  show _ ∧ _
  rw [hz]
  have he : IsEnum ((s.heap.push { cls := .type "tuple_iterator", data := .fields #[.ref l, .int 0 0] }).push
      { cls := .type "enumerate", data := .fields #[.none, .bool false, .ref s.heap.objs.size, rawInt 0, .none, .none] }) (s.heap.objs.size + 1) s.heap.objs.size 0 .none := by
    have := Heap.get?_push_size (s.heap.push { cls := .type "tuple_iterator", data := .fields #[.ref l, .int 0 0] })
      (o := { cls := .type "enumerate", data := .fields #[.none, .bool false, .ref s.heap.objs.size, rawInt 0, .none, .none] }) rfl
    rw [hz] at this; exact this
  exact ⟨⟨_, he, rfl⟩, h _ he ⟨_, Heap.get?_push_of_some _ (Heap.get?_push_size _ rfl), rfl, rfl⟩ (by rw [Heap.size_push, hz]) fun b o x => Heap.get?_push_of_some _ (Heap.get?_push_of_some _ x)⟩
end
/-- the tuple at a, the items with their places in new pairs -/
def IteT (K : PySem.W.Frag) (a : Addr) : It :=
  ⟨fun i H => ∃ (xs : List V) (x : V), SqT K H a xs ∧ xs[i]? = some x, fun i H v H' => ∃ T x, v = .ref T ∧ H T = none ∧ H' = upd H T (.tup [.int (i : Nat), x]) ∧ ∀ xs, SqT K H a xs → xs[i]? = some x, fun i H => ∃ xs : List V, SqT K H a xs ∧ xs.length = i⟩
theorem turn_enumT {P : Program} {w : World} {K : PySem.W.Frag} {elts : List Expr} {kk : Nat} {tpos : Pos} (a e it : Addr) (hat : a ≠ it) (hae : e ≠ a) :
    Turn P w K (.Tuple elts kk tpos) (IteT K a) [e, it] e (fun i h => (∃ old, IsEnum h e it ((i : Nat) : Int) old) ∧ h.IsTupleIter it a i ∧ e ≠ it) where
  mem := by simp
  obj := fun i h st b hb => by
    obtain ⟨⟨old, he⟩, ⟨o, ho, hc, hd⟩, _⟩ := st
    have e' : b = e ∨ b = it := by simpa using hb
    rcases e' with z | z
    · rw [z]; exact ⟨_, he, fun v q => nomatch q⟩
    · rw [z]; exact ⟨o, ho, fun v q => by rw [hd] at q; cases q⟩
  keep := fun i h h' st k => let ⟨⟨old, he⟩, hi, hne⟩ := st; ⟨⟨old, k e (by simp) _ he⟩, hi.at fun o q => k it (by simp) o q, hne⟩
  item := by
    intro X hP hw hK hc i pins s σ H E I hf st hg
    subst hP hw hK
    obtain ⟨⟨old, he⟩, hit, hne⟩ := st
    obtain ⟨xs, x, hq, hx⟩ := hg
    obtain ⟨its, rv, p, hz⟩ := I.tuple hq
    obtain ⟨u, hu, ru⟩ := rv.get hx
    have hel : e < s.heap.objs.size := Heap.lt_size he
    have hil : it < s.heap.objs.size := by obtain ⟨_, q, _⟩ := hit; exact Heap.lt_size q
    have hlt : i < its.toArray.size := by
      rw [List.size_toArray]
      exact (List.getElem?_eq_some_iff.mp hu).1
    refine wpAny_pyNext_enum_itemD (Draws.tuple (A := X.A.in1) (show X.A.in1.handled = none from I.ok.hd hc) it a hat its.toArray) he ⟨hit, p⟩ hlt hne (by simp [hne, hae]) fun y h' tk hy ho hit' hT hsz hk => ?_
    have hy' : y = u := by
      have hy2 : its.toArray[i]? = some y := hy
      rw [List.getElem?_toArray, hu] at hy2
      exact (Option.some.inj hy2).symm
    subst hy'
    refine ⟨_, rfl, wpAny_letOwnedTupleGo_enum (s := { s with heap := h', toks := tk + 1 }) ho fun h'' he' sb => ?_⟩
    have hT2 : h''.get? s.heap.objs.size = some { cls := .type "tuple", data := .seq #[.int i tk, y] } := (sb.2 _ (Nat.ne_of_gt hel)).trans hT
    have new : ObjOk X.prog X.w (upd H s.heap.objs.size (.tup [.int (i : Nat), x])) h'' s.heap.objs.size (.tup [.int (i : Nat), x]) :=
      ⟨by show 2 ≤ sizeLine; decide, [.int i tk, y], .cons ⟨_, rfl⟩ (.cons ru .nil), ⟨_, hT2, rfl, _, rfl⟩⟩
    have I1 : Inv X pins σ (upd H s.heap.objs.size (.tup [.int (i : Nat), x])) { s with heap := h'', toks := tk + 1 } :=
      I.turnedNew (ch := [e, it]) (fun b ob hb q => (sb.2 b (fun z => hb (by simp [z]))).trans (hk b ob (fun z => hb (by simp [z])) (fun z => hb (by simp [z])) q)) hf (Nat.le_refl _) new
    refine ⟨.ref s.heap.objs.size, _, I1, rfl, ⟨_, x, rfl, I.hok.fresh (Nat.le_refl _), rfl, fun ys hy => by rw [I.tuple_inj hy hq]; exact hx⟩, ⟨⟨y, ?_⟩, hit'.1.at fun o q => (sb.2 it (Ne.symm hne)).trans q, hne⟩, fun b hb => ?_⟩
    · have e1 : ((i + 1 : Nat) : Int) = (i : Int) + 1 := by omega
      rw [e1]; exact he'
    · have hb' : b < s.heap.objs.size := by
        have e' : b = e ∨ b = it := by simpa using hb
        rcases e' with z | z
        · rw [z]; exact hel
        · rw [z]; exact hil
      rw [upd_ne (Nat.ne_of_lt hb')]
      exact (hf b hb).1
  done := by
    intro X hP hw hK hc i pins s σ H E I hf st hg
    subst hP hw hK
    obtain ⟨⟨old, he⟩, hit, hne⟩ := st
    obtain ⟨xs, hq, hx⟩ := hg
    obtain ⟨its, rv, p, hz⟩ := I.tuple hq
    obtain ⟨f0, f1, f2, f3, f4, f5⟩ := hf it (by simp)
    have hl := rv.length
    have hn : i = its.toArray.size := by rw [List.size_toArray]; omega
    have D := Draws.tuple (prog := X.prog) (w := X.w) (A := X.A.in1) (show X.A.in1.handled = none from I.ok.hd hc) it a hat its.toArray
    exact wpAny_pyNext_enum_endD D he ⟨by rw [← hn]; exact hit, p⟩ fun h' eb => ⟨rfl, I.turned (t' := s.toks) (fun b o hb q => eb b o hb q) f0 f1 f3 f4 f5⟩
  self := fun A i s Q E st h => let ⟨⟨_, he⟩, _⟩ := st; wpAny_pyIter_enum he h
def iEnumT (K : PySem.W.Frag) (ta : TA) : TI := fun σ H R => ta σ H fun vs H1 => ∃ a xs, vs = [.ref a] ∧ SqT K H1 a xs ∧ R (IteT K a) H1
theorem pi_enumT {X : Cx} {e : Expr} {ta : TA} {p pos tpos : Pos} {elts : List Expr} {kk : Nat} (hg : Gl X "enumerate") (hm : X.mg "enumerate" = none) (ha : PA X [e] ta) (hs : starEach [e] X.env = [(false, eval e X.env)] := by rfl) :
    PI X (.Tuple elts kk tpos) (.Call (.Name "enumerate" p) [e] [] pos) (iEnumT X.K ta) := by
  refine ⟨fun pins s σ H R I h => ?_⟩
  refine Call_ (ld_blt I hg hm boot_enumerate (PyProof.Rows.callWith_type1 (thn (ha.run pos pins s σ H _ I h) fun us s1 ⟨vs, H1, I1, r1, q1⟩ => ?_) hs rfl))
  obtain ⟨a, xs, ex, hq, q⟩ := q1
  subst ex
  cases r1 with
  | cons r rr =>
    cases rr
    cases r
    obtain ⟨its, rv, p', hz⟩ := I1.tuple hq
    have hal : a < s1.heap.objs.size := by
      obtain ⟨_, q, _⟩ := p'
      exact Heap.lt_size q
    refine call_enumerate_tuple p' fun h' he hit hsz hk => wpAny_pyIter_enum he ?_
    have I2 : Inv X pins σ H1 { s1 with heap := h' } := I1.kept (t' := s1.toks) hk
    refine ⟨s1.heap.objs.size + 1, [s1.heap.objs.size + 1, s1.heap.objs.size], _, _, H1, rfl, I2, turn_enumT a (s1.heap.objs.size + 1) s1.heap.objs.size (Nat.ne_of_lt hal) (Nat.ne_of_gt (Nat.lt_succ_of_lt hal)), ⟨⟨.none, he⟩, hit, Nat.succ_ne_self _⟩, fun b hb => ?_, q⟩
    have e' : b = s1.heap.objs.size + 1 ∨ b = s1.heap.objs.size := by simpa using hb
    have hle : s1.heap.objs.size ≤ b := by
      rcases e' with z | z
      · rw [z]; exact Nat.le_add_right _ _
      · rw [z]; exact Nat.le_refl _
    exact I1.fpOk hle (I1.hok.fresh hle)
end DtE
namespace Dt
open PySem PySem.Spec PyProof.Rows L2 Evl Fx
theorem for_enumT {K : PySem.W.Frag} {a : Addr} {xs : List V} {g : TG} {tb : TS} {D : Ends} {σ : L2.St} {H : Hp} (Pv : Nat → L2.St → Hp → Prop) (h0 : Pv 0 σ H) (hq : ∀ i σ H, Pv i σ H → SqT K H a xs)
    (hs : ∀ (i : Nat) (x : V) (T : Addr) (σ : L2.St) (H : Hp), xs[i]? = some x → Pv i σ H → H T = none → g (.ref T) σ (upd H T (.tup [.int (i : Nat), x])) fun σ2 H2 => tb { D with nx := Pv (i + 1), ct := Pv (i + 1), bk := D.nx } σ2 H2) (hd : ∀ σ H, Pv xs.length σ H → D.nx σ H) :
    ∃ W : Nat → Nat → L2.St → Hp → Prop, (∃ m, W 0 m σ H) ∧ ∀ i m σ H, W i m σ H →
      ((DtE.IteT K a).stop i H ∧ D.nx σ H) ∨ ((DtE.IteT K a).go i H ∧ ∃ N : L2.St → Hp → Prop, (∀ σ' H', N σ' H' → ∃ m', m' < m ∧ W (i + 1) m' σ' H') ∧ ∀ v H', (DtE.IteT K a).yld i H v H' → g v σ H' fun σ2 H2 => tb { D with nx := N, ct := N, bk := D.nx } σ2 H2) := by
  refine ⟨fun i m σ H => m = xs.length - i ∧ i ≤ xs.length ∧ Pv i σ H, ⟨xs.length, rfl, Nat.zero_le _, h0⟩, ?_⟩
  rintro i m σ H ⟨rfl, hi, p⟩
  have qx := hq i σ H p
  by_cases hlt : i < xs.length
  · have hx : xs[i]? = some xs[i] := List.getElem?_eq_getElem hlt
    refine .inr ⟨⟨xs, _, qx, hx⟩, Pv (i + 1), fun σ' H' p' => ⟨xs.length - (i + 1), by omega, rfl, hlt, p'⟩, fun v H' y => ?_⟩
    obtain ⟨T, x', rfl, hT, rfl, f1⟩ := y
    exact hs i x' T σ H (f1 xs qx) p hT
  · have e : i = xs.length := by omega
    subst e
    exact .inl ⟨⟨xs, qx, rfl⟩, hd σ H p⟩
section
variable {F : Fd} {K : PySem.W.Frag} {te ta tb tl : TE} {tr : TA} {tt tu : TT} {g : TG} {σ : L2.St} {H H' H1 : Hp} {d d' : PyData} {ds es : List PyData} {n n0 k ka kb kt ke i : Nat} {v : V} {Dl : Addr}
/-- for .. in enumerate(t), a tuple -/
theorem q_forE {tb tz : TS} {D : Ends} (o : F.Ok) (h : EvR F tl σ H k (IsD K (.tuple ds))) (g0 : F.G n H) (hn : n + k ≤ F.N) (fd : flats ds = true) (Pv : Hp → Nat → L2.St → Hp → Prop)
    (h0 : ∀ H1, Kx F.S H H1 → F.G (n + k) H1 → Pv H1 0 σ H1) (hk : ∀ H1 i σ' H', Pv H1 i σ' H' → KT K H1 H')
    (hs : ∀ H1 i x T d σ' H', ds[i]? = some d → Pv H1 i σ' H' → H' T = none → Dp K (upd H' T (.tup [.int (i : Nat), x])) x d → g (.ref T) σ' (upd H' T (.tup [.int (i : Nat), x])) fun σ2 H2 => tb { D with nx := Pv H1 (i + 1), ct := Pv H1 (i + 1), bk := tz D } σ2 H2)
    (hd : ∀ H1 σ' H', Kx F.S H H1 → Pv H1 ds.length σ' H' → tz D σ' H') : tSeq (tFor (DtE.iEnumT K (tCons tl tNil)) g tb) tz D σ H := h n H hn g0 Kx.refl _ fun u H1 e1 g1 p1 => by
  cases p1 with
  | @tup a xs _ ha hx =>
  have lx := dps_len hx
  refine ⟨a, xs, rfl, ha, for_enumT (Pv H1) (h0 H1 e1 g1) (fun i σ' H' p => hk _ _ _ _ p _ _ ha) (fun i x T σ' H' hi p hT => ?_) fun σ' H' p => hd H1 σ' H' e1 (by rw [← lx]; exact p)⟩
  have h1 := (List.getElem?_eq_some_iff.mp hi).1
  have hdi : ds[i]? = some ds[i] := List.getElem?_eq_getElem (by omega)
  have kk : KT K H1 (upd H' T (.tup [.int (i : Nat), x])) := kt_trans (hk _ _ _ _ p) (kt_ex (Ex.new hT))
  obtain ⟨u, hu, hdu⟩ := dps_get (dps_kt kk _ _ fd hx) hdi
  rw [hi] at hu
  cases hu
  exact hs H1 i x T _ σ' H' hdi p hT hdu
/-- t + u -/
theorem rd_cat (o : F.Ok) (ha : EvR F ta σ H ka (IsD K (.tuple ds))) (hb : EvR F tb σ H kb (IsD K (.tuple es))) (fd : flats ds = true) (hl : ds.length + es.length ≤ 100000) : EvR F (tOp (rCatA K) ta tb) σ H (ka + kb) (IsD K (.tuple (ds ++ es))) :=
  r_op o (mono_d o (show flat (.tuple ds) = true by rw [flat_tup]; exact fd)) ha hb fun x y n H1 g e px py Q q => by
    cases px with
    | @tup a xs _ ha hx =>
    cases py with
    | @tup b ys _ hb hy =>
    have lx := dps_len hx
    have ly := dps_len hy
    refine ⟨a, b, xs, ys, rfl, rfl, ha, hb, sz_of (by omega), fun ex => ?_, fun _ ey => ?_, fun _ _ p hp => q _ _ (Ex.new hp) (.tup (st_of upd_same) (dps_ex (Ex.new hp) _ _ (dps_app hx hy)))⟩
    · subst ex
      cases ds with
      | nil => exact q _ H1 (Ex.refl _) (.tup hb hy)
      | cons _ _ => simp at lx
    · subst ey
      cases es with
      | nil =>
        refine q _ H1 (Ex.refl _) ?_
        show Dp K H1 _ (.tuple (ds ++ []))
        rw [List.append_nil]
        exact .tup ha hx
      | cons _ _ => simp at ly
/-- xs.extend(a new list) where the list may be any name -/
theorem evE_int {i : Int} (h : EvR F te σ H k (fun x _ => x = .int i)) : EvR F te σ H k (IsD K (.int i)) := rd_ofI h
theorem rv_op {r : R2} {x y z : V} (o : F.Ok) (ha : EvR F ta σ H ka (fun u _ => u = x)) (hb : EvR F tb σ H kb (fun u _ => u = y)) (hr : ∀ H1, RV r x y H1 z) : EvR F (tOp r ta tb) σ H (ka + kb) (fun u _ => u = z) :=
  r_op o mono_eq ha hb fun x' y' n H1 g e ex ey Q q => by
    subst ex ey
    exact hr H1 H1 (Ex.refl _) Q fun H2 e2 => q _ H2 e2 rfl
theorem dps_strs : ∀ {ws : List Str} {vs : List V}, DpAll K H vs (ws.map PyData.str) → vs = ws.map V.str
  | [], _, h => by cases h; rfl
  | b :: bs, _, h => by
    cases h with
    | cons h1 h2 =>
      cases h1
      rw [dps_strs h2]
      rfl
theorem flat_strs (ws : List Str) : (ws.map V.str).all flatV = true := by
  rw [List.all_map]
  exact List.all_eq_true.mpr fun _ _ => rfl
/-- a text in a tuple of texts -/
theorem rb_inT {w : Str} {ws : List Str} (o : F.Ok) (ha : EvR F ta σ H ka (fun u _ => u = .str w)) (hb : EvR F tb σ H kb (IsD K (.tuple (ws.map PyData.str)))) : EvR F (tOp (rIn K false) ta tb) σ H (ka + kb) (fun u _ => u = .bl (ws.any fun y => y == w)) :=
  r_op o mono_eq ha hb fun x y n H1 g e ex py Q q => by
    subst ex
    cases py with
    | @tup b ys _ hb hy =>
    have := dps_strs hy
    subst this
    refine ⟨b, _, rfl, .inr hb, rfl, flat_strs ws, q _ H1 (Ex.refl _) ?_⟩
    show V.bl (inV _ _) = _
    unfold inV
    rw [List.any_map]
    rfl
end
end Dt
/-! ### zip(a list, a tuple) -/
namespace DtZ
open PySem PySem.Spec PyProof.Rows L2
abbrev zh1 (h : Heap) (l1 : Addr) : Heap := h.push { cls := .type "list_iterator", data := .fields #[.ref l1, .int 0 0] }
abbrev zh2 (h : Heap) (l1 l2 : Addr) : Heap := (zh1 h l1).push { cls := .type "tuple_iterator", data := .fields #[.ref l2, .int 0 0] }
abbrev zh3 (h : Heap) (l1 l2 : Addr) : Heap := (zh2 h l1 l2).push { cls := .type "tuple", data := .seq #[.ref h.objs.size, .ref (zh1 h l1).objs.size] }
abbrev zh4 (h : Heap) (l1 l2 : Addr) : Heap := (zh3 h l1 l2).push { cls := .type "tuple", data := .seq #[.none, .none] }
abbrev zh5 (h : Heap) (l1 l2 : Addr) : Heap := (zh4 h l1 l2).push { cls := .type "zip", data := .fields #[.none, .bool false, .bool false, .ref (zh2 h l1 l2).objs.size, .ref (zh3 h l1 l2).objs.size] }
theorem meets_zipM_new (l1 l2 : Addr) (xs ys : Array Value) :
    Meets (Builtin.«zip.__new__» ⟨[.type "zip", .ref l1, .ref l2], []⟩) (fun _ R s => s.heap.IsList l1 xs ∧ s.heap.IsTuple l2 ys ∧
      R (.ok (.ret (.ref (zh4 s.heap l1 l2).objs.size))) { s with heap := zh5 s.heap l1 l2 }) :=
  .of_wp fun prog w A R s h => by
    obtain ⟨hp, g, d, tk, os⟩ := s; obtain ⟨hl1, hl2, h⟩ := h
    have hsub := sub_zip
    have hL1 : Heap.IsList (Shared.heap ⟨hp, g, d, tk, os⟩) l1 xs := hl1
    have hL2 : Heap.IsTuple (Shared.heap ⟨hp.push { cls := .type "list_iterator", data := .fields #[.ref l1, .int 0 0] }, g, d, tk, os⟩) l2 ys := Heap.IsTuple.push hl2 _
    wp_walk using wpAny_pyIter_list hL1, wpAny_pyIter_tuple hL2
    exact ⟨_, rfl, h⟩
section
variable {prog : Program} {w : World} {A : Around} {E : Value → Shared → Prop} {s : Shared}
theorem call_zipM {l1 l2 : Addr} {xs ys : Array Value} {Q : Value → Shared → Prop} (hl1 : s.heap.IsList l1 xs) (hl2 : s.heap.IsTuple l2 ys)
    (h : ∀ h', IsZip h' (s.heap.objs.size + 4) (s.heap.objs.size + 2) (s.heap.objs.size + 3) .none → IsPair h' (s.heap.objs.size + 2) (.ref s.heap.objs.size) (.ref (s.heap.objs.size + 1)) →
      IsPair h' (s.heap.objs.size + 3) .none .none → h'.IsListIter s.heap.objs.size l1 0 → h'.IsTupleIter (s.heap.objs.size + 1) l2 0 → h'.objs.size = s.heap.objs.size + 5 →
      (∀ c o, s.heap.get? c = some o → h'.get? c = some o) → Q (.ref (s.heap.objs.size + 4)) { s with heap := h' }) :
    wpAny (model prog w) A (call (.type "zip") [.ref l1, .ref l2]) Q E s := by
  refine callType_new F.called_zip (by decide) (F.typeCall_zip_2 _ _) (F.newCall_zip_2 _ _) (fun obj => F.args_object_init_3 obj _ _) F.entry_zip_new
    (meets_zipM_new l1 l2 xs ys) ⟨hl1, hl2, ?_⟩
  have z1 : (zh1 s.heap l1).objs.size = s.heap.objs.size + 1 := Heap.size_push ..
  have z2 : (zh2 s.heap l1 l2).objs.size = s.heap.objs.size + 2 := by rw [Heap.size_push, z1]
  have z3 : (zh3 s.heap l1 l2).objs.size = s.heap.objs.size + 3 := by rw [Heap.size_push, z2]
  have z4 : (zh4 s.heap l1 l2).objs.size = s.heap.objs.size + 4 := by rw [Heap.size_push, z3]
  have z5 : (zh5 s.heap l1 l2).objs.size = s.heap.objs.size + 5 := by rw [Heap.size_push, z4]
  have g5 : (zh5 s.heap l1 l2).get? (zh4 s.heap l1 l2).objs.size = some _ := Heap.get?_push_size _ rfl
  have g4 : (zh5 s.heap l1 l2).get? (zh3 s.heap l1 l2).objs.size = some _ := Heap.get?_push_of_some _ (Heap.get?_push_size _ rfl)
  have g3 : (zh5 s.heap l1 l2).get? (zh2 s.heap l1 l2).objs.size = some _ := Heap.get?_push_of_some _ (Heap.get?_push_of_some _ (Heap.get?_push_size _ rfl))
  have g2 : (zh5 s.heap l1 l2).get? (zh1 s.heap l1).objs.size = some _ := Heap.get?_push_of_some _ (Heap.get?_push_of_some _ (Heap.get?_push_of_some _ (Heap.get?_push_size _ rfl)))
  have g1 : (zh5 s.heap l1 l2).get? s.heap.objs.size = some _ := Heap.get?_push_of_some _ (Heap.get?_push_of_some _ (Heap.get?_push_of_some _ (Heap.get?_push_of_some _ (Heap.get?_push_size _ rfl))))
  show _ ∧ _
  rw [z2, z3, z4] at g5
  rw [z1, z2] at g3
  rw [z3] at g4
  rw [z1] at g2
  rw [z4]
  exact ⟨⟨_, g5, rfl⟩, h _ g5 g3 g4 ⟨_, g1, rfl, rfl⟩ ⟨_, g2, rfl, rfl⟩ z5 fun c o x =>
    Heap.get?_push_of_some _ (Heap.get?_push_of_some _ (Heap.get?_push_of_some _ (Heap.get?_push_of_some _ (Heap.get?_push_of_some _ x))))⟩
end
theorem nm (c x y : Addr) (h1 : c ≠ x) (h2 : c ≠ y) : c ∉ [x, y] := fun h => by
  rcases List.mem_cons.mp h with h | h
  · exact h1 h
  · rcases List.mem_cons.mp h with h | h
    · exact h2 h
    · cases h
theorem sepM (N a b : Nat) (la : a < N) (lb : b < N) : ZipSep2 (N + 4) (N + 2) (N + 3) N (N + 1) [N, a] [N + 1, b] where
  TIz := by refine PySem.W.neN ?_; omega
  TOz := by refine PySem.W.neN ?_; omega
  TITO := by refine PySem.W.neN ?_; omega
  TIi1 := by refine PySem.W.neN ?_; omega
  mem1 := List.mem_cons_self ..
  zf1 := nm _ _ _ (by refine PySem.W.neN ?_; omega) (by refine PySem.W.neN ?_; omega)
  Tf1 := nm _ _ _ (by refine PySem.W.neN ?_; omega) (by refine PySem.W.neN ?_; omega)
  TIi2 := by refine PySem.W.neN ?_; omega
  mem2 := List.mem_cons_self ..
  zf2 := nm _ _ _ (by refine PySem.W.neN ?_; omega) (by refine PySem.W.neN ?_; omega)
  Tf2 := nm _ _ _ (by refine PySem.W.neN ?_; omega) (by refine PySem.W.neN ?_; omega)
  sep1_2 := nm _ _ _ (by refine PySem.W.neN ?_; omega) (by refine PySem.W.neN ?_; omega)
  sep2_1 := nm _ _ _ (by refine PySem.W.neN ?_; omega) (by refine PySem.W.neN ?_; omega)
def ItzM (K : PySem.W.Frag) (a b : Addr) : It :=
  ⟨fun i H => ∃ (xs ys : List V) (x y : V), SqL K H a xs ∧ SqT K H b ys ∧ xs[i]? = some x ∧ ys[i]? = some y,
    fun i H v H' => ∃ T x y, v = .ref T ∧ H T = none ∧ H' = upd H T (.tup [x, y]) ∧ (∀ xs, SqL K H a xs → xs[i]? = some x) ∧ ∀ ys, SqT K H b ys → ys[i]? = some y,
    fun i H => ∃ xs ys : List V, SqL K H a xs ∧ SqT K H b ys ∧ xs.length = i ∧ ys.length = i⟩
theorem turn_zipM {P : Program} {w : World} {K : PySem.W.Frag} {elts : List Expr} {kk : Nat} {tpos : Pos} {a b z TI TO i1 i2 : Addr} (D : ZipApart z TI TO i1 i2 a b) (S : ZipSep2 z TI TO i1 i2 [i1, a] [i2, b]) (ha : a ≠ i1) (hb : b ≠ i2) :
    Turn P w K (.Tuple elts kk tpos) (ItzM K a b) [z, TI, TO, i1, i2] z (fun i h => IsZip h z TI TO .none ∧ IsPair h TI (.ref i1) (.ref i2) ∧ (∃ x y, IsPair h TO x y) ∧ h.IsListIter i1 a i ∧ h.IsTupleIter i2 b i) where
  mem := by simp
  obj := fun i h st c hc => by
    obtain ⟨hz, hTI, ⟨x, y, hTO⟩, ⟨o1, e1, _, d1⟩, ⟨o2, e2, _, d2⟩⟩ := st
    have e' : c = z ∨ c = TI ∨ c = TO ∨ c = i1 ∨ c = i2 := by simpa using hc
    rcases e' with q | q | q | q | q
    · rw [q]; exact ⟨_, hz, fun v q => nomatch q⟩
    · rw [q]; exact ⟨_, hTI, fun v q => nomatch q⟩
    · rw [q]; exact ⟨_, hTO, fun v q => nomatch q⟩
    · rw [q]; exact ⟨o1, e1, fun v q => by rw [d1] at q; cases q⟩
    · rw [q]; exact ⟨o2, e2, fun v q => by rw [d2] at q; cases q⟩
  keep := fun i h h' st k => by
    obtain ⟨hz, hTI, ⟨x, y, hTO⟩, h1, h2⟩ := st
    exact ⟨k z (by simp) _ hz, k TI (by simp) _ hTI, ⟨x, y, k TO (by simp) _ hTO⟩, h1.at fun o q => k i1 (by simp) o q, h2.at fun o q => k i2 (by simp) o q⟩
  item := by
    intro X hP hw hK hc i pins s σ H E I hf st hg
    subst hP hw hK
    obtain ⟨hz, hTI, ⟨x0, y0, hTO⟩, h1, h2⟩ := st
    obtain ⟨xs, ys, x, y, hqx, hqy, hx, hy⟩ := hg
    obtain ⟨its, rv, p, _⟩ := I.list hqx
    obtain ⟨its2, rv2, p2, _⟩ := I.tuple hqy
    obtain ⟨u, hu, ru⟩ := rv.get hx
    obtain ⟨u2, hu2, ru2⟩ := rv2.get hy
    have hzl : z < s.heap.objs.size := Heap.lt_size hz
    have hh : X.A.in1.handled = none := I.ok.hd hc
    have l1 : i < its.toArray.size := by rw [List.size_toArray]; exact (List.getElem?_eq_some_iff.mp hu).1
    have l2 : i < its2.toArray.size := by rw [List.size_toArray]; exact (List.getElem?_eq_some_iff.mp hu2).1
    refine wpAny_pyNext_zipD2_item S (Draws.list hh i1 a ha its.toArray) (Draws.tuple hh i2 b hb its2.toArray) hz hTI hTO ⟨h1, p.isList⟩ ⟨h2, p2⟩ l1 l2 fun y1 y2 h' tk hy1 hy2 z' TO' h1' h2' hT hsz hk => ?_
    have e1 : y1 = u := by
      have q : its.toArray[i]? = some y1 := hy1
      rw [List.getElem?_toArray, hu] at q
      exact (Option.some.inj q).symm
    have e2 : y2 = u2 := by
      have q : its2.toArray[i]? = some y2 := hy2
      rw [List.getElem?_toArray, hu2] at q
      exact (Option.some.inj q).symm
    subst e1 e2
    refine ⟨_, rfl, wpAny_letOwnedTupleGo_zip (s := { s with heap := h', toks := tk }) z' fun h'' z'' sb => ?_⟩
    have hT2 : h''.get? s.heap.objs.size = some { cls := .type "tuple", data := .seq #[y1, y2] } := (sb.2 _ (Nat.ne_of_gt hzl)).trans hT
    have new : ObjOk X.prog X.w (upd H s.heap.objs.size (.tup [x, y])) h'' s.heap.objs.size (.tup [x, y]) :=
      ⟨by show 2 ≤ sizeLine; decide, [y1, y2], .cons ru (.cons ru2 .nil), ⟨_, hT2, rfl, _, rfl⟩⟩
    have I1 : Inv X pins σ (upd H s.heap.objs.size (.tup [x, y])) { s with heap := h'', toks := tk } :=
      I.turnedNew (t' := tk) (ch := [z, TI, TO, i1, i2]) (fun c o hb q => (sb.2 c (fun q' => hb (by simp [q']))).trans (hk c o (fun q' => hb (by simp [q'])) (fun q' => hb (by simp [q'])) (fun q' => hb (by simp [q'])) (fun q' => hb (by simp [q'])) q)) hf (Nat.le_refl _) new
    refine ⟨.ref s.heap.objs.size, _, I1, rfl, ⟨_, x, y, rfl, I.hok.fresh (Nat.le_refl _), rfl, fun l hl => by rw [I.list_inj hl hqx]; exact hx, fun l hl => by rw [I.tuple_inj hl hqy]; exact hy⟩, ⟨z'', ?_, ⟨y1, y2, ?_⟩, ?_, ?_⟩, fun c hcm => ?_⟩
    · exact (sb.2 _ D.TIz).trans (hk _ _ D.TIz D.TITO D.TIi1 D.TIi2 hTI)
    · exact (sb.2 _ D.TOz).trans TO'
    · exact h1'.1.at fun o q => (sb.2 _ D.i1z).trans q
    · exact h2'.1.at fun o q => (sb.2 _ D.i2z).trans q
    · have hlt : c < s.heap.objs.size := by
        have e' : c = z ∨ c = TI ∨ c = TO ∨ c = i1 ∨ c = i2 := by simpa using hcm
        rcases e' with q | q | q | q | q
        · rw [q]; exact hzl
        · rw [q]; exact Heap.lt_size hTI
        · rw [q]; exact Heap.lt_size hTO
        · rw [q]; obtain ⟨_, e1, _⟩ := h1; exact Heap.lt_size e1
        · rw [q]; obtain ⟨_, e2, _⟩ := h2; exact Heap.lt_size e2
      rw [upd_ne (Nat.ne_of_lt hlt)]
      exact (hf c hcm).1
  done := by
    intro X hP hw hK hc i pins s σ H E I hf st hg
    subst hP hw hK
    obtain ⟨hz, hTI, ⟨x0, y0, hTO⟩, h1, h2⟩ := st
    obtain ⟨xs, ys, hqx, hqy, hend, hend2⟩ := hg
    obtain ⟨its, rv, p, _⟩ := I.list hqx
    obtain ⟨its2, rv2, p2, _⟩ := I.tuple hqy
    have l1 := rv.length
    have l2 := rv2.length
    have hh : X.A.in1.handled = none := I.ok.hd hc
    have n1 : i = its.toArray.size := by rw [List.size_toArray]; omega
    have n2 : i = its2.toArray.size := by rw [List.size_toArray]; omega
    exact wpAny_pyNext_zipD2_end S (Draws.list hh i1 a ha its.toArray) (Draws.tuple hh i2 b hb its2.toArray) hz hTI hTO ⟨h1, p.isList⟩ ⟨h2, p2⟩ (Nat.le_of_eq n1) (Nat.le_of_eq n2) (.inl n1) fun h' tk hk => ⟨rfl, I.turnedL (t' := tk) (ch := [z, TI, TO, i1, i2]) (fun c o hb q =>
      hk c o (fun q' => hb (by simp [q'])) (fun q' => hb (by simp [q'])) (fun q' => hb (by simp [q'])) (fun q' => hb (by simp [q'])) q) hf⟩
  self := fun A i s Q E st h => wpAny_pyIter_zip st.1 h
def iZipM (K : PySem.W.Frag) (ta : TA) : TI := fun σ H R => ta σ H fun vs H1 => ∃ a b xs ys, vs = [.ref a, .ref b] ∧ SqL K H1 a xs ∧ SqT K H1 b ys ∧ R (ItzM K a b) H1
theorem pi_zipM {X : Cx} {e e2 : Expr} {ta : TA} {p pos tpos : Pos} {elts : List Expr} {kk : Nat} (hg : Gl X "zip") (hm : X.mg "zip" = none) (ha : PA X [e, e2] ta)
    (hs : starEach [e, e2] X.env = (false, eval e X.env) :: starEach [e2] X.env := by rfl) (hpl : (backTo pos (starEach [e2] X.env)).any (·.1) = false := by rfl) :
    PI X (.Tuple elts kk tpos) (.Call (.Name "zip" p) [e, e2] [] pos) (iZipM X.K ta) := by
  refine ⟨fun pins s σ H R I h => ?_⟩
  refine Call_ (ld_blt I hg hm PyProof.Rows.boot_zip (PyProof.Rows.callWith_type1 (thn (ha.run pos pins s σ H _ I h) fun us s1 ⟨vs, H1, I1, r1, q1⟩ => ?_) hs hpl))
  obtain ⟨a, b, xs, ys, ex, hqx, hqy, q⟩ := q1
  subst ex
  cases r1 with
  | cons r rr =>
    cases rr with
    | cons r' rr =>
      cases rr
      cases r
      cases r'
      have fresh5 : ∀ c, c ∈ [s1.heap.objs.size + 4, s1.heap.objs.size + 2, s1.heap.objs.size + 3, s1.heap.objs.size, s1.heap.objs.size + 1] → FpOk X pins H1 c := fun c hcm => by
        have e' : c = s1.heap.objs.size + 4 ∨ c = s1.heap.objs.size + 2 ∨ c = s1.heap.objs.size + 3 ∨ c = s1.heap.objs.size ∨ c = s1.heap.objs.size + 1 := by simpa using hcm
        have hle : s1.heap.objs.size ≤ c := by
          rcases e' with z | z | z | z | z
          · rw [z]; exact Nat.le_add_right _ _
          · rw [z]; exact Nat.le_add_right _ _
          · rw [z]; exact Nat.le_add_right _ _
          · rw [z]; exact Nat.le_refl _
          · rw [z]; exact Nat.le_add_right _ _
        exact I1.fpOk hle (I1.hok.fresh hle)
      obtain ⟨its, rv, p1, _⟩ := I1.list hqx
      obtain ⟨its2, rv2, p2, _⟩ := I1.tuple hqy
      have la : a < s1.heap.objs.size := p1.lt
      have lb : b < s1.heap.objs.size := by
        obtain ⟨o2, ho2, _⟩ := id p2
        exact Heap.lt_size ho2
      generalize hN : s1.heap.objs.size = N at la lb fresh5
      have S := sepM N a b la lb
      refine call_zipM p1.isList p2 fun h' hz hTI hTO h1 h2 hsz hk => wpAny_pyIter_zip hz ?_
      rw [hN] at hz hTI hTO h1 h2 ⊢
      have I2 : Inv X pins σ H1 { s1 with heap := h' } := I1.kept (t' := s1.toks) hk
      exact ⟨N + 4, [N + 4, N + 2, N + 3, N, N + 1], _, _, H1, rfl, I2, turn_zipM (PySem.W.ktu_apart N a b la lb) S (Nat.ne_of_lt la) (Nat.ne_of_lt (Nat.lt_succ_of_lt lb)), ⟨hz, hTI, ⟨_, _, hTO⟩, h1, h2⟩, fresh5, q⟩
end DtZ
/-! ### span trees as a type, their data, their spans -/
namespace Tr
open PySem PySem.Spec PyProof.Rows L2 Evl Fx Dt
/-- a span tree: service, mark, calls -/
inductive T where
  | mk (s : Str) (m : Int) (cs : List T)
def T.name : T → Str | .mk s _ _ => s
def T.mark : T → Int | .mk _ m _ => m
def T.calls : T → List T | .mk _ _ cs => cs
mutual
def enc : T → PyData
  | .mk s m cs => .tuple [.str s, .int m, .tuple (encs cs)]
def encs : List T → List PyData
  | [] => []
  | t :: ts => enc t :: encs ts
end
theorem encs_map : ∀ ts : List T, encs ts = ts.map enc
  | [] => by rw [encs]; rfl
  | t :: ts => by rw [encs, encs_map ts]; rfl
theorem enc_eq (t : T) : enc t = .tuple [.str t.name, .int t.mark, .tuple (t.calls.map enc)] := by
  cases t
  rw [enc, encs_map]
  rfl
mutual
theorem enc_flat : ∀ t, flat (enc t) = true
  | .mk s m cs => by rw [enc, flat_tup, flats, flats, flats, flats, flat, flat, flat_tup, encs_flat cs]; rfl
theorem encs_flat : ∀ ts, flats (encs ts) = true
  | [] => by rw [encs, flats]
  | t :: ts => by rw [encs, flats, enc_flat t, encs_flat ts]; rfl
end
theorem maps_flat (ts : List T) : flats (ts.map enc) = true := by rw [← encs_map]; exact encs_flat ts
mutual
def size : T → Nat
  | .mk _ _ cs => sizes cs + 1
def sizes : List T → Nat
  | [] => 0
  | t :: ts => size t + sizes ts
end
theorem size_eq (t : T) : size t = sizes t.calls + 1 := by cases t; rw [size]; rfl
theorem sizes_app : ∀ ts us : List T, sizes (ts ++ us) = sizes ts + sizes us
  | [], us => by rw [List.nil_append, sizes]; omega
  | t :: ts, us => by rw [List.cons_append, sizes, sizes, sizes_app ts us]; omega
theorem sizes_rev : ∀ ts : List T, sizes ts.reverse = sizes ts
  | [] => rfl
  | t :: ts => by rw [List.reverse_cons, sizes_app, sizes_rev ts, sizes, sizes, sizes]; omega
theorem len_sizes : ∀ ts : List T, ts.length ≤ sizes ts
  | [] => by rw [sizes]; exact Nat.le_refl _
  | .mk _ _ cs :: ts => by
    have := len_sizes ts
    rw [sizes, size, List.length_cons]
    omega
mutual
/-- the subtrees, a caller ahead of its calls -/
def subs : T → List T
  | .mk s m cs => .mk s m cs :: subsA cs
def subsA : List T → List T
  | [] => []
  | t :: ts => subs t ++ subsA ts
end
theorem subs_eq (t : T) : subs t = t :: subsA t.calls := by cases t; rw [subs]; rfl
theorem subsA_app : ∀ ts us : List T, subsA (ts ++ us) = subsA ts ++ subsA us
  | [], us => by rw [List.nil_append, subsA]; rfl
  | t :: ts, us => by rw [List.cons_append, subsA, subsA, subsA_app ts us, List.append_assoc]
mutual
theorem subs_len : ∀ t : T, (subs t).length = size t
  | .mk s m cs => by rw [subs, size, List.length_cons, subsA_len cs]
theorem subsA_len : ∀ ts : List T, (subsA ts).length = sizes ts
  | [] => by rw [subsA, sizes]; rfl
  | t :: ts => by rw [subsA, sizes, List.length_append, subs_len t, subsA_len ts]
end
mutual
/-- the paths with the subtrees -/
def placed : List Nat → T → List (List Nat × T)
  | p, .mk s m cs => (p, .mk s m cs) :: placedA p 0 cs
def placedA : List Nat → Nat → List T → List (List Nat × T)
  | _, _, [] => []
  | p, i, t :: ts => placed (p ++ [i]) t ++ placedA p (i + 1) ts
end
theorem placed_eq (p : List Nat) (t : T) : placed p t = (p, t) :: placedA p 0 t.calls := by cases t; rw [placed]; rfl
mutual
theorem placed_snd : ∀ (p : List Nat) (t : T), (placed p t).map Prod.snd = subs t
  | p, .mk s m cs => by rw [placed, subs, List.map_cons, placedA_snd p 0 cs]
theorem placedA_snd : ∀ (p : List Nat) (i : Nat) (ts : List T), (placedA p i ts).map Prod.snd = subsA ts
  | p, i, [] => by rw [placedA, subsA]; rfl
  | p, i, t :: ts => by rw [placedA, subsA, List.map_append, placed_snd, placedA_snd]
end
theorem placed_len (p : List Nat) (t : T) : (placed p t).length = size t := by rw [← subs_len, ← placed_snd p t, List.length_map]
mutual
theorem placed_path : ∀ (q : List Nat) (t : T) (x : List Nat × T), x ∈ placed q t → x.1.length + size x.2 ≤ q.length + size t
  | q, .mk s m cs, x, h => by
    rw [placed, List.mem_cons] at h
    rcases h with rfl | h
    · exact Nat.le_refl _
    · have := placedA_path q 0 cs x h
      rw [size]
      omega
theorem placedA_path : ∀ (q : List Nat) (i : Nat) (ts : List T) (x : List Nat × T), x ∈ placedA q i ts → x.1.length + size x.2 ≤ q.length + 1 + sizes ts
  | q, i, [], x, h => by
    rw [placedA] at h
    cases h
  | q, i, t :: ts, x, h => by
    rw [placedA, List.mem_append] at h
    rw [sizes]
    rcases h with h | h
    · have := placed_path (q ++ [i]) t x h
      rw [List.length_append, List.length_singleton] at this
      omega
    · have := placedA_path q (i + 1) ts x h
      omega
end
/-- what a stack of pairs still gives -/
def placedS : List (List Nat × T) → List (List Nat × T)
  | [] => []
  | (p, t) :: r => placed p t ++ placedS r
theorem placedS_app : ∀ a b : List (List Nat × T), placedS (a ++ b) = placedS a ++ placedS b
  | [], b => rfl
  | (p, t) :: a, b => by rw [List.cons_append, placedS, placedS, placedS_app a b, List.append_assoc]
/-- the calls with their paths -/
def kids (p : List Nat) (i : Nat) : List T → List (List Nat × T)
  | [] => []
  | t :: ts => (p ++ [i], t) :: kids p (i + 1) ts
theorem kids_placed (p : List Nat) : ∀ (i : Nat) (ts : List T), placedS (kids p i ts) = placedA p i ts
  | _, [] => by rw [placedA]; rfl
  | i, t :: ts => by rw [kids, placedS, placedA, kids_placed p (i + 1) ts]
theorem kids_len (p : List Nat) : ∀ (i : Nat) (ts : List T), (kids p i ts).length = ts.length
  | _, [] => rfl
  | i, t :: ts => by rw [kids, List.length_cons, kids_len p (i + 1) ts, List.length_cons]
theorem kids_get (p : List Nat) : ∀ (i : Nat) (ts : List T) (j : Nat), (kids p i ts)[j]? = (ts[j]?).map fun t => (p ++ [i + j], t)
  | _, [], j => by simp [kids]
  | i, t :: ts, 0 => by simp [kids]
  | i, t :: ts, j + 1 => by
    rw [kids, List.getElem?_cons_succ, kids_get p (i + 1) ts j, List.getElem?_cons_succ, show i + 1 + j = i + (j + 1) by omega]
def sizeS : List (List Nat × T) → Nat
  | [] => 0
  | (_, t) :: r => size t + sizeS r
theorem placedS_len : ∀ a : List (List Nat × T), (placedS a).length = sizeS a
  | [] => rfl
  | (p, t) :: r => by rw [placedS, sizeS, List.length_append, placed_len, placedS_len r]
theorem sizeS_app : ∀ a b : List (List Nat × T), sizeS (a ++ b) = sizeS a + sizeS b
  | [], b => by rw [List.nil_append, sizeS]; omega
  | (p, t) :: a, b => by rw [List.cons_append, sizeS, sizeS, sizeS_app a b]; omega
theorem sizeS_rev (a : List (List Nat × T)) : sizeS a.reverse = sizeS a := by
  induction a with
  | nil => rfl
  | cons x a ih =>
    obtain ⟨p, t⟩ := x
    rw [List.reverse_cons, sizeS_app, ih, sizeS, sizeS, sizeS]
    omega
theorem len_sizeS : ∀ a : List (List Nat × T), a.length ≤ sizeS a
  | [] => Nat.le_refl _
  | (p, t) :: a => by
    have := len_sizeS a
    rw [sizeS, List.length_cons, size_eq]
    omega
theorem sizeS_kids (p : List Nat) : ∀ (i : Nat) (ts : List T), sizeS (kids p i ts) = sizes ts
  | _, [] => by rw [sizes]; rfl
  | i, t :: ts => by rw [kids, sizeS, sizes, sizeS_kids p (i + 1) ts]
def pathD (p : List Nat) : PyData := .tuple (p.map fun (i : Nat) => .int (i : Int))
def ptD (x : List Nat × T) : PyData := .tuple [pathD x.1, enc x.2]
theorem path_flats (p : List Nat) : flats (p.map fun (i : Nat) => PyData.int (i : Int)) = true := flats_all.mpr fun d hd => by
  obtain ⟨i, _, rfl⟩ := List.mem_map.mp hd
  rfl
theorem path_flat (p : List Nat) : flat (pathD p) = true := path_flats p
theorem pair_flat (x : List Nat × T) : flat (ptD x) = true := by
  unfold ptD
  rw [flat_tup, flats, flats, flats, path_flat, enc_flat]
  rfl
theorem pairs_flat (xs : List (List Nat × T)) : flats (xs.map ptD) = true := flats_all.mpr fun d hd => by
  obtain ⟨x, _, rfl⟩ := List.mem_map.mp hd
  exact pair_flat x
theorem kids_flat (p : List Nat) (i : Nat) (cs : List T) (j : Nat) : flat (((kids p i cs).reverse.map ptD).getD j .none) = true := by
  rw [List.getD_eq_getElem?_getD]
  cases h : ((kids p i cs).reverse.map ptD)[j]? with
  | none => rfl
  | some d => exact flats_all.mp (pairs_flat _) d (List.mem_of_getElem? h)
/-- the i-th of the calls, from the right -/
theorem kids_back (p : List Nat) (cs : List T) (i : Nat) (hi : i < cs.length) : ∃ (j : Nat) (c : T), cs[j]? = some c ∧ j < cs.length ∧ ((List.range cs.length).map fun (i : Nat) => PyData.int (i : Int)).reverse[i]? = some (.int (j : Int)) ∧ ((kids p 0 cs).reverse.map ptD).getD i .none = ptD (p ++ [j], c) := by
  refine ⟨cs.length - 1 - i, cs[cs.length - 1 - i], List.getElem?_eq_getElem (by omega), by omega, ?_, ?_⟩
  · rw [List.getElem?_reverse (by rw [List.length_map, List.length_range]; exact hi), List.length_map, List.length_range, List.getElem?_map, List.getElem?_range (by omega)]
    rfl
  · rw [List.getD_eq_getElem?_getD, List.getElem?_map, List.getElem?_reverse (by rw [kids_len]; exact hi), kids_len, kids_get, List.getElem?_eq_getElem (show cs.length - 1 - i < cs.length by omega), Nat.zero_add]
    rfl
theorem pathD_snoc (p : List Nat) (j : Nat) : pathD (p ++ [j]) = .tuple ((p.map fun (i : Nat) => PyData.int (i : Int)) ++ [.int (j : Int)]) := by
  unfold pathD
  rw [List.map_append]
  rfl
section
variable {F : Fd} {K : PySem.W.Frag} {te : TE} {σ : L2.St} {H : Hp} {k : Nat} {t : T}
theorem rt_name (o : F.Ok) (h : EvR F te σ H k (IsD K (enc t))) : EvR F (tOp (rIxT K) te (tC (.int 0))) σ H k (IsD K (.str t.name)) :=
  rd_ix (kb := 0) o (h.cast (enc_eq t)) rv_c 0 rfl rfl (by rw [← enc_eq]; exact enc_flat t)
theorem rt_mark (o : F.Ok) (h : EvR F te σ H k (IsD K (enc t))) : EvR F (tOp (rIxT K) te (tC (.int 1))) σ H k (IsD K (.int t.mark)) :=
  rd_ix (kb := 0) o (h.cast (enc_eq t)) rv_c 1 rfl rfl (by rw [← enc_eq]; exact enc_flat t)
theorem rt_calls (o : F.Ok) (h : EvR F te σ H k (IsD K (enc t))) : EvR F (tOp (rIxT K) te (tC (.int 2))) σ H k (IsD K (.tuple (t.calls.map enc))) :=
  rd_ix (kb := 0) o (h.cast (enc_eq t)) rv_c 2 rfl rfl (by rw [← enc_eq]; exact enc_flat t)
end
end Tr
/-! ### the head's facts, with built-ins that the top imports under a name -/
namespace Hx
open PySem PySem.Spec PyProof.Rows L2 He
abbrev AlE : Type := Bool × AlD
def bltB (K : PySem.W.Frag) (bs : List (Str × String)) : Bool := bs.all fun p => eqO (PySem.W.nsIn K mainGlobals p.1) (some (some (.builtin p.2)))
def obsE (fa : List Fa) (fn : List DefD) (bs : List (Str × String)) (K : PySem.W.Frag) : AlE := (bltB K bs, obsD fa fn K)
def valE (fn : List DefD) : AlE := (true, valD fn)
def SaysE (fa : List Fa) (fn : List DefD) (bs : List (Str × String)) (K : PySem.W.Frag) : Prop := obsE fa fn bs K = valE fn
def obsEG (n : Nat) (fa : List Fa) (fn : List DefD) (bs : List (Str × String)) (g : Addr → Option Obj) : AlE := obsE fa fn bs (frG g (asD g n))
def hookE (n : Nat) (fa : List Fa) (fn : List DefD) (bs : List (Str × String)) : PySem.W.Hook where
  α := AlE
  obs := fun s => obsEG n fa fn bs s.heap.get?
  val := fun _ => valE fn
  says := fun _ h => ∃ K : PySem.W.Frag, K.In h ∧ SaysE fa fn bs K
  of := fun _ _ e => ⟨_, frG_in, e⟩
  keeps := fun _ _ _ ⟨K, hK, c⟩ k => ⟨K, PySem.W.Frag.In.keeps hK k, c⟩
theorem obsEG_eq {n : Nat} {fa : List Fa} {fn : List DefD} {bs : List (Str × String)} {g : Addr → Option Obj} {s : Shared} (h : ∀ a, g a = s.heap.get? a) : obsEG n fa fn bs g = (hookE n fa fn bs).obs s := by
  have e : g = s.heap.get? := funext h
  rw [e] <;> rfl
section
variable {fa : List Fa} {fn : List DefD} {bs : List (Str × String)} {K : PySem.W.Frag} {h : Heap} {mg : Str → Option Value}
theorem SaysE.d (c : SaysE fa fn bs K) : SaysD fa fn K := congrArg (fun z : AlE => z.2) c
theorem SaysE.blt (c : SaysE fa fn bs K) (X : K.In h) (G : h.Ns mainGlobals mg) (i : Nat) {x : Str} {id : String} (e : bs[i]? = some (x, id) := by rfl) : mg x = some (.builtin id) := by
  have c1 : bltB K bs = true := congrArg (fun z : AlE => z.1) c
  exact PySem.W.mg_of X G (eqO_ok (List.all_eq_true.mp c1 (x, id) (List.mem_of_getElem? e)))
end
/-- a def without defaults, as Words has it -/
theorem toFun {K : PySem.W.Frag} {x qual : Str} {st : Stmt} {f : Addr} {fd : FuncData} (F : FunD K x qual (defArgs st) (defBody st) (defScope st) [] [] f fd) : Fun K x qual st f fd := by
  obtain ⟨⟨oc, od, dV, kV, doc, pm, an, cdv, ct, osl, e, l, c, d, k⟩, kp⟩ := F
  rcases d with ⟨_, d⟩ | ⟨d, _⟩
  · subst d
    exact ⟨⟨oc, od, kV, doc, pm, an, cdv, ct, osl, e, l, c⟩, kp⟩
  · exact absurd rfl d
/-- a law's end over the facts of a head -/
theorem walk_ofEB {l : PySem.W.OpenLaw} {n k : Nat} {q : Program} {loose : List Str} {XP : (Str → Option Value) → Heap → Prop} {YP : World → Heap → Prop} {d : DefRec} {CX : CXT} {x : Str}
    (hn : l.most = some n) (hn2 : n ≤ sizeLine) (hdf : d.params.defaults = []) (hr : Room k callerA)
    (F : ∀ (w : World) (mg : Str → Option Value) (fa : Addr) (h : Heap), YP w h → h.Ns mainGlobals mg → mg d.name = some (.ref fa) →
      ∃ (K : PySem.W.Frag) (fd : FuncData) (sp : Sp), K.In h ∧ (∀ (s : Shared) (u : Value), BindsTo s fd ⟨[u], []⟩ [(x, u)]) ∧
        (∀ (H : Hp) (a : Addr) (ns : List Int), ns.length ≤ n → (∀ z ∈ ns, Builtin.Int.intBits z ≤ 1048576) → Only H → SqL K H a (ns.map V.int) → sp [.ref a] H (fun v _ => v = .bl true) fun _ _ _ => False) ∧
        ∀ base : Heap, K.In base → base.Ns mainGlobals mg → FnOk l.prog w K mg base CX k fa fd [x] sp)
    (hCX : ∀ (H : Hp) (s : Shared) (e : Value) (s' : Shared), CX [] H s (fun _ _ _ => False) e s' → False) :
    PySem.W.WalkO q loose XP YP l.row.toRowW d [] (fun f vs => PySem.call f vs) := by
  refine Att.attach_callB hn hdf fun w s₀ s₁ mg mb fa o pm cd doc a vs ns G Y ho hd hcd hmg hobj hints hlen hbits hg => ?_
  obtain ⟨K, fd, sp, KX, hb, hsp, hF⟩ := F w mg fa _ Y G.T.g hmg
  exact law_call KX G.T.g G.T.b G.T.builtins G.T.nolimit hg hobj hints (Nat.le_trans hlen hn2) hr hF hb (fun H hO hS => hsp H a ns hlen hbits hO hS) fun H e s' => hCX H s₁ e s'
end Hx
namespace K18
open PySem PySem.Spec PyProof.Rows L2 Evl Fx Dt Tr
def topS (i : Nat) : Stmt := PySem.Challenge.pw_thinspans_k21_what_is_left_told.main.body.getD i (.Pass ⟨0, 0, 0, 0⟩)
theorem scSubs : FnScope ["tree", "found", "waiting", "here"] ["tree"] (defScope (topS 16)) := ⟨rfl, rfl, rfl, by decide +kernel, rfl, by decide +kernel, by decide +kernel⟩
section
variable {P : Program} {w : World} {K : PySem.W.Frag} {mg : Str → Option Value} {base : Heap} {f f2 f3 : Addr} {fd fd2 fd3 : FuncData}
def spSubs (K : PySem.W.Frag) : Sp := spL K fun ds es => ∃ t, size t ≤ 1000 ∧ ds = [enc t] ∧ es = (subs t).map enc
theorem ok_subs (F : Fun K "subtrees_of" "subtrees_of" (topS 16) f fd) : FnOk P w K mg base CX0 1 f fd ["tree"] (spSubs K) := by
  refine F.ok scSubs (fun vs H Q E h => ?_) (fun cdv A outer s H vs Q E hr h => ?_)
  · obtain ⟨ds, es, hd, ⟨t, _, rfl, _⟩, _⟩ := h
    exact dps_len hd
  · obtain ⟨ds, es, hd, ⟨t, hs, rfl, rfl⟩, q⟩ := h
    refine ⟨_, pss_cons (ps_set (i := 1) scSubs.nd rfl (.inl rfl) (pe_lst pa_nil))
      (pss_cons (ps_set (i := 2) scSubs.nd rfl (.inl rfl) (pe_lst (pa_cons (pv 0) pa_nil)))
      (pss_cons (ps_while PassesOwn.never (pt_truth (pv 2) (fun _ => rfl))
        (pss_cons (ps_asg (pe_bm0 PySem.F.plainAttrs_list PySem.F.slot_list_pop PySem.F.type_list_pop mt_pop (pv 2)) (pg_name (i := 3) scSubs.nd rfl (.inl rfl)))
        (pss_cons (ps_expr (pe_bm PySem.F.plainAttrs_list PySem.F.slot_list_append PySem.F.type_list_append mt_append (pv 1) (pa_cons (pv 3) pa_nil)))
        (pss_one (ps_expr (pe_bm PySem.F.plainAttrs_list PySem.F.slot_list_extend PySem.F.type_list_extend mt_extendT (pv 2) (pa_cons (pe_revT (pe_ix ix_tup (pv 3) pe_int (fun _ _ => rfl))) pa_nil)))))))
      (pss_one (ps_ret (pv 1))))), ?_⟩
    show tSeq (tAsg (tLst tNil) (gName 1)) (tSeq (tAsg (tLst (tCons (tVar 0) tNil)) (gName 2)) (tSeq (tWhile (tTru K 2) _) _)) _ _ _
    match vs, hd with
    | [v0], .cons hv0 .nil =>
    refine q_asgL (el_lst ea_nil (by simp)) fun A1 H1 n1 e1 h1 => q_asgL (el_lst (ea_cons (ev_var rfl) ea_nil) (by simp)) fun A2 H2 n2 e2 h2 => ?_
    have hne : A1 ≠ A2 := ne_addr n2 h1
    have n2' : H A2 = none := fresh_back e1 n2
    refine s_while (fun m σ' H' => ∃ (done pend : List T) (xs ys : List V) (u : Option V), σ' = [some v0, some (.ref A1), some (.ref A2), u] ∧ Ex H H' ∧ H' A1 = some (.lst xs) ∧ H' A2 = some (.lst ys) ∧ DpAll K H' xs (done.map enc) ∧ DpAll K H' ys (pend.map enc) ∧
      done ++ subsA pend.reverse = subs t ∧ m = sizes pend) (sizes [t]) ⟨[], [t], [], [v0], none, rfl, e1.trans e2, e2 _ _ h1, h2, .nil, .cons (dp_ex (e1.trans e2) _ _ hv0) .nil, by simp [subsA], rfl⟩ fun m σ' H' ⟨done, pend, xs, ys, u, es, ee, hx, hy, dx, dy, hm, em⟩ => ?_
    subst es em
    have lp : xs.length + ys.length ≤ 1000 := by
      have a1 := dps_len dx
      have a2 := dps_len dy
      have a3 := congrArg List.length hm
      rw [List.length_append, subsA_len, sizes_rev, subs_len] at a3
      have a4 := len_sizes pend
      rw [List.length_map] at a1 a2
      omega
    refine ⟨!ys.isEmpty, et_truL rfl hy, fun hb H3 e3 => ?_, fun hb H3 e3 => ?_⟩
    · have hp : pend ≠ [] := by
        rintro rfl
        cases dy
        simp at hb
      obtain ⟨ps, y, rfl⟩ : ∃ ps y, pend = ps ++ [y] := ⟨_, _, (List.dropLast_concat_getLast hp).symm⟩
      rw [List.map_append, List.map_singleton] at dy
      obtain ⟨zs, v, rfl, dz, dv⟩ := dps_last dy
      refine ⟨fun σ2 H2 => ∃ m', m' < sizes (ps ++ [y]) ∧ ∃ (done pend : List T) (xs ys : List V) (u : Option V), σ2 = [some v0, some (.ref A1), some (.ref A2), u] ∧ Ex H H2 ∧ H2 A1 = some (.lst xs) ∧ H2 A2 = some (.lst ys) ∧ DpAll K H2 xs (done.map enc) ∧ DpAll K H2 ys (pend.map enc) ∧
        done ++ subsA pend.reverse = subs t ∧ m' = sizes pend, fun _ _ h => h, ?_⟩
      refine q_popR rfl (e3 _ _ hy) ?_
      have k1 : KT K H3 (upd H3 A2 (.lst zs)) := kt_lst (e3 _ _ hy)
      have ex1 : Ex H (upd H3 A2 (.lst zs)) := (ee.trans e3).mut n2'
      have hx1 : upd H3 A2 (.lst zs) A1 = some (.lst xs) := by rw [upd_ne hne]; exact e3 _ _ hx
      refine q_appR (F := F0) (n := 0) (k := 0) (P := IsD K (enc y)) (D := _) rfl hx1 (fun z => z) (rd_var F0.ok (n := 0) F0.g rfl (dp_kt (kt_trans (kt_ex e3) k1) _ _ (enc_flat y) dv) (enc_flat y)) F0.g (Nat.le_refl _) (by omega) fun v' H4 e4 _ dv' hx4 => ?_
      replace e4 := F0.ex e4
      have hy4 : H4 A2 = some (.lst zs) := e4 _ _ upd_same
      have hy5 : upd H4 A1 (.lst (xs ++ [v'])) A2 = some (.lst zs) := by rw [upd_ne hne.symm]; exact hy4
      have k5 : KT K H4 (upd H4 A1 (.lst (xs ++ [v']))) := kt_lst hx4
      have ex5 : Ex H (upd H4 A1 (.lst (xs ++ [v']))) := (ex1.trans e4).mut n1
      have kz : KT K H' H4 := kt_trans (kt_ex e3) (kt_trans k1 (kt_ex e4))
      have ly : y.calls.length + ps.length ≤ 1000 := by
        have a3 := congrArg List.length hm
        rw [List.length_append, subsA_len, sizes_rev, subs_len, sizes_app, sizes, sizes, size_eq] at a3
        have a4 := len_sizes ps
        have a5 := len_sizes y.calls
        omega
      have lz := dps_len dz
      rw [List.length_map] at lz
      refine q_extT (F := F0) (n := 0) (k := 0) (ds := (y.calls.map enc).reverse) rfl hy5 (fun z => z) (rd_revT F0.ok (rt_calls F0.ok (rd_var F0.ok (n := 0) F0.g rfl (dp_kt (kt_trans kz k5) _ _ (enc_flat y) dv) (enc_flat y)))) F0.g (Nat.le_refl _) (by rw [List.length_reverse, List.length_map]; omega) fun us H6 e6 _ du hy6 => ?_
      replace e6 := F0.ex e6
      have hx6 : H6 A1 = some (.lst (xs ++ [v'])) := e6 _ _ upd_same
      have k7 : KT K H6 (upd H6 A2 (.lst (zs ++ us))) := kt_lst hy6
      refine ⟨_, ?_, done ++ [y], ps ++ y.calls.reverse, xs ++ [v'], zs ++ us, _, rfl, (ex5.trans e6).mut n2', by rw [upd_ne hne]; exact hx6, upd_same, ?_, ?_, ?_, rfl⟩
      · rw [sizes_app, sizes_app, sizes_rev, sizes, sizes, size_eq]
        omega
      · rw [List.map_append]
        have kk := kt_trans k5 (kt_trans (kt_ex e6) k7)
        exact dps_snoc (dps_kt (kt_trans kz kk) _ _ (maps_flat done) dx) (dp_kt kk _ _ (enc_flat y) dv')
      · rw [List.map_append, List.map_reverse]
        exact dps_app (dps_kt (kt_trans kz (kt_trans k5 (kt_trans (kt_ex e6) k7))) _ _ (maps_flat ps) dz) (dps_kt k7 _ _ (by rw [← List.map_reverse]; exact maps_flat _) du)
      · rw [List.reverse_append, List.reverse_reverse, subsA_app, ← hm, List.reverse_append, List.reverse_singleton, subsA_app, List.append_assoc]
        show _ ++ ([y] ++ _) = _ ++ (subsA [y] ++ _)
        rw [subsA, subsA, subs_eq, List.append_nil]
        rfl
    · have hp : ys = [] := by
        cases ys with
        | nil => rfl
        | cons _ _ => simp at hb
      subst hp
      have hp : pend = [] := by
        cases pend with
        | nil => rfl
        | cons _ _ => cases dy
      subst hp
      rw [List.reverse_nil, subsA, List.append_nil] at hm
      subst hm
      exact s_ret (v := .ref A1) (ev_var rfl) fun H4 e4 => q A1 xs H4 (fresh_back (Ex.refl H) n1) (ee.trans (e3.trans e4)) (e4 _ _ (e3 _ _ hx)) (dps_ex (e3.trans e4) _ _ dx)
end
end K18
namespace K18
open PySem PySem.Spec PyProof.Rows L2 Evl Fx Dt Tr
section
variable {P : Program} {w : World} {K : PySem.W.Frag} {mg : Str → Option Value} {base : Heap} {f f2 f3 : Addr} {fd fd2 fd3 : FuncData}
def spPlaced (K : PySem.W.Frag) : Sp := spL K fun ds es => ∃ t, size t ≤ 1000 ∧ ds = [enc t] ∧ es = (placed [] t).map ptD
set_option maxHeartbeats 1000000 in
end
end K18
namespace K18
open PySem PySem.Spec PyProof.Rows L2 Evl Fx Fr
abbrev sWhole : Stmt := topS 13
abbrev sReduced : Stmt := topS 28
theorem scWhole : FnScope ["thing"] ["thing"] (defScope sWhole) := ⟨rfl, rfl, rfl, by decide +kernel, rfl, by decide +kernel, by decide +kernel⟩
theorem scReduced : FnScope ["p", "q", "common"] ["p", "q"] (defScope sReduced) := ⟨rfl, rfl, rfl, by decide +kernel, rfl, by decide +kernel, by decide +kernel⟩
section
variable {P : Program} {w : World} {K : PySem.W.Frag} {mg : Str → Option Value} {base : Heap} {f f2 f3 : Addr} {fd fd2 fd3 : FuncData} {CX : CXT}
/-! ### whole numbers -/
/-- of any value whose kind is known: whether it is an int, not a bool -/
def spWhole (K : PySem.W.Frag) : Sp := fun vs H Q _ => ∃ (x : V) (T : String) (a b : Bool), vs = [x] ∧ TyX K H x (.type T) ∧ kitB T "int" = some a ∧ kitB T "bool" = some b ∧ Q (.bl (a && !b)) H
theorem ok_whole (F : Fun K "is_whole" "is_whole" sWhole f fd) (mI : mg "isinstance" = none) (mi : mg "int" = none) (mb : mg "bool" = none) : FnOk P w K mg base CX0 1 f fd ["thing"] (spWhole K) := by
  refine F.ok scWhole (fun vs H Q E h => ?_) (fun cdv A outer s H vs Q E hr h => ?_)
  · obtain ⟨x, T, a, b, rfl, _⟩ := h
    rfl
  · obtain ⟨x, T, a, b, rfl, ty, e1, e2, q⟩ := h
    refine ⟨_, pss_one (ps_ret (pe_and (pe_callB call_isi (by rfl) mI (by decide +kernel) (pa_cons (pv 0) (pa_cons (pe_bltn (v := .ty "int") (by rfl) mi (by decide +kernel) rfl) pa_nil)))
      (pe_one (pe_not (pe_callB call_isi (by rfl) mI (by decide +kernel) (pa_cons (pv 0) (pa_cons (pe_bltn (v := .ty "bool") (by rfl) mb (by decide +kernel) rfl) pa_nil))))))), ?_⟩
    refine ⟨_, rfl, x, .ty "int", _, _, a, rfl, .ty "int", ty, kit_ty e1, a, rfl, ?_⟩
    cases a with
    | false => exact iteF q
    | true => exact iteT ⟨_, rfl, x, .ty "bool", _, _, b, rfl, .ty "bool", ty, kit_ty e2, b, rfl, q⟩
theorem tyI (K : PySem.W.Frag) (H : Hp) (i : Int) : TyX K H (.int i) (.type "int") := .base (.int i)
theorem kII : kitB "int" "int" = some true := by decide +kernel
theorem kIB : kitB "int" "bool" = some false := by decide +kernel
/-! ### reduced pairs -/
def okR (i j : Int) : Prop := j ≠ 0 ∧ i.natAbs < 2 ^ 4000 ∧ j.natAbs < 2 ^ 4000
theorem comm_lt {p q : Int} (h : q ≠ 0) (hq : q.natAbs < 2 ^ 4000) : (comm p q).natAbs < 2 ^ 4000 ∧ comm p q ≠ 0 := by
  have g := gcd_pos (p := p) h
  have l : Nat.gcd p.natAbs q.natAbs ≤ q.natAbs := Nat.gcd_le_right _ (by omega)
  unfold comm
  split <;> omega
theorem ok_reduced (F : Fun K "reduced_pair" "reduced_pair" sReduced f fd) (gG : mg "gcd" = some (.builtin "math.gcd")) : FnOk P w K mg base CX0 1 f fd ["p", "q"] (spI2F okR Rat.divInt) := by
  refine F.ok scReduced (fun vs H Q E h => ?_) (fun cdv A outer s H vs Q E hr h => ?_)
  · obtain ⟨i, j, rfl, _⟩ := h
    rfl
  · obtain ⟨i, j, rfl, ⟨h0, h1, h2⟩, q⟩ := h
    obtain ⟨c1, c2⟩ := comm_lt (p := i) h0 h2
    have cd1 : CDivS i (comm i j) := cdivS c2 c1 (by decide) (by decide)
    have cd2 : CDivS j (comm i j) := cdivS c2 c1 (by decide) (by decide)
    refine ⟨_, pss_cons (ps_set (i := 2) scReduced.nd rfl (.inl rfl) (pe_callBfun cr_gcd (by rfl) gG (pa_cons (pv 0) (pa_cons (pv 1) pa_nil))))
      (pss_cons (ps_if (pt_cmpR op_lt (pv 1) pe_int (nomark _)) (pss_one (ps_set (i := 2) scReduced.nd rfl (.inl rfl) (pe_un un_neg (pv 2)))) pss_nil)
      (pss_one (ps_ret (pe_tup (pa_cons (pe_op op_fdivWN (pv 0) (pv 2)) (pa_cons (pe_op op_fdivWN (pv 1) (pv 2)) pa_nil)))))), ?_⟩
    refine ⟨_, rfl, _, rfl, _, _, rfl, _, rfl, _, _, rfl, rfl, _, rfl, ?_⟩
    have fin : ∀ p, H p = none → Q (.ref p) (upd H p (.tup [.int (i.fdiv (comm i j)), .int (j.fdiv (comm i j))])) := fun p hp => by
      refine q _ p (Ex.new hp) ?_
      rw [upd_same, red_num h0, red_den h0]
      rfl
    by_cases hj : j < 0
    · rw [decide_eq_true hj]
      refine iteT ?_
      rw [comm_neg hj] at fin cd1 cd2
      exact ⟨_, rfl, _, rfl, _, rfl, _, rfl, _, _, rfl, rfl, cd1, _, rfl, _, rfl, _, _, rfl, rfl, cd2, (by show 2 ≤ sizeLine; decide), fin⟩
    · rw [decide_eq_false hj]
      refine iteF ?_
      rw [comm_pos hj] at fin cd1 cd2
      exact ⟨_, rfl, _, rfl, _, _, rfl, rfl, cd1, _, rfl, _, rfl, _, _, rfl, rfl, cd2, (by show 2 ≤ sizeLine; decide), fin⟩
/-! ### reckoning -/
def okB (s : Nat) (x y : Rat) : Prop := ∃ n m, Bd n x ∧ Bd m y ∧ n + m + s ≤ 4000
theorem mulW {i j : Int} {n m : Nat} (h1 : i.natAbs < 2 ^ n) (h2 : j.natAbs < 2 ^ m) (h : n + m ≤ 4000) : CMulW i j := wide_mul (lt_up h1 (Nat.le_succ n)) (lt_up h2 (Nat.le_succ m)) (by omega) (by omega) (by omega)
theorem ev_mul {ta tb : TE} {σ : L2.St} {H : Hp} {i j : Int} {n m : Nat} (ha : Ev ta σ H (.int i)) (hb : Ev tb σ H (.int j)) (h1 : i.natAbs < 2 ^ n) (h2 : j.natAbs < 2 ^ m) (h : n + m ≤ 4000) : Ev (tOp (rI CMulW fun i j => .int (i * j)) ta tb) σ H (.int (i * j)) := ev_op ha hb (rv_I (g := fun i j => .int (i * j)) (mulW h1 h2 h))
theorem ev_add {ta tb : TE} {σ : L2.St} {H : Hp} {i j : Int} (ha : Ev ta σ H (.int i)) (hb : Ev tb σ H (.int j)) : Ev (tOp (rI0 fun i j => .int (i + j)) ta tb) σ H (.int (i + j)) := ev_op ha hb (rv_I0 (g := fun i j => .int (i + j)))
theorem ev_sub {ta tb : TE} {σ : L2.St} {H : Hp} {i j : Int} (ha : Ev ta σ H (.int i)) (hb : Ev tb σ H (.int j)) : Ev (tOp (rI0 fun i j => .int (i - j)) ta tb) σ H (.int (i - j)) := ev_op ha hb (rv_I0 (g := fun i j => .int (i - j)))
theorem ev_lt {ta tb : TE} {σ : L2.St} {H : Hp} {i j : Int} (ha : Ev ta σ H (.int i)) (hb : Ev tb σ H (.int j)) : Ev (tOp (rI0 fun i j => .bl (decide (i < j))) ta tb) σ H (.bl (decide (i < j))) := ev_op ha hb (rv_I0 (g := fun i j => .bl (decide (i < j))))
theorem ev_gt {ta tb : TE} {σ : L2.St} {H : Hp} {i j : Int} (ha : Ev ta σ H (.int i)) (hb : Ev tb σ H (.int j)) : Ev (tOp (rI0 fun i j => .bl (decide (j < i))) ta tb) σ H (.bl (decide (j < i))) := ev_op ha hb (rv_I0 (g := fun i j => .bl (decide (j < i))))
end
end K18
/-! ### plain rules -/
namespace Tr
open PySem PySem.Spec PyProof.Rows L2 Evl Fx Dt
def frD (r : Rat) : PyData := .tuple [.int r.num, .int (r.den : Int)]
inductive Pl where
  | own (p q : Int)
  | shared (p q : Int)
  | caller
  | bad
  | late
  | never
def Pl.word : Pl → Str
  | .own _ _ => "own"
  | .shared _ _ => "shared"
  | .caller => "caller"
  | .bad => "bad"
  | .late => "late"
  | .never => "never"
def Pl.more : Pl → List PyData
  | .own p q => [.int p, .int q]
  | .shared p q => [.int p, .int q]
  | _ => []
def Pl.D (x : Pl) : PyData := .tuple (.str x.word :: x.more)
def Pl.Ok : Pl → Prop
  | .own p q => 0 < q ∧ p.natAbs < 2 ^ 60 ∧ q.natAbs < 2 ^ 60
  | .shared p q => 0 < q ∧ p.natAbs < 2 ^ 60 ∧ q.natAbs < 2 ^ 60
  | _ => True
theorem Pl.flat (x : Pl) : Dt.flat x.D = true := by cases x <;> rfl
/-- whether it says so by a draw of the trace -/
def Pl.says (bad late called : Bool) (draw : Rat) : Pl → Bool
  | .own _ _ => false
  | .shared p q => decide (draw < Rat.divInt p q)
  | .caller => called
  | .bad => bad
  | .late => late
  | .never => false
def Pl.chance (bad late called : Bool) (draw : Rat) : Pl → Rat
  | .own p q => Rat.divInt p q
  | x => if x.says bad late called draw then 1 else 0
inductive Ru where
  | one (a : Pl)
  | or (a b : Pl)
def Ru.D : Ru → PyData
  | .one a => a.D
  | .or a b => .tuple [.str "or", a.D, b.D]
def Ru.plains : Ru → List Pl
  | .one a => [a]
  | .or a b => [a, b]
def Ru.Ok (r : Ru) : Prop := ∀ p ∈ r.plains, p.Ok
theorem Ru.flat (x : Ru) : Dt.flat x.D = true := by
  cases x with
  | one a => exact a.flat
  | or a b =>
    show Dt.flat (.tuple [.str "or", a.D, b.D]) = true
    rw [flat_tup, flats, flats, flats, flats, a.flat, b.flat]
    rfl
theorem fr_flat (r : Rat) : Dt.flat (frD r) = true := rfl
theorem sh_str {x : Str} (h : PyData.strOk x = true) : SeqAt.shaped (.str x) = true := by simp [SeqAt.shaped, PyData.canLay0, PyData.depth, h]
theorem word_ok (x : Pl) : PyData.strOk x.word = true := by
  cases x with
  | own p q => exact (by decide +kernel : PyData.strOk ("own" : Str) = true)
  | shared p q => exact (by decide +kernel : PyData.strOk ("shared" : Str) = true)
  | caller => decide +kernel
  | bad => decide +kernel
  | late => decide +kernel
  | never => decide +kernel
theorem word_or (x : Pl) : (x.word == ("or" : Str)) = false := by
  cases x with
  | own p q => exact (by decide +kernel : (("own" : Str) == ("or" : Str)) = false)
  | shared p q => exact (by decide +kernel : (("shared" : Str) == ("or" : Str)) = false)
  | caller => decide +kernel
  | bad => decide +kernel
  | late => decide +kernel
  | never => decide +kernel
theorem sh_int (x : Int) : SeqAt.shaped (.int x) = true := by simp [SeqAt.shaped, PyData.canLay0, PyData.depth]
theorem str_eqv (a b : Str) : PyData.eqv (.str a) (.str b) = (a == b) := by simp [PyData.eqv]
theorem int_eqv (a b : Int) : PyData.eqv (.int a) (.int b) = (a == b) := by simp [PyData.eqv]
end Tr
namespace K18
open PySem PySem.Spec PyProof.Rows L2 Evl Fx Fr Dt Tr
section
variable {P : Program} {w : World} {K : PySem.W.Frag} {mg : Str → Option Value} {base : Heap} {f f2 f3 : Addr} {fd fd2 fd3 : FuncData}
def spLess (K : PySem.W.Frag) : Sp := spD K fun ds d => ∃ x y, okB 1 x y ∧ ds = [frD x, frD y] ∧ d = .bool (decide (x < y))
def spMade (K : PySem.W.Frag) : Sp := spD K fun ds d => ∃ i j, okR i j ∧ ds = [.int i, .int j] ∧ d = frD (Rat.divInt i j)
theorem made_d {k : Nat} (G : FnOk P w K mg base CX0 k f fd ["p", "q"] (spI2F okR Rat.divInt)) : FnOk P w K mg base CX0 k f fd ["p", "q"] (spMade K) := G.imp fun vs H Q E h => by
  obtain ⟨ds, d, hd, ⟨i, j, hk, rfl, rfl⟩, q⟩ := h
  match vs, hd with
  | [v1, v2], .cons p1 (.cons p2 .nil) =>
  cases p1
  cases p2
  exact ⟨i, j, rfl, hk, fun H' p e hp => q _ H' e (.tup (st_of hp) (.cons (.int _) (.cons (.int _) .nil)))⟩
def spPlains (K : PySem.W.Frag) : Sp := spD K fun ds d => ∃ r : Ru, ds = [r.D] ∧ d = .tuple (r.plains.map Pl.D)
end
end K18
namespace Tr
open PySem PySem.Spec PyProof.Rows L2 Evl Fx Dt
def Pl.sh (draw : Rat) : Pl → Bool
  | .shared p q => decide (draw < Rat.divInt p q)
  | _ => false
theorem word_own {x : Pl} (h : (x.word == ("own" : Str)) = true) : ∃ p q, x = .own p q := by
  cases x with
  | own p q => exact ⟨p, q, rfl⟩
  | shared p q => exact absurd h (by have : (("shared" : Str) == ("own" : Str)) = false := by decide +kernel
                                     show ¬ (("shared" : Str) == ("own" : Str)) = true
                                     rw [this]
                                     exact Bool.false_ne_true)
  | caller => exact absurd h (by decide +kernel)
  | bad => exact absurd h (by decide +kernel)
  | late => exact absurd h (by decide +kernel)
  | never => exact absurd h (by decide +kernel)
theorem word_shared {x : Pl} (h : (x.word == ("shared" : Str)) = true) : ∃ p q, x = .shared p q := by
  cases x with
  | shared p q => exact ⟨p, q, rfl⟩
  | own p q => exact absurd h (by have : (("own" : Str) == ("shared" : Str)) = false := by decide +kernel
                                  show ¬ (("own" : Str) == ("shared" : Str)) = true
                                  rw [this]
                                  exact Bool.false_ne_true)
  | caller => exact absurd h (by decide +kernel)
  | bad => exact absurd h (by decide +kernel)
  | late => exact absurd h (by decide +kernel)
  | never => exact absurd h (by decide +kernel)
theorem not_own {x : Pl} (h : (x.word == ("own" : Str)) = false) : ∀ p q, x ≠ .own p q := fun p q e => by
  subst e
  exact absurd h (by have : (("own" : Str) == ("own" : Str)) = true := by decide +kernel
                     show ¬ (("own" : Str) == ("own" : Str)) = false
                     rw [this]
                     exact fun z => Bool.noConfusion z)
theorem says_eq (x : Pl) (h : ∀ p q, x ≠ .own p q) (bad late called : Bool) (draw : Rat) : ((x.word == ("shared" : Str)) && x.sh draw || ((x.word == ("caller" : Str)) && called || ((x.word == ("bad" : Str)) && bad || ((x.word == ("late" : Str)) && late)))) = x.says bad late called draw := by
  have w1 : (("shared" : Str) == ("shared" : Str)) = true := by decide +kernel
  have w2 : (("shared" : Str) == ("caller" : Str)) = false := by decide +kernel
  have w3 : (("shared" : Str) == ("bad" : Str)) = false := by decide +kernel
  have w4 : (("shared" : Str) == ("late" : Str)) = false := by decide +kernel
  have c1 : (("caller" : Str) == ("shared" : Str)) = false := by decide +kernel
  have c2 : (("caller" : Str) == ("caller" : Str)) = true := by decide +kernel
  have c3 : (("caller" : Str) == ("bad" : Str)) = false := by decide +kernel
  have c4 : (("caller" : Str) == ("late" : Str)) = false := by decide +kernel
  have b1 : (("bad" : Str) == ("shared" : Str)) = false := by decide +kernel
  have b2 : (("bad" : Str) == ("caller" : Str)) = false := by decide +kernel
  have b3 : (("bad" : Str) == ("bad" : Str)) = true := by decide +kernel
  have b4 : (("bad" : Str) == ("late" : Str)) = false := by decide +kernel
  have l1 : (("late" : Str) == ("shared" : Str)) = false := by decide +kernel
  have l2 : (("late" : Str) == ("caller" : Str)) = false := by decide +kernel
  have l3 : (("late" : Str) == ("bad" : Str)) = false := by decide +kernel
  have l4 : (("late" : Str) == ("late" : Str)) = true := by decide +kernel
  have n1 : (("never" : Str) == ("shared" : Str)) = false := by decide +kernel
  have n2 : (("never" : Str) == ("caller" : Str)) = false := by decide +kernel
  have n3 : (("never" : Str) == ("bad" : Str)) = false := by decide +kernel
  have n4 : (("never" : Str) == ("late" : Str)) = false := by decide +kernel
  cases x with
  | own p q => exact absurd rfl (h p q)
  | shared p q => simp only [Pl.word, Pl.sh, Pl.says, w1, w2, w3, w4, Bool.true_and, Bool.false_and, Bool.or_false]
  | caller => simp only [Pl.word, Pl.sh, Pl.says, c1, c2, c3, c4, Bool.true_and, Bool.false_and, Bool.or_false, Bool.false_or]
  | bad => simp only [Pl.word, Pl.sh, Pl.says, b1, b2, b3, b4, Bool.true_and, Bool.false_and, Bool.or_false, Bool.false_or]
  | late => simp only [Pl.word, Pl.sh, Pl.says, l1, l2, l3, l4, Bool.true_and, Bool.false_and, Bool.or_false, Bool.false_or]
  | never => simp only [Pl.word, Pl.sh, Pl.says, n1, n2, n3, n4, Bool.true_and, Bool.false_and, Bool.or_false, Bool.false_or]
theorem chance_eq (x : Pl) (h : ∀ p q, x ≠ .own p q) (bad late called : Bool) (draw : Rat) : x.chance bad late called draw = if x.says bad late called draw then 1 else 0 := by
  cases x with
  | own p q => exact absurd rfl (h p q)
  | _ => rfl
end Tr
namespace K18
open PySem PySem.Spec PyProof.Rows L2 Evl Fx Fr Dt Tr
section
variable {P : Program} {w : World} {K : PySem.W.Frag} {mg : Str → Option Value} {base : Heap} {f f2 f3 : Addr} {fd fd2 fd3 : FuncData}
/-- a name of the module that holds data written there -/
def Wr (K : PySem.W.Frag) (mg : Str → Option Value) (x : Str) (d : PyData) : Prop := ∃ a, mg x = some (.ref a) ∧ ∀ H, Dp K H (.ref a) d
theorem rd_const {F : Fd} {σ : L2.St} {H : Hp} {a : Addr} {d : PyData} (h : ∀ H, Dp K H (.ref a) d) : EvR F (tC (.ref a)) σ H 0 (IsD K d) := fun n1 H1 hn g e Q q => q _ H1 Kx.refl g (h H1)
def spChance (K : PySem.W.Frag) : Sp := spD K fun ds d => ∃ (x : Pl) (bad late called : Bool) (draw : Rat), x.Ok ∧ Bd 60 draw ∧ ds = [x.D, .bool bad, .bool late, .bool called, frD draw] ∧ d = frD (x.chance bad late called draw)
theorem okR_of {p q : Int} (h : 0 < q ∧ p.natAbs < 2 ^ 60 ∧ q.natAbs < 2 ^ 60) : okR p q := ⟨by omega, lt_up h.2.1 (by decide), lt_up h.2.2 (by decide)⟩
theorem bd_made {p q : Int} (h : 0 < q ∧ p.natAbs < 2 ^ 60 ∧ q.natAbs < 2 ^ 60) : Bd 60 (Rat.divInt p q) := bd_div (by omega) h.2.1 h.2.2
end
end K18
namespace Tr
open PySem PySem.Spec PyProof.Rows L2 Evl Fx Dt
def rowD (x : Str × Ru) : PyData := .tuple [.str x.1, x.2.D]
theorem row_flat (x : Str × Ru) : Dt.flat (rowD x) = true := by
  unfold rowD
  rw [flat_tup, flats, flats, flats, x.2.flat]
  rfl
theorem rows_flat (xs : List (Str × Ru)) : flats (xs.map rowD) = true := flats_all.mpr fun d hd => by
  obtain ⟨x, _, rfl⟩ := List.mem_map.mp hd
  exact row_flat x
/-- the place of a service's rule -/
def RuleAt (rs : List (Str × Ru)) (s : Str) (i : Nat) (r : Ru) : Prop := rs[i]? = some (s, r) ∧ ∀ j x, j < i → rs[j]? = some x → x.1 ≠ s
def Names (rs : List (Str × Ru)) : Prop := ∀ x ∈ rs, PyData.strOk x.1 = true
def spanD (x : List Nat × T) : PyData := .tuple [pathD x.1, .str x.2.name, .int x.2.mark]
theorem span_flat (x : List Nat × T) : Dt.flat (spanD x) = true := by
  unfold spanD
  rw [flat_tup, flats, flats, flats, flats, path_flat]
  rfl
def isBad (t : T) : Bool := (subs t).any fun s => s.mark == 1
end Tr
namespace Dt
open PySem PySem.Spec PyProof.Rows L2 Evl Fx
section
variable {K : PySem.W.Frag} {F : Fd} {te : TE} {σ : L2.St} {H : Hp} {k : Nat}
theorem dps_bools : ∀ {bs : List Bool} {vs : List V}, DpAll K H vs (bs.map PyData.bool) → vs = bs.map V.bl
  | [], _, h => by cases h; rfl
  | b :: bs, _, h => by
    cases h with
    | cons h1 h2 =>
      cases h1
      rw [dps_bools h2]
      rfl
theorem rb_any {bs : List Bool} (h : EvR F te σ H k (IsL F K (bs.map PyData.bool))) : EvR F (tCB (rAny K) (tCons te tNil)) σ H k (fun u _ => u = .bl (bs.any id)) := fun n H1 hn g e Q q => h n H1 hn g e _ fun v H2 e2 g2 ⟨a, xs, ev, hT, ha, hx⟩ => by
  subst ev
  have := dps_bools hx
  subst this
  exact ⟨a, bs, rfl, sq_of ha, q _ H2 e2 g2 rfl⟩
theorem gv_pair {i j : Nat} {a : Addr} {x y : V} (h : SqT K H a [x, y]) : Gv (gTup K 2 (gCons (gName i) (gCons (gName j) gNil))) (.ref a) σ H ((σ.set i (some x)).set j (some y)) := fun Q q => ⟨a, [x, y], rfl, h, rfl, x, [y], rfl, y, [], rfl, rfl, q⟩
end
end Dt
namespace K18
open PySem PySem.Spec PyProof.Rows L2 Evl Fx Fr Dt Tr
section
variable {P : Program} {w : World} {K : PySem.W.Frag} {mg : Str → Option Value} {base : Heap} {f f2 f3 : Addr} {fd fd2 fd3 : FuncData}
def spRule (K : PySem.W.Frag) : Sp := spD K fun ds d => ∃ (rs : List (Str × Ru)) (s : Str) (i : Nat) (r : Ru), Names rs ∧ PyData.strOk s = true ∧ RuleAt rs s i r ∧ ds = [.tuple (rs.map rowD), .str s] ∧ d = r.D
def spBad (K : PySem.W.Frag) : Sp := spD K fun ds d => ∃ t, size t ≤ 1000 ∧ ds = [enc t] ∧ d = .bool (isBad t)
def spSpans (K : PySem.W.Frag) : Sp := spD K fun ds d => ∃ t, size t ≤ 1000 ∧ ds = [enc t] ∧ d = .tuple ((Tr.placed [] t).map spanD)
end
end K18
namespace Tr
open PySem PySem.Spec PyProof.Rows L2 Evl Fx Fr Dt
def mkD (x : Rat × Rat) : PyData := .tuple [frD x.1, frD x.2]
theorem mk_flat (x : Rat × Rat) : Dt.flat (mkD x) = true := rfl
theorem mks_flat (xs : List (Rat × Rat)) : flats (xs.map mkD) = true := flats_all.mpr fun d hd => by
  obtain ⟨x, _, rfl⟩ := List.mem_map.mp hd
  rfl
theorem spans_flat (xs : List (List Nat × T)) : flats (xs.map spanD) = true := flats_all.mpr fun d hd => by
  obtain ⟨x, _, rfl⟩ := List.mem_map.mp hd
  exact span_flat x
theorem paths_flat (xs : List (List Nat)) : flats (xs.map pathD) = true := flats_all.mpr fun d hd => by
  obtain ⟨x, _, rfl⟩ := List.mem_map.mp hd
  exact path_flat x
theorem plains_flat (xs : List Pl) : flats (xs.map Pl.D) = true := flats_all.mpr fun d hd => by
  obtain ⟨x, _, rfl⟩ := List.mem_map.mp hd
  exact x.flat
def saysAny (r : Ru) (bad late called : Bool) (draw : Rat) (own : Rat × Rat) : Bool := (r.plains.zip [own.1, own.2]).any fun z => decide (z.2 < z.1.chance bad late called draw)
def calledIn (acc : List (List Nat)) (p : List Nat) : Bool := !(p == []) && acc.any fun z => z == p.dropLast
def step (ρ : Str → Ru) (late : Bool) (draw : Rat) (acc : List (List Nat)) (x : (List Nat × T) × (Rat × Rat)) : List (List Nat) :=
  if saysAny (ρ x.1.2.name) (x.1.2.mark == 1) late (calledIn acc x.1.1) draw x.2 then acc ++ [x.1.1] else acc
def keptBy (ρ : Str → Ru) (t : T) (draw : Rat) (owns : List (Rat × Rat)) : List (List Nat) := ((placed [] t).zip owns).foldl (step ρ (isBad t) draw) []
theorem eqvs_ints : ∀ p q : List Nat, PyData.eqvAll (p.map fun (i : Nat) => PyData.int (i : Int)) (q.map fun (i : Nat) => PyData.int (i : Int)) = (p == q)
  | [], [] => by simp [PyData.eqvAll]
  | [], _ :: _ => by simp [PyData.eqvAll]
  | _ :: _, [] => by simp [PyData.eqvAll]
  | a :: p, b :: q => by
    rw [List.map_cons, List.map_cons, PyData.eqvAll, eqvs_ints p q, int_eqv, List.cons_beq_cons]
    congr 1
    by_cases h : a = b
    · subst h
      exact (beq_self_eq_true _).trans (beq_self_eq_true _).symm
    · have h' : ¬ ((a : Int) = (b : Int)) := by omega
      exact (beq_eq_false_iff_ne.mpr h').trans (beq_eq_false_iff_ne.mpr h).symm
theorem path_eqv (p q : List Nat) : PyData.eqv (pathD p) (pathD q) = (p == q) := by
  unfold pathD
  rw [PyData.eqv]
  exact eqvs_ints p q
theorem lay_ints : ∀ p : List Nat, PyData.canLayAll0 (p.map fun (i : Nat) => PyData.int (i : Int)) = true
  | [] => by simp [PyData.canLayAll0]
  | a :: p => by rw [List.map_cons, PyData.canLayAll0, lay_ints p]; simp [PyData.canLay0]
theorem depth_nats : ∀ p : List Nat, PyData.depthAll (p.map fun (i : Nat) => PyData.int (i : Int)) = 0
  | [] => by simp [PyData.depthAll]
  | a :: p => by rw [List.map_cons, PyData.depthAll, depth_nats p]; simp [PyData.depth]
theorem path_lay (p : List Nat) : PyData.canLay0 (pathD p) = true := by
  unfold pathD
  rw [PyData.canLay0]
  exact lay_ints p
theorem path_depth (p : List Nat) : PyData.depth (pathD p) = 1 := by
  unfold pathD
  rw [PyData.depth, depth_nats]
theorem sh_path (p : List Nat) : SeqAt.shaped (pathD p) = true := by
  show ((pathD p).canLay0 && decide ((pathD p).depth ≤ 64)) = true
  rw [path_lay, path_depth]
  rfl
theorem lay_paths : ∀ ks : List (List Nat), PyData.canLayAll0 (ks.map pathD) = true
  | [] => by simp [PyData.canLayAll0]
  | a :: p => by rw [List.map_cons, PyData.canLayAll0, lay_paths p, path_lay]; rfl
theorem depth_paths : ∀ ks : List (List Nat), PyData.depthAll (ks.map pathD) ≤ 1
  | [] => by simp [PyData.depthAll]
  | a :: p => by
    have := depth_paths p
    rw [List.map_cons, PyData.depthAll, path_depth]
    omega
theorem sh_paths (ks : List (List Nat)) : SeqAt.shaped (.list (ks.map pathD)) = true := by
  have h := depth_paths ks
  show ((PyData.list (ks.map pathD)).canLay0 && decide ((PyData.list (ks.map pathD)).depth ≤ 64)) = true
  rw [Bool.and_eq_true]
  exact ⟨by rw [PyData.canLay0]; exact lay_paths ks, decide_eq_true (by rw [PyData.depth]; omega)⟩
theorem path_init (p : List Nat) : (p.map fun (i : Nat) => PyData.int (i : Int)).dropLast = p.dropLast.map fun (i : Nat) => PyData.int (i : Int) := by rw [List.map_dropLast]
theorem chance_bd {x : Pl} (h : x.Ok) (bad late called : Bool) (draw : Rat) : Bd 60 (x.chance bad late called draw) := by
  have b0 : Bd 60 (0 : Rat) := bd0.mono (by decide)
  have b1 : Bd 60 (1 : Rat) := bd1.mono (by decide)
  have bi : ∀ c : Bool, Bd 60 (if c = true then (1 : Rat) else 0) := fun c => by cases c <;> simp <;> assumption
  cases x with
  | own p q => exact bd_div (by have := h.1; omega) h.2.1 h.2.2
  | _ => exact bi _
theorem step_len (ρ : Str → Ru) (late : Bool) (draw : Rat) : ∀ (xs : List ((List Nat × T) × (Rat × Rat))) (acc : List (List Nat)), (xs.foldl (step ρ late draw) acc).length ≤ acc.length + xs.length
  | [], acc => Nat.le_refl _
  | x :: xs, acc => by
    have h := step_len ρ late draw xs (step ρ late draw acc x)
    have h2 : (step ρ late draw acc x).length ≤ acc.length + 1 := by
      unfold step
      split <;> simp
    rw [List.foldl_cons, List.length_cons]
    omega
end Tr
namespace K18
open PySem PySem.Spec PyProof.Rows L2 Evl Fx Fr Dt Tr
section
variable {P : Program} {w : World} {K : PySem.W.Frag} {mg : Str → Option Value} {base : Heap} {f f2 f3 : Addr} {fd fd2 fd3 : FuncData}
structure KeptOk (t : T) (rs : List (Str × Ru)) (ρ : Str → Ru) (draw : Rat) (owns : List (Rat × Rat)) : Prop where
  size : size t ≤ 1000
  len : owns.length = Tr.size t
  draw : Bd 60 draw
  owns : ∀ o ∈ owns, Bd 60 o.1 ∧ Bd 60 o.2
  names : Names rs
  rules : ∀ s ∈ subs t, PyData.strOk s.name = true ∧ (∃ i, RuleAt rs s.name i (ρ s.name)) ∧ (ρ s.name).Ok
def spKept (K : PySem.W.Frag) : Sp := spD K fun ds d => ∃ t rs ρ draw owns, KeptOk t rs ρ draw owns ∧ ds = [enc t, .tuple (rs.map rowD), frD draw, .tuple (owns.map mkD)] ∧ d = .tuple ((keptBy ρ t draw owns).map pathD)
end
end K18
namespace Tr
theorem placedA_len (p : List Nat) (i : Nat) (ts : List T) : (placedA p i ts).length = sizes ts := by rw [← subsA_len, ← placedA_snd p i ts, List.length_map]
theorem sizes_take : ∀ (i : Nat) (ts : List T), sizes (ts.take i) ≤ sizes ts
  | 0, ts => by rw [List.take_zero, sizes]; omega
  | i + 1, [] => Nat.le_refl _
  | i + 1, t :: ts => by
    have := sizes_take i ts
    rw [List.take_succ_cons, sizes, sizes]
    omega
theorem size_mem : ∀ {ts : List T} {i : Nat} {c : T}, ts[i]? = some c → size c ≤ sizes ts
  | [], _, _, h => by simp at h
  | t :: ts, 0, c, h => by
    rw [List.getElem?_cons_zero] at h
    cases h
    rw [sizes]
    omega
  | t :: ts, i + 1, c, h => by
    rw [List.getElem?_cons_succ] at h
    have := size_mem h
    rw [sizes]
    omega
theorem placedA_snoc (p : List Nat) : ∀ (j : Nat) (ts : List T) (c : T), placedA p j (ts ++ [c]) = placedA p j ts ++ placed (p ++ [j + ts.length]) c
  | j, [], c => by rw [List.nil_append, placedA, placedA, placedA, List.append_nil]; rfl
  | j, t :: ts, c => by rw [List.cons_append, placedA, placedA, placedA_snoc p (j + 1) ts c, List.append_assoc, List.length_cons, show j + 1 + ts.length = j + (ts.length + 1) by omega]
end Tr
namespace K18
open PySem PySem.Spec PyProof.Rows L2 Evl Fx Fr Dt Tr
theorem scLSpans : FnScope ["_law_root", "_law_way", "_law_found", "_law_k", "_law_call"] ["_law_root", "_law_way"] (defScope (topS 53)) := ⟨rfl, rfl, rfl, by decide +kernel, rfl, by decide +kernel, by decide +kernel⟩
theorem cal {P : Program} {w : World} {K : PySem.W.Frag} {mg : Str → Option Value} {base : Heap} {x : Str} {st : Stmt} {f : Addr} {fd : FuncData} {k : Nat} {ps : List Str} {sp : Sp} (F : Fun K x x st f fd) (G : FnOk P w K mg base CX0 k f fd ps sp) (g : mg x = some (.ref f)) (b : Binds K fd ps []) : C8.Cal P w K mg base k x sp [] := ⟨f, fd, ps, [], G, g, F.kp, b, .nil⟩
section
variable {P : Program} {w : World} {K : PySem.W.Frag} {mg : Str → Option Value} {base : Heap} {f f2 f3 : Addr} {fd fd2 fd3 : FuncData}
def spLSpans (K : PySem.W.Frag) (n : Nat) : Sp := spL K fun ds es => ∃ t p, size t ≤ n ∧ n ≤ 1000 ∧ p.length + n ≤ 1000 ∧ ds = [enc t, pathD p] ∧ es = (Tr.placed p t).map spanD
theorem ok_lspans (F : Fun K "_law_spans" "_law_spans" (topS 53) f fd) (gl : mg "_law_spans" = some (.ref f)) (B : Binds K fd ["_law_root", "_law_way"] []) (m_en : mg "enumerate" = none) : ∀ n, FnOk P w K mg base CX0 n f fd ["_law_root", "_law_way"] (spLSpans K n)
  | 0 => by
    refine ⟨fun vs H Q E h => ?_, fun A outer s H args us vs Q E hr he hb hv h => ?_⟩
    · obtain ⟨ds, es, hd, ⟨t, p, hs, _⟩, _⟩ := h
      rw [size_eq] at hs
      omega
    · obtain ⟨ds, es, hd, ⟨t, p, hs, _⟩, _⟩ := h
      rw [size_eq] at hs
      omega
  | n + 1 => by
    have cS := cal F (ok_lspans F gl B m_en n) gl B
    refine F.ok scLSpans (fun vs H Q E h => ?_) (fun cdv A outer s H vs Q E hr h => ?_)
    · obtain ⟨ds, es, hd, ⟨t, p, _, _, _, rfl, _⟩, _⟩ := h
      exact dps_len hd
    · obtain ⟨ds, es, hd, ⟨t, p, hs, hn, hp, rfl, rfl⟩, q⟩ := h
      obtain ⟨v1, vs, rfl, p1, hd⟩ := dps_uncons hd
      obtain ⟨v2, vs, rfl, p2, hd⟩ := dps_uncons hd
      obtain rfl := dps_none hd
      refine ⟨_, pss_cons (ps_set (i := 2) scLSpans.nd rfl (.inl rfl) (pe_lst (pa_cons (pe_tup (pa_cons (pv 1) (pa_cons (pe_ix ix_tup (pv 0) pe_int (fun _ _ => rfl)) (pa_cons (pe_ix ix_tup (pv 0) pe_int (fun _ _ => rfl)) pa_nil)))) pa_nil)))
        (pss_cons (ps_for PassesOwn.never rfl (DtE.pi_enumT (by rfl) m_en (pa_cons (pe_ix ix_tup (pv 0) pe_int (fun _ _ => rfl)) pa_nil)) (pg_tup (by rfl) (pgs_cons (pg_name (i := 3) scLSpans.nd rfl (.inl rfl)) (pgs_cons (pg_name (i := 4) scLSpans.nd rfl (.inl rfl)) pgs_nil)))
          (pss_one (ps_expr (pe_bm PySem.F.plainAttrs_list PySem.F.slot_list_extend PySem.F.type_list_extend mt_extend (pv 2) (pa_cons (C8.pe_c cS hr (Nat.le_refl _) (by rfl) (pa_cons (pv 4) (pa_cons (pe_op op_catA (pv 1) (pe_tup (pa_cons (pv 3) pa_nil))) pa_nil))) pa_nil)))))
        (pss_one (ps_ret (pv 2)))), ?_⟩
      have rr : EvR F0 (tVar 0) [some v1, some v2, none, none, none] H 0 (IsD K (enc t)) := rd_var F0.ok (n := 0) F0.g rfl p1 (enc_flat t)
      refine q_asgR (F := F0) (n := 0) (k := 0) (P := IsN H F0 K [spanD (p, t)]) (rn_lst F0.ok (ra_cons (ka := 0) (kb := 0) F0.ok (rd_tup F0.ok (ra_cons (ka := 0) (kb := 0) F0.ok (rd_var F0.ok (n := 0) F0.g rfl p2 (path_flat p)) (ra_cons (ka := 0) (kb := 0) F0.ok (rt_name F0.ok rr) (ra_cons (ka := 0) (kb := 0) F0.ok (rt_mark F0.ok rr) ra_nil)) (path_flat p)) (span_flat (p, t))) ra_nil (span_flat (p, t)))) F0.g (Nat.le_refl _) fun w2 H1 e1 _ ⟨A1, ws, ew, nA, _, hA, dA⟩ => ?_
      subst ew
      replace e1 := F0.ex e1
      have ht := size_eq t
      refine q_forE (F := F0) (n := 0) (k := 0) (ds := t.calls.map enc) F0.ok (rt_calls F0.ok (rd_var F0.ok (n := 0) F0.g rfl (dp_ex e1 _ _ p1) (enc_flat t))) F0.g (Nat.le_refl _) (maps_flat _) (fun H2 i σ' H' => ∃ xs u3 u4, σ' = [some v1, some v2, some (.ref A1), u3, u4] ∧ Ex H H' ∧ KT K H2 H' ∧ H' A1 = some (.lst xs) ∧ DpAll K H' xs (((p, t) :: placedA p 0 (t.calls.take i)).map spanD))
        (fun H2 e2 _ => ⟨ws, none, none, rfl, e1.trans (F0.ex e2), fun _ _ h => h, F0.ex e2 _ _ hA, by rw [List.take_zero, placedA]; exact dps_ex (F0.ex e2) _ _ dA⟩) (fun H2 i σ' H' ⟨_, _, _, _, _, k, _⟩ => k) (fun H2 i x T d σ' H' hi ⟨xs, u3, u4, es, e, k, hx, dx⟩ hT hd => ?_) fun H2 σ' H' _ ⟨xs, u3, u4, es, e, k, hx, dx⟩ => ?_
      · subst es
        have hlt : i < t.calls.length := by
          have := (List.getElem?_eq_some_iff.mp hi).1
          rwa [List.length_map] at this
        have hci : t.calls[i]? = some t.calls[i] := List.getElem?_eq_getElem hlt
        rw [List.getElem?_map, hci] at hi
        cases hi
        have eT : Ex H' (upd H' T (.tup [.int (i : Nat), x])) := Ex.new hT
        have hx4 := eT _ _ hx
        have dx4 := dps_ex eT _ _ dx
        have e04 := e.trans eT
        have k4 : KT K H2 (upd H' T (.tup [.int (i : Nat), x])) := kt_trans k (kt_ex eT)
        have kH4 : KT K H (upd H' T (.tup [.int (i : Nat), x])) := kt_ex e04
        refine ⟨T, _, rfl, st_of upd_same, rfl, _, _, rfl, _, _, rfl, rfl, ?_⟩
        generalize upd H' T (.tup [.int (i : Nat), x]) = H4 at hd hx4 dx4 e04 k4 kH4 ⊢
        have hsz := size_mem hci
        have lx := dps_len dx4
        rw [List.length_map, List.length_cons, placedA_len] at lx
        have hst := sizes_take i t.calls
        refine q_extL (F := F0) (n := 0) (k := 0) (ds := (Tr.placed (p ++ [i]) t.calls[i]).map spanD) rfl hx4 (fun z => z) (rl_call F0.ok (ra_cons (ka := 0) (kb := 0) F0.ok (rd_var F0.ok (n := 0) F0.g rfl hd (enc_flat _)) (ra_cons (ka := 0) (kb := 0) F0.ok
          (rd_cat (ka := 0) (kb := 0) (ds := p.map fun (i : Nat) => PyData.int (i : Int)) (es := [.int (i : Int)]) F0.ok (rd_var F0.ok (n := 0) F0.g rfl (dp_ex e04 _ _ p2) (path_flat p)) (rd_tup F0.ok (ra_cons (ka := 0) (kb := 0) F0.ok (rd_ofI (rv_var rfl)) ra_nil)) (path_flats p) (by rw [List.length_map, List.length_singleton]; omega)) ra_nil (by rw [← pathD_snoc]; exact path_flat _)) (enc_flat _))
          ⟨t.calls[i], p ++ [i], by omega, by omega, by rw [List.length_append, List.length_singleton]; omega, by rw [pathD_snoc], rfl⟩) F0.g (Nat.le_refl _) (by rw [List.length_map, placed_len]; omega) fun zs H5 e5 _ dz hx5 => ?_
        replace e5 := F0.ex e5
        have k6 : KT K H5 (upd H5 A1 (.lst (xs ++ zs))) := kt_lst hx5
        refine ⟨xs ++ zs, _, _, rfl, (e04.trans e5).mut nA, kt_trans k4 (kt_trans (kt_ex e5) k6), upd_same, ?_⟩
        have ht : t.calls.take (i + 1) = t.calls.take i ++ [t.calls[i]] := by rw [List.take_add_one, hci]; rfl
        rw [ht, placedA_snoc, List.length_take, show 0 + min i t.calls.length = i by omega, ← List.cons_append, List.map_append]
        exact dps_app (dps_kt k6 _ _ (spans_flat _) (dps_ex e5 _ _ dx4)) (dps_kt k6 _ _ (spans_flat _) dz)
      · subst es
        rw [List.length_map, List.take_length] at dx
        rw [placed_eq] at q
        exact s_ret (v := .ref A1) (ev_var rfl) fun H4 e4 => q A1 xs H4 nA (e.trans e4) (e4 _ _ hx) (dps_ex e4 _ _ dx)
end
end K18
namespace Dt
open PySem PySem.Spec PyProof.Rows L2 Evl Fx Tr
section
variable {F : Fd} {K : PySem.W.Frag} {te ta tb tl : TE} {tr : TA} {tt tu : TT} {g : TG} {σ : L2.St} {H H' H1 : Hp} {d d' : PyData} {ds es : List PyData} {n n0 k ka kb kt ke i : Nat} {v : V} {Dl : Addr}
/-- list(t) -/
theorem rl_list (o : F.Ok) (h : EvR F te σ H k (IsD K (.tuple ds))) : EvR F (tCB (rListS K) (tCons te tNil)) σ H k (IsL F K ds) := fun n H1 hn g e Q q => h n H1 hn g e _ fun v H2 e2 g2 hd => by
  cases hd with
  | @tup a xs _ ha hx => exact ⟨a, xs, rfl, .inr ha, fun l hl => q _ _ (e2.trans (Kx.ex (Ex.new hl))) (o.ex g2 (Ex.new hl)) ⟨l, xs, rfl, o.new g2 hl, upd_same, dps_ex (Ex.new hl) _ _ hx⟩⟩
theorem call_listS {X : Cx} : CallR X (.type "list") (rListS X.K) := call_list_of
theorem valV_merge : ∀ (more kvs : List (Key × V)) (k : Key), (more.map Prod.fst).Nodup → valV (mergeK kvs more) k = (valV more k).or (valV kvs k)
  | [], kvs, k, _ => rfl
  | p :: r, kvs, k, h => by
    rw [List.map_cons, List.nodup_cons] at h
    show valV (mergeK (putK kvs p.1 p.2) r) k = _
    rw [valV_merge r _ k h.2, valV_put]
    by_cases e : p.1 = k
    · have hn : valV r k = none := by
        cases z : valV r k with
        | none => rfl
        | some u =>
          exfalso
          unfold valV at z
          obtain ⟨q, hq, _⟩ := Option.map_eq_some_iff.mp z
          have h1 := List.find?_some hq
          have h2 := List.mem_of_find?_eq_some hq
          exact h.1 (List.mem_map.mpr ⟨q, h2, by rw [e]; exact of_decide_eq_true h1⟩)
      rw [hn, valV_pos e, if_pos e.symm]
      rfl
    · rw [valV_neg e, if_neg (fun z => e z.symm)]
theorem rows_pairs {K : PySem.W.Frag} {H : Hp} : ∀ {rs : List (Str × Ru)} {xs : List V}, DpAll K H xs (rs.map rowD) → ∃ (ps : List Addr) (kvs : List (Key × V)), xs = ps.map V.ref ∧ Paired (fun p (kv : Key × V) => SqT K H p [kV kv.1, kv.2]) ps kvs ∧ kvs.map Prod.fst = rs.map (fun x => (Sum.inr x.1 : Key)) ∧
    ∀ s i r, RuleAt rs s i r → ∃ u, valV kvs (.inr s) = some u ∧ Dp K H u r.D
  | [], xs, h => by
    cases h
    exact ⟨[], [], rfl, .nil, rfl, fun s i r hr => by simp [RuleAt] at hr⟩
  | x :: rs, xs, h => by
    obtain ⟨v, r, rfl, h1, h2⟩ := dps_uncons h
    obtain ⟨ps, kvs, rfl, hp, hk, hv⟩ := rows_pairs h2
    obtain ⟨a, y1, y2, rfl, ha, d1, d2⟩ := dp_two h1
    cases d1
    refine ⟨a :: ps, (.inr x.1, y2) :: kvs, rfl, .cons ha hp, by rw [List.map_cons, List.map_cons, hk], fun s i r hr => ?_⟩
    obtain ⟨g1, g2⟩ := hr
    cases i with
    | zero =>
      rw [List.getElem?_cons_zero] at g1
      cases g1
      exact ⟨y2, valV_pos rfl, d2⟩
    | succ i =>
      rw [List.getElem?_cons_succ] at g1
      have hne : x.1 ≠ s := g2 0 x (Nat.succ_pos i) List.getElem?_cons_zero
      obtain ⟨u, hu, du⟩ := hv s i r ⟨g1, fun j y hj hy => g2 (j + 1) y (by omega) (by rw [List.getElem?_cons_succ]; exact hy)⟩
      exact ⟨u, by rw [valV_neg (fun z => hne (Sum.inr.inj z))]; exact hu, du⟩
def rDictP (K : PySem.W.Frag) : List V → Hp → VK → Prop := fun xs H Q => ∃ (a : Addr) (ps : List Addr) (kvs : List (Key × V)), xs = [.ref a] ∧ SqL K H a (ps.map V.ref) ∧ Paired (fun p kv => SqT K H p [kV kv.1, kv.2]) ps kvs ∧ ∀ p, H p = none → Q (.ref p) (upd H p (.dK (mergeK [] kvs)))
theorem call_dictPK {X : Cx} (hc : X.calm = true) : CallR X (.type "dict") (rDictP X.K) := call_dictP hc
/-- a dict of the rules -/
def IsTab (F : Fd) (K : PySem.W.Frag) (rs : List (Str × Ru)) : VP := fun v H => ∃ p kvs, v = .ref p ∧ ¬ F.T p ∧ H p = some (.dK kvs) ∧ ∀ s i r, RuleAt rs s i r → ∃ u, valV kvs (.inr s) = some u ∧ Dp K H u r.D
theorem mono_tab {F : Fd} {K : PySem.W.Frag} {rs : List (Str × Ru)} (o : F.Ok) : MonoF F (IsTab F K rs) := fun n v H H' g e ⟨p, kvs, e1, h1, h2, h3⟩ => ⟨p, kvs, e1, h1, e _ _ h2 fun s => h1 (o.sub s), fun s i r hr => by
  obtain ⟨u, hu, du⟩ := h3 s i r hr
  exact ⟨u, hu, mono_d o r.flat n _ _ _ g e du⟩⟩
theorem rt_dict {F : Fd} {K : PySem.W.Frag} {te : TE} {σ : L2.St} {H : Hp} {k : Nat} {rs : List (Str × Ru)} (o : F.Ok) (h : EvR F te σ H k (IsL F K (rs.map rowD))) (nd : (rs.map Prod.fst).Nodup) : EvR F (tCB (rDictP K) (tCons te tNil)) σ H k (IsTab F K rs) := fun n H1 hn g e Q q => h n H1 hn g e _ fun v H2 e2 g2 ⟨a, xs, ev, hT, ha, hx⟩ => by
  obtain ⟨ps, kvs, rfl, hp, hk, hv⟩ := rows_pairs hx
  refine ⟨a, ps, kvs, by rw [ev], sq_of ha, hp, fun p hpn => q _ _ (e2.trans (Kx.ex (Ex.new hpn))) (o.ex g2 (Ex.new hpn)) ⟨p, _, rfl, o.new g2 hpn, upd_same, fun s i r hr => ?_⟩⟩
  obtain ⟨u, hu, du⟩ := hv s i r hr
  refine ⟨u, ?_, dp_ex (Ex.new hpn) _ _ du⟩
  have ndk : (kvs.map Prod.fst).Nodup := by
    rw [hk]
    have : rs.map (fun x => (Sum.inr x.1 : Key)) = (rs.map Prod.fst).map Sum.inr := by rw [List.map_map]; rfl
    rw [this]
    exact List.pairwise_map.mpr (List.Pairwise.imp (fun h e => h (Sum.inr.inj e)) nd)
  rw [valV_merge kvs [] _ ndk, hu]
  rfl
theorem rd_tab {F : Fd} {K : PySem.W.Frag} {ta tb : TE} {σ : L2.St} {H : Hp} {ka kb : Nat} {rs : List (Str × Ru)} {s : Str} {i : Nat} {r : Ru} (o : F.Ok) (ha : EvR F ta σ H ka (IsTab F K rs)) (hb : EvR F tb σ H kb (fun x _ => x = .str s)) (hr : RuleAt rs s i r) : EvR F (tDGet ta tb) σ H (ka + kb) (IsD K r.D) :=
  fun n H1 hn g e Q q => ha n H1 (by omega) g e _ fun x H2 e2 g2 p => hb (n + ka) H2 (by omega) g2 (e.trans e2) _ fun y H3 e3 g3 p' => by
    obtain ⟨a, kvs, ex, hT, h2, h3⟩ := mono_tab o _ _ _ _ g2 e3 p
    obtain ⟨u, hu, du⟩ := h3 s i r hr
    exact ⟨a, u, ex, .inl ⟨kvs, .inr s, .inl h2, p', hu.symm⟩, q u H3 (e2.trans e3) (by rw [← Nat.add_assoc]; exact g3) du⟩
theorem for_zipM {K : PySem.W.Frag} {a b : Addr} {xs ys : List V} {g : TG} {tb : TS} {D : Ends} {σ : L2.St} {H : Hp} (hl : xs.length = ys.length) (Pv : Nat → L2.St → Hp → Prop) (h0 : Pv 0 σ H) (hq : ∀ i σ H, Pv i σ H → SqL K H a xs ∧ SqT K H b ys)
    (hs : ∀ (i : Nat) (x y : V) (T : Addr) (σ : L2.St) (H : Hp), xs[i]? = some x → ys[i]? = some y → Pv i σ H → H T = none → g (.ref T) σ (upd H T (.tup [x, y])) fun σ2 H2 => tb { D with nx := Pv (i + 1), ct := Pv (i + 1), bk := D.nx } σ2 H2) (hd : ∀ σ H, Pv xs.length σ H → D.nx σ H) :
    ∃ W : Nat → Nat → L2.St → Hp → Prop, (∃ m, W 0 m σ H) ∧ ∀ i m σ H, W i m σ H →
      ((DtZ.ItzM K a b).stop i H ∧ D.nx σ H) ∨ ((DtZ.ItzM K a b).go i H ∧ ∃ N : L2.St → Hp → Prop, (∀ σ' H', N σ' H' → ∃ m', m' < m ∧ W (i + 1) m' σ' H') ∧ ∀ v H', (DtZ.ItzM K a b).yld i H v H' → g v σ H' fun σ2 H2 => tb { D with nx := N, ct := N, bk := D.nx } σ2 H2) := by
  refine ⟨fun i m σ H => m = xs.length - i ∧ i ≤ xs.length ∧ Pv i σ H, ⟨xs.length, rfl, Nat.zero_le _, h0⟩, ?_⟩
  rintro i m σ H ⟨rfl, hi, p⟩
  obtain ⟨qx, qy⟩ := hq i σ H p
  by_cases hlt : i < xs.length
  · have hx : xs[i]? = some xs[i] := List.getElem?_eq_getElem hlt
    have hlt2 : i < ys.length := by omega
    have hy : ys[i]? = some ys[i] := List.getElem?_eq_getElem hlt2
    refine .inr ⟨⟨xs, ys, _, _, qx, qy, hx, hy⟩, Pv (i + 1), fun σ' H' p' => ⟨xs.length - (i + 1), by omega, rfl, hlt, p'⟩, fun v H' y => ?_⟩
    obtain ⟨T, x', y', rfl, hT, rfl, f1, f2⟩ := y
    exact hs i x' y' T σ H (f1 xs qx) (f2 ys qy) p hT
  · have e : i = xs.length := by omega
    subst e
    exact .inl ⟨⟨xs, ys, qx, qy, rfl, hl.symm⟩, hd σ H p⟩
section
variable {F : Fd} {K : PySem.W.Frag} {te ta tb tl : TE} {tr : TA} {tt tu : TT} {g : TG} {σ : L2.St} {H H' H1 : Hp} {d d' : PyData} {ds es : List PyData} {n n0 k ka kb kt ke i : Nat} {v : V} {Dl : Addr}
/-- for .. in zip(xs, t): a list under a name, that stays, and a tuple -/
theorem q_forM {tb tz : TS} {D : Ends} {j : Nat} {p : Addr} {xs : List V} (o : F.Ok) (hj : σ[j]? = some (some (.ref p))) (hp : H p = some (.lst xs)) (hT : ¬ F.T p) (hx : DpAll K H xs ds) (hb : EvR F tl σ H k (IsD K (.tuple es))) (g0 : F.G n H) (hn : n + k ≤ F.N) (fd : flats ds = true) (fe : flats es = true) (hl : ds.length = es.length)
    (Pv : Hp → Nat → L2.St → Hp → Prop) (h0 : ∀ H1, Kx F.S H H1 → F.G (n + k) H1 → Pv H1 0 σ H1) (hk : ∀ H1 i σ' H', Pv H1 i σ' H' → KT K H1 H') (hkl : ∀ H1 i σ' H', H1 p = some (.lst xs) → Pv H1 i σ' H' → H' p = some (.lst xs))
    (hs : ∀ H1 i x y T d d' σ' H', ds[i]? = some d → es[i]? = some d' → Pv H1 i σ' H' → H' T = none → Dp K (upd H' T (.tup [x, y])) x d → Dp K (upd H' T (.tup [x, y])) y d' → g (.ref T) σ' (upd H' T (.tup [x, y])) fun σ2 H2 => tb { D with nx := Pv H1 (i + 1), ct := Pv H1 (i + 1), bk := tz D } σ2 H2)
    (hd : ∀ H1 σ' H', Kx F.S H H1 → Pv H1 ds.length σ' H' → tz D σ' H') : tSeq (tFor (DtZ.iZipM K (tCons (tVar j) (tCons tl tNil))) g tb) tz D σ H := ⟨.ref p, hj, hb n H hn g0 Kx.refl _ fun w H1 e1 g1 p2 => by
  cases p2 with
  | @tup b ys _ hb' hy =>
  have hp1 : H1 p = some (.lst xs) := e1 _ _ hp fun s => hT (o.sub s)
  have hx1 := mono_ds o fd _ _ _ _ g0 e1 hx
  have lx := dps_len hx
  have ly := dps_len hy
  refine ⟨p, b, xs, ys, rfl, sq_of hp1, hb', for_zipM (by omega) (Pv H1) (h0 H1 e1 g1) (fun i σ' H' q => ⟨sq_of (hkl _ _ _ _ hp1 q), hk _ _ _ _ q _ _ hb'⟩) (fun i x y T σ' H' hi hj q hTn => ?_) fun σ' H' q => hd H1 σ' H' e1 (by rw [← lx]; exact q)⟩
  have h1 := (List.getElem?_eq_some_iff.mp hi).1
  have h2 := (List.getElem?_eq_some_iff.mp hj).1
  have hdi : ds[i]? = some ds[i] := List.getElem?_eq_getElem (by omega)
  have hei : es[i]? = some es[i] := List.getElem?_eq_getElem (by omega)
  have kk : KT K H1 (upd H' T (.tup [x, y])) := kt_trans (hk _ _ _ _ q) (kt_ex (Ex.new hTn))
  obtain ⟨u, hu, hdu⟩ := dps_get (dps_kt kk _ _ fd hx1) hdi
  rw [hi] at hu
  cases hu
  obtain ⟨u, hu, hdu'⟩ := dps_get (dps_kt kk _ _ fe hy) hei
  rw [hj] at hu
  cases hu
  exact hs H1 i x y T _ _ σ' H' hdi hei q hTn hdu hdu'⟩
/-- a comprehension over enumerate(t), a tuple -/
theorem lc_enumT {K : PySem.W.Frag} {a : Addr} {xs : List V} {g : TG} {tt : TT} {te : TE} {vs : List Nat} {σ : L2.St} {H1 : Hp} {D : Addr} {Qd : Hp → Prop} (Pv : Nat → Hp → Prop) (h0 : Pv 0 (upd H1 D (.lst []))) (hq : ∀ i H, Pv i H → SqT K H a xs)
    (hs : ∀ (i : Nat) (x : V) (T : Addr) (H : Hp), xs[i]? = some x → Pv i H → H T = none → g (.ref T) (wipe σ vs) (upd H T (.tup [.int (i : Nat), x])) fun σ2 H2 => wipe σ2 vs = wipe σ vs ∧ tt σ2 H2 fun b H3 =>
      if b = true then te σ2 H3 fun y H4 => ∃ acc, H4 D = some (.lst acc) ∧ acc.length < sizeLine ∧ Pv (i + 1) (upd H4 D (.lst (acc ++ [y]))) else Pv (i + 1) H3) (hd : ∀ H, Pv xs.length H → Qd H) :
    ∃ W : Nat → Nat → Hp → Prop, (∃ m, W 0 m (upd H1 D (.lst []))) ∧ ∀ i m H, W i m H →
      ((DtE.IteT K a).stop i H ∧ Qd H) ∨ ((DtE.IteT K a).go i H ∧ ∃ Nx : Hp → Prop, (∀ H', Nx H' → ∃ m', m' < m ∧ W (i + 1) m' H') ∧ ∀ x H', (DtE.IteT K a).yld i H x H' → g x (wipe σ vs) H' fun σ2 H2 => wipe σ2 vs = wipe σ vs ∧ tt σ2 H2 fun b H3 =>
        if b = true then te σ2 H3 fun y H4 => ∃ acc, H4 D = some (.lst acc) ∧ acc.length < sizeLine ∧ Nx (upd H4 D (.lst (acc ++ [y]))) else Nx H3) := by
  refine ⟨fun i m H => m = xs.length - i ∧ i ≤ xs.length ∧ Pv i H, ⟨xs.length, by simp, Nat.zero_le _, h0⟩, ?_⟩
  rintro i m H ⟨rfl, hi, p⟩
  have qx := hq i H p
  by_cases hlt : i < xs.length
  · have hx : xs[i]? = some xs[i] := List.getElem?_eq_getElem hlt
    refine .inr ⟨⟨xs, _, qx, hx⟩, Pv (i + 1), fun H' p' => ⟨xs.length - (i + 1), by omega, rfl, hlt, p'⟩, fun v H' y => ?_⟩
    obtain ⟨T, x', rfl, hT, rfl, f1⟩ := y
    exact hs i x' T H (f1 xs qx) p hT
  · have e : i = xs.length := by omega
    subst e
    exact .inl ⟨⟨xs, qx, rfl⟩, hd H p⟩
theorem r_lcE (o : F.Ok) {vs : List Nat} (f : Nat → Bool) (e : Nat → PyData) (h : EvR F tl σ H k (IsD K (.tuple ds))) (fd : flats ds = true) (hm : ds.length ≤ 40000) (fl : ∀ j, j < ds.length → f j = true → flat (e j) = true)
    (ht : ∀ i x T d n H', ds[i]? = some d → Dp K H' x d → SqT K H' T [.int (i : Nat), x] → F.G n H' → Kx F.S H H' → ∃ σ2, Gv g (.ref T) (wipe σ vs) H' σ2 ∧ wipe σ2 vs = wipe σ vs ∧ EvRT F tt σ2 H' kt (f i) ∧ (f i = true → EvR F te σ2 H' ke (IsD K (e i)))) :
    EvR F (tLc (DtE.iEnumT K (tCons tl tNil)) g tt te vs) σ H (k + ds.length * (kt + ke)) (IsL F K (outs f e ds.length)) := fun n H0 hn g0 e0 Q q => h n H0 (by omega) g0 e0 _ fun v H1 e1 g1 hd => by
  cases hd with
  | @tup a xs _ ha hx =>
  have hl := dps_len hx
  refine ⟨a, xs, rfl, ha, fun Dl hD => lc_enumT (xs := xs) (Cd F K H1 Dl (n + k) (kt + ke) f e) ?_ (fun i H' p => o.kt g1 p.1 _ _ ha) (fun i x T H' hi p hT => ?_) fun H' p => ?_⟩
  · exact ⟨Kx.ex (Ex.new hD), by rw [Nat.zero_mul]; exact o.put g1 hD g1, [], upd_same, .nil⟩
  · have hlt := (List.getElem?_eq_some_iff.mp hi).1
    have hdi : ds[i]? = some ds[i] := List.getElem?_eq_getElem (by omega)
    have p' : Cd F K H1 Dl (n + k) (kt + ke) f e i (upd H' T (.tup [.int (i : Nat), x])) := p.new o hT
    obtain ⟨u, hu, hdu⟩ := dps_get (mono_ds o fd _ _ _ _ g1 p'.1 hx) hdi
    rw [hi] at hu
    cases hu
    obtain ⟨σ2, q1, q2, q3, q4⟩ := ht i x T _ _ _ hdi hdu (st_of upd_same) p'.2.1 (e0.trans (e1.trans p'.1))
    exact q1 _ ⟨q2, cd_turn o g1 hD p' (by omega) hm (by rw [Nat.add_assoc]; exact hn) fl q3 q4⟩
  · rw [hl] at p
    obtain ⟨p1, p2, ws, p3, p4⟩ := p
    exact q (.ref Dl) H' (e1.trans p1) (by rw [← Nat.add_assoc]; exact p2) ⟨Dl, ws, rfl, o.new g1 hD, p3, p4⟩
end
end
end Dt
namespace Dt
open PySem PySem.Spec PyProof.Rows L2 Evl Fx Tr
section
variable {F : Fd} {K : PySem.W.Frag} {te ta tb tl : TE} {tr : TA} {tt tu : TT} {tz : TS} {D : Ends} {g : TG} {σ : L2.St} {H H' H1 : Hp} {d d' : PyData} {ds es : List PyData} {n n0 k ka kb kt ke i : Nat} {v : V}
theorem q_par3 {i j l : Nat} (h : tr σ H fun vs H1 => ∃ u v w, vs = [u, v, w] ∧ tz D (((σ.set i (some u)).set j (some v)).set l (some w)) H1) : tSeq (tPar3 i j l tr) tz D σ H := h
theorem q_cons {Q : List V → Hp → Prop} (h : te σ H fun x H1 => tr σ H1 fun ys H2 => Q (x :: ys) H2) : tCons te tr σ H Q := h
theorem dps_ints : ∀ {ns : List Int} {vs : List V}, DpAll K H vs (ns.map PyData.int) → vs = ns.map V.int
  | [], _, h => by cases h; rfl
  | b :: bs, _, h => by
    cases h with
    | cons h1 h2 =>
      cases h1
      rw [dps_ints h2]
      rfl
theorem flat_ints (ns : List Int) : flats (ns.map PyData.int) = true := flats_all.mpr fun d hd => by
  obtain ⟨b, _, rfl⟩ := List.mem_map.mp hd
  rfl
/-- an int in a list of ints -/
theorem rb_inI {a : Int} {ns : List Int} (o : F.Ok) (ha : EvR F ta σ H ka (fun u _ => u = .int a)) (hb : EvR F tb σ H kb (IsL F K (ns.map PyData.int))) : EvR F (tOp (rIn K false) ta tb) σ H (ka + kb) (fun u _ => u = .bl (ns.any fun y => y == a)) :=
  r_op o mono_eq ha hb fun x y n H1 g e ex ⟨p, xs, ey, hT, hp, hx⟩ Q q => by
    subst ex ey
    have := dps_ints hx
    subst this
    refine ⟨p, _, rfl, .inl (sq_of hp), rfl, by rw [List.all_map]; exact List.all_eq_true.mpr fun _ _ => rfl, q _ H1 (Ex.refl _) ?_⟩
    show V.bl (inV _ _) = _
    unfold inV
    rw [List.any_map]
    rfl
theorem tab_upd {rs : List (Str × Ru)} {A : Addr} {xs : List V} {u : HO} (h : IsTab F K rs v H) (hA : H A = some (.lst xs)) : IsTab F K rs v (upd H A u) := by
  obtain ⟨p, kvs, e, hT, hp, hv⟩ := h
  have hne : p ≠ A := by
    rintro rfl
    rw [hA] at hp
    cases hp
  refine ⟨p, kvs, e, hT, by rw [upd_ne hne]; exact hp, fun s i r hr => ?_⟩
  obtain ⟨w, hw, dw⟩ := hv s i r hr
  exact ⟨w, hw, dp_kt (kt_lst hA) _ _ r.flat dw⟩
theorem tab_ex {rs : List (Str × Ru)} (h : IsTab F0 K rs v H) (e : Ex H H') : IsTab F0 K rs v H' := mono_tab F0.ok 0 _ _ _ F0.g (Kx.ex e) h
theorem lay_intsI : ∀ p : List Int, PyData.canLayAll0 (p.map PyData.int) = true
  | [] => by simp [PyData.canLayAll0]
  | a :: p => by rw [List.map_cons, PyData.canLayAll0, lay_intsI p]; simp [PyData.canLay0]
theorem depth_intsI : ∀ p : List Int, PyData.depthAll (p.map PyData.int) = 0
  | [] => by simp [PyData.depthAll]
  | a :: p => by rw [List.map_cons, PyData.depthAll, depth_intsI p]; simp [PyData.depth]
theorem sh_ints (p : List Int) : SeqAt.shaped (.list (p.map PyData.int)) = true := by
  show ((PyData.list (p.map PyData.int)).canLay0 && decide ((PyData.list (p.map PyData.int)).depth ≤ 64)) = true
  rw [Bool.and_eq_true]
  exact ⟨by rw [PyData.canLay0]; exact lay_intsI p, decide_eq_true (by rw [PyData.depth, depth_intsI]; omega)⟩
/-- a list of ints != [] -/
theorem rb_neNil {ns : List Int} (o : F.Ok) (ha : EvR F ta σ H ka (IsL F K (ns.map PyData.int))) : EvR F (tOp (rNeD K) ta (tLst tNil)) σ H (ka + 0) (fun u _ => u = .bl (!ns.isEmpty)) :=
  r_op (P' := IsL F K []) o (mono_l o (flat_ints ns)) ha (rl_lst o ra_nil) fun x y n H1 g e px py Q q => ⟨_, _, px.dp, py.dp, sh_ints ns, rfl, q _ H1 (Ex.refl _) (by cases ns <;> simp [PyData.eqv, PyData.eqvAll])⟩
/-- the places where f says so, as ints -/
theorem outs_int (f : Nat → Bool) (m : Nat) : outs f (fun i => PyData.int (i : Int)) m = (((List.range m).filter f).map fun (i : Nat) => (i : Int)).map PyData.int := by
  unfold outs
  rw [List.map_map]
  rfl
theorem outs_some (bs : List Bool) : (!(((List.range bs.length).filter fun i => bs.getD i false).map fun (i : Nat) => (i : Int)).isEmpty) = bs.any id := by
  rw [Bool.eq_iff_iff]
  simp only [Bool.not_eq_true', List.isEmpty_eq_false_iff, ne_eq, List.map_eq_nil_iff, List.filter_eq_nil_iff, List.mem_range, List.any_eq_true, id]
  constructor
  · intro h
    apply Classical.byContradiction
    intro hn
    apply h
    intro i hi hb
    rw [List.getD_eq_getElem?_getD, List.getElem?_eq_getElem hi] at hb
    exact hn ⟨bs[i], List.getElem_mem _, hb⟩
  · rintro ⟨b, hb, h⟩ hn
    obtain ⟨i, hi, e⟩ := List.getElem_of_mem hb
    apply hn i hi
    rw [List.getD_eq_getElem?_getD, List.getElem?_eq_getElem hi, e, h]
    rfl
end
end Dt
/-! ### isinstance of a caught error that has a dict -/
namespace So
open PySem PySem.Spec PyProof.Rows L2
/-- what is asked of the error's class -/
structure ExcD (K : PySem.W.Frag) (C : Addr) : Prop where
  cl : (PySem.W.clsIn K C).isSome = true
  ga : PySem.W.findIn K (.ref C) "__getattribute__" = some (some (.builtin "BaseException.__getattribute__"))
  gt : PySem.W.findIn K (.ref C) "__getattr__" = some none
  bx : PySem.W.subIn K (.ref C) (.type "BaseException") = some true
  ca : PySem.W.findIn K (.ref C) "__class__" = some (some (.builtin "object.__class__"))
  sg : PySem.W.specialIn K (.builtin "object.__class__") "__get__" = some (some (.builtin "getset_descriptor.__get__"))
  tk : PySem.W.takesIn K (.builtin "object.__class__") = some true
  mo : PySem.W.mroIn K C (.type "object") = some true
/-- a the error, of the class C, its dict at dd -/
def rIsX (K : PySem.W.Frag) (a : Addr) (cls : Value) (d : Option Addr) : List V → Hp → VK → Prop := fun xs H Q => ∃ (C dd : Addr) (fs : List (Str × V)) (b : Bool), cls = .ref C ∧ d = some dd ∧ H dd = some (.xd fs) ∧ ExcD K C ∧ Q (.bl b) H ∧
  ((∃ c u, xs = [.ref a, c] ∧ ClsV c u ∧ PySem.W.kitOne K (.ref C) u = some b) ∨ (∃ tp cs us, xs = [.ref a, .ref tp] ∧ H tp = some (.tup cs) ∧ Paired ClsV cs us ∧ PySem.W.kitAny K (.ref C) us = some b))
theorem call_isX {X : Cx} {a : Addr} {oe : Obj} {cls : Value} {d : Option Addr} {pn : List (Addr × Obj)} (hz : Zc cls d oe) (hf : ∃ vs, oe.data = .fields vs) : CallR (X.suite a ((a, oe) :: pn)) (.builtin "isinstance") (rIsX X.K a cls d) := by
  intro pins s σ H xs us Q I r h
  obtain ⟨C, dd, fs, b, rfl, rfl, hdd, T, q, h⟩ := h
  have hget := (I.pin (a, oe) (List.mem_append_left _ List.mem_cons_self)).1
  obtain ⟨vs, hv⟩ := hf
  obtain ⟨mA, hns, _⟩ : ObjOk X.prog X.w H s.heap dd (.xd fs) := I.hok dd _ hdd
  obtain ⟨od, ho, _⟩ := lookIn_ns hns
  have J : PySem.W.InstAt s.heap a oe C (some od) := ⟨hget, hz.1, by unfold PySem.W.notCls; rw [hv] <;> rfl, by rw [hz.2]; exact ho⟩
  have Z := PySem.W.kitx_exc (x := a) (ox := oe) (od := some od) T.cl T.ga T.gt T.bx T.ca T.sg T.tk T.mo
  rcases h with ⟨c, u, rfl, k, e⟩ | ⟨tp, cs, ws, rfl, hT, k, e⟩
  · obtain ⟨u1, u2, rfl, r1, r2⟩ := vals2 r
    have e2 := k.eq r2
    subst e2
    cases (show u1 = Value.ref a from r1)
    exact PySem.W.kia_one Z I.kIn J e (fun z => nomatch z) fun tk => ⟨.bl b, H, I.tok tk, rfl, q⟩
  · obtain ⟨u1, u2, rfl, r1, r2⟩ := vals2 r
    cases (show u1 = Value.ref a from r1)
    cases (show u2 = Value.ref tp from r2)
    obtain ⟨_, its, rv, o, h1, h2, n, h3⟩ := (show ObjOk X.prog X.w H s.heap tp (.tup cs) from I.hok tp _ hT)
    have e3 := ClsV.all k rv
    subst e3
    obtain ⟨oc, od', dt, sl⟩ := o
    simp only at h2 h3
    subst h2 h3
    exact PySem.W.kia_tup Z I.kIn J h1 e (fun z => nomatch z) fun tk => ⟨.bl b, H, I.tok tk, rfl, q⟩
end So
/-! ### sorted of a tuple -/
namespace So
open PySem PySem.W PySem.Calls PyProof.Rows
section
variable {prog : Program} {w : World} {A : Around} {E : Value → Shared → Prop} {s : Shared}
theorem collect_tup {t : Addr} {o : Obj} {vs : List Value} {n : Nat} {Q : List Value → Shared → Prop} (ho : s.heap.get? t = some o) (hc : o.cls = .type "tuple") (hd : o.data = .seq vs.toArray n) (hz : vs.length ≤ sizeLine)
    (q : Q vs { s with heap := (s.heap.push (seqObj "list" #[] 0)).update s.heap.objs.size (Obj.mapSeq (· ++ vs.toArray)) }) : wpAny (model prog w) A (collect (.ref t)) Q E s := by
  have at' : (s.heap.push (seqObj "list" #[] 0)).get? t = some o := Heap.get?_push_of_some _ ho
  have new' : (s.heap.push (seqObj "list" #[] 0)).get? s.heap.objs.size = some (seqObj "list" #[] 0) := Heap.get?_push_size _ rfl
  have tyT : Shared.TypeIs { s with heap := s.heap.push (seqObj "list" #[] 0) } (.ref t) "tuple" := ⟨o, at', hc⟩
  have fits : ((#[] : Array Value) ++ vs.toArray).size ≤ sizeLine + 1 := by
    rw [Array.size_append, List.size_toArray]
    simp only [List.size_toArray, List.length_nil]
    omega
  have same : ((#[] : Array Value) ++ vs.toArray).toList = vs := by simp
  unfold collect
  refine wpAny_bind (wpAny_runValue (codeAny_builtin entry_proto_collect' ?_))
  refine wpAny_bind (wpAny_newList (wpAny_pure ⟨Code.quiet_builtin _ (by decide +kernel), codeAny_builtin entry_list_iadd' ?_⟩))
  show wpAny _ _ (Builtin.List.listExtendWith (.ref s.heap.objs.size) (.ref t) (.ref s.heap.objs.size)) _ _ { s with heap := s.heap.push (seqObj "list" #[] 0) }
  refine wpAny_bind (wpAny_typeOf (T := "tuple") tyT ?_)
  rw [if_pos (by rw [show (Value.type "tuple" == Value.type "tuple") = true from by decide, Bool.or_true])]
  refine wpAny_bind (listItems_at at' hd (wpAny_bind (listItems_at (xs := #[]) (n := 0) new' rfl ?_)))
  rw [if_neg (by simp)]
  refine wpAny_bind (listUpdate_at (xs := #[]) (n := 0) new' rfl (wpAny_pure ?_) (Nat.zero_le _) fits)
  refine wpAny_bind (m := load s.heap.objs.size) (wpAny_load (get?_update_seq new' _) ?_)
  show wpAny _ _ (pure ((#[] : Array Value) ++ vs.toArray).toList) Q E _
  rw [same]
  exact wpAny_pure q
/-- sorted(t), t a tuple -/
theorem sorted_tup {t : Addr} {o : Obj} {vs : List Value} {n : Nat} {κ : PyProof.Rows.KeyKind} {Q : Value → Shared → Prop} (ho : s.heap.get? t = some o) (hc : o.cls = .type "tuple") (hd : o.data = .seq vs.toArray n) (hz : vs.length ≤ sizeLine)
    (S : SortsAt prog w A.in1.in1 { s with heap := sortingHeap (copyHeap s.heap vs) (s.heap.objs.size + 1) vs } κ vs)
    (q : Q (.ref (s.heap.objs.size + 1)) { s with heap := sortedAll s.heap vs (sortVals κ false vs vs).toArray }) : wpAny (model prog w) A (call (.builtin "sorted") [.ref t]) Q E s := by
  have hsz : ((s.heap.push (seqObj "list" #[] 0)).update s.heap.objs.size (Obj.mapSeq (· ++ vs.toArray))).objs.size = s.heap.objs.size + 1 := by rw [Heap.size_update, size_push']
  have inner : ∀ E' : Value → Shared → Prop, wpAny (model prog w) A.in1.in1 (Builtin.«list.sort» ⟨[.ref (s.heap.objs.size + 1)], []⟩) (fun f s' => f = .done (.ret .none) ∧ Q (.ref (s.heap.objs.size + 1)) s') E' { s with heap := copyHeap s.heap vs } := fun E' =>
    list_sort_vals (s := { s with heap := copyHeap s.heap vs }) (copyHeap_at s.heap vs) S hz ⟨rfl, q⟩
  refine Calls.call_function_entry kind_sorted plain_sorted entry_sorted (args_sorted1 _) ?_
  unfold Builtin.«sorted»
  refine wpAny_bind (m := checkCount "sorted" 1 1 _) (wpAny_pure (wpAny_bind (collect_tup ho hc hd hz (wpAny_bind (wpAny_newList ?_ hz)))))
  show wpAny _ _ _ _ _ { s with heap := copyHeap s.heap vs }
  rw [hsz]
  refine wpAny_bind (wpAny_holding (wpAny_call_entry slot_list_sort ⟨_, copyHeap_at s.heap vs, rfl⟩ entry_list_sort (wpAny_mono (inner _) (fun f s' h => ?_) fun _ _ x => x) (args_list_sort _)))
  obtain ⟨rfl, h⟩ := h
  exact ⟨_, rfl, wpAny_pure ⟨_, rfl, h⟩⟩
/-- what can be sorted -/
def Srt (ds : List PyData) : Prop := (AllAlike ds ∧ Sortable ds) ∨ Near ds
theorem sorts_any {vs : List Value} {ds : List PyData} (e : EachIs (fun v d => ∃ as, Reads s.heap v d as) vs ds) (S : Srt ds) (hu : ∀ d ∈ ds, A.units + d.depth < cLine) : SortsAt prog w A s (dataKind s.heap ds) vs := by
  rcases S with ⟨h1, h2⟩ | N
  · exact SortsAt.data e h1 h2 hu
  · exact sorts_near e N hu
theorem vals_any {h' : Heap} {β : Type} {R : Value → β → Prop} {f : β → PyData} {vs : List Value} {bs : List β} (e : EachIs R vs bs) (er : EachIs (fun v b => ∃ as, Reads h' v (f b) as) vs bs) (S : Srt (bs.map f)) :
    EachIs R (sortVals (dataKind h' (bs.map f)) false vs vs) (bs.mergeSort (dataLe false f)) := by
  rcases S with ⟨h1, _⟩ | N
  · exact sortVals_data false e er h1
  · exact vals_near e er N
end
end So
namespace L2
open PySem PySem.Spec PyProof.Rows
section
variable {X : Cx}
/-- sorted(xs), a list or a tuple -/
def rSortX (K : PySem.W.Frag) : List V → Hp → VK → Prop := fun us H Q => ∃ (a : Addr) (xs : List V) (ds : List PyData), us = [.ref a] ∧ (SqL K H a xs ∨ SqT K H a xs) ∧ DpAll K H xs ds ∧ So.Srt ds ∧ (∀ d ∈ ds, PyData.depth d ≤ 40) ∧
  ∀ l ws, H l = none → DpAll K H ws (ds.mergeSort (PySem.W.dataLe false id)) → Q (.ref l) (upd H l (.lst ws))
theorem cr_sortedX (hu : X.A.units + 64 < cLine) : CallR X (.builtin "sorted") (rSortX X.K) := by
  intro pins s σ H vs us Q I r h
  obtain ⟨a, xs, ds, rfl, hs, hd, hN, hdp, q⟩ := h
  rw [Vals.ref1 r]
  have key : ∀ {its : List Value}, Vals xs its → its.length ≤ sizeLine → (PySem.W.SortsAt X.prog X.w X.A.in1.in1 { s with heap := PySem.W.sortingHeap (PySem.W.copyHeap s.heap its) (s.heap.objs.size + 1) its } (PySem.W.dataKind (PySem.W.sortingHeap (PySem.W.copyHeap s.heap its) (s.heap.objs.size + 1) its) ((xs.zip ds).map Prod.snd)) its) ∧
      EP X pins σ Q (.ref (s.heap.objs.size + 1)) { s with heap := sortedAll s.heap its (PySem.W.sortVals (PySem.W.dataKind (PySem.W.sortingHeap (PySem.W.copyHeap s.heap its) (s.heap.objs.size + 1) its) ((xs.zip ds).map Prod.snd)) false its its).toArray } := fun {its} rv hz => by
    have e := each_zip rv hd
    have ez := zip_snd hd
    have lenI := rv.length
    have lenZ := e.length
    have pre : ∀ b o, s.heap.get? b = some o → (PySem.W.sortingHeap (PySem.W.copyHeap s.heap its) (s.heap.objs.size + 1) its).get? b = some o := fun b o q => PySem.W.sorting_copy_old q
    have er : PySem.W.EachIs (fun v (b : V × PyData) => ∃ as, Reads (PySem.W.sortingHeap (PySem.W.copyHeap s.heap its) (s.heap.objs.size + 1) its) v b.2 as) its (xs.zip ds) := e.mono fun u b ⟨h1, h2⟩ => by
      obtain ⟨as, z⟩ := Dp.reads I b.2 b.1 u h2 h1
      exact ⟨as, PyProof.Rows.Reads.keeps pre z⟩
    have N' : So.Srt ((xs.zip ds).map Prod.snd) := by rw [ez]; exact hN
    refine ⟨So.sorts_any (s := { s with heap := PySem.W.sortingHeap (PySem.W.copyHeap s.heap its) (s.heap.objs.size + 1) its }) (PySem.W.each_map (R := fun v d => ∃ as, Reads (PySem.W.sortingHeap (PySem.W.copyHeap s.heap its) (s.heap.objs.size + 1) its) v d as) Prod.snd er) N' (fun d m => by
      rw [ez] at m
      have := hdp d m
      show X.A.units + 2 + _ < _
      omega), ?_⟩
    obtain ⟨ep, he'⟩ := PyProof.Rows.sortedAll_at s.heap its (PySem.W.sortVals (PySem.W.dataKind (PySem.W.sortingHeap (PySem.W.copyHeap s.heap its) (s.heap.objs.size + 1) its) ((xs.zip ds).map Prod.snd)) false its its).toArray
    obtain ⟨b1, b2⟩ := each_back (So.vals_any e er N')
    have hm : ((xs.zip ds).mergeSort (PySem.W.dataLe false Prod.snd)).map Prod.snd = ds.mergeSort (PySem.W.dataLe false id) :=
      (List.map_mergeSort (r := PySem.W.dataLe false Prod.snd) (s := PySem.W.dataLe false id) (f := Prod.snd) (l := xs.zip ds) (fun _ _ _ _ => rfl)).trans (by rw [ez])
    rw [hm] at b2
    have hlen : (((xs.zip ds).mergeSort (PySem.W.dataLe false Prod.snd)).map Prod.fst).length ≤ sizeLine := by rw [List.length_map, List.length_mergeSort]; omega
    exact ⟨.ref _, upd H (s.heap.objs.size + 1) (.lst _), I.laid (t' := s.toks) (fun _ _ => PyProof.Rows.sortedAll_old) (Nat.le_succ _) ⟨hlen, _, ep, b1, he'⟩, rfl, q _ _ (I.hok.fresh (Nat.le_succ _)) b2⟩
  rcases hs with hs | hs
  · obtain ⟨its, rv, hl, hz⟩ := I.list hs
    have lenI := rv.length
    obtain ⟨k1, k2⟩ := key rv (by omega)
    exact PySem.W.sorted_vals hl.isList k1 (by omega) k2
  · obtain ⟨its, rv, ⟨o, e1, e2, n, e3⟩, hz⟩ := I.tuple hs
    have lenI := rv.length
    obtain ⟨k1, k2⟩ := key rv (by omega)
    exact So.sorted_tup e1 e2 e3 (by omega) k1 k2
end
end L2
namespace Tr
open PySem PySem.Spec PyProof.Rows L2 Evl Fx Fr Dt
theorem lt_div (x : Rat) {p q : Int} (hq : 0 < q) : decide (x.num * q < p * (x.den : Int)) = decide (x < Rat.divInt p q) := by
  rw [decide_eq_decide, Rat.lt_iff]
  have h1 : p * ((Rat.divInt p q).den : Int) = (Rat.divInt p q).num * q := by
    have := Rat.num_divInt_den (Rat.divInt p q)
    exact ((Rat.divInt_eq_divInt_iff (by omega) (den_ne _)).mp this.symm)
  generalize hn : (Rat.divInt p q).num = a at h1 ⊢
  have hd : (0 : Int) < ((Rat.divInt p q).den : Int) := by have := (Rat.divInt p q).den_pos; omega
  generalize ((Rat.divInt p q).den : Int) = b at h1 hd ⊢
  have e1 : x.num * q < p * (x.den : Int) ↔ x.num * q * b < p * (x.den : Int) * b := (Int.mul_lt_mul_right hd).symm
  have e2 : x.num * b < a * (x.den : Int) ↔ x.num * b * q < a * (x.den : Int) * q := (Int.mul_lt_mul_right hq).symm
  rw [e1, e2]
  have f1 : p * (x.den : Int) * b = a * (x.den : Int) * q := by grind
  have f2 : x.num * q * b = x.num * b * q := by grind
  rw [f1, f2]
theorem own_if {own : Rat} (h0 : 0 ≤ own) (h1 : own < 1) (c : Bool) : decide (own < if c = true then (1 : Rat) else 0) = c := by
  cases c with
  | true => exact decide_eq_true h1
  | false => exact decide_eq_false (fun h => by have h' : own < 0 := h; grind)
/-- a draw -/
def Lot (x : Rat) : Prop := Bd 60 x ∧ 0 ≤ x ∧ x < 1
theorem word_any (x : Pl) : ([("own" : Str), "shared"].any fun y => y == x.word) = true → (∃ p q, x = .own p q) ∨ ∃ p q, x = .shared p q := fun h => by
  cases x with
  | own p q => exact .inl ⟨p, q, rfl⟩
  | shared p q => exact .inr ⟨p, q, rfl⟩
  | caller => exact absurd h (by decide +kernel)
  | bad => exact absurd h (by decide +kernel)
  | late => exact absurd h (by decide +kernel)
  | never => exact absurd h (by decide +kernel)
theorem word_none (x : Pl) : ([("own" : Str), "shared"].any fun y => y == x.word) = false → (∀ p q, x ≠ .own p q) ∧ ∀ p q, x ≠ .shared p q := fun h => by
  cases x with
  | own p q => exact absurd h (by have : ([("own" : Str), "shared"].any fun y => y == ("own" : Str)) = true := by decide +kernel
                                  show ¬ ([("own" : Str), "shared"].any fun y => y == ("own" : Str)) = false
                                  rw [this]
                                  exact fun z => Bool.noConfusion z)
  | shared p q => exact absurd h (by have : ([("own" : Str), "shared"].any fun y => y == ("shared" : Str)) = true := by decide +kernel
                                     show ¬ ([("own" : Str), "shared"].any fun y => y == ("shared" : Str)) = false
                                     rw [this]
                                     exact fun z => Bool.noConfusion z)
  | _ => exact ⟨nofun, nofun⟩
theorem lsays_eq (x : Pl) (h : ∀ p q, x ≠ .own p q) (h2 : ∀ p q, x ≠ .shared p q) (bad late called : Bool) (draw : Rat) (hc : (x.word == ("caller" : Str)) = false) : (((x.word == ("bad" : Str)) && bad || ((x.word == ("late" : Str)) && late))) = x.says bad late called draw := by
  have e := says_eq x h bad late called draw
  have s : (x.word == ("shared" : Str)) = false := by
    cases hs : (x.word == ("shared" : Str)) with
    | false => rfl
    | true =>
      obtain ⟨p, q, rfl⟩ := word_shared hs
      exact absurd rfl (h2 p q)
  rw [s, hc, Bool.false_and, Bool.false_and, Bool.false_or, Bool.false_or] at e
  exact e
theorem lsays_caller {x : Pl} (hc : (x.word == ("caller" : Str)) = true) (bad late called : Bool) (draw : Rat) : x.says bad late called draw = called := by
  cases x with
  | caller => rfl
  | own p q => exact absurd hc (by have : (("own" : Str) == ("caller" : Str)) = false := by decide +kernel
                                   show ¬ (("own" : Str) == ("caller" : Str)) = true
                                   rw [this]
                                   exact Bool.false_ne_true)
  | shared p q => exact absurd hc (by have : (("shared" : Str) == ("caller" : Str)) = false := by decide +kernel
                                      show ¬ (("shared" : Str) == ("caller" : Str)) = true
                                      rw [this]
                                      exact Bool.false_ne_true)
  | bad => exact absurd hc (by decide +kernel)
  | late => exact absurd hc (by decide +kernel)
  | never => exact absurd hc (by decide +kernel)
end Tr
namespace K18
open PySem PySem.Spec PyProof.Rows L2 Evl Fx Fr Dt Tr
section
variable {P : Program} {w : World} {K : PySem.W.Frag} {mg : Str → Option Value} {base : Heap} {f f2 f3 : Addr} {fd fd2 fd3 : FuncData}
def spSays (K : PySem.W.Frag) : Sp := spD K fun ds d => ∃ (x : Pl) (mark : Int) (hb called : Bool) (lot own : Rat), x.Ok ∧ Lot lot ∧ Lot own ∧ ds = [x.D, .int mark, .bool hb, .bool called, frD lot, frD own] ∧ d = .bool (decide (own < x.chance (mark == 1) hb called lot))
end
end K18
namespace K18
open PySem PySem.Spec PyProof.Rows L2 Evl Fx Fr Dt Tr
def nKept : List Str := ["_law_root", "_law_acts", "_law_lot", "_law_owns", "_law_spans_here", "_law_found", "_law_table", "_law_has_bad", "_law_way", "_law_name", "_law_mark", "_law_own", "_law_act", "_law_is_called", "_law_parts", "_law_span", "_law_j", "_law_part"]
section
variable {P : Program} {w : World} {K : PySem.W.Frag} {mg : Str → Option Value} {base : Heap} {f f2 f3 : Addr} {fd fd2 fd3 : FuncData}
structure KeptOk2 (t : T) (rs : List (Str × Ru)) (ρ : Str → Ru) (dr : Rat) (ow : List (Rat × Rat)) : Prop where
  k : KeptOk t rs ρ dr ow
  six : Tr.size t ≤ 6
  lot : Lot dr
  lots : ∀ o ∈ ow, Lot o.1 ∧ Lot o.2
  nodup : (rs.map Prod.fst).Nodup
def spLKept (K : PySem.W.Frag) : Sp := spD K fun ds d => ∃ t rs ρ draw owns, KeptOk2 t rs ρ draw owns ∧ ds = [enc t, .tuple (rs.map rowD), frD draw, .tuple (owns.map mkD)] ∧ d = .tuple ((keptBy ρ t draw owns).map pathD)
end
end K18
namespace K18
open PySem PySem.Spec PyProof.Rows L2 Evl Fx Fr Dt Tr
theorem scDraw : FnScope ["_law_feed_here", "_law_many", "_law_digit_now", "_law_cell", "_law_turn", "_law_mixed"] ["_law_feed_here", "_law_many"] (defScope (topS 51)) := ⟨rfl, rfl, rfl, by decide +kernel, rfl, by decide +kernel, by decide +kernel⟩
section
variable {P : Program} {w : World} {K : PySem.W.Frag} {mg : Str → Option Value} {base : Heap} {f f2 f3 : Addr} {fd fd2 fd3 : FuncData}
def fl (l : Addr) (s r c : Int) : List V := [.ref l, .int s, .int r, .int c]
def FeedAt (H : Hp) (d l : Addr) (n : Nat) : Prop := ∃ (ns : List Int) (s r c : Int), H d = some (.lst (fl l s r c)) ∧ H l = some (.lst (ns.map V.int)) ∧ ns.length ≤ 63 ∧ 0 ≤ s ∧ 0 ≤ c ∧ c ≤ n ∧ l ≠ d
def spDraw : Sp := fun vs H Q _ => ∃ (d l : Addr) (many : Int) (n : Nat), vs = [.ref d, .int many] ∧ FeedAt H d l n ∧ n ≤ 1000000 ∧ 0 < many ∧ many < 2 ^ 60 ∧ ∀ H' r, Kp d H H' → FeedAt H' d l (n + 1) → 0 ≤ r → r < many → Q (.int r) H'
theorem ok_draw (F : Fun K "_law_draw" "_law_draw" (topS 51) f fd) (m_int : mg "int" = none) (m_len : mg "len" = none) : FnOk P w K mg base CX0 1 f fd ["_law_feed_here", "_law_many"] spDraw := by
  refine F.ok scDraw (fun vs H Q E h => ?_) (fun cdv A outer s H vs Q E hr h => ?_)
  · obtain ⟨d, l, many, n, rfl, _⟩ := h
    rfl
  · obtain ⟨d, l, many, n, rfl, ⟨ns, sp, rest, calls, hd, hl, hn, hs0, hc0, hcn, nl⟩, hn2, hm0, hm1, q⟩ := h
    have dv : ∀ i : Int, CDivW i many := fun i => wide_div (b := 60) hm0 (by omega) (by decide) (by decide)
    have hL : ∀ o, (upd H d o) l = some (.lst (ns.map V.int)) := fun o => by
      rw [upd_ne nl]
      exact hl
    have rd : ∀ (a b : Int), 0 ≤ a → FeedAt (upd H d (.lst (fl l a b (calls + 1)))) d l (n + 1) := fun a b ha => ⟨ns, a, b, calls + 1, upd_same, hL _, hn, ha, by omega, by omega, nl⟩
    have md : ∀ i : Int, 0 ≤ i % many ∧ i % many < many := fun i => ⟨Int.emod_nonneg i (by omega), Int.emod_lt_of_pos i hm0⟩
    refine ⟨_, (pss_cons (ps_asg (pe_op op_add (pe_ix ix_list (pv 0) pe_int (fun _ _ => rfl)) pe_int) (pg_sub (pv 0) pe_int set_list (fun _ => rfl)))
      (pss_cons (ps_if (pt_cmpR op_gt (pe_ix ix_list (pv 0) pe_int (fun _ _ => rfl)) pe_int (nomark _)) (pss_cons (ps_set (i := 2) scDraw.nd rfl (.inl rfl) (pe_op op_mod (pe_callTy call_int1 (by rfl) m_int (by decide +kernel) (pa_cons (pe_ix ix_list (pv 0) pe_int (fun _ _ => rfl)) pa_nil)) (pv 1)))
        (pss_cons (ps_asg (pe_op op_fdivW (pe_ix ix_list (pv 0) pe_int (fun _ _ => rfl)) (pv 1)) (pg_sub (pv 0) pe_int set_list (fun _ => rfl)))
        (pss_one (ps_ret (pv 2))))) pss_nil)
      (pss_cut (ps_set (i := 3) scDraw.nd rfl (.inl rfl) (pe_ifExp (pt_cmpR (op_neD hr.units) (pe_ix ix_list (pv 0) pe_int (fun _ _ => rfl)) (pe_lst pa_nil) (nomark _)) (pe_ix ix_list (pe_ix ix_list (pv 0) pe_int (fun _ _ => rfl)) (pe_op op_mod (pe_callTy call_int1 (by rfl) m_int (by decide +kernel) (pa_cons (pe_ix ix_list (pv 0) pe_int (fun _ _ => rfl)) pa_nil)) (pe_callB (r := rLenS K) call_lenS (by rfl) m_len PySem.boot_len (pa_cons (pe_ix ix_list (pv 0) pe_int (fun _ _ => rfl)) pa_nil))) (fun _ _ => rfl)) pe_int))
      (pss_cons (ps_asg (pe_op op_add (pe_ix ix_list (pv 0) pe_int (fun _ _ => rfl)) pe_int) (pg_sub (pv 0) pe_int set_list (fun _ => rfl)))
      (pss_cut (ps_if (PW.pt (pw_and (pt_cmpR op_ge (pv 3) (pe_op op_pow pe_int pe_int) (nomark _)) (pw_and1 (pt_cmpR op_le (pe_ix ix_list (pv 0) pe_int (fun _ _ => rfl)) (pe_callB (r := rLenS K) call_lenS (by rfl) m_len PySem.boot_len (pa_cons (pe_ix ix_list (pv 0) pe_int (fun _ _ => rfl)) pa_nil)) (nomark _))))) (pss_cons (ps_asg (pe_op op_fdivW (pv 3) (pv 1)) (pg_sub (pv 0) pe_int set_list (fun _ => rfl)))
        (pss_one (ps_ret (pe_op op_mod (pe_callTy call_int1 (by rfl) m_int (by decide +kernel) (pa_cons (pv 3) pa_nil)) (pv 1))))) pss_nil)
      (pss_cons (ps_set (i := 4) scDraw.nd rfl (.inl rfl) (pe_ix ix_list (pv 0) pe_int (fun _ _ => rfl)))
      (pss_cut (ps_set (i := 5) scDraw.nd rfl (.inl rfl) (pe_callTy call_int1 (by rfl) m_int (by decide +kernel) (pa_cons (pe_op op_pow (pe_op op_add (pe_op op_add (pe_op op_mod (pe_callTy call_int1 (by rfl) m_int (by decide +kernel) (pa_cons (pv 3) pa_nil)) pe_int) (pe_op op_mulW (pe_op op_mulW pe_int (pv 4)) (pe_op op_add (pv 4) pe_int))) pe_int) pe_int) pa_nil)))
      (pss_cut (ps_set (i := 5) scDraw.nd rfl (.inl rfl) (pe_callTy call_int1 (by rfl) m_int (by decide +kernel) (pa_cons (pe_op op_pow (pe_op op_add (pe_op op_mulW (pe_op op_mod (pe_callTy call_int1 (by rfl) m_int (by decide +kernel) (pa_cons (pv 5) pa_nil)) pe_int) (pe_op op_add (pe_op op_mulW pe_int (pv 4)) pe_int)) (pe_op op_mulW pe_int (pv 4))) pe_int) pa_nil)))
      (pss_one (ps_ret (pe_op op_mod (pe_callTy call_int1 (by rfl) m_int (by decide +kernel) (pa_cons (pe_op op_fdivW (pe_op op_mod (pe_callTy call_int1 (by rfl) m_int (by decide +kernel) (pa_cons (pv 5) pa_nil)) pe_int) pe_int) pa_nil)) (pv 1)))))))))))), ?_⟩
    have hlk : ∀ {H' : Hp}, Kp d H H' → H' l = some (.lst (ns.map V.int)) := fun k => k _ _ hl nl
    have fin : ∀ {H' : Hp} {a b r : Int}, Kp d H H' → H' d = some (.lst (fl l a b (calls + 1))) → 0 ≤ a → 0 ≤ r ∧ r < many → Q (.int r) H' := fun k h1 ha hr => q _ _ k ⟨ns, _, _, calls + 1, h1, hlk k, hn, ha, by omega, by omega, nl⟩ hr.1 hr.2
    refine ⟨_, rfl, d, _, 3, _, rfl, rfl, sq_of hd, rfl, _, _, rfl, rfl, _, rfl, d, _, 3, 3, rfl, rfl, hd, rfl, ?_⟩
    have k1 : Kp d H (upd H d (.lst (fl l sp rest (calls + 1)))) := Kp.upd
    have hd1 : upd H d (.lst (fl l sp rest (calls + 1))) d = some (.lst (fl l sp rest (calls + 1))) := upd_same
    change tSeq _ _ _ _ (upd H d (.lst (fl l sp rest (calls + 1))))
    generalize upd H d (.lst (fl l sp rest (calls + 1))) = H1 at k1 hd1 ⊢
    refine ⟨_, rfl, d, _, 2, _, rfl, rfl, sq_of hd1, rfl, _, _, rfl, rfl, _, rfl, ite2 (fun _ => ?_) (fun _ => ?_)⟩
    · refine ⟨_, rfl, d, _, 2, _, rfl, rfl, sq_of hd1, rfl, .inl ⟨_, rfl, _, rfl, _, _, rfl, rfl, hm0, ?_⟩⟩
      refine ⟨_, rfl, d, _, 2, _, rfl, rfl, sq_of hd1, rfl, _, rfl, _, _, rfl, rfl, dv _, _, rfl, d, _, 2, 2, rfl, rfl, hd1, rfl, ?_⟩
      exact ⟨_, rfl, fin (a := sp) (b := rest / many) (k1.trans Kp.upd) upd_same hs0 (md _)⟩
    · refine q_cut (M := fun σ' H' => ∃ c : Int, σ' = [some (.ref d), some (.int many), none, some (.int c), none, none] ∧ Kp d H H' ∧ H' d = some (.lst (fl l sp rest (calls + 1)))) ?_ ?_
      · refine ⟨_, rfl, d, _, 0, _, rfl, rfl, sq_of hd1, rfl, by decide, fun p hp => ⟨.list (ns.map PyData.int), .list [], .lst (sq_of (Ex.new hp _ _ (hlk k1))) ?_, .lst (sq_of upd_same) .nil, sh_ints ns, rfl, _, rfl, ?_⟩⟩
        · have go : ∀ xs : List Int, DpAll K (upd H1 p (.lst [])) (xs.map V.int) (xs.map PyData.int) := fun xs => by
            induction xs with
            | nil => exact .nil
            | cons a xs ih => exact .cons (.int _) ih
          exact go ns
        · have e2 := Ex.new (o := HO.lst []) hp
          have k2 := k1.trans (Kp.ex e2)
          have hd2 := e2 _ _ hd1
          generalize upd H1 p (.lst []) = H2 at k2 hd2 ⊢
          refine ite2 (fun h => ?_) (fun _ => ⟨73, rfl, k2, hd2⟩)
          have hnn : ns ≠ [] := by
            rintro rfl
            simp [PyData.eqv, PyData.eqvAll] at h
          have hpos : (0 : Int) < ((ns.map V.int).length : Int) := by
            rw [List.length_map]
            have := List.length_pos_iff.mpr hnn
            omega
          have b1 := Int.emod_nonneg sp (show ((ns.map V.int).length : Int) ≠ 0 by omega)
          have b2 := Int.emod_lt_of_pos sp hpos
          have hj : (sp % ((ns.map V.int).length : Int)).toNat < ns.length := by
            rw [List.length_map] at b1 b2 ⊢
            omega
          refine ⟨_, rfl, d, _, 0, _, rfl, rfl, sq_of hd2, rfl, _, rfl, d, _, 1, _, rfl, rfl, sq_of hd2, rfl, .inl ⟨_, rfl, _, rfl, d, _, 0, _, rfl, rfl, sq_of hd2, rfl, l, _, rfl, .inl (sq_of (hlk k2)), _, _, rfl, rfl, hpos, ?_⟩⟩
          refine ⟨l, _, _, .int (ns[(sp % ((ns.map V.int).length : Int)).toNat]), rfl, rfl, sq_of (hlk k2), at_of (j := (sp % ((ns.map V.int).length : Int)).toNat) (by omega) ?_, _, rfl, k2, hd2⟩
          rw [List.getElem?_map, List.getElem?_eq_getElem hj]
          rfl
      · rintro σ' H2 ⟨c, rfl, k2, hd2⟩
        refine ⟨_, rfl, d, _, 1, _, rfl, rfl, sq_of hd2, rfl, _, _, rfl, rfl, _, rfl, d, _, 1, 1, rfl, rfl, hd2, rfl, ?_⟩
        have k3 : Kp d H (upd H2 d (.lst (fl l (sp + 1) rest (calls + 1)))) := k2.trans Kp.upd
        have hd3 : upd H2 d (.lst (fl l (sp + 1) rest (calls + 1))) d = some (.lst (fl l (sp + 1) rest (calls + 1))) := upd_same
        change tCut _ _ _ _ (upd H2 d (.lst (fl l (sp + 1) rest (calls + 1))))
        generalize upd H2 d (.lst (fl l (sp + 1) rest (calls + 1))) = H3 at k3 hd3 ⊢
        refine q_cut (M := fun σ' H' => σ' = [some (.ref d), some (.int many), none, some (.int c), none, none] ∧ H' = H3) ?_ ?_
        · refine ⟨_, rfl, _, _, rfl, rfl, ⟨by decide, by decide, by decide⟩, _, _, rfl, rfl, _, rfl, ite2 (fun _ => ?_) (fun _ => iteF ⟨rfl, rfl⟩)⟩
          refine ⟨_, rfl, d, _, 1, _, rfl, rfl, sq_of hd3, rfl, _, rfl, d, _, 0, _, rfl, rfl, sq_of hd3, rfl, l, _, rfl, .inl (sq_of (hlk k3)), _, _, rfl, rfl, _, rfl, ite2 (fun _ => ?_) (fun _ => ⟨rfl, rfl⟩)⟩
          refine ⟨_, rfl, _, rfl, _, _, rfl, rfl, dv _, _, rfl, d, _, 2, 2, rfl, rfl, hd3, rfl, ?_⟩
          exact ⟨_, rfl, .inl ⟨_, rfl, _, rfl, _, _, rfl, rfl, hm0, fin (a := sp + 1) (b := c / many) (k3.trans Kp.upd) upd_same (by omega) (md _)⟩⟩
        · rintro σ' H4 ⟨rfl, rfl⟩
          refine ⟨_, rfl, d, _, 3, _, rfl, rfl, sq_of hd3, rfl, ?_⟩
          have q1 : 197 * (calls + 1) ≤ 2 ^ 40 := by omega
          have q2 : 197 * (calls + 1) * (calls + 1 + 14) ≤ 2 ^ 40 * 2 ^ 21 := Int.mul_le_mul q1 (by omega) (by omega) (by decide)
          have q3 : 0 ≤ 197 * (calls + 1) * (calls + 1 + 14) := Int.mul_nonneg (by omega) (by omega)
          have kk1 : ∀ x : Int, (x % 1000010911 + 197 * (calls + 1) * (calls + 1 + 14) + 61).natAbs < 2 ^ 64 := fun x => by
            have o1 := Int.emod_nonneg x (show (1000010911 : Int) ≠ 0 by decide)
            have o2 := Int.emod_lt_of_pos x (show (0 : Int) < 1000010911 by decide)
            generalize 197 * (calls + 1) * (calls + 1 + 14) = t at q2 q3
            omega
          refine q_cut (M := fun σ' H' => ∃ m : Int, σ' = [some (.ref d), some (.int many), none, some (.int c), some (.int (calls + 1)), some (.int m)] ∧ H' = H4) ?_ ?_
          · exact ⟨_, rfl, .inl ⟨_, rfl, _, _, rfl, rfl, (show (0 : Int) < 1000010911 by decide), _, rfl, _, _, rfl, rfl, mulW (n := 60) (m := 60) (by decide) (by omega) (by decide), _, rfl, _, _, rfl, rfl, _, _, rfl, rfl, mulW (n := 60) (m := 60) (by omega) (by omega) (by decide), _, _, rfl, rfl, _, _, rfl, rfl, _, _, rfl, rfl, ⟨by decide, by decide, kk1 _⟩, .inl ⟨_, rfl, _, rfl, rfl⟩⟩⟩
          · rintro σ' H5 ⟨m, rfl, rfl⟩
            have kk2 : ∀ x : Int, (x % 2147483249 * (2 * (calls + 1) + 13) + 50263 * (calls + 1)).natAbs < 2 ^ 64 := fun x => by
              have o1 := Int.emod_nonneg x (show (2147483249 : Int) ≠ 0 by decide)
              have o2 := Int.emod_lt_of_pos x (show (0 : Int) < 2147483249 by decide)
              have o3 : x % 2147483249 * (2 * (calls + 1) + 13) ≤ 2 ^ 31 * 2 ^ 22 := Int.mul_le_mul (by omega) (by omega) (by omega) (by decide)
              have o4 : 0 ≤ x % 2147483249 * (2 * (calls + 1) + 13) := Int.mul_nonneg o1 (by omega)
              generalize x % 2147483249 * (2 * (calls + 1) + 13) = t at o3 o4
              omega
            refine q_cut (M := fun σ' H' => ∃ m : Int, σ' = [some (.ref d), some (.int many), none, some (.int c), some (.int (calls + 1)), some (.int m)] ∧ H' = H5) ?_ ?_
            · have o1 := Int.emod_nonneg m (show (2147483249 : Int) ≠ 0 by decide)
              have o2 := Int.emod_lt_of_pos m (show (0 : Int) < 2147483249 by decide)
              exact ⟨_, rfl, .inl ⟨_, rfl, _, _, rfl, rfl, (show (0 : Int) < 2147483249 by decide), _, rfl, _, _, rfl, rfl, mulW (n := 60) (m := 60) (by decide) (by omega) (by decide), _, _, rfl, rfl, _, _, rfl, rfl, mulW (n := 60) (m := 60) (by omega) (by omega) (by decide), _, rfl, _, _, rfl, rfl, mulW (n := 60) (m := 60) (by decide) (by omega) (by decide), _, _, rfl, rfl, _, _, rfl, rfl, ⟨by decide, by decide, kk2 _⟩, .inl ⟨_, rfl, _, rfl, rfl⟩⟩⟩
            · rintro σ' H6 ⟨m2, rfl, rfl⟩
              exact ⟨_, rfl, .inl ⟨_, rfl, _, _, rfl, rfl, (show (0 : Int) < 2147483171 by decide), _, _, rfl, rfl, wide_div (b := 60) (by decide) (by decide) (by decide) (by decide), .inl ⟨_, rfl, _, rfl, _, _, rfl, rfl, hm0, fin k3 hd3 (by omega) (md _)⟩⟩⟩
end
end K18
namespace K18
open PySem PySem.Spec PyProof.Rows L2 Evl Fx Fr Dt Tr
def FeedF (d l : Addr) : Fd := ⟨fun a => a = d, fun a => a = d ∨ a = l, fun n H => FeedAt H d l n, 1000000⟩
theorem FeedAt.loc {H H' : Hp} {d l : Addr} {n : Nat} (g : FeedAt H d l n) (k : ∀ a o, (a = d ∨ a = l) → H a = some o → H' a = some o) : FeedAt H' d l n := by
  obtain ⟨ns, s, r, c, h1, h2, h3⟩ := g
  exact ⟨ns, s, r, c, k _ _ (.inl rfl) h1, k _ _ (.inr rfl) h2, h3⟩
theorem FeedAt.up {H : Hp} {d l : Addr} {n m : Nat} (g : FeedAt H d l n) (h : n ≤ m) : FeedAt H d l m := by
  obtain ⟨ns, s, r, c, h1, h2, h3, h4, h5, h6, h7⟩ := g
  exact ⟨ns, s, r, c, h1, h2, h3, h4, h5, by omega, h7⟩
theorem FeedF.ok {d l : Addr} : (FeedF d l).Ok where
  sub := fun h => .inl h
  at_ := fun g t => by
    obtain ⟨ns, s, r, c, h1, h2, _⟩ := g
    rcases t with rfl | rfl
    · exact ⟨_, h1, .inl ⟨_, rfl⟩⟩
    · exact ⟨_, h2, .inl ⟨_, rfl⟩⟩
  loc := fun g k => g.loc k
  up := fun g h => g.up h
section
variable {P : Program} {w : World} {K : PySem.W.Frag} {mg : Str → Option Value} {base : Heap} {f f2 f3 : Addr} {fd fd2 fd3 : FuncData} {d l : Addr} {te ta tb : TE} {σ : L2.St} {H : Hp} {k ka kb n : Nat}
theorem kp_kx {H H' : Hp} (h : Kp d H H') : Kx (FeedF d l).S H H' := fun b o hb hn => h b o hb hn
theorem kx_kp {H H' : Hp} (h : Kx (FeedF d l).S H H') : Kp d H H' := fun b o hb hn => h b o hb hn
/-- a draw below many -/
def Below (many : Int) : VP := fun v _ => ∃ r, v = .int r ∧ 0 ≤ r ∧ r < many
theorem r_draw {many : Int} {E : XK} {i : Nat} (hd : σ[i]? = some (some (.ref d))) (hb : EvR (FeedF d l) tb σ H kb (fun x _ => x = .int many)) (h0 : 0 < many) (h1 : many < 2 ^ 60) : EvR (FeedF d l) (tCall spDraw [] E (tCons (tVar i) (tCons tb tNil))) σ H (kb + 1) (Below many) :=
  fun n H1 hn g e Q q => ⟨.ref d, hd, hb n H1 (by have : (FeedF d l).N = 1000000 := rfl; omega) g e _ fun y H2 e2 g2 ey => ⟨d, l, many, n + kb, by rw [ey]; rfl, g2, by have : (FeedF d l).N = 1000000 := rfl; omega, h0, h1, fun H3 r k3 g3 a1 a2 => q _ _ (e2.trans (kp_kx k3)) (by rw [← Nat.add_assoc]; exact g3) ⟨r, rfl, a1, a2⟩⟩⟩
/-- one of these data -/
def OneOf (K : PySem.W.Frag) (ds : List PyData) : VP := fun v H => ∃ x ∈ ds, Dp K H v x
theorem mono_one {F : Fd} {ds : List PyData} (o : F.Ok) (f : flats ds = true) : MonoF F (OneOf K ds) := fun n v H H' g e ⟨x, hx, p⟩ => ⟨x, hx, mono_d o (flats_all.mp f x hx) n _ _ _ g e p⟩
def spChoice (K : PySem.W.Frag) : Sp := fun vs H Q _ => ∃ (d l a : Addr) (xs : List V) (ds : List PyData) (n : Nat), vs = [.ref d, .ref a] ∧ FeedAt H d l n ∧ n + 1 ≤ 1000000 ∧ a ≠ d ∧ H a = some (.lst xs) ∧ DpAll K H xs ds ∧ flats ds = true ∧ ds ≠ [] ∧ ds.length ≤ 1000 ∧
  ∀ H' v, Kp d H H' → FeedAt H' d l (n + 1) → OneOf K ds v H' → Q v H'
theorem scChoice : FnScope ["_law_feed_here", "_law_some"] ["_law_feed_here", "_law_some"] (defScope (topS 52)) := ⟨rfl, rfl, rfl, by decide +kernel, rfl, by decide +kernel, by decide +kernel⟩
theorem ok_choice (F : Fun K "_law_choice" "_law_choice" (topS 52) f fd) (cD : C8.Cal P w K mg base 1 "_law_draw" spDraw []) (m_len : mg "len" = none) : FnOk P w K mg base CX0 2 f fd ["_law_feed_here", "_law_some"] (spChoice K) := by
  refine F.ok scChoice (fun vs H Q E h => ?_) (fun cdv A outer s H vs Q E hr h => ?_)
  · obtain ⟨d, l, a, xs, ds, n, rfl, _⟩ := h
    rfl
  · obtain ⟨d, l, a, xs, ds, n, rfl, hF, hn, had, ha, hx, hf, hne, hl, q⟩ := h
    refine ⟨_, pss_one (ps_ret (pe_ix ix_list (pv 1) (C8.pe_c cD hr (by decide) (by rfl) (pa_cons (pv 0) (pa_cons (pe_callB (r := rLenS K) call_lenS (by rfl) m_len PySem.boot_len (pa_cons (pv 1) pa_nil)) pa_nil))) (fun _ _ => rfl))), ?_⟩
    have lx := dps_len hx
    have hpos : 0 < ds.length := List.length_pos_iff.mpr hne
    refine ⟨.ref a, rfl, .ref d, rfl, .ref a, rfl, a, xs, rfl, .inl (sq_of ha), d, l, (xs.length : Int), n, rfl, hF, by omega, by omega, by omega, fun H' r k g a1 a2 => ?_⟩
    have hj : r.toNat < xs.length := by omega
    have hj2 : r.toNat < ds.length := by omega
    have hx' := mono_ds (FeedF.ok (d := d) (l := l)) hf n _ _ _ hF (kp_kx k) hx
    obtain ⟨u, hu, du⟩ := dps_get hx' (List.getElem?_eq_getElem hj2)
    exact ⟨a, xs, r, u, rfl, rfl, sq_of (k _ _ ha had), at_of (j := r.toNat) (by omega) hu, q H' u k g ⟨_, List.getElem_mem hj2, du⟩⟩
theorem r_choice {E : XK} {i : Nat} {ds : List PyData} (hd : σ[i]? = some (some (.ref d))) (hb : EvR (FeedF d l) tb σ H kb (IsL (FeedF d l) K ds)) (hf : flats ds = true) (hne : ds ≠ []) (hl : ds.length ≤ 1000) : EvR (FeedF d l) (tCall (spChoice K) [] E (tCons (tVar i) (tCons tb tNil))) σ H (kb + 1) (OneOf K ds) :=
  fun n H1 hn g e Q q => ⟨.ref d, hd, hb n H1 (by have : (FeedF d l).N = 1000000 := rfl; omega) g e _ fun y H2 e2 g2 ⟨a, xs, ey, hT, ha, hx⟩ => ⟨d, l, a, xs, ds, n + kb, by rw [ey]; rfl, g2, by have : (FeedF d l).N = 1000000 := rfl; omega, fun z => hT (.inl z), ha, hx, hf, hne, hl, fun H3 v k3 g3 p => q _ _ (e2.trans (kp_kx k3)) (by rw [← Nat.add_assoc]; exact g3) p⟩⟩
end
end K18
namespace Tr
open PySem PySem.Spec PyProof.Rows L2 Evl Fx Fr Dt
theorem lot_of {x : Rat} (h0 : 0 ≤ x.num) (h1 : x.num < (x.den : Int)) (h2 : x.den < 2 ^ 60) : Lot x := by
  refine ⟨⟨by omega, h2⟩, Rat.num_nonneg.mp h0, ?_⟩
  rw [Rat.lt_iff]
  have e1 : (1 : Rat).den = 1 := rfl
  have e2 : (1 : Rat).num = 1 := rfl
  rw [e1, e2]
  omega
def lots : List Rat := [⟨0, 1, by decide, by decide⟩, ⟨1, 2, by decide, by decide⟩, ⟨1, 3, by decide, by decide⟩, ⟨11, 12, by decide, by decide⟩, ⟨1, 12, by decide, by decide⟩, ⟨5, 12, by decide, by decide⟩, ⟨3, 4, by decide, by decide⟩, ⟨1, 6, by decide, by decide⟩, ⟨2, 3, by decide, by decide⟩, ⟨1, 4, by decide, by decide⟩, ⟨99, 100, by decide, by decide⟩]
theorem lots_lot : ∀ x ∈ lots, Lot x := by
  intro x hx
  simp only [lots, List.mem_cons, List.not_mem_nil, or_false] at hx
  rcases hx with rfl | rfl | rfl | rfl | rfl | rfl | rfl | rfl | rfl | rfl | rfl <;> exact lot_of (by decide) (by decide) (by decide)
theorem lots_flat : flats (lots.map frD) = true := flats_all.mpr fun d hd => by
  obtain ⟨b, _, rfl⟩ := List.mem_map.mp hd
  rfl
def Pl.Sm (x : Pl) : Prop := ∀ i : Int, PyData.int i ∈ x.more → i.natAbs < 1000
theorem sm_two {x : Pl} {p q : Int} (e : x.more = [.int p, .int q]) (h1 : p.natAbs < 1000) (h2 : q.natAbs < 1000) : x.Sm := fun i hi => by
  rw [e] at hi
  simp only [List.mem_cons, List.not_mem_nil, or_false, PyData.int.injEq] at hi
  rcases hi with rfl | rfl <;> assumption
theorem sm_nil {x : Pl} (e : x.more = []) : x.Sm := fun i hi => by
  rw [e] at hi
  cases hi
def lows : List Int := [2, 3, 1, 4, 6, 12]
def wordsP : List Str := ["own", "own", "shared", "caller", "bad", "late", "never", "shared"]
end Tr
namespace K18
open PySem PySem.Spec PyProof.Rows L2 Evl Fx Fr Dt Tr
section
variable {P : Program} {w : World} {K : PySem.W.Frag} {mg : Str → Option Value} {base : Heap} {f f2 f3 : Addr} {fd fd2 fd3 : FuncData} {d l : Addr} {te ta tb : TE} {σ : L2.St} {H : Hp} {k ka kb n : Nat}
/-- a def of the feed alone: m draws, a value of which Pm holds -/
def spFeedM (m : Nat) (Pm : VP) : Sp := fun vs H Q _ => ∃ (d l : Addr) (n : Nat), vs = [.ref d] ∧ FeedAt H d l n ∧ n + m ≤ 1000000 ∧ ∀ H' v, Kp d H H' → FeedAt H' d l (n + m) → Pm v H' → Q v H'
def LotD (K : PySem.W.Frag) : VP := fun v H => ∃ x, x ∈ lots ∧ Dp K H v (frD x)
def PlD (K : PySem.W.Frag) : VP := fun v H => ∃ x : Pl, x.Ok ∧ x.Sm ∧ Dp K H v x.D
theorem r_feedM {m : Nat} {Pm : VP} {E : XK} {i : Nat} (hd : σ[i]? = some (some (.ref d))) : EvR (FeedF d l) (tCall (spFeedM m Pm) [] E (tCons (tVar i) tNil)) σ H m Pm :=
  fun n H1 hn g e Q q => ⟨.ref d, hd, d, l, n, rfl, g, by have : (FeedF d l).N = 1000000 := rfl; omega, fun H3 v k3 g3 p => q _ _ (kp_kx k3) g3 p⟩
theorem ra_nilP {F : Fd} : EvRA F tNil σ H 0 (fun vs _ => vs = []) := fun n1 H1 hn g e Q q => q _ H1 Kx.refl g rfl
theorem ra_consP {F : Fd} {tr : TA} {Px : VP} {Pr : List V → Hp → Prop} (m : MonoF F Px) (h : EvR F te σ H ka Px) (hr : EvRA F tr σ H kb Pr) : EvRA F (tCons te tr) σ H (ka + kb) (fun vs H => ∃ x r, vs = x :: r ∧ Px x H ∧ Pr r H) :=
  fun n H1 hn g e Q q => h n H1 (by omega) g e _ fun x H2 e2 g2 p => hr (n + ka) H2 (by omega) g2 (e.trans e2) _ fun vs H3 e3 g3 p' => q (x :: vs) H3 (e2.trans e3) (by rw [← Nat.add_assoc]; exact g3) ⟨x, vs, rfl, m _ _ _ _ g2 e3 p, p'⟩
theorem r_tupP {F : Fd} {tr : TA} {Pr : List V → Hp → Prop} (o : F.Ok) (m : MonoA F Pr) (h : EvRA F tr σ H ka Pr) (hl : ∀ vs H, Pr vs H → vs.length ≤ 100000) : EvR F (tTup tr) σ H ka (fun v H => ∃ p vs, v = .ref p ∧ H p = some (.tup vs) ∧ Pr vs H) :=
  fun n H1 hn g e Q q => h n H1 hn g e _ fun vs H2 e2 g2 p => ⟨sz_of (hl _ _ p), fun a ha => q (.ref a) _ (e2.trans (Kx.ex (Ex.new ha))) (o.ex g2 (Ex.new ha)) ⟨a, vs, rfl, upd_same, m _ _ _ _ g2 (Kx.ex (Ex.new ha)) p⟩⟩
theorem mono_below {F : Fd} {m : Int} : MonoF F (Below m) := fun _ _ _ _ _ _ p => p
theorem mono_nilP {F : Fd} : MonoA F (fun vs _ => vs = []) := fun _ _ _ _ _ _ p => p
theorem mono_consP {F : Fd} {Px : VP} {Pr : List V → Hp → Prop} (m : MonoF F Px) (m' : MonoA F Pr) : MonoA F (fun vs H => ∃ x r, vs = x :: r ∧ Px x H ∧ Pr r H) := fun n v H H' g e ⟨x, r, h1, h2, h3⟩ => ⟨x, r, h1, m n _ _ _ g e h2, m' n _ _ _ g e h3⟩
theorem ra_frs {F : Fd} (o : F.Ok) : EvRA F (tCons (tTup (tCons (tC (.int 0)) (tCons (tC (.int 1)) tNil))) (tCons (tTup (tCons (tC (.int 1)) (tCons (tC (.int 2)) tNil))) (tCons (tTup (tCons (tC (.int 1)) (tCons (tC (.int 3)) tNil))) (tCons (tTup (tCons (tC (.int 11)) (tCons (tC (.int 12)) tNil))) (tCons (tTup (tCons (tC (.int 1)) (tCons (tC (.int 12)) tNil))) (tCons (tTup (tCons (tC (.int 5)) (tCons (tC (.int 12)) tNil)))
    (tCons (tTup (tCons (tC (.int 3)) (tCons (tC (.int 4)) tNil))) (tCons (tTup (tCons (tC (.int 1)) (tCons (tC (.int 6)) tNil))) (tCons (tTup (tCons (tC (.int 2)) (tCons (tC (.int 3)) tNil))) (tCons (tTup (tCons (tC (.int 1)) (tCons (tC (.int 4)) tNil))) (tCons (tTup (tCons (tC (.int 99)) (tCons (tC (.int 100)) tNil))) tNil))))))))))) σ H 0 (fun vs H => DpAll K H vs (lots.map frD)) := by
  have pr : ∀ {p q : Int}, EvR F (tTup (tCons (tC (.int p)) (tCons (tC (.int q)) tNil))) σ H 0 (IsD K (.tuple [.int p, .int q])) := fun {p q} => rd_tup o (ra_cons (ka := 0) (kb := 0) o rd_int (ra_cons (ka := 0) (kb := 0) o rd_int ra_nil))
  exact ra_cons (ka := 0) (kb := 0) o pr (ra_cons (ka := 0) (kb := 0) o pr (ra_cons (ka := 0) (kb := 0) o pr (ra_cons (ka := 0) (kb := 0) o pr (ra_cons (ka := 0) (kb := 0) o pr (ra_cons (ka := 0) (kb := 0) o pr (ra_cons (ka := 0) (kb := 0) o pr (ra_cons (ka := 0) (kb := 0) o pr (ra_cons (ka := 0) (kb := 0) o pr (ra_cons (ka := 0) (kb := 0) o pr (ra_cons (ka := 0) (kb := 0) o pr ra_nil))))))))))
end
end K18
namespace Tr
open PySem PySem.Spec PyProof.Rows L2 Evl Fx Dt
open PySem.W (alike alikeAll AllAlike Sortable dataLe)
mutual
theorem enc_alike : ∀ a b : T, alike (enc a) (enc b) = true
  | .mk s m cs, .mk s' m' cs' => by
    rw [enc, enc]
    simp only [alike, alikeAll, Bool.true_and, Bool.and_true]
    exact encs_alike cs cs'
theorem encs_alike : ∀ a b : List T, alikeAll (encs a) (encs b) = true
  | [], _ => by rw [encs]; simp [alikeAll]
  | _ :: _, [] => by rw [encs, encs]; simp [alikeAll]
  | x :: xs, y :: ys => by rw [encs, encs, alikeAll, enc_alike x y, encs_alike xs ys]; rfl
end
mutual
theorem enc_depth : ∀ t : T, PyData.depth (enc t) ≤ 2 * size t
  | .mk s m cs => by
    have := encs_depth cs
    rw [enc, size]
    simp only [PyData.depth, PyData.depthAll]
    omega
theorem encs_depth : ∀ ts : List T, PyData.depthAll (encs ts) ≤ 2 * sizes ts
  | [] => by rw [encs]; simp [PyData.depthAll]
  | t :: ts => by
    have h1 := enc_depth t
    have h2 := encs_depth ts
    rw [encs, sizes, PyData.depthAll]
    omega
end
theorem all_alike (ts : List T) : AllAlike (ts.map enc) := fun d hd d' hd' => by
  obtain ⟨a, _, rfl⟩ := List.mem_map.mp hd
  obtain ⟨b, _, rfl⟩ := List.mem_map.mp hd'
  exact enc_alike a b
theorem all_sortable (ts : List T) : Sortable (ts.map enc) := .inl fun d hd => by
  obtain ⟨a, _, rfl⟩ := List.mem_map.mp hd
  exact ⟨_, _, enc_eq a⟩
def sortT (ts : List T) : List T := ts.mergeSort fun a b => dataLe false id (enc a) (enc b)
theorem sort_map (ts : List T) : (ts.map enc).mergeSort (dataLe false id) = (sortT ts).map enc :=
  (List.map_mergeSort (r := fun a b => dataLe false id (enc a) (enc b)) (s := dataLe false id) (f := enc) (l := ts) (fun _ _ _ _ => rfl)).symm
theorem sort_perm (ts : List T) : (sortT ts).Perm ts := List.mergeSort_perm _ _
theorem sizes_perm {a b : List T} (h : a.Perm b) : sizes a = sizes b := by
  induction h with
  | nil => rfl
  | cons x _ ih => rw [sizes, sizes, ih]
  | swap x y l => rw [sizes, sizes, sizes, sizes]; omega
  | trans _ _ h1 h2 => exact h1.trans h2
theorem mem_subsA : ∀ {ts : List T} {s : T}, s ∈ subsA ts → ∃ c ∈ ts, s ∈ subs c
  | [], s, h => by rw [subsA] at h; cases h
  | t :: ts, s, h => by
    rw [subsA, List.mem_append] at h
    rcases h with h | h
    · exact ⟨t, List.mem_cons_self .., h⟩
    · obtain ⟨c, hc, hs⟩ := mem_subsA h
      exact ⟨c, List.mem_cons_of_mem _ hc, hs⟩
theorem depth_mem {ts : List T} : ∀ d ∈ ts.map enc, PyData.depth d ≤ 2 * sizes ts := fun d hd => by
  obtain ⟨a, ha, rfl⟩ := List.mem_map.mp hd
  obtain ⟨i, hi, rfl⟩ := List.getElem_of_mem ha
  have h1 := enc_depth ts[i]
  have h2 : size ts[i] ≤ sizes ts := by
    have : ∀ {ts : List T} {i : Nat} {c : T}, ts[i]? = some c → size c ≤ sizes ts := fun h => size_mem h
    exact this (List.getElem?_eq_getElem hi)
  omega
end Tr
namespace Dt
open PySem PySem.Spec PyProof.Rows L2 Evl Fx
theorem q_forRg {F : Fd} {te : TE} {σ : L2.St} {H : Hp} {k n j : Nat} {P : VP} {tb tz : TS} {D : Ends} (h : EvR F te σ H k P) (g0 : F.G n H) (hn : n + k ≤ F.N)
    (kk : ∀ v H1, Kx F.S H H1 → F.G (n + k) H1 → P v H1 → ∃ (m : Nat) (Pv : Nat → L2.St → Hp → Prop), v = .int (m : Int) ∧ m ≤ 40000 ∧ Pv 0 σ H1 ∧ (∀ i σ' H', i < m → Pv i σ' H' → tb { D with nx := Pv (i + 1), ct := Pv (i + 1), bk := tz D } (σ'.set j (some (.int (i : Int)))) H') ∧ ∀ σ' H', Pv m σ' H' → tz D σ' H') :
    tSeq (tFor (iRng1 (tCons te tNil)) (gName j) tb) tz D σ H := h n H hn g0 Kx.refl _ fun v H1 e1 g1 p => by
  obtain ⟨m, Pv, rfl, hm, h0, hs, hd⟩ := kk v H1 e1 g1 p
  refine ⟨(m : Int), rfl, by omega, by omega, ?_⟩
  rw [Int.toNat_natCast]
  exact for_range (lo := 0) (n := m) Pv h0 (fun i σ' H' hi p => by
    have e0 : (0 : Int) + (i : Int) = (i : Int) := Int.zero_add _
    show tb { D with nx := Pv (i + 1), ct := Pv (i + 1), bk := tz D } (σ'.set j (some (.int ((0 : Int) + (i : Int))))) H'
    rw [e0]
    exact hs i σ' H' hi p) hd
end Dt
namespace K18
open PySem PySem.Spec PyProof.Rows L2 Evl Fx Fr Dt Tr
theorem scTree : FnScope ["_law_feed_here", "_law_left", "_law_deep", "_law_name", "_law_mark", "_law_calls", "_law_k"] ["_law_feed_here", "_law_left", "_law_deep"] (defScope (topS 58)) := ⟨rfl, rfl, rfl, by decide +kernel, rfl, by decide +kernel, by decide +kernel⟩
def LeftF (d l e : Addr) : Fd := ⟨fun a => a = d ∨ a = e, fun a => a = d ∨ a = l ∨ a = e, fun n H => FeedAt H d l n ∧ e ≠ d ∧ e ≠ l ∧ ∃ k : Nat, H e = some (.lst [.int (k : Int)]), 1000000⟩
theorem LeftF.ok {d l e : Addr} : (LeftF d l e).Ok where
  sub := fun h => h.elim (fun h => .inl h) fun h => .inr (.inr h)
  at_ := fun {n H a} g t => by
    obtain ⟨⟨ns, s, r, c, h1, h2, _⟩, _, _, k, h3⟩ := g
    rcases t with rfl | rfl | rfl
    · exact ⟨_, h1, .inl ⟨_, rfl⟩⟩
    · exact ⟨_, h2, .inl ⟨_, rfl⟩⟩
    · exact ⟨_, h3, .inl ⟨_, rfl⟩⟩
  loc := fun g k => ⟨g.1.loc fun a o t => k a o (t.elim (fun h => .inl h) fun h => .inr (.inl h)), g.2.1, g.2.2.1, by
    obtain ⟨_, _, _, m, h⟩ := g
    exact ⟨m, k _ _ (.inr (.inr rfl)) h⟩⟩
  up := fun g h => ⟨g.1.up h, g.2⟩
section
variable {P : Program} {w : World} {K : PySem.W.Frag} {mg : Str → Option Value} {base : Heap} {f f2 f3 : Addr} {fd fd2 fd3 : FuncData} {d l e : Addr} {te ta tb : TE} {σ : L2.St} {H : Hp} {k ka kb n : Nat}
def Nice (t : T) : Prop := ∀ s ∈ subs t, (s.name = "db" ∨ s.name = "front" ∨ s.name = "pay") ∧ (s.mark = 0 ∨ s.mark = 1)
/-- a tree, m calls left at the most: what it uses of them -/
def spTree (K : PySem.W.Frag) (m : Nat) : Sp := fun vs H Q _ => ∃ (d l e : Addr) (deep n k : Nat), vs = [.ref d, .ref e, .int (deep : Int)] ∧ deep < m ∧ FeedAt H d l n ∧ e ≠ d ∧ e ≠ l ∧ H e = some (.lst [.int (k : Int)]) ∧ k ≤ 10 ∧ n + 3 * (1 + k) ≤ 1000000 ∧
  ∀ H' v t k', Kx (LeftF d l e).S H H' → size t + k' ≤ 1 + k → FeedAt H' d l (n + 3 * size t) → H' e = some (.lst [.int ((k' : Nat) : Int)]) → Nice t → Dp K H' v (enc t) → Q v H'
theorem ok_tree (F : Fun K "_law_some_tree" "_law_some_tree" (topS 58) f fd) (gl : mg "_law_some_tree" = some (.ref f)) (B : Binds K fd ["_law_feed_here", "_law_left", "_law_deep"] []) (cC : C8.Cal P w K mg base 2 "_law_choice" (spChoice K) []) (cD : C8.Cal P w K mg base 1 "_law_draw" spDraw []) (m_int : mg "int" = none) (m_range : mg "range" = none) (m_tuple : mg "tuple" = none) (m_sorted : mg "sorted" = none) :
    ∀ m, FnOk P w K mg base CX0 (m + 2) f fd ["_law_feed_here", "_law_left", "_law_deep"] (spTree K m)
  | 0 => by
    refine ⟨fun vs H Q E h => ?_, fun A outer s H args us vs Q E hr he hb hv h => ?_⟩
    · obtain ⟨d, l, e, deep, n, k, _, h, _⟩ := h
      exact absurd h (Nat.not_lt_zero _)
    · obtain ⟨d, l, e, deep, n, k, _, h, _⟩ := h
      exact absurd h (Nat.not_lt_zero _)
  | m + 1 => by
    have cT := cal F (ok_tree F gl B cC cD m_int m_range m_tuple m_sorted m) gl B
    refine F.ok scTree (fun vs H Q E h => ?_) (fun cdv A outer s H vs Q E hr h => ?_)
    · obtain ⟨d, l, e, deep, n, k, rfl, _⟩ := h
      rfl
    · obtain ⟨d, l, e, deep, n, k, rfl, hm, hF, ned, nel, he, hk, hn, q⟩ := h
      refine ⟨_, pss_cons (ps_par3 (i := 3) (j := 4) (l := 5) rfl scTree.nd rfl rfl rfl (by decide) (by decide) (by decide) rfl rfl rfl (pa_cons (C8.pe_c cC hr (by omega) (by rfl) (pa_cons (pv 0) (pa_cons (pe_lst (pa_cons pe_str (pa_cons pe_str (pa_cons pe_str pa_nil)))) pa_nil))) (pa_cons (pe_callTy call_int1 (by rfl) m_int (by decide +kernel) (pa_cons (pe_cmpR op_eq (C8.pe_c cD hr (by omega) (by rfl) (pa_cons (pv 0) (pa_cons pe_int pa_nil))) pe_int (nomark _)) pa_nil)) (pa_cons (pe_lst pa_nil) pa_nil))) (by rfl))
        (pss_cons (ps_for PassesOwn.never rfl (pi_range1 (by rfl) m_range (pa_cons (pe_ifExp (pt_cmpR op_gt (pv 2) pe_int (nomark _)) (C8.pe_c cD hr (by omega) (by rfl) (pa_cons (pv 0) (pa_cons pe_int pa_nil))) pe_int) pa_nil)) (pg_name (i := 6) scTree.nd rfl (.inl rfl))
          (pss_one (ps_if (pt_cmpR op_gt (pe_ix ix_list (pv 1) pe_int (fun _ _ => rfl)) pe_int (nomark _))
            (pss_cons (ps_asg (pe_op op_sub (pe_ix ix_list (pv 1) pe_int (fun _ _ => rfl)) pe_int) (pg_sub (pv 1) pe_int set_list (fun _ => rfl)))
            (pss_one (ps_expr (pe_bm PySem.F.plainAttrs_list PySem.F.slot_list_append PySem.F.type_list_append mt_append (pv 5) (pa_cons (C8.pe_c cT hr (by omega) (by rfl) (pa_cons (pv 0) (pa_cons (pv 1) (pa_cons (pe_op op_sub (pv 2) pe_int) pa_nil)))) pa_nil))))) pss_nil)))
        (pss_one (ps_ret (pe_tup (pa_cons (pv 3) (pa_cons (pv 4) (pa_cons (pe_callTy (T := "tuple") (r := rTupOf K) call_tupleOf (by rfl) m_tuple (by decide +kernel) (pa_cons (pe_callB (r := rSortD K) (cr_sortedD hr.units) (by rfl) m_sorted (by decide +kernel) (pa_cons (pv 5) pa_nil)) pa_nil)) pa_nil))))))), ?_⟩
      have N0 : (FeedF d l).N = 1000000 := rfl
      have N1 : (LeftF d l e).N = 1000000 := rfl
      have strs3 : ∀ {σ : L2.St} {H : Hp}, EvRA (FeedF d l) (tCons (tC (.str "db")) (tCons (tC (.str "front")) (tCons (tC (.str "pay")) tNil))) σ H 0 (fun vs H => DpAll K H vs ([("db" : Str), "front", "pay"].map PyData.str)) := fun {σ H} =>
        ra_cons (ka := 0) (kb := 0) FeedF.ok rd_str (ra_cons (ka := 0) (kb := 0) FeedF.ok rd_str (ra_cons (ka := 0) (kb := 0) FeedF.ok rd_str ra_nil))
      have ch := r_choice (K := K) (d := d) (l := l) (σ := [some (.ref d), some (.ref e), some (.int (deep : Int)), none, none, none, none]) (H := H) (E := C8.E0) (i := 0) (kb := 0) (ds := [("db" : Str), "front", "pay"].map PyData.str) rfl (rl_lst FeedF.ok strs3 (hl := by decide)) rfl (by decide) (by decide)
      refine q_par3 (q_cons (ch n H (by omega) hF Kx.refl _ fun w1 H1 e1 g1 ⟨x1, hx1, p1⟩ => q_cons ?_))
      obtain ⟨nm, hnm, rfl⟩ := List.mem_map.mp hx1
      cases p1
      replace e1 := kx_kp e1
      refine ⟨.ref d, rfl, d, l, 3, n + (0 + 1), rfl, g1, by omega, by decide, by decide, fun H2 r k2 g2 a1 a2 => ⟨rfl, .inr ⟨_, rfl, by decide, fun A hA => ⟨_, _, _, rfl, ?_⟩⟩⟩⟩
      have e3 := Ex.new (o := HO.lst []) hA
      have k3 : Kp d H (upd H2 A (.lst [])) := (e1.trans k2).trans (Kp.ex e3)
      have g3 : FeedAt (upd H2 A (.lst [])) d l (n + 2) := FeedF.ok.ex g2 e3
      have hA3 : upd H2 A (.lst []) A = some (.lst []) := upd_same
      have nA : H A = none := kx_none (FeedF.ok (d := d) (l := l)) g2 (kp_kx (e1.trans k2)) hA
      generalize hmk : (if decide (V.int r = V.int 0) = true then (1 : Int) else 0) = mk
      change tSeq _ _ _ [some (.ref d), some (.ref e), some (.int (deep : Int)), some (.str nm), some (.int mk), some (.ref A), none] (upd H2 A (.lst []))
      generalize upd H2 A (.lst []) = H3 at k3 g3 hA3 ⊢
      have hdH : ∃ o, H d = some o := by
        obtain ⟨ns, s, r, c, h1, _⟩ := hF
        exact ⟨_, h1⟩
      have nAd : A ≠ d := by
        rintro rfl
        obtain ⟨o, h⟩ := hdH
        rw [nA] at h
        cases h
      have nAe : A ≠ e := by
        rintro rfl
        rw [nA] at he
        cases he
      have nAS : ¬ (LeftF d l e).S A := fun z => z.elim nAd nAe
      have rng : EvR (FeedF d l) (tIf (tTest (tOp (rI0 fun i j => .bl (decide (i > j))) (tVar 2) (tC (.int 0)))) (tCall spDraw [] C8.E0 (tCons (tVar 0) (tCons (tC (.int 3)) tNil))) (tC (.int 0))) [some (.ref d), some (.ref e), some (.int (deep : Int)), some (.str nm), some (.int mk), some (.ref A), none] H3 (0 + 1) (fun v _ => ∃ r : Nat, v = .int (r : Int) ∧ r ≤ 2 ∧ (0 < r → 0 < deep)) := by
        refine r_if (ka := 0) (kb := 1) (b := decide ((deep : Int) > 0)) FeedF.ok (rt_val (rv_op (ka := 0) (kb := 0) FeedF.ok (rv_var rfl) rv_c fun _ => rv_I0)) (fun hb => ?_) fun hb => ?_
        · exact EvR.imp (r_draw (kb := 0) rfl rv_c (by decide) (by decide)) fun _ v _ _ _ ⟨r, ev, r0, r1⟩ => ⟨r.toNat, by rw [ev, Int.toNat_of_nonneg r0], by omega, fun _ => by have := of_decide_eq_true hb; omega⟩
        · exact EvR.up FeedF.ok (EvR.imp rv_c fun _ v _ _ _ ev => ⟨0, ev, by decide, fun h => absurd h (by decide)⟩) (by decide)
      refine q_forRg (F := FeedF d l) (n := n + 2) (k := 0 + 1) rng g3 (by omega) fun v H4 e4 g4 ⟨r, ev, r2, rd0⟩ => ?_
      replace e4 := kx_kp e4
      have k4 : Kx (LeftF d l e).S H H4 := fun b o hb hn => (k3.trans e4) b o hb fun z => hn (.inl z)
      have he4 : H4 e = some (.lst [.int (k : Int)]) := (k3.trans e4) _ _ he ned
      refine ⟨r, fun i σ' H' => ∃ (cs : List T) (xs : List V) (u6 : Option V) (kk : Nat), σ' = [some (.ref d), some (.ref e), some (.int (deep : Int)), some (.str nm), some (.int mk), some (.ref A), u6] ∧ Kx (LeftF d l e).S H H' ∧ FeedAt H' d l (n + 3 + 3 * sizes cs) ∧ H' e = some (.lst [.int (kk : Int)]) ∧ sizes cs + kk ≤ k ∧ H' A = some (.lst xs) ∧ DpAll K H' xs (cs.map enc) ∧ ∀ c ∈ cs, Nice c, ev, by omega,
        ⟨[], [], none, k, rfl, k4, by rw [sizes]; exact g4, he4, by rw [sizes]; omega, e4 _ _ hA3 nAd, .nil, fun c h => by cases h⟩, fun i σ' H' hi ⟨cs, xs, u6, kk, es, kx, gF, hle, hsz, hA', dx, hc⟩ => ?_, fun σ' H' ⟨cs, xs, u6, kk, es, kx, gF, hle, hsz, hA', dx, hc⟩ => ?_⟩
      · subst es
        have hd0 := rd0 (by omega)
        refine ⟨_, rfl, e, _, 0, _, rfl, rfl, sq_of hle, rfl, _, _, rfl, rfl, _, rfl, ite2 (fun hb => ?_) (fun _ => ⟨cs, xs, _, kk, rfl, kx, gF, hle, hsz, hA', dx, hc⟩)⟩
        have hkk : 0 < kk := by have := of_decide_eq_true hb; omega
        refine ⟨_, rfl, e, _, 0, _, rfl, rfl, sq_of hle, rfl, _, _, rfl, rfl, _, rfl, e, _, 0, 0, rfl, rfl, hle, rfl, ?_⟩
        have ekk : (kk : Int) - 1 = ((kk - 1 : Nat) : Int) := by omega
        have k5 : Kx (LeftF d l e).S H (upd H' e (.lst [.int ((kk - 1 : Nat) : Int)])) := kx.at (.inr rfl)
        have g5 : FeedAt (upd H' e (.lst [.int ((kk - 1 : Nat) : Int)])) d l (n + 3 + 3 * sizes cs) := gF.loc fun a o t ha => by
          have : a ≠ e := t.elim (fun z y => ned (y.symm.trans z)) fun z y => nel (y.symm.trans z)
          rw [upd_ne this]
          exact ha
        have he5 : upd H' e (.lst [.int ((kk - 1 : Nat) : Int)]) e = some (.lst [.int ((kk - 1 : Nat) : Int)]) := upd_same
        have hA5 : upd H' e (.lst [.int ((kk - 1 : Nat) : Int)]) A = some (.lst xs) := by rw [upd_ne nAe]; exact hA'
        have dx5 : DpAll K (upd H' e (.lst [.int ((kk - 1 : Nat) : Int)])) xs (cs.map enc) := dps_kt (kt_lst hle) _ _ (maps_flat cs) dx
        dsimp only [List.set]
        rw [ekk]
        generalize upd H' e (.lst [.int ((kk - 1 : Nat) : Int)]) = H5 at k5 g5 he5 hA5 dx5 ⊢
        have ed : (deep : Int) - 1 = ((deep - 1 : Nat) : Int) := by omega
        refine ⟨.ref A, rfl, .inl ⟨rfl, xs, sq_of hA5⟩, .ref d, rfl, .ref e, rfl, _, rfl, _, _, rfl, rfl, d, l, e, deep - 1, n + 3 + 3 * sizes cs, kk - 1, by rw [← ed]; rfl, by omega, g5, ned, nel, he5, by omega, by omega, fun H6 v t k' k6 hst g6 he6 nt dt => ?_⟩
        have hA6 : H6 A = some (.lst xs) := k6 _ _ hA5 nAS
        have dx6 : DpAll K H6 xs (cs.map enc) := mono_ds (LeftF.ok (d := d) (l := l) (e := e)) (maps_flat cs) (n + 3 + 3 * sizes cs) _ _ _ ⟨g5, ned, nel, _, he5⟩ k6 dx5
        have lx := dps_len dx6
        have lcs := len_sizes cs
        rw [List.length_map] at lx
        have k7 : KT K H6 (upd H6 A (.lst (xs ++ [v]))) := kt_lst hA6
        have es1 : sizes (cs ++ [t]) = sizes cs + size t := by rw [sizes_app, sizes, sizes, Nat.add_zero]
        refine ⟨A, xs, v, rfl, rfl, hA6, sz_lt (by omega), cs ++ [t], xs ++ [v], _, k', rfl, (k5.trans k6).mut nA, ?_, by rw [upd_ne (Ne.symm nAe)]; exact he6, by rw [es1]; omega, upd_same, ?_, fun c hcm => ?_⟩
        · have g7 : FeedAt (upd H6 A (.lst (xs ++ [v]))) d l (n + 3 + 3 * sizes cs + 3 * size t) := g6.loc fun a o t' ha => by
            have : a ≠ A := by
              rintro rfl
              rcases t' with z | z
              · exact nAd z
              · subst z
                obtain ⟨ns, s, r, c, h1, h2, _⟩ := hF
                rw [nA] at h2
                cases h2
            rw [upd_ne this]
            exact ha
          rw [es1]
          have : n + 3 + 3 * (sizes cs + size t) = n + 3 + 3 * sizes cs + 3 * size t := by omega
          rw [this]
          exact g7
        · rw [List.map_append]
          exact dps_snoc (dps_kt k7 _ _ (maps_flat cs) dx6) (dp_kt k7 _ _ (enc_flat t) dt)
        · rcases List.mem_append.mp hcm with h | h
          · exact hc c h
          · cases List.mem_singleton.mp h
            exact nt
      · subst es
        have lcs := len_sizes cs
        have et : size (T.mk nm mk (sortT cs)) = 1 + sizes cs := by rw [size, sizes_perm (sort_perm cs)]; omega
        refine s_retR (F := F0) (n := 0) (k := 0) (P := IsD K (enc (T.mk nm mk (sortT cs)))) (EvR.cast (rd_tup F0.ok (ra_cons (ka := 0) (kb := 0) F0.ok (rd_ofS (rv_var rfl)) (ra_cons (ka := 0) (kb := 0) F0.ok (rd_ofI (rv_var rfl)) (ra_cons (ka := 0) (kb := 0) F0.ok (rd_tupOf F0.ok (rl_sorted F0.ok (rl_var F0.ok (n := 0) F0.g rfl ⟨A, xs, rfl, fun z => z, hA', dx⟩ (maps_flat cs)) (all_alike cs) (all_sortable cs) fun dd hdd => by have := depth_mem dd hdd; omega)) ra_nil (by rw [sort_map]; exact maps_flat _)))) (by rw [flats_cons, flats_cons, flats_cons, sort_map]; exact ⟨rfl, rfl, maps_flat _, rfl⟩)) (by rw [sort_map, enc_eq]; rfl)) F0.g (Nat.le_refl _) fun v H6 e6 _ p => ?_
        replace e6 := F0.ex e6
        refine q H6 v (T.mk nm mk (sortT cs)) kk (kx.trans (Kx.ex e6)) (by rw [et]; omega) ?_ (e6 _ _ hle) (fun s' hs' => ?_) p
        · rw [et]
          have : n + 3 * (1 + sizes cs) = n + 3 + 3 * sizes cs := by omega
          rw [this]
          exact gF.loc fun a o _ h => e6 _ _ h
        · rw [subs] at hs'
          rcases List.mem_cons.mp hs' with rfl | h
          · have hnm' : nm = "db" ∨ nm = "front" ∨ nm = "pay" := by
              simp only [List.mem_cons, List.not_mem_nil, or_false] at hnm
              exact hnm
            have hmk' : mk = 0 ∨ mk = 1 := by
              rw [← hmk]
              split
              · exact .inr rfl
              · exact .inl rfl
            exact ⟨hnm', hmk'⟩
          · obtain ⟨c, hcm, hs2⟩ := mem_subsA h
            exact hc c ((sort_perm cs).mem_iff.mp hcm) s' hs2
end
end K18
namespace Tr
open PySem PySem.Spec PyProof.Rows L2
def leaf (s : Str) (m : Int) : T := .mk s m []
def docT : List T := [leaf "front" 0, .mk "front" 0 [leaf "pay" 0], .mk "front" 0 [leaf "pay" 1]]
def docR : List (Str × Ru) := [("front", .one (.own 1 2)), ("pay", .one .bad)]
end Tr
namespace K18
open PySem PySem.Spec PyProof.Rows L2 Evl Fx Fr Dt Tr
section
variable {P : Program} {w : World} {K : PySem.W.Frag} {mg : Str → Option Value} {base : Heap} {f f2 f3 : Addr} {fd fd2 fd3 : FuncData}
def spDoc (K : PySem.W.Frag) : Sp := spD K fun ds d => ds = [] ∧ d = .tuple [.tuple (docT.map enc), .tuple (docR.map rowD)]
end
end K18
namespace Tr
open PySem PySem.Spec PyProof.Rows L2
def sixT : List T := [.mk "front" 0 [.mk "db" 0 [leaf "pay" 0], .mk "db" 0 [leaf "pay" 0, leaf "pay" 1]], .mk "front" 0 [leaf "db" 0, leaf "db" 0, leaf "db" 0, leaf "pay" 0, leaf "pay" 1]]
end Tr
namespace Dt
open PySem PySem.Spec PyProof.Rows L2 Evl Fx
section
variable {F : Fd} {K : PySem.W.Frag} {ta : TE} {σ : L2.St} {H : Hp} {ka : Nat} {ds : List PyData}
theorem dps_rep {vs : List V} (h : DpAll K H vs ds) : ∀ k : Nat, DpAll K H (List.replicate k vs).flatten (List.replicate k ds).flatten
  | 0 => .nil
  | k + 1 => by
    rw [List.replicate_succ, List.replicate_succ, List.flatten_cons, List.flatten_cons]
    exact dps_app h (dps_rep h k)
/-- t * k, a written k -/
theorem rd_rep {k : Nat} (o : F.Ok) (h : EvR F ta σ H ka (IsD K (.tuple ds))) (hne : ds ≠ []) (h1 : 2 ≤ k) (h2 : k ≤ 1000) (hl : ds.length ≤ 1000) : EvR F (tOp (rRepT K) ta (tC (.int (k : Int)))) σ H ka (IsD K (.tuple (List.replicate k ds).flatten)) := fun n H1 hn g e Q q => h n H1 hn g e _ fun v H2 e2 g2 hd => by
  cases hd with
  | @tup a xs _ ha hx =>
  have lx := dps_len hx
  refine ⟨a, (k : Int), xs, rfl, rfl, ha, ?_, by omega, by omega, by omega, fun p hp => q _ _ (e2.trans (Kx.ex (Ex.new hp))) (o.ex g2 (Ex.new hp)) (.tup (st_of upd_same) (dps_ex (Ex.new hp) _ _ ?_))⟩
  · rintro rfl
    cases ds with
    | nil => exact hne rfl
    | cons _ _ => simp at lx
  · rw [Int.toNat_natCast]
    exact dps_rep hx k
end
end Dt
namespace K18
open PySem PySem.Spec PyProof.Rows L2 Evl Fx Fr Dt Tr
section
variable {P : Program} {w : World} {K : PySem.W.Frag} {mg : Str → Option Value} {base : Heap} {f f2 f3 : Addr} {fd fd2 fd3 : FuncData}
def spSix (K : PySem.W.Frag) : Sp := spL K fun ds es => ds = [] ∧ es = sixT.map enc
theorem rd_node {F : Fd} {ta : TE} {σ : L2.St} {H : Hp} {s : Str} {m : Int} {cs : List T} (o : F.Ok) (h : EvR F ta σ H 0 (IsD K (.tuple (cs.map enc)))) : EvR F (tTup (tCons (tC (.str s)) (tCons (tC (.int m)) (tCons ta tNil)))) σ H 0 (IsD K (enc (.mk s m cs))) :=
  (rd_tup o (ra_cons (ka := 0) (kb := 0) o rd_str (ra_cons (ka := 0) (kb := 0) o rd_int (ra_cons (ka := 0) (kb := 0) o h ra_nil (maps_flat cs)))) (flats_cons.mpr ⟨rfl, flats_cons.mpr ⟨rfl, flats_cons.mpr ⟨maps_flat cs, rfl⟩⟩⟩)).cast (enc_eq (.mk s m cs)).symm
end
end K18
namespace K18
open PySem PySem.Spec PyProof.Rows L2 Evl Fx Fr Dt Tr
theorem scFeed : FnScope ["_law_script"] ["_law_script"] (defScope (topS 50)) := ⟨rfl, rfl, rfl, by decide +kernel, rfl, by decide +kernel, by decide +kernel⟩
section
variable {P : Program} {w : World} {K : PySem.W.Frag} {mg : Str → Option Value} {base : Heap} {f f2 f3 : Addr} {fd fd2 fd3 : FuncData}
def spFeed (K : PySem.W.Frag) : Sp := fun vs H Q _ => ∃ (a : Addr) (ns : List Int), vs = [.ref a] ∧ SqL K H a (ns.map V.int) ∧ ∀ H' d l, Ex H H' → H d = none → FeedAt H' d l 0 → Q (.ref d) H'
theorem ok_feed (F : Fun K "_law_feed" "_law_feed" (topS 50) f fd) (m_list : mg "list" = none) : FnOk P w K mg base CX0 1 f fd ["_law_script"] (spFeed K) := by
  refine F.ok scFeed (fun vs H Q E h => ?_) (fun cdv A outer s H vs Q E hr h => ?_)
  · obtain ⟨a, ns, rfl, _⟩ := h
    rfl
  · obtain ⟨a, ns, rfl, hS, q⟩ := h
    refine ⟨_, pss_one (ps_ret (pe_lst (pa_cons (pe_callTy (T := "list") (r := rListS K) call_listS (by rfl) m_list (by decide +kernel) (pa_cons (pe_slice sl_list (pv 0) po_none (po_some pe_int)) pa_nil)) (pa_cons pe_int (pa_cons pe_int (pa_cons pe_int pa_nil)))))), ?_⟩
    refine ⟨.ref a, rfl, 63, rfl, a, ns.map V.int, rfl, hS, fun c hc => ?_⟩
    have s2 := Ex.new (o := HO.lst (cutV (ns.map V.int) none (some 63))) hc
    refine ⟨c, _, rfl, .inl (sq_of upd_same), fun l hl => ?_⟩
    have s3 := Ex.new (o := HO.lst (cutV (ns.map V.int) none (some 63))) hl
    refine ⟨by show 4 ≤ sizeLine; decide, fun d hd => ?_⟩
    have s4 := Ex.new (o := HO.lst [.ref l, .int 0, .int 0, .int 0]) hd
    have ec : cutV (ns.map V.int) none (some 63) = (ns.take 63).map V.int := by
      unfold cutV
      rw [HT.sIx_none, show HT.sIx (ns.map V.int).length (ns.map V.int).length (some 63) = min 63 (ns.map V.int).length from HT.sIx_nat _ _ 63, List.drop_zero, Nat.sub_zero, List.map_take]
      rw [List.take_eq_take_iff]
      omega
    have nl : l ≠ d := ne_addr hd upd_same
    refine q _ d l ((s2.trans s3).trans s4) (fresh_back (s2.trans s3) hd) ⟨ns.take 63, 0, 0, 0, upd_same, ?_, ?_, Int.le_refl 0, Int.le_refl 0, Int.le_refl 0, nl⟩
    · rw [upd_ne nl, upd_same, ec]
    · rw [List.length_take]
      omega
end
end K18
/-! ### defs whose activation is told to hold no guards; repr of data -/
namespace DtG
open PySem PySem.Spec PyProof.Rows L2
/-- as FnOk, where the caller holds no guards -/
structure FnG (P : Program) (w : World) (K : PySem.W.Frag) (mg : Str → Option Value) (base : Heap) (CX : CXT) (k : Nat) (f : Addr) (fd : FuncData) (ps : List Str) (sp : Sp) : Prop where
  len : ∀ vs H Q E, sp vs H Q E → vs.length = ps.length
  run : ∀ (A : Around) (outer : List Env) (s : Shared) (H : Hp) (args : Args) (us : List Value) (vs : List V) (Q : VK) (E : XK), A.guards = some [] → Room k A → Env0 P w K mg base A outer s H → BindsTo s fd args (ps.zip us) → Vals vs us → sp vs H Q E →
    codeAny (model P w) A (.call (.ref f) args) (CR CX outer P w H s Q E) s
theorem deeper_guards {A : Around} {env : Env} (h : A.guards = some []) : (A.deeper env).guards = some [] := h
section
variable {P : Program} {w : World} {K : PySem.W.Frag} {mg : Str → Option Value} {base : Heap}
/-- by its body -/
theorem okG {x qual : Str} {st : Stmt} {f : Addr} {fd : FuncData} {N ps : List Str} {k : Nat} {sp : Sp} (F : L2.Fun K x qual st f fd) (S : FnScope N ps (defScope st)) (len : ∀ vs H Q E, sp vs H Q E → vs.length = ps.length)
    (hbody : ∀ (cdv : Value) (A : Around) (outer : List Env) (s : Shared) (H : Hp) (vs : List V) (Q : VK) (E : XK), (A.deeper (envOfC qual (defScope st) s.heap.objs.size f cdv)).guards = some [] → Room k (A.deeper (envOfC qual (defScope st) s.heap.objs.size f cdv)) → sp vs H Q E →
      ∃ t, PSs (cxOf CX0 P w K mg base N qual (defScope st) f cdv A outer s H E).nox (defBody st) t ∧ t { nx := fun _ H' => Q .non H', rt := Q } (start N vs) H) : FnG P w K mg base CX0 (k + 1) f fd ps sp := by
  obtain ⟨oc, od, kV, doc, pm, an, cdv, ct, osl, rfl, lk, hcd⟩ := F.ex
  refine ⟨len, fun A outer s H args us vs Q E hg hr e0 hb r hsp => ?_⟩
  have keep : ∀ b o, base.get? b = some o → s.heap.get? b = some o := fun b o e => (e0.bs b o e).1
  have KX : K.In s.heap := e0.mod.kin.keeps keep
  have names : ∀ y ∈ ps.zip us, (defScope st).names.lookup y.1 = some .local ∨ ((defScope st).names.lookup y.1 = some .cell ∧ ((cellsFrom (s.heap.objs.size + 1) (defScope st).names []).lookup y.1).isSome = true) := by
    rintro ⟨x, v⟩ hy
    exact (S.par x (List.of_mem_zip hy).1).imp id fun q => ⟨q, PySem.W.cellsFrom_some _ _ _ (.inl q)⟩
  refine codeAny_call_function hr.depth (KX _ _ lk) rfl S.co S.gen rfl (PySem.W.codeRec_of KX hcd) (hb _ _ _ _ (wpAny_newFunctionEnv_cells S.kind names ?_))
  intro env he s1 x
  subst he
  obtain ⟨t, ht, hq⟩ := hbody cdv A outer s H vs Q E (deeper_guards hg) (hr.deeper _) hsp
  have I : Inv (cxOf CX0 P w K mg base N qual (defScope st) f cdv A outer s H E) [] (start N vs) H s1 := inv_start S hr.hd e0 (len _ _ _ _ hsp) r x
  refine ⟨(e0.mod.nolimit.keeps keep).keeps x.toInCall.keep, codeAny_func (wpAny_mono (ht.nox.run [] s1 (start N vs) H _ I hq) (fun fl s' hs => ?_) fun e s' hs => hs)⟩
  cases fl with
  | ret u =>
    obtain ⟨v, σ', H', J, rv, q⟩ := hs
    exact ⟨v, H', J.os, J.bare, J.base, J.hok, rv, q⟩
  | next =>
    obtain ⟨σ', H', J, q⟩ := hs
    exact ⟨V.non, H', J.os, J.bare, J.base, J.hok, rfl, q⟩
  | brk =>
    obtain ⟨_, _, _, q⟩ := hs
    exact False.elim q
  | cont =>
    obtain ⟨_, _, _, q⟩ := hs
    exact False.elim q
end
section
variable {X : Cx}
def rReprD (K : PySem.W.Frag) : List V → Hp → VK → Prop := fun xs H Q => ∃ (a : Addr) (d : PyData), xs = [.ref a] ∧ Dp K H (.ref a) d ∧ d.showable = true ∧ d.hasDict = false ∧ d.depth ≤ 60 ∧ d.shown.length ≤ sizeLine ∧ Q (.str d.shown) H
theorem cr_reprD (hg : X.A.guards = some []) (hu : X.A.units + 64 < cLine) : CallR X (.builtin "repr") (rReprD X.K) := by
  intro pins s σ H xs us Q I r h
  obtain ⟨a, d, rfl, hd, h1, h2, h3, h4, q⟩ := h
  obtain ⟨u, rfl, ru⟩ := vals1 r
  cases ru
  obtain ⟨as, rd⟩ := Dp.reads I d (.ref a) (.ref a) hd rfl
  exact repr_of_reads' rd h1 (fun h => by rw [h2] at h; cases h) hg (by omega) (fun _ _ e => e) (fun h' u tk k => ⟨.str d.shown, H, I.kept (t' := tk) k, ⟨_, rfl⟩, q⟩) h4
/-- a call of such a def by its name -/
theorem pe_callG {k : Nat} {f : Addr} {fd : FuncData} {ps : List Str} {sp : Sp} {x : Str} {p pos : Pos} {e : Expr} {es : List Expr} {t : TA} {E : XK} (G : FnG X.prog X.w X.K X.mg X.base CX0 k f fd ps sp) (hgd : X.A.guards = some []) (hr : Room k X.A) (hg : Gl X x) (hm : X.mg x = some (.ref f)) (hk : PySem.W.keepIn X.K (.ref f) = true) (hb : L2.Binds X.K fd ps []) (hx : Passes CX0 X E)
    (ha : PA X (e :: es) t) (hdb : (x == ("__debug__" : Str)) = false := by decide) (he : starEach (e :: es) X.env = (false, eval e X.env) :: starEach es X.env := by rfl) (hpl : (backTo pos (starEach es X.env)).any (·.1) = false := by rfl) :
    PE X (.Call (.Name x p) (e :: es) [] pos) (tCall sp [] E t) := by
  refine ⟨fun pins s σ H Q I h => ?_⟩
  refine wpAny_Call_Name_kw (ld_glob I hg hm ?_ hdb)
  refine PySem.W.callWith_K (h₀ := X.base) I.ok.mod.kin hk (thn (ha.run pos pins s σ H _ I h) fun us s1 ⟨vs, H1, I1, r, q⟩ => ⟨I1.kIn, ?_⟩) he hpl
  replace q : sp (vs ++ []) H1 Q E := q
  rw [List.append_nil] at q
  have hl : us.length = ps.length := by rw [← r.length]; exact G.len _ _ _ _ q
  have hb' : BindsTo s1 fd ⟨us, []⟩ (ps.zip us) := by
    have := hb s1 us I1.kIn (by rw [List.append_nil]; exact hl)
    rwa [List.append_nil] at this
  refine wpAny_call (codeAny_mono (G.run X.A X.stack s1 H1 ⟨us, []⟩ us vs Q E hgd hr I1.env0 hb' r q) fun r s' hq => ?_)
  cases r with
  | error e => exact hx pins σ H1 s1 e s' I1 hq
  | ok fl =>
    cases fl with
    | ret u => exact I1.after hq
    | next => exact False.elim hq
    | brk => exact False.elim hq
    | cont => exact False.elim hq
end
end DtG
/-! ### a law's call, where the caller holds no guards -/
namespace DtG
open PySem PySem.Spec PyProof.Rows L2
section
variable {P : Program} {w : World} {K : PySem.W.Frag} {mg mb : Str → Option Value} {s : Shared} {a : Addr} {vs : List Value} {H : Hp}
/-- the world of a call that tracks the script at the most -/
theorem env_script (KX : K.In s.heap) (hns : s.heap.Ns mainGlobals mg) (hb : s.heap.Ns builtinsNs mb) (hbb : ∀ x : Str, x ≠ "__name__" → mb x = bootBuiltins x) (hlim : s.heap.NoLimit) (hg : s.gens = #[])
    (ha : s.heap.get? a = some { cls := .type "list", data := .seq vs.toArray }) (hok : HOk P w H s.heap) (hA : ∀ b, H b ≠ none → b = a) (hK : H a ≠ none → K.lookup a = none) :
    K.In (hidT s.heap H) ∧ (hidT s.heap H).Ns mainGlobals mg ∧ Env0 P w K mg (hidT s.heap H) callerA [] s H := by
  have free : ∀ {b : Addr} {o : Obj}, s.heap.get? b = some o → (b = a → H b = none) → (hidT s.heap H).get? b = some o := fun {b o} e h => hidT_get e (by
    cases q : H b with
    | none => rfl
    | some u =>
      have e' : b = a := hA b (by rw [q]; exact Option.some_ne_none _)
      rw [h e'] at q
      cases q)
  have names : ∀ {b : Addr} {m : Str → Option Value}, s.heap.Ns b m → (hidT s.heap H).Ns b m := fun {b m} ⟨o, es, ep, e, d, r⟩ => ⟨o, es, ep, free e (fun z => by
    subst z
    rw [ha] at e
    cases e
    cases (show Data.seq vs.toArray _ = Data.dict es ep from d)), d, r⟩
  have kin : K.In (hidT s.heap H) := fun b o e => free (KX b o e) fun z => by
    subst z
    cases q : H b with
    | none => rfl
    | some u =>
      rw [hK (by rw [q]; exact Option.some_ne_none _)] at e
      cases e
  refine ⟨kin, names hns, ⟨rfl, ⟨kin, names hns, ⟨mb, names hb, hbb⟩, ?_⟩, fun b o e => of_hidT e, Nat.le_of_eq (hidT_size _ _), trivial, fun b hb => (by cases hb), hok, .of_eq hg⟩⟩
  obtain ⟨mc, h1, h2⟩ := hlim
  exact ⟨mc, names h1, h2⟩
/-- what the law's end is from -/
theorem end_script (hO : Only H) {r : Result} {s' : Shared} (h : CR CX0 [] P w H s (fun v _ => v = .bl true) (fun _ _ _ => False) r s') (hok : HOk P w H s.heap) : r = .ok (.ret (.bool true)) ∧ OldK s.heap s'.heap ∧ s'.os = s.os ∧ AllBare s'.gens := by
  cases r with
  | error e => exact False.elim h
  | ok fl =>
    cases fl with
    | next => exact False.elim h
    | brk => exact False.elim h
    | cont => exact False.elim h
    | ret u =>
      obtain ⟨v, H', os, bare, un, hok', r', q⟩ := h
      obtain rfl : v = .bl true := q
      obtain rfl : u = Value.bool true := r'
      refine ⟨rfl, OldK.of_keep fun b o e => ?_, os, bare⟩
      rcases hO b with z | ⟨ob, xs, z⟩
      · exact un.keep b o e z (fun y => by cases (show b ∈ ([] : List Addr) from y)) (by simp)
      · have e1 := (hok b _ z).1
        rw [e] at e1
        cases e1
        exact (hok' b _ (un.frzs b _ _ z)).1
theorem law_callG {k : Nat} {fa : Addr} {fd : FuncData} {x : Str} {sp : Sp} {ns : List Int} (KX : K.In s.heap) (hns : s.heap.Ns mainGlobals mg) (hb : s.heap.Ns builtinsNs mb) (hbb : ∀ x : Str, x ≠ "__name__" → mb x = bootBuiltins x) (hlim : s.heap.NoLimit) (hg : s.gens = #[])
    (ha : s.heap.get? a = some { cls := .type "list", data := .seq vs.toArray }) (hi : IntsAre vs ns) (hl : ns.length ≤ sizeLine) (hr : Room k callerA)
    (F : ∀ base : Heap, K.In base → base.Ns mainGlobals mg → FnG P w K mg base CX0 k fa fd [x] sp) (hbind : ∀ (s : Shared) (u : Value), BindsTo s fd ⟨[u], []⟩ [(x, u)])
    (hsp : ∀ H : Hp, Only H → SqL K H a (ns.map V.int) → sp [.ref a] H (fun v _ => v = .bl true) fun _ _ _ => False) :
    codeAny (model P w) callerA (.call (.ref fa) ⟨[.ref a], []⟩) (fun r s' => r = .ok (.ret (.bool true)) ∧ OldK s.heap s'.heap ∧ s'.os = s.os ∧ AllBare s'.gens) s := by
  have rv := vals_ints hi
  have lenV := hi.length
  have go : ∀ H : Hp, Only H → SqL K H a (ns.map V.int) → HOk P w H s.heap → (∀ b, H b ≠ none → b = a) → (H a ≠ none → K.lookup a = none) → codeAny (model P w) callerA (.call (.ref fa) ⟨[.ref a], []⟩) (fun r s' => r = .ok (.ret (.bool true)) ∧ OldK s.heap s'.heap ∧ s'.os = s.os ∧ AllBare s'.gens) s := fun H hO hS hok hA hK => by
    obtain ⟨kin, nm, e0⟩ := env_script KX hns hb hbb hlim hg ha hok hA hK
    exact codeAny_mono ((F _ kin nm).run callerA [] s H ⟨[.ref a], []⟩ [.ref a] [.ref a] _ _ rfl hr e0 (hbind s (.ref a)) (.cons rfl .nil) (hsp H hO hS)) fun r s' h => end_script hO h hok
  cases hk : K.lookup a with
  | some o =>
    have e := KX a o hk
    rw [ha] at e
    cases e
    exact go (fun _ => none) (fun _ => .inl rfl) (.inr ⟨_, vs.toArray, _, hk, rfl, rfl, rfl, by rw [List.size_toArray, lenV]; exact hl, by simpa using rv⟩) (fun b u z => nomatch z) (fun b z => absurd rfl z) fun z => absurd rfl z
  | none =>
    let ob : HO := .frz { cls := .type "list", data := .seq vs.toArray } (.lst (ns.map V.int))
    have yes : (fun b => if b = a then some ob else none : Hp) a = some ob := if_pos rfl
    have no : ∀ {b : Addr}, b ≠ a → (fun b => if b = a then some ob else none : Hp) b = none := fun h => if_neg h
    refine go (fun b => if b = a then some ob else none) (fun b => ?_) (.inl (.inr ⟨_, yes⟩)) (fun b u z => ?_) (fun b z => ?_) fun _ => hk
    · by_cases h : b = a
      · subst h
        exact .inr ⟨_, _, yes⟩
      · exact .inl (no h)
    · by_cases h : b = a
      · subst h
        rw [yes] at z
        cases z
        exact ⟨ha, by rw [List.length_map]; exact hl, vs, _, rv, ha⟩
      · rw [no h] at z
        cases z
    · exact Classical.byContradiction fun h => z (no h)
end
open He in
/-- a law's end over the facts of a head, the law's def by FnG -/
theorem walk_ofG {l : PySem.W.OpenLaw} {n k : Nat} {q : Program} {loose : List Str} {XP : (Str → Option Value) → Heap → Prop} {YP : World → Heap → Prop} {d : DefRec} {x : Str}
    (hn : l.most = some n) (hn2 : n ≤ sizeLine) (hdf : d.params.defaults = []) (hr : Room k callerA)
    (F : ∀ (w : World) (mg : Str → Option Value) (fa : Addr) (h : Heap), YP w h → h.Ns mainGlobals mg → mg d.name = some (.ref fa) →
      ∃ (K : PySem.W.Frag) (fd : FuncData) (sp : Sp), K.In h ∧ (∀ (s : Shared) (u : Value), BindsTo s fd ⟨[u], []⟩ [(x, u)]) ∧
        (∀ (H : Hp) (a : Addr) (ns : List Int), ns.length ≤ n → (∀ z ∈ ns, Builtin.Int.intBits z ≤ 1048576) → Only H → SqL K H a (ns.map V.int) → sp [.ref a] H (fun v _ => v = .bl true) fun _ _ _ => False) ∧
        ∀ base : Heap, K.In base → base.Ns mainGlobals mg → FnG l.prog w K mg base CX0 k fa fd [x] sp) :
    PySem.W.WalkO q loose XP YP l.row.toRowW d [] (fun f vs => PySem.call f vs) := by
  refine Att.attach_callB hn hdf fun w s₀ s₁ mg mb fa o pm cd doc a vs ns G Y ho hd hcd hmg hobj hints hlen hbits hg => ?_
  obtain ⟨K, fd, sp, KX, hb, hsp, hF⟩ := F w mg fa _ Y G.T.g hmg
  exact law_callG KX G.T.g G.T.b G.T.builtins G.T.nolimit hg hobj hints (Nat.le_trans hlen hn2) hr hF hb fun H hO hS => hsp H a ns hlen hbits hO hS
end DtG
/-! ### data whose written form is short enough -/
namespace Dt
open PySem PySem.Spec PyProof.Rows L2 Evl Fx
structure Sh (n w : Nat) (d : PyData) : Prop where
  lay : PyData.canLay0 d = true
  nums : PyData.intsShort 13 d = true
  shows : PyData.showable d = true
  nod : PyData.hasDict d = false
  dep : PyData.depth d ≤ n
  wt : PyData.weight d ≤ w
theorem Sh.mono {n m w v : Nat} {d : PyData} (h : Sh n w d) (h1 : n ≤ m) (h2 : w ≤ v) : Sh m v d := ⟨h.lay, h.nums, h.shows, h.nod, Nat.le_trans h.dep h1, Nat.le_trans h.wt h2⟩
theorem sh_int' {i : Int} (h : i.natAbs < 10 ^ 12) : Sh 0 41 (.int i) := by
  have h40 : i.natAbs < 2 ^ 40 := by omega
  have hl : i.natAbs.log2 < 40 := by
    by_cases h0 : i.natAbs = 0
    · rw [h0]; decide
    · exact (Nat.log2_lt h0).mpr h40
  refine ⟨by simp [PyData.canLay0], ?_, ?_, by simp [PyData.hasDict], by simp [PyData.depth], ?_⟩
  · have := int_text_length_le10 (a := i) (k := 12) (by decide) h
    simp only [PyData.intsShort, PyData.shown]
    exact decide_eq_true (by rw [PySem.ofString_length]; exact this)
  · simp only [PyData.showable]
    exact decide_eq_true (by omega)
  · simp only [PyData.weight]
    split <;> omega
theorem sh_str' {x : Str} {w : Nat} (h : PyData.strOk x = true) (hw : x.cps.size ≤ w) : Sh 0 w (.str x) :=
  ⟨by simp [PyData.canLay0, h], by simp [PyData.intsShort], by simp [PyData.showable], by simp [PyData.hasDict], by simp [PyData.depth], by simp only [PyData.weight]; exact hw⟩
theorem sh_all {n w : Nat} : ∀ {ds : List PyData}, (∀ x ∈ ds, Sh n w x) → PyData.canLayAll0 ds = true ∧ PyData.intsShortAll 13 ds = true ∧ PyData.showableAll ds = true ∧ PyData.hasDictAll ds = false ∧ PyData.depthAll ds ≤ n ∧ PyData.weightAll ds ≤ ds.length * (w + 1)
  | [], _ => by simp [PyData.canLayAll0, PyData.intsShortAll, PyData.showableAll, PyData.hasDictAll, PyData.depthAll, PyData.weightAll]
  | d :: ds, h => by
    obtain ⟨a1, a2, a3, a4, a5, a6⟩ := sh_all fun x hx => h x (List.mem_cons_of_mem _ hx)
    have b := h d (List.mem_cons_self ..)
    have b5 := b.dep
    have b6 := b.wt
    refine ⟨by rw [PyData.canLayAll0, b.lay, a1]; rfl, by rw [PyData.intsShortAll, b.nums, a2]; rfl, by rw [PyData.showableAll, b.shows, a3]; rfl, by rw [PyData.hasDictAll, b.nod, a4]; rfl, by rw [PyData.depthAll]; omega, ?_⟩
    rw [PyData.weightAll, List.length_cons, Nat.succ_mul]
    omega
theorem sh_tup {n w m : Nat} {ds : List PyData} (h : ∀ x ∈ ds, Sh n w x) (hm : ds.length ≤ m) : Sh (n + 1) (m * (w + 1)) (.tuple ds) := by
  obtain ⟨a1, a2, a3, a4, a5, a6⟩ := sh_all h
  refine ⟨by rw [PyData.canLay0]; exact a1, by rw [PyData.intsShort]; exact a2, by rw [PyData.showable]; exact a3, by rw [PyData.hasDict]; exact a4, by rw [PyData.depth]; omega, ?_⟩
  rw [PyData.weight]
  exact Nat.le_trans a6 (Nat.mul_le_mul_right _ hm)
theorem Sh.len {n w : Nat} {d : PyData} (h : Sh n w d) (hn : n ≤ 64) (hw : w ≤ 2 ^ 20) : d.shown.length ≤ sizeLine := by
  have h2 := PyData.shown_fits (B := 13) (by decide) (by decide) (PyData.leavesShort_of_canLay0 13 d h.lay h.nums) (Nat.le_trans h.wt hw)
  exact h2
theorem Sh.shaped {n w : Nat} {d : PyData} (h : Sh n w d) (hn : n ≤ 64) : SeqAt.shaped d = true := by
  show (d.canLay0 && decide (d.depth ≤ 64)) = true
  rw [h.lay, decide_eq_true (Nat.le_trans h.dep hn)]
  rfl
section
variable {F : Fd} {K : PySem.W.Frag} {te : TE} {σ : L2.St} {H : Hp} {k n w : Nat} {ds : List PyData}
/-- repr of a tuple of data -/
theorem rv_repr (h : EvR F te σ H k (IsD K (.tuple ds))) (s : Sh n w (.tuple ds)) (hn : n ≤ 60) (hw : w ≤ 2 ^ 20) : EvR F (tCB (DtG.rReprD K) (tCons te tNil)) σ H k (fun x _ => x = .str (PyData.shown (.tuple ds))) := fun n1 H1 h1 g e Q q => h n1 H1 h1 g e _ fun v H2 e2 g2 hd => by
  cases hd with
  | @tup a xs _ ha hx => exact ⟨a, .tuple ds, rfl, .tup ha hx, s.shows, s.nod, Nat.le_trans s.dep hn, s.len (by omega) hw, q _ H2 e2 g2 rfl⟩
end
end Dt
namespace Tr
open PySem PySem.Spec PyProof.Rows L2 Evl Fx Fr Dt
def NiceM (t : T) : Prop := ∀ s ∈ subs t, (s.name = "db" ∨ s.name = "front" ∨ s.name = "pay") ∧ (s.mark = 0 ∨ s.mark = 1)
def Nm (x : Str) : Prop := x = "db" ∨ x = "front" ∨ x = "pay"
theorem nm_ok {x : Str} (h : Nm x) : PyData.strOk x = true ∧ x.cps.size ≤ 5 := by
  rcases h with rfl | rfl | rfl <;> exact ⟨by decide +kernel, by decide +kernel⟩
theorem w_int {i : Int} (h : i = 0 ∨ i = 1) : PyData.weight (.int i) ≤ 1 := by
  rcases h with rfl | rfl <;> decide +kernel
mutual
theorem sh_tree : ∀ t : T, NiceM t → Sh (2 * size t) (10 * size t - 1) (enc t)
  | .mk s m cs, h => by
    have h0 := h (.mk s m cs) (by rw [subs]; exact List.mem_cons_self ..)
    have n0 := nm_ok (show Nm s from h0.1)
    have hm : m = 0 ∨ m = 1 := h0.2
    obtain ⟨a1, a2, a3, a4, a5, a6⟩ := sh_trees cs fun x hx => h x (by rw [subs]; exact List.mem_cons_of_mem _ hx)
    have hi := sh_int' (i := m) (by rcases hm with rfl | rfl <;> decide)
    have wi := w_int hm
    have ws : PyData.weight (.str s) ≤ 5 := n0.2
    rw [enc, size]
    have hs := sh_str' n0.1 n0.2
    refine ⟨by simp only [PyData.canLay0, PyData.canLayAll0, n0.1, a1, Bool.and_true], ?_, ?_, by simp only [PyData.hasDict, PyData.hasDictAll, a4, Bool.or_false], by simp only [PyData.depth, PyData.depthAll]; omega, ?_⟩
    · have e1 := hi.nums
      simp only [PyData.intsShort, PyData.intsShortAll, a2, Bool.true_and, Bool.and_true] at e1 ⊢
      exact e1
    · have e1 := hi.shows
      simp only [PyData.showable, PyData.showableAll, a3, Bool.true_and, Bool.and_true] at e1 ⊢
      exact e1
    · have : PyData.weight (.tuple [.str s, .int m, .tuple (encs cs)]) = PyData.weight (.str s) + 1 + (PyData.weight (.int m) + 1 + (PyData.weightAll (encs cs) + 1 + 0)) := by
        simp only [PyData.weight, PyData.weightAll]
      rw [this]
      omega
theorem sh_trees : ∀ ts : List T, (∀ s ∈ subsA ts, (s.name = "db" ∨ s.name = "front" ∨ s.name = "pay") ∧ (s.mark = 0 ∨ s.mark = 1)) → PyData.canLayAll0 (encs ts) = true ∧ PyData.intsShortAll 13 (encs ts) = true ∧ PyData.showableAll (encs ts) = true ∧ PyData.hasDictAll (encs ts) = false ∧ PyData.depthAll (encs ts) ≤ 2 * sizes ts ∧ PyData.weightAll (encs ts) ≤ 10 * sizes ts
  | [], _ => by rw [encs]; simp [PyData.canLayAll0, PyData.intsShortAll, PyData.showableAll, PyData.hasDictAll, PyData.depthAll, PyData.weightAll]
  | t :: ts, h => by
    have h1 := sh_tree t fun s hs => h s (by rw [subsA]; exact List.mem_append_left _ hs)
    obtain ⟨a1, a2, a3, a4, a5, a6⟩ := sh_trees ts fun s hs => h s (by rw [subsA]; exact List.mem_append_right _ hs)
    have b5 := h1.dep
    have b6 := h1.wt
    have hs := size_eq t
    rw [encs, sizes]
    refine ⟨by rw [PyData.canLayAll0, h1.lay, a1]; rfl, by rw [PyData.intsShortAll, h1.nums, a2]; rfl, by rw [PyData.showableAll, h1.shows, a3]; rfl, by rw [PyData.hasDictAll, h1.nod, a4]; rfl, by rw [PyData.depthAll]; omega, ?_⟩
    rw [PyData.weightAll]
    omega
end
end Tr
namespace Tr
open PySem PySem.Spec PyProof.Rows L2 Evl Fx Fr Dt
mutual
theorem placed_small : ∀ (q : List Nat) (t : T) (x : List Nat × T), x ∈ placed q t → ∀ i ∈ x.1, i ∈ q ∨ i < size t
  | q, .mk s m cs, x, h, i, hi => by
    rw [placed, List.mem_cons] at h
    rw [size]
    rcases h with rfl | h
    · exact .inl hi
    · rcases placedA_small q 0 cs x h i hi with z | z
      · exact .inl z
      · exact .inr (by omega)
theorem placedA_small : ∀ (q : List Nat) (j : Nat) (ts : List T) (x : List Nat × T), x ∈ placedA q j ts → ∀ i ∈ x.1, i ∈ q ∨ i < j + sizes ts
  | q, j, [], x, h, i, hi => by
    rw [placedA] at h
    cases h
  | q, j, t :: ts, x, h, i, hi => by
    rw [placedA, List.mem_append] at h
    rw [sizes]
    have hs := size_eq t
    rcases h with h | h
    · rcases placed_small (q ++ [j]) t x h i hi with z | z
      · rcases List.mem_append.mp z with z | z
        · exact .inl z
        · have := List.mem_singleton.mp z
          exact .inr (by omega)
      · exact .inr (by omega)
    · rcases placedA_small q (j + 1) ts x h i hi with z | z
      · exact .inl z
      · exact .inr (by omega)
end
theorem fold_mem (ρ : Str → Ru) (late : Bool) (draw : Rat) : ∀ (xs : List ((List Nat × T) × (Rat × Rat))) (acc : List (List Nat)) (p : List Nat), p ∈ xs.foldl (Tr.step ρ late draw) acc → p ∈ acc ∨ ∃ x ∈ xs, x.1.1 = p
  | [], acc, p, h => .inl h
  | x :: xs, acc, p, h => by
    rw [List.foldl_cons] at h
    rcases fold_mem ρ late draw xs _ p h with z | ⟨y, hy, e⟩
    · unfold Tr.step at z
      split at z
      · rcases List.mem_append.mp z with z | z
        · exact .inl z
        · exact .inr ⟨x, List.mem_cons_self .., (List.mem_singleton.mp z).symm⟩
      · exact .inl z
    · exact .inr ⟨y, List.mem_cons_of_mem _ hy, e⟩
theorem kept_mem {ρ : Str → Ru} {t : T} {draw : Rat} {owns : List (Rat × Rat)} {p : List Nat} (h : p ∈ keptBy ρ t draw owns) : ∃ x ∈ placed [] t, x.1 = p := by
  rcases fold_mem ρ (isBad t) draw _ _ p h with z | ⟨x, hx, e⟩
  · cases z
  · exact ⟨x.1, (List.of_mem_zip hx).1, e⟩
theorem kept_len {ρ : Str → Ru} {t : T} {draw : Rat} {owns : List (Rat × Rat)} : (keptBy ρ t draw owns).length ≤ size t := by
  have h := step_len ρ (isBad t) draw ((placed [] t).zip owns) []
  rw [List.length_zip, placed_len, List.length_nil] at h
  unfold keptBy
  omega
theorem sh_kept {ρ : Str → Ru} {t : T} {draw : Rat} {owns : List (Rat × Rat)} (hs : size t ≤ 6) : Sh 2 (6 * (6 * (41 + 1) + 1)) (.tuple ((keptBy ρ t draw owns).map pathD)) := by
  refine sh_tup (n := 1) (w := 6 * (41 + 1)) (m := 6) (fun d hd => ?_) (by rw [List.length_map]; exact Nat.le_trans kept_len hs)
  obtain ⟨p, hp, rfl⟩ := List.mem_map.mp hd
  obtain ⟨x, hx, rfl⟩ := kept_mem hp
  have h1 := placed_path [] t x hx
  have h2 := size_eq x.2
  simp only [List.length_nil] at h1
  refine sh_tup (n := 0) (w := 41) (m := 6) (fun d hd => ?_) (by rw [List.length_map]; omega)
  obtain ⟨i, hi, rfl⟩ := List.mem_map.mp hd
  rcases placed_small [] t x hx i hi with z | z
  · cases z
  · exact sh_int' (by omega)
theorem sh_lot {x : Rat} (h : x ∈ lots) : Sh 1 (2 * (41 + 1)) (frD x) := sh_tup (n := 0) (w := 41) (m := 2) (fun d hd => by
  have hb : x.num.natAbs < 1000 ∧ x.den < 1000 := by
    simp only [lots, List.mem_cons, List.not_mem_nil, or_false] at h
    rcases h with rfl | rfl | rfl | rfl | rfl | rfl | rfl | rfl | rfl | rfl | rfl <;> exact ⟨by decide, by decide⟩
  rcases List.mem_cons.mp hd with rfl | hd
  · exact sh_int' (by omega)
  · rcases List.mem_cons.mp hd with rfl | hd
    · exact sh_int' (by omega)
    · cases hd) (by simp)
theorem word_len (x : Pl) : x.word.cps.size ≤ 6 := by
  cases x with
  | own p q => exact (by decide +kernel : (("own" : Str).cps.size ≤ 6))
  | shared p q => exact (by decide +kernel : (("shared" : Str).cps.size ≤ 6))
  | caller => decide +kernel
  | bad => decide +kernel
  | late => decide +kernel
  | never => decide +kernel
theorem sh_pl {x : Pl} (h : x.Sm) : Sh 1 (3 * (41 + 1)) x.D := by
  have hm : ∀ d ∈ x.more, ∃ i : Int, d = .int i := fun d hd => by
    cases x with
    | own p q =>
      have : d = .int p ∨ d = .int q := by
        have z : d ∈ [PyData.int p, PyData.int q] := hd
        simpa using z
      rcases this with e | e
      · exact ⟨p, e⟩
      · exact ⟨q, e⟩
    | shared p q =>
      have : d = .int p ∨ d = .int q := by
        have z : d ∈ [PyData.int p, PyData.int q] := hd
        simpa using z
      rcases this with e | e
      · exact ⟨p, e⟩
      · exact ⟨q, e⟩
    | caller => cases hd
    | bad => cases hd
    | late => cases hd
    | never => cases hd
  refine sh_tup (n := 0) (w := 41) (m := 3) (fun d hd => ?_) (by cases x <;> simp [Pl.more])
  rcases List.mem_cons.mp hd with rfl | hd
  · exact (sh_str' (word_ok x) (word_len x)).mono (Nat.le_refl _) (by decide)
  · obtain ⟨i, rfl⟩ := hm d hd
    have := h i hd
    exact sh_int' (by omega)
theorem sh_ru {r : Ru} (h : ∀ p ∈ r.plains, p.Sm) : Sh 2 (3 * (3 * (41 + 1) + 1)) r.D := by
  cases r with
  | one a => exact (sh_pl (h a (List.mem_cons_self ..))).mono (by decide) (by decide)
  | or a b =>
    have ha := sh_pl (h a (List.mem_cons_self ..))
    have hb := sh_pl (h b (List.mem_cons_of_mem _ (List.mem_cons_self ..)))
    refine sh_tup (n := 1) (w := 3 * (41 + 1)) (m := 3) (fun d hd => ?_) (by simp)
    rcases List.mem_cons.mp hd with rfl | hd
    · exact (sh_str' (w := 2) (by decide +kernel) (by decide +kernel)).mono (by decide) (by decide)
    · rcases List.mem_cons.mp hd with rfl | hd
      · exact ha
      · rcases List.mem_cons.mp hd with rfl | hd
        · exact hb
        · cases hd
theorem sh_row {x : Str × Ru} (hn : Nm x.1) (h : ∀ p ∈ x.2.plains, p.Sm) : Sh 3 800 (rowD x) := by
  refine (sh_tup (n := 2) (w := 3 * (3 * (41 + 1) + 1)) (m := 2) (fun d hd => ?_) (by simp)).mono (by decide) (by decide)
  rcases List.mem_cons.mp hd with rfl | hd
  · exact (sh_str' (nm_ok hn).1 (nm_ok hn).2).mono (by decide) (by decide)
  · rcases List.mem_cons.mp hd with rfl | hd
    · exact sh_ru h
    · cases hd
end Tr
/-! ### sorted trees and pieces: one list for all orders -/
namespace Tr
open PySem PySem.Spec PyProof.Rows L2 Evl Fx Dt
open PySem.W (alike alikeAll AllAlike Sortable dataLe dataLt keyToks keyToksAll)
mutual
theorem toks_tree : ∀ (t t' : T) (l l' : List (Int ⊕ List Nat)), keyToks (enc t) ++ l = keyToks (enc t') ++ l' → t = t' ∧ l = l'
  | .mk s m cs, .mk s' m' cs', l, l', h => by
    rw [enc, enc] at h
    simp only [keyToks, keyToksAll, List.cons_append, List.nil_append, List.append_assoc, List.singleton_append] at h
    injection h with _ h
    injection h with h1 h
    injection h with _ h
    injection h with h2 h
    injection h with _ h
    obtain ⟨e1, e2⟩ := toks_trees cs cs' _ _ h
    injection e2 with _ e2
    have e3 : s = s' := PySem.W.str_of_cps (Sum.inr.inj h1)
    have e4 : m = m' := Sum.inl.inj h2
    subst e1 e3 e4
    exact ⟨rfl, e2⟩
theorem toks_trees : ∀ (ts ts' : List T) (l l' : List (Int ⊕ List Nat)), keyToksAll (encs ts) ++ l = keyToksAll (encs ts') ++ l' → ts = ts' ∧ l = l'
  | [], [], l, l', h => ⟨rfl, by simpa [encs, keyToksAll] using h⟩
  | [], t :: ts, l, l', h => by
    rw [encs, encs] at h
    simp [keyToksAll] at h
  | t :: ts, [], l, l', h => by
    rw [encs, encs] at h
    simp [keyToksAll] at h
  | t :: ts, t' :: ts', l, l', h => by
    rw [encs, encs] at h
    simp only [keyToksAll, List.cons_append, List.append_assoc] at h
    injection h with _ h
    obtain ⟨e1, h⟩ := toks_tree t t' _ _ h
    obtain ⟨e2, h⟩ := toks_trees ts ts' _ _ h
    exact ⟨by rw [e1, e2], h⟩
end
/-- a piece of a sight -/
inductive Pc where
  | top (t : T)
  | lost (ts : List T)
def Pc.D : Pc → PyData
  | .top t => .tuple [.str "top", enc t]
  | .lost ts => .tuple [.str "lost", .tuple (ts.map enc)]
theorem words_ne : ("top" : Str) ≠ "lost" := by decide +kernel
theorem toks_piece : ∀ p q : Pc, keyToks p.D = keyToks q.D → p = q
  | .top t, .top t', h => by
    simp only [Pc.D, keyToks, keyToksAll, List.cons_append, List.nil_append] at h
    injection h with _ h
    injection h with _ h
    injection h with _ h
    rw [(toks_tree t t' _ _ h).1]
  | .lost ts, .lost ts', h => by
    simp only [Pc.D, keyToks, keyToksAll, List.cons_append, List.nil_append] at h
    injection h with _ h
    injection h with _ h
    injection h with _ h
    rw [← encs_map, ← encs_map] at h
    rw [(toks_trees ts ts' _ _ h).1]
  | .top t, .lost ts, h => by
    simp only [Pc.D, keyToks, keyToksAll, List.cons_append, List.nil_append] at h
    injection h with _ h
    injection h with h _
    exact (words_ne (PySem.W.str_of_cps (Sum.inr.inj h))).elim
  | .lost ts, .top t, h => by
    simp only [Pc.D, keyToks, keyToksAll, List.cons_append, List.nil_append] at h
    injection h with _ h
    injection h with h _
    exact (words_ne (PySem.W.str_of_cps (Sum.inr.inj h)).symm).elim
/-- what is in order has one order -/
theorem one_order {α : Type} {le : α → α → Bool} (anti : ∀ a b, le a b = true → le b a = true → a = b) : ∀ {l m : List α}, l.Pairwise (fun a b => le a b = true) → m.Pairwise (fun a b => le a b = true) → l.Perm m → l = m
  | [], m, _, _, p => by rw [List.nil_perm.mp p]
  | a :: l, [], _, _, p => by
    have := p.length_eq
    simp at this
  | a :: l, b :: m, h1, h2, p => by
    obtain ⟨a1, a2⟩ := List.pairwise_cons.mp h1
    obtain ⟨b1, b2⟩ := List.pairwise_cons.mp h2
    have e : a = b := by
      rcases List.mem_cons.mp (p.mem_iff.mp (List.mem_cons_self ..)) with q | q
      · exact q
      · rcases List.mem_cons.mp (p.mem_iff.mpr (List.mem_cons_self ..)) with r | r
        · exact r.symm
        · exact anti _ _ (a1 _ r) (b1 _ q)
    subst e
    rw [one_order anti a2 b2 p.cons_inv]
theorem le_anti {α : Type} {k : α → PyData} (inj : ∀ a b, keyToks (k a) = keyToks (k b) → a = b) (a b : α) (h1 : dataLe false id (k a) (k b) = true) (h2 : dataLe false id (k b) (k a) = true) : a = b := by
  refine inj a b ((listOrd itemOrd).total _ _ ?_ ?_)
  · exact Bool.not_eq_true' _ |>.mp (show (!(listOrd itemOrd).blt (keyToks (k a)) (keyToks (k b))) = true from h2)
  · exact Bool.not_eq_true' _ |>.mp (show (!(listOrd itemOrd).blt (keyToks (k b)) (keyToks (k a))) = true from h1)
theorem sort_pw {α : Type} (k : α → PyData) (l : List α) : (l.mergeSort fun a b => dataLe false id (k a) (k b)).Pairwise (fun a b => dataLe false id (k a) (k b) = true) :=
  PySem.W.sort_pairwise (PySem.W.sortLe_total (listOrd itemOrd) false fun a : α => keyToks (k a)) l
/-- what is a rearrangement of l and in order is l sorted -/
theorem sort_is {α : Type} {k : α → PyData} (inj : ∀ a b, keyToks (k a) = keyToks (k b) → a = b) {l m : List α} (p : l.Perm m) : (l.mergeSort fun a b => dataLe false id (k a) (k b)) = m.mergeSort fun a b => dataLe false id (k a) (k b) :=
  one_order (le_anti inj) (sort_pw k l) (sort_pw k m) ((List.mergeSort_perm _ _).trans (p.trans (List.mergeSort_perm _ _).symm))
theorem enc_inj (a b : T) (h : keyToks (enc a) = keyToks (enc b)) : a = b := (toks_tree a b [] [] (by rw [h])).1
theorem sortT_perm {a b : List T} (p : a.Perm b) : sortT a = sortT b := sort_is enc_inj p
def sortP (ps : List Pc) : List Pc := ps.mergeSort fun a b => dataLe false id a.D b.D
theorem sortP_map (ps : List Pc) : (ps.map Pc.D).mergeSort (dataLe false id) = (sortP ps).map Pc.D :=
  (List.map_mergeSort (r := fun a b => dataLe false id (Pc.D a) (Pc.D b)) (s := dataLe false id) (f := Pc.D) (l := ps) (fun _ _ _ _ => rfl)).symm
theorem sortP_mem (ps : List Pc) : (sortP ps).Perm ps := List.mergeSort_perm _ _
theorem sortP_perm {a b : List Pc} (p : a.Perm b) : sortP a = sortP b := sort_is toks_piece p
theorem sortT_app (a b : List T) : sortT (sortT a ++ b) = sortT (a ++ b) := sortT_perm ((sort_perm a).append_right b)
theorem sortP_app (a b : List Pc) : sortP (sortP a ++ b) = sortP (a ++ b) := sortP_perm ((sortP_mem a).append_right b)
theorem Pc.flat (p : Pc) : Dt.flat p.D = true := by
  cases p with
  | top t => show Dt.flat (PyData.tuple [.str "top", enc t]) = true; rw [flat_tup, flats, flats, flats, enc_flat]; rfl
  | lost ts => show Dt.flat (PyData.tuple [.str "lost", .tuple (ts.map enc)]) = true; rw [flat_tup, flats, flats, flats, flat_tup, maps_flat]; rfl
theorem pcs_flat (ps : List Pc) : flats (ps.map Pc.D) = true := flats_all.mpr fun d hd => by
  obtain ⟨p, _, rfl⟩ := List.mem_map.mp hd
  exact p.flat
theorem near_pcs (ps : List Pc) : So.Near (ps.map Pc.D) where
  word := fun d hd => by
    obtain ⟨p, _, rfl⟩ := List.mem_map.mp hd
    cases p with
    | top t => exact ⟨_, _, rfl⟩
    | lost ts => exact ⟨_, _, rfl⟩
  two := fun d hd d' hd' => by
    obtain ⟨p, _, rfl⟩ := List.mem_map.mp hd
    obtain ⟨q, _, rfl⟩ := List.mem_map.mp hd'
    cases p with
    | top t =>
      cases q with
      | top t' => exact .inl (by simp only [Pc.D, alike, alikeAll, enc_alike, Bool.true_and, Bool.and_true])
      | lost ts => exact .inr ⟨_, _, _, _, rfl, rfl, words_ne⟩
    | lost ts =>
      cases q with
      | top t' => exact .inr ⟨_, _, _, _, rfl, rfl, words_ne.symm⟩
      | lost us =>
        refine .inl ?_
        have := encs_alike ts us
        rw [encs_map, encs_map] at this
        simp only [Pc.D, alike, alikeAll, this, Bool.true_and, Bool.and_true]
def Pc.size : Pc → Nat
  | .top t => Tr.size t
  | .lost ts => sizes ts
def psizes (ps : List Pc) : Nat := (ps.map Pc.size).sum
theorem Pc.depth (p : Pc) : PyData.depth p.D ≤ 2 * p.size + 2 := by
  cases p with
  | top t =>
    have := enc_depth t
    simp only [Pc.D, Pc.size, PyData.depth, PyData.depthAll]
    omega
  | lost ts =>
    have := encs_depth ts
    rw [encs_map] at this
    simp only [Pc.D, Pc.size, PyData.depth, PyData.depthAll]
    omega
theorem psizes_perm {a b : List Pc} (h : a.Perm b) : psizes a = psizes b := (h.map _).sum_nat
theorem psizes_cons (p : Pc) (ps : List Pc) : psizes (p :: ps) = p.size + psizes ps := by simp [psizes]
theorem psizes_app (a b : List Pc) : psizes (a ++ b) = psizes a + psizes b := by simp [psizes]
theorem psize_mem {p : Pc} : ∀ {ps : List Pc}, p ∈ ps → p.size ≤ psizes ps
  | q :: ps, h => by
    rw [psizes_cons]
    rcases List.mem_cons.mp h with rfl | h
    · omega
    · have := psize_mem h
      omega
end Tr
/-! ### what a lambda's call comes to: ('told', ..) or ('usable', word, at) -/
namespace K17
open PySem PySem.Spec PyProof.Rows L2 Evl Fx Dt So
def topS (i : Nat) : Stmt := PySem.Challenge.pw_thinspans_k21_what_is_left_told.main.body.getD i (.Pass ⟨0, 0, 0, 0⟩)
section
variable {F : Fd} {K : PySem.W.Frag} {ta tb : TE} {σ : L2.St} {H : Hp} {ds es : List PyData} {k ka kb : Nat} {a C dd : Addr} {fs : List (Str × V)} {v w : V}
theorem rb_eqL (o : F.Ok) (ha : EvR F ta σ H ka (IsL F K ds)) (hb : EvR F tb σ H kb (IsL F K es)) (f : flats ds = true) (s1 : SeqAt.shaped (.list ds) = true) (s2 : SeqAt.shaped (.list es) = true) : EvR F (tOp (rEqD K) ta tb) σ H (ka + kb) (fun x _ => x = .bl (PyData.eqv (.list ds) (.list es))) :=
  r_op (P' := IsL F K es) o (mono_l o f) ha hb fun x y n H1 g e px py Q q => ⟨_, _, px.dp, py.dp, s1, s2, q _ H1 (Ex.refl _) rfl⟩
theorem r_isX1 {u : Value} {b : Bool} {i : Nat} (T : ExcD K C) (hv : σ[i]? = some (some (.ref a))) (hd : H dd = some (.xd fs)) (k : ClsV v u) (e : PySem.W.kitOne K (.ref C) u = some b) : EvR F0 (tCB (rIsX K a (.ref C) (some dd)) (tCons (tVar i) (tCons (tC v) tNil))) σ H 0 (fun x _ => x = .bl b) :=
  fun n H1 hn g ex Q q => ⟨.ref a, hv, C, dd, fs, b, rfl, rfl, F0.ex ex _ _ hd, T, q _ H1 Kx.refl g rfl, .inl ⟨v, u, rfl, k, e⟩⟩
theorem r_isX3 {b : Bool} {i : Nat} {c1 c2 c3 : Addr} (T : ExcD K C) (hv : σ[i]? = some (some (.ref a))) (hd : H dd = some (.xd fs)) (e : PySem.W.kitAny K (.ref C) [.ref c1, .ref c2, .ref c3] = some b) :
    EvR F0 (tCB (rIsX K a (.ref C) (some dd)) (tCons (tVar i) (tCons (tTup (tCons (tC (.ref c1)) (tCons (tC (.ref c2)) (tCons (tC (.ref c3)) tNil)))) tNil))) σ H 0 (fun x _ => x = .bl b) :=
  fun n H1 hn g ex Q q => ⟨.ref a, hv, (by show 3 ≤ sizeLine; decide), fun p hp => ⟨C, dd, fs, b, rfl, rfl, Ex.new hp _ _ (F0.ex ex _ _ hd), T, q _ _ (Kx.ex (Ex.new hp)) g rfl, .inr ⟨p, _, _, rfl, upd_same, .cons (.own c1) (.cons (.own c2) (.cons (.own c3) .nil)), e⟩⟩⟩
theorem r_xf {i : Nat} {n : Str} (hv : σ[i]? = some (some (.ref a))) (hd : H dd = some (.xd fs)) (hl : fs.lookup n = some w) : EvR F0 (tXf a (.ref C) (some dd) C n (tVar i)) σ H 0 (fun x _ => x = w) :=
  fun n1 H1 hn g ex Q q => ⟨.ref a, hv, rfl, rfl, dd, fs, w, rfl, F0.ex ex _ _ hd, hl, q _ H1 Kx.refl g rfl⟩
theorem ra_nilV {F : Fd} : EvRA F tNil σ H 0 (fun vs _ => vs = []) := fun n1 H1 hn g e Q q => q _ H1 Kx.refl g rfl
theorem ra_consV {F : Fd} {te : TE} {tr : TA} {ws : List V} (h : EvR F te σ H ka (fun x _ => x = v)) (hr : EvRA F tr σ H kb (fun vs _ => vs = ws)) : EvRA F (tCons te tr) σ H (ka + kb) (fun vs _ => vs = v :: ws) :=
  fun n H1 hn g e Q q => h n H1 (by omega) g e _ fun x H2 e2 g2 p => hr (n + ka) H2 (by omega) g2 (e.trans e2) _ fun vs H3 e3 g3 p' => q (x :: vs) H3 (e2.trans e3) (by rw [← Nat.add_assoc]; exact g3) (by rw [p, p'])
theorem s_setT {tr : TA} {i : Nat} {PA : List V → Hp → Prop} {D : Ends} (h : EvRA F0 tr σ H 0 PA) (kk : ∀ vs H1, Ex H H1 → PA vs H1 → vs.length ≤ sizeLine ∧ ∀ p, H1 p = none → D.nx (σ.set i (some (.ref p))) (upd H1 p (.tup vs))) : tAsg (tTup tr) (gName i) D σ H :=
  h 0 H (Nat.le_refl _) F0.g Kx.refl _ fun vs H1 k _ p => kk vs H1 (F0.ex k) p
theorem sh_two (x y : Bool) : SeqAt.shaped (.list [.bool x, .bool y]) = true := by cases x <;> cases y <;> decide +kernel
end
def nOut : List Str := ["_law_ask", "_law_found", "e", "_law_kinds_now", "_law_homes", "_law_is_other"]
theorem scOut : FnScope nOut ["_law_ask"] (defScope (topS 66)) := ⟨rfl, rfl, rfl, by decide +kernel, rfl, by decide +kernel, by decide +kernel⟩
/-- the classes that the suite names, asked of C -/
structure OutK (K : PySem.W.Frag) (mg : Str → Option Value) (C CT CI CP CR CB CX CN : Addr) : Prop where
  ex : ExcD K C
  xf : XfC K C
  w0 : PySem.W.findIn K (.ref C) "word" = some none
  a0 : PySem.W.findIn K (.ref C) "at" = some none
  gT : mg "ThinError" = some (.ref CT)
  eT : PySem.W.exmOne K (.ref C) (.ref CT) = some true
  gI : mg "InvalidPaper" = some (.ref CI)
  eI : PySem.W.kitOne K (.ref C) (.ref CI) = some false
  gU : mg "NotUsable" = some (.ref C)
  eU : PySem.W.kitOne K (.ref C) (.ref C) = some true
  gP : mg "PaperError" = some (.ref CP)
  eP : PySem.W.kitOne K (.ref C) (.ref CP) = some false
  gR : mg "TraceError" = some (.ref CR)
  eR : PySem.W.kitOne K (.ref C) (.ref CR) = some true
  gB : mg "BookError" = some (.ref CB)
  gX : mg "TextError" = some (.ref CX)
  gN : mg "NotTold" = some (.ref CN)
  eO : PySem.W.kitAny K (.ref C) [.ref CB, .ref CX, .ref CN] = some false
  eV : PySem.W.kitOne K (.ref C) (.type "ValueError") = some true
  mV : mg "ValueError" = none
  mI : mg "isinstance" = none
/-- the error that is told of -/
def exOut (C : Addr) (Q : VK) : XK := fun cls d H => cls = .ref C ∧ ∃ (dd : Addr) (fs : List (Str × V)) (w a : V), d = some dd ∧ H dd = some (.xd fs) ∧ fs.lookup ("word" : Str) = some w ∧ fs.lookup ("at" : Str) = some a ∧
  ∀ H' p, Ex H H' → H' p = some (.tup [.str "usable", w, a]) → Q (.ref p) H'
def TOut (C : Addr) : (XK → Hp → VK → Prop) → Hp → VK → Prop := fun tl H Q => ∀ H1, Ex H H1 → tl (exOut C Q) H1 fun v H2 => ∀ p, H2 p = none → Q (.ref p) (upd H2 p (.tup [.str "told", v]))
theorem takes_len {X : Cx} {W : WX} {n : Nat} (tk : Takes X W) (hn : X.N.length = n) : Takes X (fun cls d σ H => σ.length = n → W cls d σ H) := fun u s' ⟨a, B, sI, pins, σ, H, cls, d, e, I, nb, up, sky, na, os, ag, w⟩ =>
  tk u s' ⟨a, B, sI, pins, σ, H, cls, d, e, I, nb, up, sky, na, os, ag, w (I.len.trans hn)⟩
theorem out_gives {X : Cx} {C CT CI CP CR CB CX CN g : Addr} {cdg : Value} {q : Str} (T : OutK X.K X.mg C CT CI CP CR CB CX CN) (hu : X.A.units + 300 < cLine) : LamX.GivesTo X nOut "_law_outcome" (defScope (topS 66)) g cdg (defBody (topS 66)) "_law_ask" q (TOut C) := by
  intro f c' s H Q tl act hc h
  have gl : ∀ x : Str, (defScope (topS 66)).names.lookup x = some .globalImplicit → Gl (cxOf C8.CX0 X.prog X.w X.K X.mg X.base nOut "_law_outcome" (defScope (topS 66)) g cdg X.A X.stack s H C8.E0).nox x := fun x e => e
  have units : ∀ {a : Addr} {pn : List (Addr × Obj)}, ((cxOf C8.CX0 X.prog X.w X.K X.mg X.base nOut "_law_outcome" (defScope (topS 66)) g cdg X.A X.stack s H C8.E0).nox.suite a pn).A.units + 64 < cLine := fun {a pn} => by
    show X.A.units + 3 + 64 < cLine
    omega
  refine ⟨_, pss_cons (ps_set (i := 1) scOut.nd rfl (.inl rfl) (pe_tup (pa_cons pe_str pa_nil)))
    (pss_cons (ps_try_as (i := 2) (c := .ref CT) (tb := fun W D σ H => ∃ Ech : XK, (∀ cls d σ' H', Ech cls d H' → σ'.length = 6 → W cls d σ' H') ∧ σ[0]? = some (some (.ref f)) ∧ H c' = some (LamX.CodeO c' q) ∧
          tl Ech H fun v H' => [V.str "told", v].length ≤ sizeLine ∧ ∀ p, H' p = none → D.nx (σ.set 1 (some (.ref p))) (upd H' p (.tup [.str "told", v])))
      rfl rfl scOut.nd rfl rfl ⟨gl _ rfl, by decide, .inl T.gT⟩ LamX.takes0 (fun W pn xe tk _ => ?_) (fun a oe cls d pn hz hf =>
        pss_cons (ps_set (i := 3) scOut.nd rfl (.inl rfl) (pe_lst (pa_cons (pe_callB (call_isX hz hf) (gl _ rfl) T.mI (by decide +kernel) (pa_cons (pv 2) (pa_cons (pe_glob (v := .ref CI) (gl _ rfl) T.gI rfl) pa_nil))) (pa_cons (pe_callB (call_isX hz hf) (gl _ rfl) T.mI (by decide +kernel) (pa_cons (pv 2) (pa_cons (pe_glob (v := .ref C) (gl _ rfl) T.gU rfl) pa_nil))) pa_nil))))
        (pss_cons (ps_set (i := 4) scOut.nd rfl (.inl rfl) (pe_lst (pa_cons (pe_callB (call_isX hz hf) (gl _ rfl) T.mI (by decide +kernel) (pa_cons (pv 2) (pa_cons (pe_glob (v := .ref CP) (gl _ rfl) T.gP rfl) pa_nil))) (pa_cons (pe_callB (call_isX hz hf) (gl _ rfl) T.mI (by decide +kernel) (pa_cons (pv 2) (pa_cons (pe_glob (v := .ref CR) (gl _ rfl) T.gR rfl) pa_nil))) pa_nil))))
        (pss_cons (ps_set (i := 5) scOut.nd rfl (.inl rfl) (pe_callB (call_isX hz hf) (gl _ rfl) T.mI (by decide +kernel) (pa_cons (pv 2) (pa_cons (pe_tup (pa_cons (pe_glob (v := .ref CB) (gl _ rfl) T.gB rfl) (pa_cons (pe_glob (v := .ref CX) (gl _ rfl) T.gX rfl) (pa_cons (pe_glob (v := .ref CN) (gl _ rfl) T.gN rfl) pa_nil)))) pa_nil))))
        (pss_one (ps_if (PW.pt (pw_and (pt_val (pe_callB (call_isX hz hf) (gl _ rfl) T.mI (by decide +kernel) (pa_cons (pv 2) (pa_cons (pe_bltn (v := .ty "ValueError") (gl _ rfl) T.mV (by decide +kernel) rfl) pa_nil)))) (pw_and (pt_not (pt_val (pv 5))) (pw_and1 (pt_cmpR (r := rEqD X.K) (op_eqD units) (pv 4) (pv 3) (nomark _))))))
          (pss_one (ps_if (pt_cmpR (r := rEqD X.K) (op_eqD units) (pv 3) (pe_lst (pa_cons pe_bl (pa_cons pe_bl pa_nil))) (nomark _))
            (pss_one (ps_set (i := 1) scOut.nd rfl (.inl rfl) (pe_tup (pa_cons pe_str (pa_cons (pe_xf T.xf T.w0 hz hf (pv 2)) (pa_cons (pe_xf T.xf T.a0 hz hf (pv 2)) pa_nil))))))
            (pss_one (ps_if (pt_cmpR (r := rEqD X.K) (op_eqD units) (pv 3) (pe_lst (pa_cons pe_bl (pa_cons pe_bl pa_nil))) (nomark _))
              (pss_one (ps_set (i := 1) scOut.nd rfl (.inl rfl) (pe_tup (pa_cons pe_str (pa_cons (pe_xf T.xf T.w0 hz hf (pv 2)) (pa_cons (pe_xf T.xf T.a0 hz hf (pv 2)) pa_nil))))))
              pss_nil))))
          pss_nil))))))
    (pss_one (ps_ret (pv 1)))), ?_⟩
  · refine ⟨fun pins s' σ H' D I h' => ?_⟩
    obtain ⟨Ech, hW, h1, h2, h3⟩ := h'
    exact (pss_one (ps_set (i := 1) scOut.nd rfl (.inl rfl) (pe_tup (pa_cons pe_str (pa_cons (act _ pn xe Ech _ _ (takes_len tk rfl) hW) pa_nil))))).run pins s' σ H' D I ⟨h1, h2, h3⟩
  · show tSeq (tAsg (tTup (tCons (tC (.str "odd")) tNil)) (gName 1)) _ _ [some (.ref f), none, none, none, none, none] H
    refine ⟨(by decide : [V.str "odd"].length ≤ sizeLine), fun p0 hp0 => ?_⟩
    have e0 := Ex.new (o := .tup [V.str "odd"]) hp0
    refine ⟨exOut C Q, fun cls d σ' H' hx hl => ?_, rfl, e0 _ _ hc, ?_⟩
    · obtain ⟨rfl, dd, fs, w, b, rfl, hdd, lw, la, q⟩ := hx
      match σ', hl with
      | [x0, x1, x2, x3, x4, x5], _ =>
      refine ⟨true, T.eT, fun _ a ha => ?_, fun z => by cases z⟩
      show tSeq (tAsg (tLst (tCons (tCB (rIsX X.K a (.ref C) (some dd)) (tCons (tVar 2) (tCons (tC (.ref CI)) tNil))) (tCons (tCB (rIsX X.K a (.ref C) (some dd)) (tCons (tVar 2) (tCons (tC (.ref C)) tNil))) tNil))) (gName 3)) _ _ [x0, x1, some (.ref a), x3, x4, x5] H'
      refine q_asgR (F := F0) (n := 0) (k := 0 + 0) (P := IsL F0 X.K [.bool false, .bool true]) (rl_lst F0.ok (ra_cons (ka := 0) (kb := 0 + 0) F0.ok (rd_ofB (r_isX1 T.ex rfl hdd (.own CI) T.eI)) (ra_cons (ka := 0) (kb := 0) F0.ok (rd_ofB (r_isX1 T.ex rfl hdd (.own C) T.eU)) ra_nil))) F0.g (Nat.le_refl _) fun v3 H3 k3 _ p3 => ?_
      have d3 := F0.ex k3 _ _ hdd
      change tSeq (tAsg (tLst (tCons (tCB (rIsX X.K a (.ref C) (some dd)) (tCons (tVar 2) (tCons (tC (.ref CP)) tNil))) (tCons (tCB (rIsX X.K a (.ref C) (some dd)) (tCons (tVar 2) (tCons (tC (.ref CR)) tNil))) tNil))) (gName 4)) _ _ [x0, x1, some (.ref a), some v3, x4, x5] H3
      refine q_asgR (F := F0) (n := 0) (k := 0 + 0) (P := IsL F0 X.K [.bool false, .bool true]) (rl_lst F0.ok (ra_cons (ka := 0) (kb := 0 + 0) F0.ok (rd_ofB (r_isX1 T.ex rfl d3 (.own CP) T.eP)) (ra_cons (ka := 0) (kb := 0) F0.ok (rd_ofB (r_isX1 T.ex rfl d3 (.own CR) T.eR)) ra_nil))) F0.g (Nat.le_refl _) fun v4 H4 k4 _ p4 => ?_
      have d4 := F0.ex k4 _ _ d3
      have p3' : IsL F0 X.K [.bool false, .bool true] v3 H4 := mono_l F0.ok rfl 0 _ _ _ F0.g k4 p3
      change tSeq (tAsg _ (gName 5)) _ _ [x0, x1, some (.ref a), some v3, some v4, x5] H4
      refine q_asgR (F := F0) (n := 0) (k := 0) (P := fun x _ => x = .bl false) (r_isX3 T.ex rfl d4 T.eO) F0.g (Nat.le_refl _) fun v5 H5 k5 _ p5 => ?_
      subst p5
      have d5 := F0.ex k5 _ _ d4
      have q3 : IsL F0 X.K [.bool false, .bool true] v3 H5 := mono_l F0.ok rfl 0 _ _ _ F0.g k5 p3'
      have q4 : IsL F0 X.K [.bool false, .bool true] v4 H5 := mono_l F0.ok rfl 0 _ _ _ F0.g k5 p4
      change tIfS _ _ _ _ [x0, x1, some (.ref a), some v3, some v4, some (.bl false)] H5
      refine s_ifR (F := F0) (n := 0) (k := 0 + (0 + (0 + 0))) (b := true && (!false && PyData.eqv (.list [.bool false, .bool true]) (.list [.bool false, .bool true]))) (rt_and F0.ok (rt_val (r_isX1 T.ex rfl d5 (.ty "ValueError") T.eV)) fun _ => rt_and F0.ok (rt_not (rt_val (rv_var rfl))) fun _ => rt_B (rb_eqL (ds := [.bool false, .bool true]) F0.ok (r_var (mono_l F0.ok rfl) (n := 0) F0.g rfl q4) (r_var (mono_l F0.ok rfl) (n := 0) F0.g rfl q3) rfl (sh_two _ _) (sh_two _ _))) F0.g (Nat.le_refl _) (fun _ H6 k6 _ => ?_) fun z => by
        exact absurd z (by decide +kernel)
      have d6 := F0.ex k6 _ _ d5
      have r3 : IsL F0 X.K [.bool false, .bool true] v3 H6 := mono_l F0.ok rfl 0 _ _ _ F0.g k6 q3
      have lit : ∀ {x y : Bool} {σ : L2.St} {H : Hp}, EvR F0 (tLst (tCons (tC (.bl x)) (tCons (tC (.bl y)) tNil))) σ H (0 + 0) (IsL F0 X.K [.bool x, .bool y]) := fun {x y σ H} => rl_lst F0.ok (ra_cons (ka := 0) (kb := 0) F0.ok rd_bl (ra_cons (ka := 0) (kb := 0) F0.ok rd_bl ra_nil))
      refine s_ifR (F := F0) (n := 0) (k := 0 + (0 + 0)) (b := PyData.eqv (.list [.bool false, .bool true]) (.list [.bool true, .bool false])) (rt_B (rb_eqL F0.ok (r_var (mono_l F0.ok rfl) (n := 0) F0.g rfl r3) lit rfl (sh_two _ _) (sh_two _ _))) F0.g (Nat.le_refl _) (fun z => absurd z (by decide +kernel)) fun _ H7 k7 _ => ?_
      have d7 := F0.ex k7 _ _ d6
      have s3 : IsL F0 X.K [.bool false, .bool true] v3 H7 := mono_l F0.ok rfl 0 _ _ _ F0.g k7 r3
      refine s_ifR (F := F0) (n := 0) (k := 0 + (0 + 0)) (b := PyData.eqv (.list [.bool false, .bool true]) (.list [.bool false, .bool true])) (rt_B (rb_eqL F0.ok (r_var (mono_l F0.ok rfl) (n := 0) F0.g rfl s3) lit rfl (sh_two _ _) (sh_two _ _))) F0.g (Nat.le_refl _) (fun _ H8 k8 _ => ?_) fun z => absurd z (by decide +kernel)
      have d8 := F0.ex k8 _ _ d7
      refine s_setT (ra_consV (ka := 0) (kb := 0 + (0 + 0)) (v := .str "usable") rv_c (ra_consV (ka := 0) (kb := 0 + 0) (r_xf (i := 2) rfl d8 lw) (ra_consV (ka := 0) (kb := 0) (r_xf (i := 2) rfl d8 la) ra_nilV))) fun vs H9 e9 ev => ?_
      subst ev
      exact ⟨(by show 3 ≤ sizeLine; decide), fun p hp => ⟨.ref p, rfl, q _ p (((((((F0.ex k3).trans (F0.ex k4)).trans (F0.ex k5)).trans (F0.ex k6)).trans (F0.ex k7)).trans (F0.ex k8)).trans (e9.trans (Ex.new hp))) upd_same⟩⟩
    · have e1 := h _ e0
      refine (congrArg (fun z => tl (exOut C Q) _ z) ?_).mp e1
      funext v H2
      exact propext ⟨fun q => ⟨(by show 2 ≤ sizeLine; decide), fun p hp => ⟨.ref p, rfl, q p hp⟩⟩, fun q p hp => by
        obtain ⟨u, e, q⟩ := q.2 p hp
        cases e
        exact q⟩
end K17
/-! ### outcomes of which there is one: mixed -/
namespace K17
open PySem PySem.Spec PyProof.Rows L2 Evl Fx Fr Dt Tr K18 So
theorem pt_never {X : Cx} {e : Expr} : PT X e (fun _ _ _ => False) := ⟨fun _ _ _ _ _ _ h => h.elim⟩
def nMixed : List Str := ["pairs", "merged", "thing", "chance"]
theorem scMixed : FnScope nMixed ["pairs"] (defScope (K18.topS 34)) := ⟨rfl, rfl, rfl, by decide +kernel, rfl, by decide +kernel, by decide +kernel⟩
mutual
theorem alike_refl : ∀ d : PyData, flat d = true → PySem.W.alike d d = true
  | .none, _ => by simp [PySem.W.alike]
  | .bool _, _ => by simp [PySem.W.alike]
  | .int _, _ => by simp [PySem.W.alike]
  | .str _, _ => by simp [PySem.W.alike]
  | .list _, h => by simp [flat] at h
  | .tuple ds, h => by
    rw [PySem.W.alike]
    exact alikes_refl ds (by rwa [flat_tup] at h)
  | .dict _, h => by simp [flat] at h
theorem alikes_refl : ∀ ds : List PyData, flats ds = true → PySem.W.alikeAll ds ds = true
  | [], _ => by simp [PySem.W.alikeAll]
  | d :: ds, h => by
    obtain ⟨h1, h2⟩ := flats_cons.mp h
    rw [PySem.W.alikeAll, alike_refl d h1, alikes_refl ds h2]
    rfl
end
theorem srt_one {u v : PyData} (fu : flat u = true) (fv : flat v = true) : Srt [.tuple [u, v]] := by
  refine .inl ⟨fun d hd d' hd' => ?_, .inl fun d hd => ?_⟩
  · rw [List.mem_singleton.mp hd, List.mem_singleton.mp hd']
    exact alike_refl _ (by rw [flat_tup, flats_cons, flats_cons]; exact ⟨fu, fv, rfl⟩)
  · rw [List.mem_singleton.mp hd]
    exact ⟨_, _, rfl⟩
theorem one_sort (d : PyData) : [d].mergeSort (PySem.W.dataLe false id) = [d] := List.mergeSort_singleton d
section
variable {P : Program} {w : World} {K : PySem.W.Frag} {mg : Str → Option Value} {base : Heap} {f f2 f3 : Addr} {fd fd2 fd3 : FuncData} {F : Fd} {te ta tb : TE} {σ : L2.St} {H : Hp} {k ka kb n : Nat} {d : PyData} {ds : List PyData}
theorem rl_sortX (o : F.Ok) (h : EvR F te σ H k (IsL F K ds)) (hs : Srt ds) (hd : ∀ d ∈ ds, PyData.depth d ≤ 40) : EvR F (tCB (rSortX K) (tCons te tNil)) σ H k (IsL F K (ds.mergeSort (PySem.W.dataLe false id))) := fun n H1 hn g e Q q =>
  h n H1 hn g e _ fun v H2 e2 g2 ⟨a, xs, ev, hT, ha, hx⟩ => ⟨a, xs, ds, by rw [ev], .inl (sq_of ha), hx, hs, hd, fun p ws hp hw => q _ _ (e2.trans (Kx.ex (Ex.new hp))) (o.ex g2 (Ex.new hp)) ⟨p, ws, rfl, o.new g2 hp, upd_same, dps_ex (Ex.new hp) _ _ hw⟩⟩
theorem rl_sortXT (o : F.Ok) (h : EvR F te σ H k (IsD K (.tuple ds))) (hs : Srt ds) (hd : ∀ d ∈ ds, PyData.depth d ≤ 40) : EvR F (tCB (rSortX K) (tCons te tNil)) σ H k (IsL F K (ds.mergeSort (PySem.W.dataLe false id))) := fun n H1 hn g e Q q =>
  h n H1 hn g e _ fun v H2 e2 g2 hd' => by
    cases hd' with
    | @tup a xs _ ha hx => exact ⟨a, xs, ds, rfl, .inr ha, hx, hs, hd, fun p ws hp hw => q _ _ (e2.trans (Kx.ex (Ex.new hp))) (o.ex g2 (Ex.new hp)) ⟨p, ws, rfl, o.new g2 hp, upd_same, dps_ex (Ex.new hp) _ _ hw⟩⟩
/-- one pair alone -/
def spMixed (K : PySem.W.Frag) : Sp := spL K fun ds es => ∃ u v : PyData, flat u = true ∧ flat v = true ∧ PyData.depth u ≤ 38 ∧ PyData.depth v ≤ 38 ∧ ds = [.list [.tuple [u, v]]] ∧ es = [.tuple [u, v]]
theorem ok_mixed (F : Fun K "mixed" "mixed" (K18.topS 34) f fd) (m_sorted : mg "sorted" = none) : FnOk P w K mg base CX0 1 f fd ["pairs"] (spMixed K) := by
  refine F.ok scMixed (fun vs H Q E h => ?_) (fun cdv A outer s H vs Q E hr h => ?_)
  · obtain ⟨ds, es, hd, ⟨u, v, _, _, _, _, rfl, _⟩, _⟩ := h
    exact dps_len hd
  · obtain ⟨ds, es, hd, ⟨u, v, fu, fv, du, dv, rfl, rfl⟩, q⟩ := h
    refine ⟨_, pss_cons (ps_set (i := 1) scMixed.nd rfl (.inl rfl) (pe_lst pa_nil))
      (pss_cons (ps_for PassesOwn.never rfl (pi_list (pe_callB (r := rSortX K) (cr_sortedX hr.units) (by rfl) m_sorted (by decide +kernel) (pa_cons (pv 0) pa_nil))) (pg_tup (by rfl) (pgs_cons (pg_name (i := 2) scMixed.nd rfl (.inl rfl)) (pgs_cons (pg_name (i := 3) scMixed.nd rfl (.inl rfl)) pgs_nil)))
        (pss_one (ps_if (PW.pt (pw_and (pt_truth (pv 1) (fun _ => rfl)) (pw_and1 pt_never))) pss_never
          (pss_one (ps_expr (pe_bm PySem.F.plainAttrs_list PySem.F.slot_list_append PySem.F.type_list_append mt_append (pv 1) (pa_cons (pe_tup (pa_cons (pv 2) (pa_cons (pv 3) pa_nil))) pa_nil)))))))
      (pss_one (ps_ret (pv 1)))), ?_⟩
    match vs, hd with
    | [v0], .cons hv0 .nil =>
    cases hv0 with
    | @lst a0 xs _ ha0 hx0 =>
    show tSeq (tAsg (tLst tNil) (gName 1)) (tSeq (tFor (iList K (tCB (rSortX K) (tCons (tVar 0) tNil))) (gTup K 2 _) _) _) _ _ H
    refine q_asgL (el_lst ea_nil (by simp)) fun A1 H1 n1 e1 h1 => ?_
    have h1' : H1 A1 = some (.lst []) := h1
    refine ⟨.ref a0, rfl, a0, xs, [.tuple [u, v]], rfl, .inl (ex_l e1 ha0), dps_ex e1 _ _ hx0, srt_one fu fv, fun d hd => ?_, fun l ws hl hw => ?_⟩
    · rw [List.mem_singleton.mp hd]
      simp only [PyData.depth, PyData.depthAll]
      omega
    rw [one_sort] at hw
    cases hw with
    | @cons y zs _ _ hy hz =>
    cases hz
    have el := Ex.new (o := HO.lst [y]) hl
    have neA : A1 ≠ l := ne_addr hl h1'
    have hy' := dp_ex el _ _ hy
    obtain ⟨c, y1, y2, ey, hc, p1, p2⟩ := dp_two hy'
    subst ey
    refine ⟨l, rfl, ⟨_, sq_of upd_same⟩, for_list (xs := [.ref c]) (fun m σ' H' => (m = 0 ∧ σ' = [some (.ref a0), some (.ref A1), none, none] ∧ H' = upd H1 l (.lst [.ref c])) ∨ (m = 1 ∧ ∃ z, σ' = [some (.ref a0), some (.ref A1), some y1, some y2] ∧ Ex H H' ∧ H' l = some (.lst [.ref c]) ∧ H' A1 = some (.lst [z]) ∧ Dp K H' z (.tuple [u, v]))) (.inl ⟨rfl, rfl, rfl⟩) (fun m σ' H' _ p => ?_) (fun m x σ' H' hm p => ?_) fun σ' H' p => ?_⟩
    · rcases p with ⟨_, _, rfl⟩ | ⟨_, z, _, _, p, _⟩
      · exact sq_of upd_same
      · exact sq_of p
    · match m, hm with
      | 0, hm =>
      cases hm
      rcases p with ⟨_, rfl, rfl⟩ | ⟨h, _⟩
      · refine ⟨c, [y1, y2], rfl, hc, rfl, y1, _, rfl, y2, _, rfl, rfl, ?_⟩
        have hA : upd H1 l (.lst [.ref c]) A1 = some (.lst []) := by rw [upd_ne neA]; exact h1'
        refine ⟨.ref A1, rfl, false, .inl ⟨[], sq_of hA, rfl⟩, iteF ?_⟩
        refine ⟨.ref A1, rfl, .inl ⟨rfl, [], sq_of hA⟩, y1, rfl, y2, rfl, (by show 2 ≤ sizeLine; decide), fun p hp => ⟨A1, [], .ref p, rfl, rfl, ?_, ?_, ?_⟩⟩
        · rw [upd_ne (ne_addr hp hA)]
          exact hA
        · show 0 < sizeLine
          decide
        · have ep := Ex.new (o := HO.tup [y1, y2]) hp
          refine .inr ⟨rfl, .ref p, rfl, ((e1.trans el).trans ep).mut n1, ?_, upd_same, ?_⟩
          · rw [upd_ne neA.symm]
            exact ep _ _ upd_same
          · refine .tup (st_of (by rw [upd_ne (ne_addr hp hA).symm]; exact upd_same)) (.cons ?_ (.cons ?_ .nil))
            · exact dp_kt (kt_lst (ep _ _ hA)) u y1 fu (dp_ex ep _ _ p1)
            · exact dp_kt (kt_lst (ep _ _ hA)) v y2 fv (dp_ex ep _ _ p2)
      · cases h
    · rcases p with ⟨h, _⟩ | ⟨_, z, rfl, e, _, hA, hz⟩
      · cases h
      · exact ⟨.ref A1, rfl, q A1 [z] H' n1 e hA (.cons hz .nil)⟩
end
end K17
/-! ### fractions: times, minus -/
namespace K17
open PySem PySem.Spec PyProof.Rows L2 Evl Fx Fr Dt Tr K18 So
theorem scTimes : FnScope ["one", "other"] ["one", "other"] (defScope (K18.topS 31)) := ⟨rfl, rfl, rfl, by decide +kernel, rfl, by decide +kernel, by decide +kernel⟩
theorem scMinus : FnScope ["one", "other"] ["one", "other"] (defScope (K18.topS 30)) := ⟨rfl, rfl, rfl, by decide +kernel, rfl, by decide +kernel, by decide +kernel⟩
section
variable {P : Program} {w : World} {K : PySem.W.Frag} {mg : Str → Option Value} {base : Heap} {f f2 f3 : Addr} {fd fd2 fd3 : FuncData} {te ta tb : TE} {σ : L2.St} {H : Hp} {k ka kb n : Nat} {d : PyData} {ds : List PyData}
theorem made_d {k : Nat} (G : FnOk P w K mg base CX0 k f fd ["p", "q"] (spI2F okR Rat.divInt)) : FnOk P w K mg base CX0 k f fd ["p", "q"] (spMade K) := G.imp fun vs H Q E h => by
  obtain ⟨ds, d, hd, ⟨i, j, hk, rfl, rfl⟩, q⟩ := h
  match vs, hd with
  | [v1, v2], .cons p1 (.cons p2 .nil) =>
  cases p1
  cases p2
  exact ⟨i, j, rfl, hk, fun H' p e hp => q _ H' e (.tup (st_of hp) (.cons (.int _) (.cons (.int _) .nil)))⟩
theorem rv_num {i : Nat} {v : V} {r : Rat} (h : σ[i]? = some (some v)) (hv : Dp K H v (frD r)) : EvR F0 (tOp (rIxT K) (tVar i) (tC (.int 0))) σ H 0 (fun x _ => x = .int r.num) :=
  rv_int (K := K) (rd_ix (ka := 0) (kb := 0) F0.ok (rd_var F0.ok (n := 0) F0.g h hv rfl) rv_c 0 rfl rfl rfl)
theorem rv_den {i : Nat} {v : V} {r : Rat} (h : σ[i]? = some (some v)) (hv : Dp K H v (frD r)) : EvR F0 (tOp (rIxT K) (tVar i) (tC (.int 1))) σ H 0 (fun x _ => x = .int (r.den : Int)) :=
  rv_int (K := K) (rd_ix (ka := 0) (kb := 0) F0.ok (rd_var F0.ok (n := 0) F0.g h hv rfl) rv_c 1 rfl rfl rfl)
theorem rv_mul {i j : Int} {n m : Nat} (ha : EvR F0 ta σ H 0 (fun x _ => x = .int i)) (hb : EvR F0 tb σ H 0 (fun x _ => x = .int j)) (h1 : i.natAbs < 2 ^ n) (h2 : j.natAbs < 2 ^ m) (h : n + m ≤ 4000) : EvR F0 (tOp (rI CMulW fun i j => .int (i * j)) ta tb) σ H 0 (fun x _ => x = .int (i * j)) :=
  rv_op (ka := 0) (kb := 0) F0.ok ha hb fun _ => rv_I (g := fun i j => .int (i * j)) (mulW h1 h2 h)
theorem rv_sub {i j : Int} (ha : EvR F0 ta σ H 0 (fun x _ => x = .int i)) (hb : EvR F0 tb σ H 0 (fun x _ => x = .int j)) : EvR F0 (tOp (rI0 fun i j => .int (i - j)) ta tb) σ H 0 (fun x _ => x = .int (i - j)) :=
  rv_op (ka := 0) (kb := 0) F0.ok ha hb fun _ => rv_I0 (g := fun i j => .int (i - j))
def spOpF (K : PySem.W.Frag) (g : Rat → Rat → Rat) : Sp := spD K fun ds d => ∃ x y, okB 1 x y ∧ ds = [frD x, frD y] ∧ d = frD (g x y)
theorem ok_times (F : Fun K "times" "times" (K18.topS 31) f fd) (cR : C8.Cal P w K mg base 1 "reduced_pair" (spMade K) []) : FnOk P w K mg base CX0 2 f fd ["one", "other"] (spOpF K (· * ·)) := by
  refine F.ok scTimes (fun vs H Q E h => ?_) (fun cdv A outer s H vs Q E hr h => ?_)
  · obtain ⟨ds, es, hd, ⟨x, y, _, rfl, _⟩, _⟩ := h
    exact dps_len hd
  · obtain ⟨ds, es, hd, ⟨x, y, ⟨n, m, h1, h2, hs⟩, rfl, rfl⟩, q⟩ := h
    match vs, hd with
    | [v1, v2], .cons p1 (.cons p2 .nil) =>
    refine ⟨_, pss_one (ps_ret (C8.pe_c cR hr (by decide) (by rfl) (pa_cons (pe_op op_mulW (pe_ix ix_tup (pv 0) pe_int (fun _ _ => rfl)) (pe_ix ix_tup (pv 1) pe_int (fun _ _ => rfl))) (pa_cons (pe_op op_mulW (pe_ix ix_tup (pv 0) pe_int (fun _ _ => rfl)) (pe_ix ix_tup (pv 1) pe_int (fun _ _ => rfl))) pa_nil)))), ?_⟩
    have d1 : (x.den : Int).natAbs < 2 ^ n := h1.2
    have d2 : (y.den : Int).natAbs < 2 ^ m := h2.2
    refine s_retR (F := F0) (n := 0) (k := 0) (P := IsD K (frD (x * y))) ?_ F0.g (Nat.le_refl _) fun v H1 e _ hv => q v H1 (F0.ex e) hv
    refine EvR.cast (rd_call F0.ok (ra_cons (ka := 0) (kb := 0) F0.ok (rd_ofI (rv_mul (rv_num (i := 0) rfl p1) (rv_num (i := 1) rfl p2) h1.1 h2.1 (by omega))) (ra_cons (ka := 0) (kb := 0) F0.ok (rd_ofI (rv_mul (rv_den (i := 0) rfl p1) (rv_den (i := 1) rfl p2) d1 d2 (by omega))) ra_nil)) ⟨_, _, ⟨Int.mul_ne_zero (den_ne x) (den_ne y), lt_up (im_lt h1.1 h2.1) (by omega), lt_up (im_lt d1 d2) (by omega)⟩, rfl, rfl⟩) (congrArg frD (mul_eq x y))
theorem ok_minus (F : Fun K "minus" "minus" (K18.topS 30) f fd) (cR : C8.Cal P w K mg base 1 "reduced_pair" (spMade K) []) : FnOk P w K mg base CX0 2 f fd ["one", "other"] (spOpF K (· - ·)) := by
  refine F.ok scMinus (fun vs H Q E h => ?_) (fun cdv A outer s H vs Q E hr h => ?_)
  · obtain ⟨ds, es, hd, ⟨x, y, _, rfl, _⟩, _⟩ := h
    exact dps_len hd
  · obtain ⟨ds, es, hd, ⟨x, y, ⟨n, m, h1, h2, hs⟩, rfl, rfl⟩, q⟩ := h
    match vs, hd with
    | [v1, v2], .cons p1 (.cons p2 .nil) =>
    refine ⟨_, pss_one (ps_ret (C8.pe_c cR hr (by decide) (by rfl) (pa_cons (pe_op op_sub (pe_op op_mulW (pe_ix ix_tup (pv 0) pe_int (fun _ _ => rfl)) (pe_ix ix_tup (pv 1) pe_int (fun _ _ => rfl))) (pe_op op_mulW (pe_ix ix_tup (pv 1) pe_int (fun _ _ => rfl)) (pe_ix ix_tup (pv 0) pe_int (fun _ _ => rfl)))) (pa_cons (pe_op op_mulW (pe_ix ix_tup (pv 0) pe_int (fun _ _ => rfl)) (pe_ix ix_tup (pv 1) pe_int (fun _ _ => rfl))) pa_nil)))), ?_⟩
    have d1 : (x.den : Int).natAbs < 2 ^ n := h1.2
    have d2 : (y.den : Int).natAbs < 2 ^ m := h2.2
    refine s_retR (F := F0) (n := 0) (k := 0) (P := IsD K (frD (x - y))) ?_ F0.g (Nat.le_refl _) fun v H1 e _ hv => q v H1 (F0.ex e) hv
    have t2 := im_lt h2.1 d1
    rw [Nat.add_comm m n] at t2
    refine EvR.cast (rd_call F0.ok (ra_cons (ka := 0) (kb := 0) F0.ok (rd_ofI (rv_sub (rv_mul (rv_num (i := 0) rfl p1) (rv_den (i := 1) rfl p2) h1.1 d2 (by omega)) (rv_mul (rv_num (i := 1) rfl p2) (rv_den (i := 0) rfl p1) h2.1 d1 (by omega)))) (ra_cons (ka := 0) (kb := 0) F0.ok (rd_ofI (rv_mul (rv_den (i := 0) rfl p1) (rv_den (i := 1) rfl p2) d1 d2 (by omega))) ra_nil)) ⟨_, _, ⟨Int.mul_ne_zero (den_ne x) (den_ne y), lt_up (is_lt (im_lt h1.1 d2) t2) (by omega), lt_up (im_lt d1 d2) (by omega)⟩, rfl, rfl⟩) (congrArg frD (sub_eq x y))
end
end K17
/-! ### a piece more; two outcomes joined -/
namespace K17
open PySem PySem.Spec PyProof.Rows L2 Evl Fx Fr Dt Tr K18 So
abbrev R2 : Type := List T × List Pc
def resD (r : R2) : PyData := .tuple [.tuple (r.1.map enc), .tuple (r.2.map Pc.D)]
def outD (r : R2) : PyData := .tuple [resD r, frD 1]
theorem res_flat (r : R2) : flat (resD r) = true := by
  rw [resD, flat_tup, flats_cons, flats_cons, flat_tup, flat_tup]
  exact ⟨maps_flat _, pcs_flat _, rfl⟩
theorem out_flat (r : R2) : flat (outD r) = true := by
  rw [outD, flat_tup, flats_cons, flats_cons]
  exact ⟨res_flat r, rfl, rfl⟩
/-- of so many spans at the most -/
def Few (n : Nat) (r : R2) : Prop := sizes r.1 + psizes r.2 ≤ n ∧ r.1.length ≤ n ∧ r.2.length ≤ n
def pieceOf (wd : Str) (ts : List T) : Pc := if wd = "top" then (match ts with | t :: _ => .top t | [] => .lost []) else .lost ts
def withP (wd : Str) (ts : List T) (ps : List Pc) : List Pc := match ts with
  | [] => ps
  | _ :: _ => sortP (ps ++ [pieceOf wd ts])
def nWP : List Str := ["trees", "pieces", "word", "piece"]
theorem scWP : FnScope nWP ["trees", "pieces", "word"] (defScope (K18.topS 38)) := ⟨rfl, rfl, rfl, by decide +kernel, rfl, by decide +kernel, by decide +kernel⟩
def nBoth : List Str := ["one", "other", "trees", "pieces", "chance", "more_trees", "more_pieces", "second", "held"]
theorem scBoth : FnScope nBoth ["one", "other"] (defScope (K18.topS 36)) := ⟨rfl, rfl, rfl, by decide +kernel, rfl, by decide +kernel, by decide +kernel⟩
section
variable {P : Program} {w : World} {K : PySem.W.Frag} {mg : Str → Option Value} {base : Heap} {f f2 f3 : Addr} {fd fd2 fd3 : FuncData} {te ta tb : TE} {σ : L2.St} {H : Hp} {k ka kb n : Nat} {d : PyData} {ds : List PyData}
theorem rt_truT {i : Nat} {v : V} (h : σ[i]? = some (some v)) (hv : Dp K H v (.tuple ds)) : EvRT F0 (tTru K i) σ H 0 (!ds.isEmpty) := fun n H1 hn g e Q q => by
  cases hv with
  | @tup a xs _ ha hx =>
    have hl := dps_len hx
    refine ⟨.ref a, h, !xs.isEmpty, .inr (.inl ⟨xs, ex_t (F0.ex e) ha, rfl⟩), ?_⟩
    have : (!xs.isEmpty) = !ds.isEmpty := by
      cases xs <;> cases ds <;> first | rfl | (simp at hl)
    rw [this]
    exact q H1 Kx.refl g
theorem rv_eqS {a b : Str} (ha : EvR F0 ta σ H 0 (fun x _ => x = .str a)) (hb : EvR F0 tb σ H 0 (fun x _ => x = .str b)) : EvR F0 (tOp rEq ta tb) σ H 0 (fun x _ => x = .bl (decide (a = b))) := by
  have h := rv_op (ka := 0) (kb := 0) (z := .bl (decide (V.str a = V.str b))) F0.ok ha hb (fun _ => rv_eq rfl)
  have e : decide (V.str a = V.str b) = decide (a = b) := decide_eq_decide.mpr ⟨fun h => V.str.inj h, fun h => by rw [h]⟩
  rw [e] at h
  exact h
theorem pieceOf_size (wd : Str) (ts : List T) : (pieceOf wd ts).size ≤ sizes ts := by
  unfold pieceOf
  split
  · cases ts with
    | nil => exact Nat.le_refl _
    | cons t ts => rw [sizes]; exact Nat.le_add_right _ _
  · exact Nat.le_refl _
theorem depth_pcs {ps : List Pc} {n : Nat} (h : ∀ p ∈ ps, p.size ≤ n) (hn : n ≤ 19) : ∀ d ∈ ps.map Pc.D, PyData.depth d ≤ 40 := fun d hd => by
  obtain ⟨p, hp, rfl⟩ := List.mem_map.mp hd
  have := p.depth
  have := h p hp
  omega
def spWP (K : PySem.W.Frag) : Sp := spD K fun ds d => ∃ (ts : List T) (ps : List Pc) (wd : Str), (wd = "top" ∨ wd = "lost") ∧ Few 15 (ts, ps) ∧ ds = [.tuple (ts.map enc), .tuple (ps.map Pc.D), .str wd] ∧ d = .tuple ((withP wd ts ps).map Pc.D)
theorem ok_wp (F : Fun K "with_piece" "with_piece" (K18.topS 38) f fd) (m_tuple : mg "tuple" = none) (m_sorted : mg "sorted" = none) : FnOk P w K mg base CX0 1 f fd ["trees", "pieces", "word"] (spWP K) := by
  refine F.ok scWP (fun vs H Q E h => ?_) (fun cdv A outer s H vs Q E hr h => ?_)
  · obtain ⟨ds, es, hd, ⟨ts, ps, wd, _, _, rfl, _⟩, _⟩ := h
    exact dps_len hd
  · obtain ⟨ds, es, hd, ⟨ts, ps, wd, hw, hf, rfl, rfl⟩, q⟩ := h
    match vs, hd with
    | [v1, v2, v3], .cons p1 (.cons p2 (.cons p3 .nil)) =>
    refine ⟨_, pss_cons (ps_if (pt_not (pt_truth (pv 0) (fun _ => rfl))) (pss_one (ps_ret (pv 1))) pss_nil)
      (pss_cons (ps_set (i := 3) scWP.nd rfl (.inl rfl) (pe_ifExp (pt_cmpR op_eq (pv 2) pe_str (nomark _)) (pe_tup (pa_cons pe_str (pa_cons (pe_ix ix_tup (pv 0) pe_int (fun _ _ => rfl)) pa_nil))) (pe_tup (pa_cons pe_str (pa_cons (pv 0) pa_nil)))))
      (pss_one (ps_ret (pe_callTy (T := "tuple") (r := rTupOf K) call_tupleOf (by rfl) m_tuple (by decide +kernel) (pa_cons (pe_callB (r := rSortX K) (cr_sortedX hr.units) (by rfl) m_sorted (by decide +kernel) (pa_cons (pe_op op_catA (pv 1) (pe_tup (pa_cons (pv 3) pa_nil))) pa_nil)) pa_nil))))), ?_⟩
    cases p3
    show tSeq (tIfS (tNot (tTru K 0)) (tRet (tVar 1)) tNext) (tSeq (tAsg (tIf (tB (tOp rEq (tVar 2) (tC (.str "top")))) (tTup (tCons (tC (.str "top")) (tCons (tOp (rIxT K) (tVar 0) (tC (.int 0))) tNil))) (tTup (tCons (tC (.str "lost")) (tCons (tVar 0) tNil)))) (gName 3)) (tRet _)) _ [some v1, some v2, some (.str wd), none] H
    refine q_whenR (F := F0) (n := 0) (k := 0) (b := !(!(ts.map enc).isEmpty)) (rt_not (rt_truT rfl p1)) F0.g (Nat.le_refl _) (fun hb H1 e1 _ => ?_) fun hb H1 e1 _ => ?_
    · replace e1 := F0.ex e1
      cases ts with
      | nil => exact ⟨v2, rfl, q v2 H1 e1 (dp_ex e1 _ _ p2)⟩
      | cons t r => simp at hb
    · replace e1 := F0.ex e1
      cases ts with
      | nil => simp at hb
      | cons t r =>
      have p1' := dp_ex e1 _ _ p1
      have p2' := dp_ex e1 _ _ p2
      have fl1 : flat (.tuple ((t :: r).map enc)) = true := by rw [flat_tup]; exact maps_flat _
      refine q_asgR (F := F0) (n := 0) (k := 0 + 0) (P := IsD K (pieceOf wd (t :: r)).D) (r_if (ka := 0) (kb := 0) (b := decide (wd = "top")) F0.ok (rt_B (rv_eqS (rv_var rfl) rv_c)) (fun hb => ?_) fun hb => ?_) F0.g (Nat.le_refl _) fun v4 H2 e2 _ p4 => ?_
      · have hw' : wd = "top" := of_decide_eq_true hb
        subst hw'
        exact rd_tup (ds := [.str "top", enc t]) F0.ok (ra_cons (ka := 0) (kb := 0) F0.ok rd_str (ra_cons (ka := 0) (kb := 0) F0.ok (rd_ix (ka := 0) (kb := 0) F0.ok (rd_var F0.ok (n := 0) F0.g rfl p1' fl1) rv_c 0 (by simp [ixN]) rfl fl1) ra_nil (enc_flat t))) (Pc.flat (.top t))
      · have hw' : ¬ wd = "top" := of_decide_eq_false hb
        have ep : pieceOf wd (t :: r) = .lost (t :: r) := by unfold pieceOf; rw [if_neg hw']
        rw [ep]
        exact rd_tup (ds := [.str "lost", .tuple ((t :: r).map enc)]) F0.ok (ra_cons (ka := 0) (kb := 0) F0.ok rd_str (ra_cons (ka := 0) (kb := 0) F0.ok (rd_var F0.ok (n := 0) F0.g rfl p1' fl1) ra_nil fl1)) (Pc.flat (.lost (t :: r)))
      · replace e2 := F0.ex e2
        have p2'' := dp_ex e2 _ _ p2'
        have hsz : ∀ p ∈ ps ++ [pieceOf wd (t :: r)], p.size ≤ 15 := fun p hp => by
          obtain ⟨h1, _, _⟩ := hf
          have h1 : sizes (t :: r) + psizes ps ≤ 15 := h1
          rcases List.mem_append.mp hp with hp | hp
          · have := psize_mem hp
            omega
          · rw [List.mem_singleton.mp hp]
            have := pieceOf_size wd (t :: r)
            omega
        have hl : ps.length ≤ 15 := hf.2.2
        have cat : EvR F0 (tOp (rCatA K) (tVar 1) (tTup (tCons (tVar 3) tNil))) [some v1, some v2, some (.str wd), some v4] H2 (0 + 0) (IsD K (.tuple ((ps ++ [pieceOf wd (t :: r)]).map Pc.D))) := by
          rw [List.map_append]
          exact rd_cat (ka := 0) (kb := 0) F0.ok (rd_var F0.ok (n := 0) F0.g rfl p2'' (by rw [flat_tup]; exact pcs_flat _)) (rd_tup F0.ok (ra_cons (ka := 0) (kb := 0) F0.ok (rd_var F0.ok (n := 0) F0.g rfl p4 (Pc.flat _)) ra_nil (Pc.flat _)) (pcs_flat [_])) (pcs_flat ps) (by simp; omega)
        refine s_retR (F := F0) (n := 0) (k := 0 + 0) (P := IsD K (.tuple ((sortP (ps ++ [pieceOf wd (t :: r)])).map Pc.D))) (EvR.cast (rd_tupOf F0.ok (rl_sortXT F0.ok cat (.inr (near_pcs _)) (depth_pcs hsz (by decide)))) (by rw [sortP_map])) F0.g (Nat.le_refl _) fun v H3 e3 _ hv => q v H3 (e1.trans (e2.trans (F0.ex e3))) hv
def spBoth (K : PySem.W.Frag) : Sp := spD K fun ds d => ∃ (r r' : R2), Few 15 (r.1 ++ r'.1, r.2 ++ r'.2) ∧ ds = [outD r, outD r'] ∧ d = outD (sortT (r.1 ++ r'.1), sortP (r.2 ++ r'.2))
theorem ok_both (F : Fun K "both" "both" (K18.topS 36) f fd) (cT : C8.Cal P w K mg base 2 "times" (spOpF K (· * ·)) []) (m_tuple : mg "tuple" = none) (m_sorted : mg "sorted" = none) : FnOk P w K mg base CX0 3 f fd ["one", "other"] (spBoth K) := by
  refine F.ok scBoth (fun vs H Q E h => ?_) (fun cdv A outer s H vs Q E hr h => ?_)
  · obtain ⟨ds, es, hd, ⟨r, r', _, rfl, _⟩, _⟩ := h
    exact dps_len hd
  · obtain ⟨ds, es, hd, ⟨r, r', hf, rfl, rfl⟩, q⟩ := h
    obtain ⟨v1, vs, rfl, p1, hd⟩ := dps_uncons hd
    obtain ⟨v2, vs, rfl, p2, hd⟩ := dps_uncons hd
    obtain rfl := dps_none hd
    refine ⟨_, pss_cons (ps_asg (pv 0) (pg_tup (by rfl) (pgs_cons (pg_tup (by rfl) (pgs_cons (pg_name (i := 2) scBoth.nd rfl (.inl rfl)) (pgs_cons (pg_name (i := 3) scBoth.nd rfl (.inl rfl)) pgs_nil))) (pgs_cons (pg_name (i := 4) scBoth.nd rfl (.inl rfl)) pgs_nil))))
      (pss_cons (ps_asg (pv 1) (pg_tup (by rfl) (pgs_cons (pg_tup (by rfl) (pgs_cons (pg_name (i := 5) scBoth.nd rfl (.inl rfl)) (pgs_cons (pg_name (i := 6) scBoth.nd rfl (.inl rfl)) pgs_nil))) (pgs_cons (pg_name (i := 7) scBoth.nd rfl (.inl rfl)) pgs_nil))))
      (pss_cons (ps_set (i := 8) scBoth.nd rfl (.inl rfl) (pe_tup (pa_cons (pe_callTy (T := "tuple") (r := rTupOf K) call_tupleOf (by rfl) m_tuple (by decide +kernel) (pa_cons (pe_callB (r := rSortX K) (cr_sortedX hr.units) (by rfl) m_sorted (by decide +kernel) (pa_cons (pe_op op_catA (pv 2) (pv 5)) pa_nil)) pa_nil))
          (pa_cons (pe_callTy (T := "tuple") (r := rTupOf K) call_tupleOf (by rfl) m_tuple (by decide +kernel) (pa_cons (pe_callB (r := rSortX K) (cr_sortedX hr.units) (by rfl) m_sorted (by decide +kernel) (pa_cons (pe_op op_catA (pv 3) (pv 6)) pa_nil)) pa_nil)) pa_nil))))
      (pss_one (ps_ret (pe_tup (pa_cons (pv 8) (pa_cons (C8.pe_c cT hr (by decide) (by rfl) (pa_cons (pv 4) (pa_cons (pv 7) pa_nil))) pa_nil))))))), ?_⟩
    obtain ⟨a1, x1, y1, rfl, ha1, hx1, hy1⟩ := dp_two p1
    obtain ⟨b1, t1, s1, rfl, hb1, ht1, hs1⟩ := dp_two hx1
    obtain ⟨a2, x2, y2, rfl, ha2, hx2, hy2⟩ := dp_two p2
    obtain ⟨b2, t2, s2, rfl, hb2, ht2, hs2⟩ := dp_two hx2
    refine ⟨.ref a1, rfl, a1, [.ref b1, y1], rfl, ha1, rfl, .ref b1, _, rfl, ⟨b1, [t1, s1], rfl, hb1, rfl, t1, _, rfl, s1, _, rfl, rfl, y1, _, rfl, rfl, ?_⟩⟩
    refine ⟨.ref a2, rfl, a2, [.ref b2, y2], rfl, ha2, rfl, .ref b2, _, rfl, ⟨b2, [t2, s2], rfl, hb2, rfl, t2, _, rfl, s2, _, rfl, rfl, y2, _, rfl, rfl, ?_⟩⟩
    change tSeq (tAsg (tTup (tCons (tCB (rTupOf K) (tCons (tCB (rSortX K) (tCons (tOp (rCatA K) (tVar 2) (tVar 5)) tNil)) tNil)) (tCons (tCB (rTupOf K) (tCons (tCB (rSortX K) (tCons (tOp (rCatA K) (tVar 3) (tVar 6)) tNil)) tNil)) tNil))) (gName 8)) _ _ [some (.ref a1), some (.ref a2), some t1, some s1, some y1, some t2, some s2, some y2, none] H
    obtain ⟨h1, h2, h3⟩ := hf
    have h1 : sizes (r.1 ++ r'.1) + psizes (r.2 ++ r'.2) ≤ 15 := h1
    have h2 : (r.1 ++ r'.1).length ≤ 15 := h2
    have h3 : (r.2 ++ r'.2).length ≤ 15 := h3
    have ft : ∀ ts : List T, flat (.tuple (ts.map enc)) = true := fun ts => by rw [flat_tup]; exact maps_flat _
    have fp : ∀ ps : List Pc, flat (.tuple (ps.map Pc.D)) = true := fun ts => by rw [flat_tup]; exact pcs_flat _
    have catT : EvR F0 (tOp (rCatA K) (tVar 2) (tVar 5)) [some (.ref a1), some (.ref a2), some t1, some s1, some y1, some t2, some s2, some y2, none] H (0 + 0) (IsD K (.tuple ((r.1 ++ r'.1).map enc))) := by
      rw [List.map_append]
      exact rd_cat (ka := 0) (kb := 0) F0.ok (rd_var F0.ok (n := 0) F0.g rfl ht1 (ft _)) (rd_var F0.ok (n := 0) F0.g rfl ht2 (ft _)) (maps_flat _) (by simp at h2 ⊢; omega)
    have catP : EvR F0 (tOp (rCatA K) (tVar 3) (tVar 6)) [some (.ref a1), some (.ref a2), some t1, some s1, some y1, some t2, some s2, some y2, none] H (0 + 0) (IsD K (.tuple ((r.2 ++ r'.2).map Pc.D))) := by
      rw [List.map_append]
      exact rd_cat (ka := 0) (kb := 0) F0.ok (rd_var F0.ok (n := 0) F0.g rfl hs1 (fp _)) (rd_var F0.ok (n := 0) F0.g rfl hs2 (fp _)) (pcs_flat _) (by simp at h3 ⊢; omega)
    have dT : ∀ d ∈ (r.1 ++ r'.1).map enc, PyData.depth d ≤ 40 := fun d hd => by
      have := depth_mem d hd
      omega
    have dP : ∀ d ∈ (r.2 ++ r'.2).map Pc.D, PyData.depth d ≤ 40 := depth_pcs (n := 15) (fun p hp => by
      have := psize_mem hp
      omega) (by decide)
    refine q_asgR (F := F0) (n := 0) (k := (0 + 0) + ((0 + 0) + 0)) (P := IsD K (resD (sortT (r.1 ++ r'.1), sortP (r.2 ++ r'.2)))) (rd_tup F0.ok (ra_cons (ka := 0 + 0) (kb := (0 + 0) + 0) F0.ok (EvR.cast (rd_tupOf F0.ok (rl_sortXT F0.ok catT (.inl ⟨all_alike _, all_sortable _⟩) dT)) (by rw [sort_map])) (ra_cons (ka := 0 + 0) (kb := 0) F0.ok (EvR.cast (rd_tupOf F0.ok (rl_sortXT F0.ok catP (.inr (near_pcs _)) dP)) (by rw [sortP_map])) ra_nil (fp _)) (ft _)) (by
      rw [flats_cons, flats_cons]
      exact ⟨ft _, fp _, rfl⟩)) F0.g (Nat.le_refl _) fun v8 H2 e2 _ p8 => ?_
    replace e2 := F0.ex e2
    refine s_retR (F := F0) (n := 0) (k := 0 + (0 + 0)) (P := IsD K (outD (sortT (r.1 ++ r'.1), sortP (r.2 ++ r'.2)))) (rd_tup F0.ok (ra_cons (ka := 0) (kb := 0 + 0) F0.ok (rd_var F0.ok (n := 0) F0.g rfl p8 (res_flat _)) (ra_cons (ka := 0) (kb := 0) F0.ok (rd_call F0.ok (ra_cons (ka := 0) (kb := 0) (d := frD 1) F0.ok (rd_var F0.ok (n := 0) F0.g rfl (dp_ex e2 _ _ hy1) rfl) (ra_cons (ka := 0) (kb := 0) (d := frD 1) F0.ok (rd_var F0.ok (n := 0) F0.g rfl (dp_ex e2 _ _ hy2) rfl) ra_nil)) ⟨1, 1, ⟨1, 1, bd1, bd1, by decide⟩, rfl, (congrArg frD (Rat.mul_one 1)).symm⟩) ra_nil) (res_flat _)) (out_flat _)) F0.g (Nat.le_refl _) fun v H3 e3 _ hv => q v H3 (e2.trans (F0.ex e3)) hv
end
end K17
/-! ### several outcomes joined -/
namespace K17
open PySem PySem.Spec PyProof.Rows L2 Evl Fx Fr Dt Tr K18 So
section
variable {P : Program} {w : World} {K : PySem.W.Frag} {mg : Str → Option Value} {base : Heap} {f f2 f3 : Addr} {fd fd2 fd3 : FuncData} {te ta tb : TE} {σ : L2.St} {H : Hp} {k ka kb n : Nat} {d : PyData} {ds : List PyData}
/-- one item out of a list of one and another list of one -/
theorem r_lc2one {i j i2 j2 : Nat} {vs vs1 : List Nat} {a b : Addr} {x y : V} (ha : σ[i]? = some (some (.ref a))) (hb : ((wipe σ vs).set j (some x))[i2]? = some (some (.ref b))) (la : SqL K H a [x]) (lb : SqL K H b [y])
    (w1 : wipe ((wipe σ vs).set j (some x)) vs = wipe σ vs) (w2 : wipe ((wipe ((wipe σ vs).set j (some x)) vs1).set j2 (some y)) vs1 = wipe ((wipe σ vs).set j (some x)) vs1)
    (he : ∀ H', Ex H H' → EvR F0 te ((wipe ((wipe σ vs).set j (some x)) vs1).set j2 (some y)) H' 0 (IsD K d)) (hf : flat d = true) :
    EvR F0 (tLc2 (iList K (tVar i)) (gName j) tYes (iList K (tVar i2)) (gName j2) tYes te vs vs1) σ H 0 (IsL F0 K [d]) := fun n H1 hn g e Q q => by
  replace e := F0.ex e
  have la1 := ex_l e la
  have lb1 := ex_l e lb
  refine ⟨.ref a, ha, a, rfl, ⟨[x], la1⟩, fun D hD => ?_⟩
  let P0 : Hp → Prop := fun H' => Ex H1 H' ∧ H' D = some (.lst [])
  let P1 : Hp → Prop := fun H' => Ex H1 H' ∧ ∃ z, H' D = some (.lst [z]) ∧ Dp K H' z d
  have e0 := Ex.new (o := HO.lst []) hD
  refine ⟨fun i m H' => (i = 0 ∧ m = 1 ∧ P0 H') ∨ (i = 1 ∧ m = 0 ∧ P1 H'), ⟨1, .inl ⟨rfl, rfl, e0, upd_same⟩⟩, fun i m H2 hW => ?_⟩
  rcases hW with ⟨rfl, rfl, e2, h2⟩ | ⟨rfl, rfl, e2, z, h2, hz⟩
  · refine .inr ⟨⟨[x], x, ex_l e2 la1, rfl⟩, P1, fun H' p => ⟨0, by decide, .inr ⟨rfl, rfl, p⟩⟩, fun x' H' y' => ?_⟩
    obtain ⟨rfl, y'⟩ := y'
    have ex := y' [x] (ex_l e2 la1)
    cases ex
    refine ⟨w1, .ref b, hb, b, rfl, ⟨[y], ex_l e2 lb1⟩, fun j k H' => (j = 0 ∧ k = 1 ∧ P0 H') ∨ (j = 1 ∧ k = 0 ∧ P1 H'), ⟨1, .inl ⟨rfl, rfl, e2, h2⟩⟩, fun j k H3 hV => ?_⟩
    rcases hV with ⟨rfl, rfl, e3, h3⟩ | ⟨rfl, rfl, p⟩
    · refine .inr ⟨⟨[y], y, ex_l e3 lb1, rfl⟩, P1, fun H' p => ⟨0, by decide, .inr ⟨rfl, rfl, p⟩⟩, fun y2 H' y3 => ?_⟩
      obtain ⟨rfl, y3⟩ := y3
      have ey := y3 [y] (ex_l e3 lb1)
      cases ey
      refine ⟨w2, he _ (e.trans e3) 0 _ (Nat.le_refl _) F0.g Kx.refl _ fun v H4 e4 _ hv => ⟨[], F0.ex e4 _ _ h3, (by show 0 < sizeLine; decide), ?_⟩⟩
      have h4 := F0.ex e4 _ _ h3
      refine ⟨(e3.trans (F0.ex e4)).mut hD, v, upd_same, dp_kt (kt_lst h4) d v hf hv⟩
    · exact .inl ⟨⟨[y], ex_l p.1 lb1, Nat.le_refl _⟩, p⟩
  · exact .inl ⟨⟨[x], ex_l e2 la1, Nat.le_refl _⟩, q (.ref D) H2 (Kx.ex e2) g ⟨D, [z], rfl, fun z => z, h2, .cons hz .nil⟩⟩
/-- the outcomes together -/
def catR (rs : List R2) : R2 := (rs.flatMap Prod.fst, rs.flatMap Prod.snd)
def joinR (rs : List R2) : R2 := (sortT (catR rs).1, sortP (catR rs).2)
def oneD (r : R2) : PyData := .list [outD r]
theorem join_step (rs : List R2) (r : R2) : (sortT ((joinR rs).1 ++ r.1), sortP ((joinR rs).2 ++ r.2)) = joinR (rs ++ [r]) := by
  simp only [joinR, catR, sortT_app, sortP_app, List.flatMap_append, List.flatMap_cons, List.flatMap_nil, List.append_nil]
theorem few_of {n : Nat} {rs : List R2} {r : R2} (h : Few n (catR (rs ++ [r]))) : Few n ((joinR rs).1 ++ r.1, (joinR rs).2 ++ r.2) := by
  obtain ⟨h1, h2, h3⟩ := h
  simp only [catR, List.flatMap_append, List.flatMap_cons, List.flatMap_nil, List.append_nil] at h1 h2 h3
  have p1 := (sort_perm (rs.flatMap Prod.fst)).append_right r.1
  have p2 := (sortP_mem (rs.flatMap Prod.snd)).append_right r.2
  exact ⟨by show sizes _ + psizes _ ≤ n; rw [show sizes ((joinR rs).1 ++ r.1) = _ from sizes_perm p1, show psizes ((joinR rs).2 ++ r.2) = _ from psizes_perm p2]; exact h1,
    by show List.length _ ≤ n; rw [show ((joinR rs).1 ++ r.1).length = _ from p1.length_eq]; exact h2, by show List.length _ ≤ n; rw [show ((joinR rs).2 ++ r.2).length = _ from p2.length_eq]; exact h3⟩
theorem few_join {n : Nat} {rs : List R2} (h : Few n (catR rs)) : Few n (joinR rs) := by
  obtain ⟨h1, h2, h3⟩ := h
  have p1 := sort_perm (catR rs).1
  have p2 := sortP_mem (catR rs).2
  exact ⟨by show sizes (sortT _) + psizes (sortP _) ≤ n; rw [sizes_perm p1, psizes_perm p2]; exact h1, by show List.length (sortT _) ≤ n; rw [p1.length_eq]; exact h2, by show List.length (sortP _) ≤ n; rw [p2.length_eq]; exact h3⟩
theorem few_take {n m : Nat} {rs : List R2} (h : Few n (catR rs)) : Few n (catR (rs.take m)) := by
  obtain ⟨h1, h2, h3⟩ := h
  have e : rs = rs.take m ++ rs.drop m := (List.take_append_drop m rs).symm
  rw [e] at h1 h2 h3
  simp only [catR, List.flatMap_append, sizes_app, psizes_app, List.length_append] at h1 h2 h3
  exact ⟨by show sizes _ + psizes _ ≤ n; simp only [catR]; omega, by show List.length _ ≤ n; simp only [catR]; omega, by show List.length _ ≤ n; simp only [catR]; omega⟩
theorem depth_all {ps : List Pc} {n : Nat} (h : ∀ p ∈ ps, p.size ≤ n) : PyData.depthAll (ps.map Pc.D) ≤ 2 * n + 2 := by
  induction ps with
  | nil => simp [PyData.depthAll]
  | cons p ps ih =>
    have h1 := p.depth
    have h2 := h p (List.mem_cons_self ..)
    have h3 := ih fun q hq => h q (List.mem_cons_of_mem _ hq)
    rw [List.map_cons, PyData.depthAll]
    omega
theorem res_depth {r : R2} (h : Few 15 r) : PyData.depth (resD r) ≤ 38 := by
  obtain ⟨h1, _, _⟩ := h
  have a := encs_depth r.1
  rw [encs_map] at a
  have b := depth_all (ps := r.2) (n := 15) fun p hp => by
    have := psize_mem hp
    omega
  simp only [resD, PyData.depth, PyData.depthAll]
  omega
theorem ra_one {F : Fd} {te : TE} {σ : L2.St} {H : Hp} {k : Nat} {d : PyData} (h : EvR F te σ H k (IsD K d)) : EvRA F (tCons te tNil) σ H k (fun vs H => DpAll K H vs [d]) := fun n H1 hn g e Q q =>
  h n H1 hn g e _ fun v H2 e2 g2 p => q [v] H2 e2 g2 (.cons p .nil)
theorem rd_ofL {F : Fd} {te : TE} {σ : L2.St} {H : Hp} {k : Nat} {ds : List PyData} (h : EvR F te σ H k (IsL F K ds)) : EvR F te σ H k (IsD K (.list ds)) := h.imp fun _ _ _ _ _ p => p.dp
theorem s_asgR {F : Fd} {te : TE} {σ : L2.St} {H : Hp} {k n i : Nat} {P : VP} {D : Ends} (h : EvR F te σ H k P) (g0 : F.G n H) (hn : n + k ≤ F.N) (kk : ∀ v H1, Kx F.S H H1 → F.G (n + k) H1 → P v H1 → D.nx (σ.set i (some v)) H1) : tAsg te (gName i) D σ H := h n H hn g0 Kx.refl _ kk
theorem rd_wr {F : Fd} {a : Addr} {d : PyData} {σ : L2.St} {H : Hp} (h : ∀ H, Dp K H (.ref a) d) : EvR F (tC (.ref a)) σ H 0 (IsD K d) := fun n H1 hn g e Q q => q _ H1 Kx.refl g (h H1)
theorem join_nil : joinR [] = ([], []) := by simp [joinR, catR, sortT, sortP]
theorem rn_call {F : Fd} {tr : TA} {σ : L2.St} {H : Hp} {k : Nat} {ds es : List PyData} {Rl : List PyData → List PyData → Prop} {E : XK} (o : F.Ok) (h : EvRA F tr σ H k (fun vs H => DpAll K H vs ds)) (hR : Rl ds es) : EvR F (tCall (spL K Rl) [] E tr) σ H k (IsN H F K es) := fun n H1 hn g e Q q => h n H1 hn g e _ fun vs H2 e2 g2 p =>
  ⟨ds, es, by rw [List.append_nil]; exact p, hR, fun a xs H3 ha e3 hv hx => q (.ref a) H3 (e2.trans (Kx.ex e3)) (o.ex g2 e3) ⟨a, xs, rfl, kx_none o g e (kx_none o g2 e2 ha), o.new g2 ha, hv, hx⟩⟩
theorem q_forLs {K : PySem.W.Frag} {σ : L2.St} {H : Hp} {i j : Nat} {a : Addr} {xs : List V} {tb tz : TS} {D : Ends} (hv : σ[i]? = some (some (.ref a))) (Pv : Nat → L2.St → Hp → Prop) (h0 : Pv 0 σ H) (hl : ∀ m σ' H', Pv m σ' H' → SqL K H' a xs)
    (hs : ∀ m x σ' H', xs[m]? = some x → Pv m σ' H' → tb { D with nx := Pv (m + 1), ct := Pv (m + 1), bk := tz D } (σ'.set j (some x)) H') (hd : ∀ σ' H', Pv xs.length σ' H' → tz D σ' H') : tSeq (tFor (iList K (tVar i)) (gName j) tb) tz D σ H :=
  ⟨.ref a, hv, a, rfl, ⟨xs, hl 0 σ H h0⟩, for_list Pv h0 (fun m σ' H' _ p => hl m σ' H' p) hs hd⟩
def nJoined : List Str := ["parts", "together", "part", "one", "other"]
theorem scJoined : FnScope nJoined ["parts"] (defScope (K18.topS 35)) := ⟨rfl, rfl, rfl, by decide +kernel, rfl, by decide +kernel, by decide +kernel⟩
def spJoined (K : PySem.W.Frag) : Sp := spL K fun ds es => ∃ rs : List R2, Few 15 (catR rs) ∧ rs.length ≤ 15 ∧ ds = [.list (rs.map oneD)] ∧ es = [outD (joinR rs)]
theorem ok_joined (F : Fun K "joined" "joined" (K18.topS 35) f fd) (cM : C8.Cal P w K mg base 1 "mixed" (spMixed K) []) (cB : C8.Cal P w K mg base 3 "both" (spBoth K) []) (W1 : Wr K mg "ONE" (frD 1)) (W0 : Wr K mg "NOTHING" (.tuple [.tuple [], .tuple []])) : FnOk P w K mg base CX0 4 f fd ["parts"] (spJoined K) := by
  refine F.ok scJoined (fun vs H Q E h => ?_) (fun cdv A outer s H vs Q E hr h => ?_)
  · obtain ⟨ds, es, hd, ⟨rs, _, _, rfl, _⟩, _⟩ := h
    exact dps_len hd
  · obtain ⟨ds, es, hd, ⟨rs, hf, hl, rfl, rfl⟩, q⟩ := h
    obtain ⟨v1, vs, rfl, p1, hd⟩ := dps_uncons hd
    obtain rfl := dps_none hd
    obtain ⟨a1, g1, w1⟩ := W1
    obtain ⟨a0, g0, w0⟩ := W0
    refine ⟨_, pss_cons (ps_set (i := 1) scJoined.nd rfl (.inl rfl) (pe_lst (pa_cons (pe_tup (pa_cons (pe_glob (v := .ref a0) (by rfl) g0 rfl) (pa_cons (pe_glob (v := .ref a1) (by rfl) g1 rfl) pa_nil))) pa_nil)))
      (pss_cons (ps_for PassesOwn.never rfl (pi_list (pv 0)) (pg_name (i := 2) scJoined.nd rfl (.inr rfl))
        (pss_one (ps_set (i := 1) scJoined.nd rfl (.inl rfl) (C8.pe_c cM hr (by decide) (by rfl) (pa_cons (pe_lc2 (own := [("one", 3), ("other", 4)]) (vs1 := [4]) (wi1 := iList K (tVar 2)) rfl scJoined.nd (pi_list (pv 1)) (blkOk_by (N := nJoined) (sc := defScope (K18.topS 35)) (by decide +kernel)) (by decide)
          (fun _ _ _ _ _ => pg_name (i := 3) scJoined.nd rfl (.inl rfl)) (fun _ _ _ _ _ => pts_nil) (fun _ _ _ _ _ => pi_list (pv 2)) (fun _ _ _ _ _ => pg_name (i := 4) scJoined.nd rfl (.inl rfl)) (fun _ _ _ _ _ => pts_nil)
          (fun _ _ _ _ _ => C8.pe_c cB hr (by decide) (by rfl) (pa_cons (pv 3) (pa_cons (pv 4) pa_nil)))) pa_nil)))))
      (pss_one (ps_ret (pv 1)))), ?_⟩
    cases p1 with
    | @lst a xs _ ha hx =>
    have lx := dps_len hx
    rw [List.length_map] at lx
    have first : EvR F0 (tLst (tCons (tTup (tCons (tC (.ref a0)) (tCons (tC (.ref a1)) tNil))) tNil)) [some (.ref a), none, none, none, none] H (0 + (0 + 0) + 0) (IsN H F0 K [outD (joinR [])]) := by
      rw [join_nil]
      exact rn_lst F0.ok (ra_cons (ka := 0 + (0 + 0)) (kb := 0) F0.ok (rd_tup F0.ok (ra_cons (ka := 0) (kb := 0 + 0) (d := resD ([], [])) F0.ok (rd_wr w0) (ra_cons (ka := 0) (kb := 0) (d := frD 1) F0.ok (rd_wr w1) ra_nil))) ra_nil (out_flat _))
    show tSeq (tAsg _ (gName 1)) (tSeq (tFor (iList K (tVar 0)) (gName 2) _) (tRet (tVar 1))) _ [some (.ref a), none, none, none, none] H
    refine q_asgR (F := F0) (n := 0) first F0.g (Nat.le_refl _) fun v0 H1 e1 _ hv0 => ?_
    replace e1 := F0.ex e1
    refine q_forLs (a := a) (xs := xs) rfl (fun m σ' H' => ∃ v u, σ' = [some (.ref a), some v, u, none, none] ∧ Ex H1 H' ∧ ∃ B zs, v = .ref B ∧ H B = none ∧ H' B = some (.lst zs) ∧ DpAll K H' zs [outD (joinR (rs.take m))]) ?_ (fun m σ' H' ⟨v, u, es, e, _⟩ => ex_l (e1.trans e) ha) (fun m x σ' H' hxm ⟨v, u, es, e, B, zs, ev, nB, hB, dz⟩ => ?_) fun σ' H' ⟨v, u, es, e, B, zs, ev, nB, hB, dz⟩ => ?_
    · obtain ⟨B, zs, ev, nB, _, hB, dz⟩ := hv0
      exact ⟨v0, none, rfl, Ex.refl _, B, zs, ev, nB, hB, dz⟩
    · subst es ev
      have hm : m < rs.length := by
        have := (List.getElem?_eq_some_iff.mp hxm).1
        omega
      have hrm : rs[m]? = some rs[m] := List.getElem?_eq_getElem hm
      have htk : rs.take (m + 1) = rs.take m ++ [rs[m]] := by rw [List.take_add_one, hrm]; rfl
      have hft := few_take (m := m + 1) hf
      rw [htk] at hft
      generalize rs[m] = r at hrm htk hft
      have dx : Dp K H' x (oneD r) := by
        obtain ⟨u', hu, du⟩ := dps_get (dps_ex (e1.trans e) _ _ hx) (show (rs.map oneD)[m]? = some (oneD r) by rw [List.getElem?_map, hrm]; rfl)
        rw [hxm] at hu
        cases hu
        exact du
      cases dx with
      | @lst b ys _ hb hy =>
      cases hy with
      | @cons y yr _ _ dy hyr =>
      cases hyr
      cases dz with
      | @cons z zr _ _ dzz hzr =>
      cases hzr
      have hc := rn_call (K := K) (σ := [some (.ref a), some (.ref B), some (.ref b), none, none]) (H := H') (E := C8.E0) (F := F0) F0.ok (ra_one (rd_ofL (r_lc2one (i := 1) (j := 3) (i2 := 2) (j2 := 4) (vs := [3, 4]) (vs1 := [4]) (te := tCall (spBoth K) [] C8.E0 (tCons (tVar 3) (tCons (tVar 4) tNil))) (d := outD (joinR (rs.take (m + 1)))) rfl rfl (sq_of hB) hb rfl rfl (fun H2 e2 => rd_call F0.ok (ra_cons (ka := 0) (kb := 0) F0.ok (rd_var F0.ok (n := 0) F0.g rfl (dp_ex e2 _ _ dzz) (out_flat _)) (ra_cons (ka := 0) (kb := 0) F0.ok (rd_var F0.ok (n := 0) F0.g rfl (dp_ex e2 _ _ dy) (out_flat _)) ra_nil (out_flat _)) (out_flat _)) ⟨_, _, few_of hft, rfl, by rw [join_step, htk]⟩) (out_flat _))))
        (Rl := fun ds es => ∃ u v : PyData, flat u = true ∧ flat v = true ∧ PyData.depth u ≤ 38 ∧ PyData.depth v ≤ 38 ∧ ds = [.list [.tuple [u, v]]] ∧ es = [.tuple [u, v]]) (es := [outD (joinR (rs.take (m + 1)))]) ⟨resD (joinR (rs.take (m + 1))), frD 1, res_flat _, rfl, res_depth (few_join (few_take hf)), by decide +kernel, rfl, rfl⟩
      exact s_asgR hc F0.g (Nat.le_refl _) fun v2 H2 e2 _ ⟨B2, zs2, ev2, nB2, _, hB2, dz2⟩ => ⟨v2, some (.ref b), rfl, e.trans (F0.ex e2), B2, zs2, ev2, kx_none F0.ok (n := 0) F0.g (Kx.ex (e1.trans e)) nB2, hB2, dz2⟩
    · subst es ev
      rw [lx, List.take_length] at dz
      exact ⟨.ref B, rfl, q B zs H' nB (e1.trans e) hB dz⟩
end
end K17
/-! ### closed, as_sights, kept_or_gone -/
namespace K17
open PySem PySem.Spec PyProof.Rows L2 Evl Fx Fr Dt Tr K18 So
section
variable {P : Program} {w : World} {K : PySem.W.Frag} {mg : Str → Option Value} {base : Heap} {f f2 f3 : Addr} {fd fd2 fd3 : FuncData} {te tl ta tb : TE} {σ σ2 : L2.St} {H : Hp} {k ka kb n : Nat} {d d0 : PyData} {ds : List PyData} {g : TG} {vs : List Nat}
/-- a comprehension over a list of one -/
theorem r_lc1 (hl : EvR F0 tl σ H 0 (IsD K (.list [d0]))) (hg : ∀ x H', Ex H H' → Dp K H' x d0 → ∃ σ2, Gv g x (wipe σ vs) H' σ2 ∧ wipe σ2 vs = wipe σ vs ∧ EvR F0 te σ2 H' 0 (IsD K d)) (hf : flat d = true) :
    EvR F0 (tLc (iList K tl) g tYes te vs) σ H 0 (IsN H F0 K [d]) := fun n H1 hn gg e Q q => hl n H1 hn gg e _ fun v H2 e2 _ hv => by
  replace e := F0.ex e
  replace e2 := F0.ex e2
  cases hv with
  | @lst a xs _ ha hx =>
  cases hx with
  | @cons x xr _ _ hx hr =>
  cases hr
  refine ⟨a, rfl, ⟨[x], ha⟩, fun D hD => ?_⟩
  have e0 := Ex.new (o := HO.lst []) hD
  refine lc_list (xs := [x]) (fun i H' => Ex H2 H' ∧ ((i = 0 ∧ H' D = some (.lst [])) ∨ (i = 1 ∧ ∃ z, H' D = some (.lst [z]) ∧ Dp K H' z d))) ⟨e0, .inl ⟨rfl, upd_same⟩⟩ (fun i H' _ p => ex_l p.1 ha) (fun i y H' hy p => ?_) fun H' p => ?_
  · match i, hy with
    | 0, hy =>
    cases hy
    obtain ⟨e3, p⟩ := p
    rcases p with ⟨_, hDD⟩ | ⟨z, _⟩
    · obtain ⟨σ2, h1, h2, h3⟩ := hg x H' (e.trans (e2.trans e3)) (dp_ex e3 _ _ hx)
      refine h1 _ ⟨h2, h3 0 H' (Nat.le_refl _) F0.g Kx.refl _ fun y H4 e4 _ hy => ⟨[], F0.ex e4 _ _ hDD, (by show 0 < sizeLine; decide), (e3.trans (F0.ex e4)).mut hD, .inr ⟨rfl, y, upd_same, dp_kt (kt_lst (F0.ex e4 _ _ hDD)) d y hf hy⟩⟩⟩
    · cases z
  · obtain ⟨e3, p⟩ := p
    rcases p with ⟨z, _⟩ | ⟨_, z, hDD, hz⟩
    · cases z
    · exact q (.ref D) H' (Kx.ex (e2.trans e3)) gg ⟨D, [z], rfl, fresh_back (e.trans e2) hD, fun z => z, hDD, .cons hz .nil⟩
theorem withP_size (wd : Str) (ts : List T) (ps : List Pc) : psizes (withP wd ts ps) ≤ sizes ts + psizes ps := by
  unfold withP
  cases ts with
  | nil => show psizes ps ≤ _; omega
  | cons t ts =>
    have := pieceOf_size wd (t :: ts)
    show psizes (sortP _) ≤ _
    rw [psizes_perm (sortP_mem _), psizes_app, psizes_cons, show psizes [] = 0 from rfl]
    omega
theorem res_depth' {r : R2} (h1 : sizes r.1 + psizes r.2 ≤ 15) : PyData.depth (resD r) ≤ 38 := by
  have a := encs_depth r.1
  rw [encs_map] at a
  have b := depth_all (ps := r.2) (n := 15) fun p hp => by
    have := psize_mem hp
    omega
  simp only [resD, PyData.depth, PyData.depthAll]
  omega
/-- a name, of any data, where nothing changes -/
theorem rd_var0 {i : Nat} {v : V} {d : PyData} {σ : L2.St} {H : Hp} (h : σ[i]? = some (some v)) (hv : Dp K H v d) : EvR F0 (tVar i) σ H 0 (IsD K d) := fun n H1 hn g e Q q => ⟨v, h, q v H1 Kx.refl g (dp_ex (F0.ex e) _ _ hv)⟩
theorem rd_ofN {F : Fd} {H0 : Hp} {te : TE} {σ : L2.St} {H : Hp} {k : Nat} {ds : List PyData} (h : EvR F te σ H k (IsN H0 F K ds)) : EvR F te σ H k (IsD K (.list ds)) := h.imp fun _ _ _ _ _ ⟨p, xs, e, _, hT, hp, hx⟩ => IsL.dp ⟨p, xs, e, hT, hp, hx⟩
theorem rl_ofN {F : Fd} {H0 : Hp} {te : TE} {σ : L2.St} {H : Hp} {k : Nat} {ds : List PyData} (h : EvR F te σ H k (IsN H0 F K ds)) : EvR F te σ H k (IsL F K ds) := h.imp fun _ _ _ _ _ ⟨p, xs, e, _, hT, hp, hx⟩ => ⟨p, xs, e, hT, hp, hx⟩
/-- a pair of a pair and a value, taken apart -/
theorem gv_out {i j l : Nat} {x : V} {H' : Hp} {σ0 : L2.St} {d1 d2 d3 : PyData} (hx : Dp K H' x (.tuple [.tuple [d1, d2], d3])) : ∃ u1 u2 u3, Gv (gTup K 2 (gCons (gTup K 2 (gCons (gName i) (gCons (gName j) gNil))) (gCons (gName l) gNil))) x σ0 H' (((σ0.set i (some u1)).set j (some u2)).set l (some u3)) ∧ Dp K H' u1 d1 ∧ Dp K H' u2 d2 ∧ Dp K H' u3 d3 := by
  obtain ⟨a, x1, y, rfl, ha, hx1, hy⟩ := dp_two hx
  obtain ⟨b, t, s, rfl, hb, ht, hs⟩ := dp_two hx1
  exact ⟨t, s, y, fun Q q => ⟨a, _, rfl, ha, rfl, .ref b, _, rfl, b, _, rfl, hb, rfl, t, _, rfl, s, _, rfl, rfl, y, _, rfl, rfl, q⟩, ht, hs, hy⟩
/-- mixed, of one outcome -/
theorem rn_mixed {te : TE} {σ : L2.St} {H : Hp} {u v : PyData} {E : XK} (h : EvR F0 te σ H 0 (IsD K (.list [.tuple [u, v]]))) (fu : flat u = true) (fv : flat v = true) (du : PyData.depth u ≤ 38) (dv : PyData.depth v ≤ 38) : EvR F0 (tCall (spMixed K) [] E (tCons te tNil)) σ H 0 (IsN H F0 K [.tuple [u, v]]) :=
  rn_call F0.ok (ra_one h) ⟨u, v, fu, fv, du, dv, rfl, rfl⟩
/-- what a def hands back, a new list -/
theorem s_retN {te : TE} {σ : L2.St} {H : Hp} {ds : List PyData} {D : Ends} (h : EvR F0 te σ H 0 (IsN H F0 K ds)) (q : ∀ p xs H', H p = none → Ex H H' → H' p = some (.lst xs) → DpAll K H' xs ds → D.rt (.ref p) H') : tRet te D σ H :=
  s_retR (F := F0) (n := 0) h F0.g (Nat.le_refl _) fun v H1 e _ ⟨p, xs, ev, nB, _, hp, hx⟩ => by
    subst ev
    exact q p xs H1 nB (F0.ex e) hp hx
def nClosed : List Str := ["outcomes", "word", "trees", "pieces", "chance"]
theorem scClosed : FnScope nClosed ["outcomes", "word"] (defScope (K18.topS 37)) := ⟨rfl, rfl, rfl, by decide +kernel, rfl, by decide +kernel, by decide +kernel⟩
def spClosed (K : PySem.W.Frag) : Sp := spL K fun ds es => ∃ (r : R2) (wd : Str), (wd = "top" ∨ wd = "lost") ∧ Few 15 r ∧ ds = [oneD r, .str wd] ∧ es = [outD ([], withP wd r.1 r.2)]
theorem ok_closed (F : Fun K "closed" "closed" (K18.topS 37) f fd) (cM : C8.Cal P w K mg base 1 "mixed" (spMixed K) []) (cW : C8.Cal P w K mg base 1 "with_piece" (spWP K) []) : FnOk P w K mg base CX0 2 f fd ["outcomes", "word"] (spClosed K) := by
  refine F.ok scClosed (fun vs H Q E h => ?_) (fun cdv A outer s H vs Q E hr h => ?_)
  · obtain ⟨ds, es, hd, ⟨r, wd, _, _, rfl, _⟩, _⟩ := h
    exact dps_len hd
  · obtain ⟨ds, es, hd, ⟨r, wd, hw, hf, rfl, rfl⟩, q⟩ := h
    obtain ⟨v1, vs, rfl, p1, hd⟩ := dps_uncons hd
    obtain ⟨v2, vs, rfl, p2, hd⟩ := dps_uncons hd
    obtain rfl := dps_none hd
    cases p2
    refine ⟨_, pss_one (ps_ret (C8.pe_c cM hr (by decide) (by rfl) (pa_cons (pe_lc (own := [("trees", 2), ("pieces", 3), ("chance", 4)]) (g := gTup K 2 (gCons (gTup K 2 (gCons (gName 2) (gCons (gName 3) gNil))) (gCons (gName 4) gNil))) (by rfl) scClosed.nd (pi_list (pv 0)) (blkOk_by (N := nClosed) (sc := defScope (K18.topS 37)) (by decide +kernel))
      (fun _ _ _ _ _ => pg_tup (by rfl) (pgs_cons (pg_tup (by rfl) (pgs_cons (pg_name (i := 2) scClosed.nd rfl (.inl rfl)) (pgs_cons (pg_name (i := 3) scClosed.nd rfl (.inl rfl)) pgs_nil))) (pgs_cons (pg_name (i := 4) scClosed.nd rfl (.inl rfl)) pgs_nil))) (fun _ _ _ _ _ => pts_nil)
      (fun _ _ _ _ _ => pe_tup (pa_cons (pe_tup (pa_cons (pe_tup pa_nil) (pa_cons (C8.pe_c cW hr (by decide) (by rfl) (pa_cons (pv 2) (pa_cons (pv 3) (pa_cons (pv 1) pa_nil)))) pa_nil))) (pa_cons (pv 4) pa_nil)))) pa_nil))), ?_⟩
    refine s_retN (ds := [outD ([], withP wd r.1 r.2)]) (rn_mixed (u := resD ([], withP wd r.1 r.2)) (v := frD 1) (rd_ofN (r_lc1 (d0 := outD r) (d := outD ([], withP wd r.1 r.2)) (rd_var0 rfl p1) (fun x H' e dx => ?_) (out_flat _))) (res_flat _) rfl (res_depth' (by have := withP_size wd r.1 r.2; have := hf.1; show sizes [] + psizes (withP wd r.1 r.2) ≤ 15; rw [show sizes [] = 0 from by rw [sizes]]; omega)) (by decide +kernel)) q
    obtain ⟨u1, u2, u3, hg, h1, h2, h3⟩ := gv_out (K := K) (i := 2) (j := 3) (l := 4) (σ0 := [some v1, some (.str wd), none, none, none]) dx
    refine ⟨_, hg, rfl, ?_⟩
    have ft : flat (.tuple (r.1.map enc)) = true := by rw [flat_tup]; exact maps_flat _
    have fp : ∀ ps : List Pc, flat (.tuple (ps.map Pc.D)) = true := fun ps => by rw [flat_tup]; exact pcs_flat _
    exact rd_tup (ds := [resD ([], withP wd r.1 r.2), frD 1]) F0.ok (ra_cons (ka := 0) (kb := 0) F0.ok (rd_tup (ds := [.tuple [], .tuple ((withP wd r.1 r.2).map Pc.D)]) F0.ok (ra_cons (ka := 0) (kb := 0) F0.ok (rd_tup F0.ok ra_nil) (ra_cons (ka := 0) (kb := 0) F0.ok (rd_call F0.ok (ra_cons (ka := 0) (kb := 0) F0.ok (rd_var F0.ok (n := 0) F0.g rfl h1 ft) (ra_cons (ka := 0) (kb := 0) F0.ok (rd_var F0.ok (n := 0) F0.g rfl h2 (fp _)) (ra_cons (ka := 0) (kb := 0) F0.ok (rd_ofS (rv_var rfl)) ra_nil) (fp _)) ft) ⟨r.1, r.2, wd, hw, hf, rfl, rfl⟩) ra_nil (fp _))) (by rw [flats_cons, flats_cons]; exact ⟨rfl, fp _, rfl⟩)) (ra_cons (ka := 0) (kb := 0) F0.ok (rd_var F0.ok (n := 0) F0.g rfl h3 rfl) ra_nil) (res_flat _)) (out_flat _)
end
end K17
/-! ### as_sights, kept_or_gone -/
namespace K17
open PySem PySem.Spec PyProof.Rows L2 Evl Fx Fr Dt Tr K18 So
def nAsS : List Str := ["outcomes", "held", "chance"]
theorem scAsS : FnScope nAsS ["outcomes"] (defScope (K18.topS 41)) := ⟨rfl, rfl, rfl, by decide +kernel, rfl, by decide +kernel, by decide +kernel⟩
def nKG : List Str := ["chance", "kept", "gone", "found", "trees", "pieces", "part", "held"]
theorem scKG : FnScope nKG ["chance", "kept", "gone"] (defScope (K18.topS 40)) := ⟨rfl, rfl, rfl, by decide +kernel, rfl, by decide +kernel, by decide +kernel⟩
section
variable {P : Program} {w : World} {K : PySem.W.Frag} {mg : Str → Option Value} {base : Heap} {f f2 f3 : Addr} {fd fd2 fd3 : FuncData} {te tl ta tb : TE} {σ σ2 : L2.St} {H : Hp} {k ka kb n : Nat} {d d0 : PyData} {ds es : List PyData} {g : TG} {vs : List Nat}
theorem rn_cat (ha : EvR F0 ta σ H 0 (IsL F0 K ds)) (hb : EvR F0 tb σ H 0 (IsL F0 K es)) (fd : flats ds = true) (hl : ds.length + es.length ≤ 100000) : EvR F0 (tOp rCat ta tb) σ H 0 (IsN H F0 K (ds ++ es)) := fun n H1 hn g e Q q =>
  ha n H1 hn g e _ fun x H2 e2 _ p => hb n H2 hn F0.g (e.trans e2) _ fun y H3 e3 _ p' => by
    obtain ⟨a, xs, rfl, hT, ha, hx⟩ := mono_l F0.ok fd 0 _ _ _ F0.g e3 p
    obtain ⟨b, ys, rfl, hT', hb, hy⟩ := p'
    have l1 := dps_len hx
    have l2 := dps_len hy
    refine ⟨a, b, xs, ys, rfl, rfl, ha, hb, sz_of (by omega), fun l hl => ?_⟩
    have el := Ex.new (o := HO.lst (xs ++ ys)) hl
    exact q (.ref l) _ (e2.trans (e3.trans (Kx.ex el))) F0.g ⟨l, _, rfl, kx_none F0.ok (n := 0) F0.g (e.trans (e2.trans e3)) hl, fun z => z, upd_same, dps_ex el _ _ (dps_app hx hy)⟩
/-- a pair, taken apart -/
theorem gv_two {i j : Nat} {x : V} {H' : Hp} {σ0 : L2.St} {d1 d2 : PyData} (hx : Dp K H' x (.tuple [d1, d2])) : ∃ u1 u2, Gv (gTup K 2 (gCons (gName i) (gCons (gName j) gNil))) x σ0 H' ((σ0.set i (some u1)).set j (some u2)) ∧ Dp K H' u1 d1 ∧ Dp K H' u2 d2 := by
  obtain ⟨a, x1, y, rfl, ha, hx1, hy⟩ := dp_two hx
  exact ⟨x1, y, fun Q q => ⟨a, _, rfl, ha, rfl, x1, _, rfl, y, _, rfl, rfl, q⟩, hx1, hy⟩
theorem gv_three {i j l : Nat} {x : V} {H' : Hp} {σ0 : L2.St} {d1 d2 d3 : PyData} (hx : Dp K H' x (.tuple [d1, d2, d3])) : ∃ u1 u2 u3, Gv (gTup K 3 (gCons (gName i) (gCons (gName j) (gCons (gName l) gNil)))) x σ0 H' (((σ0.set i (some u1)).set j (some u2)).set l (some u3)) ∧ Dp K H' u1 d1 ∧ Dp K H' u2 d2 ∧ Dp K H' u3 d3 := by
  obtain ⟨a, x1, x2, x3, rfl, ha, h1, h2, h3⟩ := dp_three hx
  exact ⟨x1, x2, x3, fun Q q => ⟨a, _, rfl, ha, rfl, x1, _, rfl, x2, _, rfl, x3, _, rfl, rfl, q⟩, h1, h2, h3⟩
def sightD (ps : List Pc) : PyData := .tuple [.tuple (ps.map Pc.D), frD 1]
theorem sight_flat (ps : List Pc) : flat (sightD ps) = true := by
  rw [sightD, flat_tup, flats_cons, flats_cons, flat_tup]
  exact ⟨pcs_flat _, rfl, rfl⟩
def spAsS (K : PySem.W.Frag) : Sp := spL K fun ds es => ∃ r : R2, ds = [oneD r] ∧ es = [sightD r.2]
theorem ok_asS (F : Fun K "as_sights" "as_sights" (K18.topS 41) f fd) : FnOk P w K mg base CX0 1 f fd ["outcomes"] (spAsS K) := by
  refine F.ok scAsS (fun vs H Q E h => ?_) (fun cdv A outer s H vs Q E hr h => ?_)
  · obtain ⟨ds, es, hd, ⟨r, rfl, _⟩, _⟩ := h
    exact dps_len hd
  · obtain ⟨ds, es, hd, ⟨r, rfl, rfl⟩, q⟩ := h
    obtain ⟨v1, vs, rfl, p1, hd⟩ := dps_uncons hd
    obtain rfl := dps_none hd
    refine ⟨_, pss_one (ps_ret (pe_lc (own := [("held", 1), ("chance", 2)]) (g := gTup K 2 (gCons (gName 1) (gCons (gName 2) gNil))) (by rfl) scAsS.nd (pi_list (pv 0)) (blkOk_by (N := nAsS) (sc := defScope (K18.topS 41)) (by decide +kernel))
      (fun _ _ _ _ _ => pg_tup (by rfl) (pgs_cons (pg_name (i := 1) scAsS.nd rfl (.inl rfl)) (pgs_cons (pg_name (i := 2) scAsS.nd rfl (.inl rfl)) pgs_nil))) (fun _ _ _ _ _ => pts_nil)
      (te := tTup (tCons (tOp (rIxT K) (tVar 1) (tC (.int 1))) (tCons (tVar 2) tNil))) (fun _ _ _ _ _ => pe_tup (pa_cons (pe_ix ix_tup (pv 1) pe_int (fun _ _ => rfl)) (pa_cons (pv 2) pa_nil))))), ?_⟩
    refine s_retN (ds := [sightD r.2]) (r_lc1 (d0 := outD r) (d := sightD r.2) (rd_var0 rfl p1) (fun x H' e dx => ?_) (sight_flat _)) q
    obtain ⟨u1, u2, hg, h1, h2⟩ := gv_two (K := K) (i := 1) (j := 2) (σ0 := [some v1, none, none]) dx
    refine ⟨_, hg, rfl, ?_⟩
    have fp : flat (.tuple (r.2.map Pc.D)) = true := by rw [flat_tup]; exact pcs_flat _
    exact rd_tup (ds := [.tuple (r.2.map Pc.D), frD 1]) F0.ok (ra_cons (ka := 0) (kb := 0) F0.ok (rd_ix (ka := 0) (kb := 0) F0.ok (rd_var F0.ok (n := 0) F0.g rfl h1 (res_flat r)) rv_c 1 rfl rfl (res_flat r)) (ra_cons (ka := 0) (kb := 0) F0.ok (rd_var F0.ok (n := 0) F0.g rfl h2 rfl) ra_nil) fp) (sight_flat _)
def keptD (r : R2) : PyData := .tuple [.tuple (r.1.map enc), .tuple (r.2.map Pc.D), frD 1]
theorem kept_flat (r : R2) : flat (keptD r) = true := by
  rw [keptD, flat_tup, flats_cons, flats_cons, flats_cons, flat_tup, flat_tup]
  exact ⟨maps_flat _, pcs_flat _, rfl, rfl⟩
def chD (b : Bool) : PyData := frD (if b then 1 else 0)
def spKG (K : PySem.W.Frag) : Sp := spL K fun ds es => ∃ (b : Bool) (r r' : R2), Few 15 r ∧ Few 15 r' ∧ ds = [chD b, .list [keptD r], oneD r'] ∧ es = [outD (if b then r else r')]
theorem ok_kg (F : Fun K "kept_or_gone" "kept_or_gone" (K18.topS 40) f fd) (cM : C8.Cal P w K mg base 1 "mixed" (spMixed K) []) (cT : C8.Cal P w K mg base 2 "times" (spOpF K (· * ·)) []) (cN : C8.Cal P w K mg base 2 "minus" (spOpF K (· - ·)) []) (W1 : Wr K mg "ONE" (frD 1)) (W0 : Wr K mg "ZERO" (frD 0)) :
    FnOk P w K mg base CX0 3 f fd ["chance", "kept", "gone"] (spKG K) := by
  refine F.ok scKG (fun vs H Q E h => ?_) (fun cdv A outer s H vs Q E hr h => ?_)
  · obtain ⟨ds, es, hd, ⟨b, r, r', _, _, rfl, _⟩, _⟩ := h
    exact dps_len hd
  · obtain ⟨ds, es, hd, ⟨b, r, r', hf, hf', rfl, rfl⟩, q⟩ := h
    obtain ⟨v1, vs, rfl, p1, hd⟩ := dps_uncons hd
    obtain ⟨v2, vs, rfl, p2, hd⟩ := dps_uncons hd
    obtain ⟨v3, vs, rfl, p3, hd⟩ := dps_uncons hd
    obtain rfl := dps_none hd
    obtain ⟨a1, g1, w1⟩ := W1
    obtain ⟨a0, g0, w0⟩ := W0
    refine ⟨_, pss_cons (ps_set (i := 3) scKG.nd rfl (.inl rfl) (pe_lst pa_nil))
      (pss_cons (ps_if (pt_cmpR (op_neD hr.units) (pv 0) (pe_glob (v := .ref a0) (by rfl) g0 rfl) (nomark _)) (pss_one (ps_set (i := 3) scKG.nd rfl (.inl rfl) (pe_op op_cat (pv 3) (pe_lc (own := [("trees", 4), ("pieces", 5), ("part", 6)]) (g := gTup K 3 (gCons (gName 4) (gCons (gName 5) (gCons (gName 6) gNil)))) (by rfl) scKG.nd (pi_list (pv 1)) (blkOk_by (N := nKG) (sc := defScope (K18.topS 40)) (by decide +kernel))
          (fun _ _ _ _ _ => pg_tup (by rfl) (pgs_cons (pg_name (i := 4) scKG.nd rfl (.inl rfl)) (pgs_cons (pg_name (i := 5) scKG.nd rfl (.inl rfl)) (pgs_cons (pg_name (i := 6) scKG.nd rfl (.inl rfl)) pgs_nil)))) (fun _ _ _ _ _ => pts_nil)
          (fun _ _ _ _ _ => pe_tup (pa_cons (pe_tup (pa_cons (pv 4) (pa_cons (pv 5) pa_nil))) (pa_cons (C8.pe_c cT hr (by decide) (by rfl) (pa_cons (pv 0) (pa_cons (pv 6) pa_nil))) pa_nil))))))) pss_nil)
      (pss_cons (ps_if (pt_cmpR (op_neD hr.units) (pv 0) (pe_glob (v := .ref a1) (by rfl) g1 rfl) (nomark _)) (pss_one (ps_set (i := 3) scKG.nd rfl (.inl rfl) (pe_op op_cat (pv 3) (pe_lc (own := [("held", 7), ("part", 6)]) (g := gTup K 2 (gCons (gName 7) (gCons (gName 6) gNil))) (by rfl) scKG.nd (pi_list (pv 2)) (blkOk_by (N := nKG) (sc := defScope (K18.topS 40)) (by decide +kernel))
          (fun _ _ _ _ _ => pg_tup (by rfl) (pgs_cons (pg_name (i := 7) scKG.nd rfl (.inl rfl)) (pgs_cons (pg_name (i := 6) scKG.nd rfl (.inl rfl)) pgs_nil))) (fun _ _ _ _ _ => pts_nil)
          (fun _ _ _ _ _ => pe_tup (pa_cons (pv 7) (pa_cons (C8.pe_c cT hr (by decide) (by rfl) (pa_cons (C8.pe_c cN hr (by decide) (by rfl) (pa_cons (pe_glob (v := .ref a1) (by rfl) g1 rfl) (pa_cons (pv 0) pa_nil))) (pa_cons (pv 6) pa_nil))) pa_nil))))))) pss_nil)
      (pss_one (ps_ret (C8.pe_c cM hr (by decide) (by rfl) (pa_cons (pv 3) pa_nil)))))), ?_⟩
    have e10 : PyData.eqv (frD 1) (frD 0) = false := by decide +kernel
    have e11 : PyData.eqv (frD 1) (frD 1) = true := by decide +kernel
    have e00 : PyData.eqv (frD 0) (frD 0) = true := by decide +kernel
    have e01 : PyData.eqv (frD 0) (frD 1) = false := by decide +kernel
    have s0 : SeqAt.shaped (frD 0) = true := by decide +kernel
    have s1 : SeqAt.shaped (frD 1) = true := by decide +kernel
    have ft : ∀ r : R2, flat (.tuple (r.1.map enc)) = true := fun r => by rw [flat_tup]; exact maps_flat _
    have fp : ∀ r : R2, flat (.tuple (r.2.map Pc.D)) = true := fun r => by rw [flat_tup]; exact pcs_flat _
    refine q_asgR (F := F0) (n := 0) (k := 0) (P := IsL F0 K []) (rl_lst F0.ok ra_nil) F0.g (Nat.le_refl _) fun v4 H1 e1 _ p4 => ?_
    replace e1 := F0.ex e1
    have q1 := dp_ex e1 _ _ p1
    have q2 := dp_ex e1 _ _ p2
    have q3 := dp_ex e1 _ _ p3
    cases b with
    | true =>
      change Dp K H1 v1 (frD 1) at q1
      refine q_whenR (F := F0) (n := 0) (k := 0 + 0) (b := true) (rt_is (rt_B (rb_ne (σ := [some v1, some v2, some v3, some v4, none, none, none, none]) F0.ok (rd_var F0.ok (n := 0) F0.g rfl q1 rfl) (rd_wr w0) s1 s0)) (by rw [e10]; rfl)) F0.g (Nat.le_refl _) (fun _ H2 e2 _ => ?_) fun z => by cases z
      replace e2 := F0.ex e2
      refine s_asgR (F := F0) (n := 0) (rn_cat (K := K) (σ := [some v1, some v2, some v3, some v4, none, none, none, none]) (H := H2) (ds := []) (es := [outD r]) (rl_var F0.ok (n := 0) F0.g rfl (mono_l F0.ok rfl 0 _ _ _ F0.g (Kx.ex e2) p4) rfl) (rl_ofN (r_lc1 (d0 := keptD r) (d := outD r) (rd_var0 rfl (dp_ex e2 _ _ q2)) (fun x H' e dx => ?_) (out_flat _))) rfl (by show 1 ≤ 100000; decide)) F0.g (Nat.le_refl _) fun v5 H3 e3 _ p5 => ?_
      · obtain ⟨u1, u2, u3, hg, h1, h2, h3⟩ := gv_three (K := K) (i := 4) (j := 5) (l := 6) (σ0 := [some v1, some v2, some v3, some v4, none, none, none, none]) dx
        refine ⟨_, hg, rfl, ?_⟩
        exact rd_tup (ds := [resD r, frD 1]) F0.ok (ra_cons (ka := 0) (kb := 0) F0.ok (rd_tup (ds := [.tuple (r.1.map enc), .tuple (r.2.map Pc.D)]) F0.ok (ra_cons (ka := 0) (kb := 0) F0.ok (rd_var F0.ok (n := 0) F0.g rfl h1 (ft r)) (ra_cons (ka := 0) (kb := 0) F0.ok (rd_var F0.ok (n := 0) F0.g rfl h2 (fp r)) ra_nil (fp r)) (ft r)) (by rw [flats_cons, flats_cons]; exact ⟨ft r, fp r, rfl⟩))
          (ra_cons (ka := 0) (kb := 0) F0.ok (rd_call F0.ok (ra_cons (ka := 0) (kb := 0) (d := frD 1) F0.ok (rd_var F0.ok (n := 0) F0.g rfl (dp_ex (e2.trans e) _ _ q1) rfl) (ra_cons (ka := 0) (kb := 0) (d := frD 1) F0.ok (rd_var F0.ok (n := 0) F0.g rfl h3 rfl) ra_nil)) ⟨1, 1, ⟨1, 1, bd1, bd1, by decide⟩, rfl, (congrArg frD (Rat.mul_one 1)).symm⟩) ra_nil) (res_flat r)) (out_flat r)
      · replace e3 := F0.ex e3
        obtain ⟨B, zs, ev, nB, _, hB, dz⟩ := p5
        subst ev
        refine q_whenR (F := F0) (n := 0) (k := 0 + 0) (b := false) (rt_is (rt_B (rb_ne (σ := [some v1, some v2, some v3, some (.ref B), none, none, none, none]) F0.ok (rd_var F0.ok (n := 0) F0.g rfl (dp_ex (e2.trans e3) _ _ q1) rfl) (rd_wr w1) s1 s1)) (by rw [e11]; rfl)) F0.g (Nat.le_refl _) (fun z => by cases z) fun _ H4 e4 _ => ?_
        replace e4 := F0.ex e4
        exact s_retN (ds := [outD r]) (rn_mixed (u := resD r) (v := frD 1) (rd_var0 rfl (.lst (sq_of (e4 _ _ hB)) (dps_ex e4 _ _ dz))) (res_flat r) rfl (res_depth hf) (by decide +kernel)) fun p xs H' n e => q p xs H' (kx_none F0.ok (n := 0) F0.g (Kx.ex (e1.trans (e2.trans (e3.trans e4)))) n) ((e1.trans (e2.trans (e3.trans e4))).trans e)
    | false =>
      change Dp K H1 v1 (frD 0) at q1
      refine q_whenR (F := F0) (n := 0) (k := 0 + 0) (b := false) (rt_is (rt_B (rb_ne (σ := [some v1, some v2, some v3, some v4, none, none, none, none]) F0.ok (rd_var F0.ok (n := 0) F0.g rfl q1 rfl) (rd_wr w0) s0 s0)) (by rw [e00]; rfl)) F0.g (Nat.le_refl _) (fun z => by cases z) fun _ H2 e2 _ => ?_
      replace e2 := F0.ex e2
      refine q_whenR (F := F0) (n := 0) (k := 0 + 0) (b := true) (rt_is (rt_B (rb_ne (σ := [some v1, some v2, some v3, some v4, none, none, none, none]) F0.ok (rd_var F0.ok (n := 0) F0.g rfl (dp_ex e2 _ _ q1) rfl) (rd_wr w1) s0 s1)) (by rw [e01]; rfl)) F0.g (Nat.le_refl _) (fun _ H3 e3 _ => ?_) fun z => by cases z
      replace e3 := F0.ex e3
      refine s_asgR (F := F0) (n := 0) (rn_cat (K := K) (σ := [some v1, some v2, some v3, some v4, none, none, none, none]) (H := H3) (ds := []) (es := [outD r']) (rl_var F0.ok (n := 0) F0.g rfl (mono_l F0.ok rfl 0 _ _ _ F0.g (Kx.ex (e2.trans e3)) p4) rfl) (rl_ofN (r_lc1 (d0 := outD r') (d := outD r') (rd_var0 rfl (dp_ex (e2.trans e3) _ _ q3)) (fun x H' e dx => ?_) (out_flat _))) rfl (by show 1 ≤ 100000; decide)) F0.g (Nat.le_refl _) fun v5 H4 e4 _ p5 => ?_
      · obtain ⟨u1, u2, hg, h1, h2⟩ := gv_two (K := K) (i := 7) (j := 6) (σ0 := [some v1, some v2, some v3, some v4, none, none, none, none]) dx
        refine ⟨_, hg, rfl, ?_⟩
        exact rd_tup (ds := [resD r', frD 1]) F0.ok (ra_cons (ka := 0) (kb := 0) F0.ok (rd_var F0.ok (n := 0) F0.g rfl h1 (res_flat r'))
          (ra_cons (ka := 0) (kb := 0) F0.ok (rd_call F0.ok (ra_cons (ka := 0) (kb := 0) (d := frD 1) F0.ok (rd_call F0.ok (ra_cons (ka := 0) (kb := 0) (d := frD 1) F0.ok (rd_wr w1) (ra_cons (ka := 0) (kb := 0) (d := frD 0) F0.ok (rd_var F0.ok (n := 0) F0.g rfl (dp_ex (e2.trans (e3.trans e)) _ _ q1) rfl) ra_nil)) ⟨1, 0, ⟨1, 1, bd1, bd0, by decide⟩, rfl, congrArg frD (by decide +kernel)⟩) (ra_cons (ka := 0) (kb := 0) (d := frD 1) F0.ok (rd_var F0.ok (n := 0) F0.g rfl h2 rfl) ra_nil)) ⟨1, 1, ⟨1, 1, bd1, bd1, by decide⟩, rfl, (congrArg frD (Rat.mul_one 1)).symm⟩) ra_nil) (res_flat r')) (out_flat r')
      · replace e4 := F0.ex e4
        obtain ⟨B, zs, ev, nB, _, hB, dz⟩ := p5
        subst ev
        exact s_retN (ds := [outD r']) (rn_mixed (u := resD r') (v := frD 1) (rd_var0 rfl (.lst (sq_of hB) dz)) (res_flat r') rfl (res_depth hf') (by decide +kernel)) fun p xs H' n e => q p xs H' (kx_none F0.ok (n := 0) F0.g (Kx.ex (e1.trans (e2.trans (e3.trans e4)))) n) ((e1.trans (e2.trans (e3.trans e4))).trans e)
end
end K17
/-! ### a tree's outcome, its spans kept or not (flags in the order of the spans) -/
namespace K17
open PySem PySem.Spec PyProof.Rows L2 Evl Fx Fr Dt Tr K18 So
def nodeR (s : Str) (m : Int) (b : Bool) (j : R2) : R2 := if b then ([.mk s m j.1], j.2) else ([], withP "lost" j.1 j.2)
mutual
def resT : T → List Bool → R2
  | .mk s m cs, bs => nodeR s m (bs.headD false) (joinR (resL cs bs.tail))
def resL : List T → List Bool → List R2
  | [], _ => []
  | t :: ts, bs => resT t (bs.take (size t)) :: resL ts (bs.drop (size t))
end
theorem resT_eq (t : T) (bs : List Bool) : resT t bs = nodeR t.name t.mark (bs.headD false) (joinR (resL t.calls bs.tail)) := by cases t; rw [resT]; rfl
theorem resL_app : ∀ (us ts : List T) (bs : List Bool), resL (us ++ ts) bs = resL us bs ++ resL ts (bs.drop (sizes us))
  | [], ts, bs => by rw [List.nil_append, resL, sizes, List.drop_zero, List.nil_append]
  | u :: us, ts, bs => by rw [List.cons_append, resL, resL, resL_app us ts, sizes, List.drop_drop, List.cons_append]
theorem resL_take : ∀ (ts : List T) (bs : List Bool) (n : Nat), sizes ts ≤ n → resL ts (bs.take n) = resL ts bs
  | [], _, _, _ => by rw [resL, resL]
  | t :: ts, bs, n, h => by
    rw [sizes] at h
    rw [resL, resL, List.take_take, Nat.min_eq_left (by omega), List.drop_take, resL_take ts _ _ (by omega)]
theorem resL_len : ∀ (ts : List T) (bs : List Bool), (resL ts bs).length = ts.length
  | [], _ => by rw [resL]; rfl
  | t :: ts, bs => by rw [resL, List.length_cons, List.length_cons, resL_len ts]
/-- the trees that are left behind so many spans -/
def stepF : List T → List T
  | [] => []
  | t :: us => t.calls ++ us
def roots (t : T) : Nat → List T
  | 0 => [t]
  | k + 1 => stepF (roots t k)
theorem roots_drop (t : T) : ∀ k, (subs t).drop k = subsA (roots t k)
  | 0 => by simp [roots, subsA]
  | k + 1 => by
    have h := roots_drop t k
    rw [← List.drop_drop, h, roots]
    cases roots t k with
    | nil => rw [stepF, subsA]; rfl
    | cons u us => rw [stepF, subsA, subs_eq, subsA_app]; rfl
theorem roots_at {t : T} {k : Nat} (hk : k < size t) : ∃ s us, (subs t)[k]? = some s ∧ roots t k = s :: us ∧ roots t (k + 1) = s.calls ++ us := by
  have h := roots_drop t k
  have hl : k < (subs t).length := by rw [subs_len]; exact hk
  cases hr : roots t k with
  | nil =>
    rw [hr, subsA] at h
    have := congrArg List.length h
    rw [List.length_drop] at this
    simp at this
    omega
  | cons s us =>
    refine ⟨s, us, ?_, rfl, by rw [roots, hr, stepF]⟩
    rw [hr, subsA, subs_eq s, List.cons_append, List.drop_eq_getElem_cons hl] at h
    rw [List.getElem?_eq_getElem hl]
    rw [(List.cons.inj h).1]
theorem roots_size (t : T) (k : Nat) : sizes (roots t k) = size t - k := by
  rw [← subsA_len, ← roots_drop, List.length_drop, subs_len]
/-- one span more -/
theorem res_step {s : T} {us : List T} {b : Bool} {bs : List Bool} : resL (s :: us) (b :: bs) = nodeR s.name s.mark b (joinR (resL s.calls bs)) :: resL us (bs.drop (sizes s.calls)) := by
  rw [resL, resT_eq, size_eq, List.take_succ_cons, List.drop_succ_cons, List.headD_cons, List.tail_cons, resL_take _ _ _ (Nat.le_refl _)]
/-- so many spans at the most, no piece without one -/
def Fw (n : Nat) (r : R2) : Prop := sizes r.1 + psizes r.2 ≤ n ∧ ∀ p ∈ r.2, 1 ≤ p.size
theorem len_psizes : ∀ {ps : List Pc}, (∀ p ∈ ps, 1 ≤ p.size) → ps.length ≤ psizes ps
  | [], _ => Nat.zero_le _
  | p :: ps, h => by
    have h1 := h p (List.mem_cons_self ..)
    have h2 := len_psizes fun q hq => h q (List.mem_cons_of_mem _ hq)
    rw [psizes_cons, List.length_cons]
    omega
theorem Fw.few {n : Nat} {r : R2} (h : Fw n r) : Few n r := by
  have h1 := len_sizes r.1
  have h2 := len_psizes h.2
  have h3 := h.1
  exact ⟨h3, by omega, by omega⟩
theorem Fw.up {n m : Nat} {r : R2} (h : Fw n r) (hm : n ≤ m) : Fw m r := ⟨by have := h.1; omega, h.2⟩
theorem Fw.join {n : Nat} {rs : List R2} (h : Fw n (catR rs)) : Fw n (joinR rs) :=
  ⟨by show sizes (sortT _) + psizes (sortP _) ≤ n; rw [sizes_perm (sort_perm _), psizes_perm (sortP_mem _)]; exact h.1, fun p hp => h.2 p ((sortP_mem _).mem_iff.mp hp)⟩
theorem withP_ne {wd : Str} {ts : List T} {ps : List Pc} (h : ∀ p ∈ ps, 1 ≤ p.size) : ∀ p ∈ withP wd ts ps, 1 ≤ p.size := by
  unfold withP
  cases ts with
  | nil => exact h
  | cons t ts =>
    intro p hp
    rcases List.mem_append.mp ((sortP_mem _).mem_iff.mp hp) with hp | hp
    · exact h p hp
    · rw [List.mem_singleton.mp hp]
      have := size_eq t
      unfold pieceOf
      split
      · show 1 ≤ Tr.size t
        omega
      · show 1 ≤ sizes (t :: ts)
        rw [sizes]
        omega
theorem Fw.node {s : Str} {m : Int} {b : Bool} {j : R2} {n : Nat} (h : Fw n j) : Fw (n + 1) (nodeR s m b j) := by
  obtain ⟨h1, h2⟩ := h
  unfold nodeR
  cases b with
  | true =>
    refine ⟨?_, h2⟩
    show sizes [T.mk s m j.1] + psizes j.2 ≤ n + 1
    rw [sizes, sizes, size]
    omega
  | false =>
    have := withP_size "lost" j.1 j.2
    refine ⟨?_, withP_ne h2⟩
    show sizes [] + psizes (withP "lost" j.1 j.2) ≤ n + 1
    rw [show sizes [] = 0 from by rw [sizes]]
    omega
mutual
theorem resT_few : ∀ (t : T) (bs : List Bool), Fw (size t) (resT t bs)
  | .mk s m cs, bs => by
    rw [resT, size]
    exact (resL_few cs bs.tail).join.node
theorem resL_few : ∀ (ts : List T) (bs : List Bool), Fw (sizes ts) (catR (resL ts bs))
  | [], bs => by
    rw [resL]
    exact ⟨by show sizes [] + psizes [] ≤ sizes []; rw [sizes]; exact Nat.le_refl 0, fun p hp => by cases hp⟩
  | t :: ts, bs => by
    have h1 := resT_few t (bs.take (size t))
    have h2 := resL_few ts (bs.drop (size t))
    rw [resL, sizes]
    refine ⟨?_, fun p hp => ?_⟩
    · have a := h1.1
      have b := h2.1
      simp only [catR, List.flatMap_cons, sizes_app, psizes_app] at a b ⊢
      omega
    · simp only [catR, List.flatMap_cons, List.mem_append] at hp
      exact hp.elim (h1.2 p) (h2.2 p)
end
end K17
namespace K17
open PySem PySem.Spec PyProof.Rows L2 Evl Fx Fr Dt Tr K18 So
def nTO : List Str := ["tree", "chances", "done", "trees", "k", "service", "mark", "calls", "parts", "gone", "kept", "_", "part", "inner", "pieces", "chance"]
theorem scTO : FnScope nTO ["tree", "chances"] (defScope (K18.topS 39)) := ⟨rfl, rfl, rfl, by decide +kernel, rfl, by decide +kernel, by decide +kernel⟩
section
variable {P : Program} {w : World} {K : PySem.W.Frag} {mg : Str → Option Value} {base : Heap} {f f2 f3 : Addr} {fd fd2 fd3 : FuncData} {te tl ta tb : TE} {σ σ2 : L2.St} {H : Hp} {k ka kb n : Nat} {d d0 : PyData} {ds es : List PyData} {g : TG} {vs : List Nat}
theorem del_ex {A : Addr} {H H' : Hp} (e : ∀ b o, b ≠ A → H b = some o → H' b = some o) : Ex (del H A) (del H' A) := fun b o h => by
  have hb : b ≠ A := fun z => by rw [z, del_same] at h; cases h
  rw [del_ne hb] at h ⊢
  exact e b o hb h
theorem ex_del {A : Addr} {H : Hp} : Ex (del H A) H := fun b o h => by
  have hb : b ≠ A := fun z => by rw [z, del_same] at h; cases h
  rwa [del_ne hb] at h
theorem kt_del {A : Addr} {H : Hp} {xs : List V} (h : H A = some (.lst xs)) : KT K H (del H A) := fun a zs q => by
  have ne : ∀ {o : HO}, (∀ ys, o ≠ .lst ys) → H a = some o → a ≠ A := fun ho e z => by
    rw [z, h] at e
    exact ho xs (Option.some.inj e).symm
  rcases q with (q | ⟨u, q⟩) | q
  · exact .inl (.inl (by rw [del_ne (ne (fun ys z => by cases z) q)]; exact q))
  · exact .inl (.inr ⟨u, by rw [del_ne (ne (fun ys z => by cases z) q)]; exact q⟩)
  · exact .inr q
theorem del_upd {A : Addr} {H : Hp} {o : HO} : del (upd H A o) A = del H A := by
  funext b
  by_cases hb : b = A
  · rw [hb, del_same, del_same]
  · rw [del_ne hb, del_ne hb, upd_ne hb]
/-- for over range(m - 1, -1, -1) -/
theorem q_forDown {m j : Nat} {ta : TA} {tb tz : TS} {D : Ends} (h : EvRA F0 ta σ H 0 (fun vs _ => vs = [.int ((m : Int) - 1), .int (-1), .int (-1)])) (hm : m ≤ 1000) (Pv : Nat → L2.St → Hp → Prop) (h0 : ∀ H1, Ex H H1 → Pv 0 σ H1)
    (hs : ∀ i σ' H', i < m → Pv i σ' H' → tb { D with nx := Pv (i + 1), ct := Pv (i + 1), bk := tz D } (σ'.set j (some (.int ((m - 1 - i : Nat) : Int)))) H') (hd : ∀ σ' H', Pv m σ' H' → tz D σ' H') : tSeq (tFor (iRng3 ta) (gName j) tb) tz D σ H :=
  h 0 H (Nat.le_refl _) F0.g Kx.refl _ fun vs H1 e1 _ ev => by
    subst ev
    have hn : ((m : Int) - 1 - -1).toNat = m := by omega
    refine ⟨(m : Int) - 1, -1, -1, m, rfl, ?_, ?_⟩
    · have := RgC.neg (i := (m : Int) - 1) (j := -1) (by omega) (by omega) (by omega) (by omega)
      rwa [hn] at this
    · refine for_rangeC (lo := (m : Int) - 1) (c := -1) (n := m) Pv (h0 H1 (F0.ex e1)) (fun i σ' H' hi p => ?_) hd
      have e : (m : Int) - 1 + (i : Int) * -1 = ((m - 1 - i : Nat) : Int) := by omega
      show tb { D with nx := Pv (i + 1), ct := Pv (i + 1), bk := tz D } (σ'.set j (some (.int ((m : Int) - 1 + (i : Int) * -1)))) H'
      rw [e]
      exact hs i σ' H' hi p
/-- [xs.pop() for _ in t]: so many of the end, the last first -/
theorem lc_pops {i j l : Nat} {vs : List Nat} {A c : Addr} {cs xs ys : List V} {Q : VK} (hc : σ[i]? = some (some (.ref c))) (hT : SqT K H c cs) (hA : H A = some (.lst (xs ++ ys.reverse))) (hl : cs.length = ys.length)
    (hv : ∀ x : V, ((wipe σ vs).set j (some x))[l]? = some (some (.ref A))) (hw : ∀ x : V, wipe ((wipe σ vs).set j (some x)) vs = wipe σ vs) (hz : ys.length ≤ 1000)
    (q : ∀ D H', H D = none → (∀ b, b ≠ A → b ≠ D → H' b = H b) → H' A = some (.lst xs) → H' D = some (.lst ys) → Q (.ref D) H') : tLc (iTup K (tVar i)) (gName j) tYes (tBM0 K "list" rPop (tVar l)) vs σ H Q := by
  refine ⟨.ref c, hc, c, rfl, ⟨cs, hT⟩, fun D hD => ?_⟩
  have nAD : A ≠ D := ne_addr hD hA
  refine lc_tup (xs := cs) (fun n H' => (∀ b, b ≠ A → b ≠ D → H' b = H b) ∧ H' A = some (.lst (xs ++ (ys.drop n).reverse)) ∧ H' D = some (.lst (ys.take n))) ⟨fun b h1 h2 => upd_ne h2, by rw [upd_ne nAD]; exact hA, upd_same⟩ (fun n H' _ ⟨p1, p2, p3⟩ => ?_) (fun n x H' hx ⟨p1, p2, p3⟩ => ?_) fun H' ⟨p1, p2, p3⟩ => ?_
  · rcases hT with (hT | ⟨u, hT⟩) | hT
    · have n1 : c ≠ A := fun z => by rw [z, hA] at hT; cases hT
      exact .inl (.inl (by rw [p1 c n1 (ne_addr hD hT)]; exact hT))
    · have n1 : c ≠ A := fun z => by rw [z, hA] at hT; cases hT
      exact .inl (.inr ⟨u, by rw [p1 c n1 (ne_addr hD hT)]; exact hT⟩)
    · exact .inr hT
  · have hn : n < ys.length := by
      have := (List.getElem?_eq_some_iff.mp hx).1
      omega
    have hd : (ys.drop n).reverse = (ys.drop (n + 1)).reverse ++ [ys[n]] := by rw [List.drop_eq_getElem_cons hn, List.reverse_cons]
    rw [hd, ← List.append_assoc] at p2
    refine ⟨hw x, .ref A, hv x, .inl ⟨rfl, _, sq_of p2⟩, A, _, ys[n], rfl, rfl, p2, by simp, ?_⟩
    rw [List.dropLast_concat]
    refine ⟨ys.take n, by rw [upd_ne nAD.symm]; exact p3, sz_lt (by rw [List.length_take]; omega), fun b h1 h2 => ?_, ?_, ?_⟩
    · rw [upd_ne h2, upd_ne h1]
      exact p1 b h1 h2
    · rw [upd_ne nAD]
      exact upd_same
    · rw [upd_same, List.take_add_one, List.getElem?_eq_getElem hn]
      rfl
  · rw [hl, List.drop_length, List.reverse_nil, List.append_nil] at p2
    rw [hl, List.take_length] at p3
    exact q D H' hD p1 p2 p3
/-- outcomes of a caller that is kept or not -/
def twoD (r : R2) : PyData := .tuple [oneD r, oneD r]
def flagD (b : Bool) : PyData := .tuple [chD b, chD b]
theorem two_flat : True := trivial
theorem r_lcPick {i j : Nat} {vs : List Nat} {rs : List R2} {c : Int} {v : V} (hc : c = 0 ∨ c = 1) (hv : σ[i]? = some (some v)) (hd : Dp K H v (.list (rs.map twoD))) (hj : ∀ x : V, ((wipe σ vs).set j (some x))[j]? = some (some x)) (hw : ∀ x : V, wipe ((wipe σ vs).set j (some x)) vs = wipe σ vs) (hz : rs.length ≤ 1000) :
    EvR F0 (tLc (iList K (tVar i)) (gName j) tYes (tOp (rIxT K) (tVar j) (tC (.int c))) vs) σ H 0 (IsD K (.list (rs.map oneD))) := fun n H1 hn g e Q q => by
  replace e := F0.ex e
  replace hd := dp_ex e _ _ hd
  cases hd with
  | @lst a xs _ ha hx =>
  have lx := dps_len hx
  rw [List.length_map] at lx
  refine ⟨.ref a, hv, a, rfl, ⟨xs, ha⟩, fun D hD => ?_⟩
  have e0 := Ex.new (o := HO.lst []) hD
  refine lc_list (xs := xs) (fun n H' => Ex H1 H' ∧ ∃ us, H' D = some (.lst us) ∧ DpAll K H1 us ((rs.take n).map oneD)) ⟨e0, [], upd_same, by rw [List.take_zero]; exact .nil⟩ (fun n H' _ p => ex_l p.1 ha) (fun n x H' hxn ⟨p, us, hDD, du⟩ => ?_) fun H' ⟨p, us, hDD, du⟩ => ?_
  · have hm : n < rs.length := by
      have := (List.getElem?_eq_some_iff.mp hxn).1
      omega
    have dx : Dp K H1 x (twoD rs[n]) := by
      obtain ⟨u', hu, du'⟩ := dps_get hx (show (rs.map twoD)[n]? = some (twoD rs[n]) by rw [List.getElem?_map, List.getElem?_eq_getElem hm]; rfl)
      rw [hxn] at hu
      cases hu
      exact du'
    obtain ⟨b, u1, u2, rfl, hb, h1, h2⟩ := dp_two dx
    have lu := dps_len du
    have key : ∀ u, Dp K H1 u (oneD rs[n]) → ∃ acc, H' D = some (.lst acc) ∧ acc.length < sizeLine ∧ Ex H1 (upd H' D (.lst (acc ++ [u]))) ∧ ∃ us, upd H' D (.lst (acc ++ [u])) D = some (.lst us) ∧ DpAll K H1 us ((rs.take (n + 1)).map oneD) := fun u hu => by
      refine ⟨us, hDD, sz_lt (by rw [lu, List.length_map, List.length_take]; omega), p.mut hD, _, upd_same, ?_⟩
      rw [List.take_add_one, List.getElem?_eq_getElem hm, List.map_append]
      exact dps_app du (.cons hu .nil)
    refine ⟨hw _, .ref b, hj _, b, [u1, u2], c, ?_⟩
    rcases hc with rfl | rfl
    · exact ⟨u1, rfl, rfl, ex_t p hb, rfl, key u1 h1⟩
    · exact ⟨u2, rfl, rfl, ex_t p hb, rfl, key u2 h2⟩
  · rw [lx, List.take_length] at du
    exact q (.ref D) H' (Kx.ex p) g (.lst (sq_of hDD) (dps_ex p _ _ du))
theorem r_lcTwo {j : Nat} {vs : List Nat} {b : Bool} {r : R2} {A : Addr} {zs : List V} (hT : EvR F0 tl σ H 0 (IsD K (flagD b))) (hte : ∀ x H', Ex H H' → Dp K H' x (chD b) → EvR F0 te ((wipe σ vs).set j (some x)) H' 0 (IsN H' F0 K [outD r])) (hA : H A = some (.lst zs)) (hw : ∀ x : V, wipe ((wipe σ vs).set j (some x)) vs = wipe σ vs) :
    EvR F0 (tLc (iTup K tl) (gName j) tYes te vs) σ H 0 (fun v H' => ∃ D us, v = .ref D ∧ H' D = some (.lst us) ∧ DpAll K (del H' A) us [oneD r, oneD r]) := fun n H1 hn g e Q q => hT n H1 hn g e _ fun v H2 e2 _ hv => by
  have e12 := (F0.ex e).trans (F0.ex e2)
  obtain ⟨a, c1, c2, rfl, ha, h1, h2⟩ := dp_two hv
  have hA2 := e12 _ _ hA
  refine ⟨a, rfl, ⟨_, ha⟩, fun D hD => ?_⟩
  have nAD : A ≠ D := ne_addr hD hA2
  have e0 := Ex.new (o := HO.lst []) hD
  refine lc_tup (xs := [c1, c2]) (fun n H' => Ex H2 H' ∧ ∃ us, H' D = some (.lst us) ∧ DpAll K (del (del H' D) A) us (List.replicate n (oneD r))) ⟨e0, [], upd_same, .nil⟩ (fun n H' _ p => ex_t p.1 ha) (fun n x H' hxn ⟨p, us, hDD, du⟩ => ?_) fun H' ⟨p, us, hDD, du⟩ => ?_
  · have hx : Dp K H' x (chD b) := by
      match n, hxn with
      | 0, hxn => cases hxn; exact dp_ex p _ _ h1
      | 1, hxn => cases hxn; exact dp_ex p _ _ h2
    have hn2 : n < 2 := (List.getElem?_eq_some_iff.mp hxn).1
    refine ⟨hw x, hte x H' (e12.trans p) hx 0 H' (Nat.le_refl _) F0.g Kx.refl _ fun y H3 e3 _ ⟨l, ws, ey, nl, _, hl, dw⟩ => ?_⟩
    subst ey
    replace e3 := F0.ex e3
    have hD3 := e3 _ _ hDD
    have hA3 := e3 _ _ (p _ _ hA2)
    have lu := dps_len du
    have nlD : l ≠ D := fun z => by rw [z, hDD] at nl; cases nl
    have nlA : l ≠ A := fun z => by rw [z, p _ _ hA2] at nl; cases nl
    have hAd : del H3 D A = some (.lst zs) := by rw [del_ne nAD]; exact hA3
    refine ⟨us, hD3, sz_lt (by rw [lu, List.length_replicate]; omega), (p.trans e3).mut hD, _, upd_same, ?_⟩
    rw [del_upd, List.replicate_succ']
    refine dps_app (dps_ex (del_ex fun b o hb h => ?_) _ _ du) (.cons (.lst (sq_of (by rw [del_ne nlA, del_ne nlD]; exact hl)) ?_) .nil)
    · have hbD : b ≠ D := fun z => by rw [z, del_same] at h; cases h
      rw [del_ne hbD] at h ⊢
      exact e3 _ _ h
    · cases dw with
      | @cons w1 wr _ _ dw1 dwr =>
      cases dwr
      exact .cons (dp_kt (kt_del hAd) _ _ (out_flat r) (dp_kt (kt_del hD3) _ _ (out_flat r) dw1)) .nil
  · refine q (.ref D) H' (Kx.ex ((F0.ex e2).trans p)) g ⟨D, us, rfl, hDD, dps_ex (fun b o h => ?_) _ _ du⟩
    have hbA : b ≠ A := fun z => by rw [z, del_same] at h; cases h
    rw [del_ne hbA] at h ⊢
    exact ex_del _ _ h
theorem q_asgX {i : Nat} {tz : TS} {D : Ends} (h : te σ H fun v H1 => tz D (σ.set i (some v)) H1) : tSeq (tAsg te (gName i)) tz D σ H := h
theorem ra_cons0 {tr : TA} (h : EvR F0 te σ H 0 (IsD K d)) (hr : EvRA F0 tr σ H 0 (fun vs H => DpAll K H vs ds)) : EvRA F0 (tCons te tr) σ H 0 (fun vs H => DpAll K H vs (d :: ds)) :=
  fun n H1 hn g e Q q => h n H1 hn g e _ fun x H2 e2 g2 p => hr n H2 hn F0.g (e.trans e2) _ fun vs H3 e3 g3 p' => q (x :: vs) H3 (e2.trans e3) g3 (.cons (dp_ex (F0.ex e3) _ _ p) p')
theorem rd_ixD {i : Int} (ha : EvR F0 ta σ H 0 (IsD K (.list ds))) (hb : EvR F0 tb σ H 0 (fun x _ => x = .int i)) (j : Nat) (hj : ixN ds.length i = some j) (hd : ds[j]? = some d) : EvR F0 (tOp (rIxL K) ta tb) σ H 0 (IsD K d) := fun n H1 hn g e Q q =>
  ha n H1 hn g e _ fun x H2 e2 g2 p => hb n H2 hn F0.g (e.trans e2) _ fun y H3 e3 g3 ey => by
    subst ey
    cases p with
    | @lst a xs _ ha hx =>
    obtain ⟨u, hu, du⟩ := dps_get hx hd
    exact ⟨a, xs, i, u, rfl, rfl, ex_l (F0.ex e3) ha, by unfold atI; rw [dps_len hx, hj]; exact hu, q u H3 (e2.trans e3) F0.g (dp_ex (F0.ex e3) _ _ du)⟩
theorem rv_neg1 : EvR F0 (tUn (rU fun i => .int (-i)) (tC (.int 1))) σ H 0 (fun x _ => x = .int (-1)) := fun n H1 hn g e Q q => ⟨1, rfl, q _ H1 Kx.refl g rfl⟩
theorem r_tupTwo {A : Addr} {zs : List V} (h : EvR F0 te σ H 0 (fun v H' => ∃ D us, v = .ref D ∧ H' D = some (.lst us) ∧ DpAll K (del H' A) us ds)) (hA : H A = some (.lst zs)) : EvR F0 (tCB (rTupOf K) (tCons te tNil)) σ H 0 (fun v H' => Dp K (del H' A) v (.tuple ds)) := fun n H1 hn g e Q q =>
  h n H1 hn g e _ fun v H2 e2 _ ⟨D, us, ev, hD, du⟩ => ⟨D, us, by rw [ev], .inl ⟨sq_of hD, fun l hl => by
    have hA2 := ((F0.ex e).trans (F0.ex e2)) _ _ hA
    have nl : l ≠ A := fun z => by rw [z, hA2] at hl; cases hl
    have el := Ex.new (o := HO.tup us) hl
    exact q (.ref l) _ (e2.trans (Kx.ex el)) F0.g (.tup (st_of (by rw [del_ne nl]; exact upd_same)) (dps_ex (del_ex fun b o _ h => el _ _ h) _ _ du))⟩⟩
theorem dps_split {as bs : List PyData} {vs : List V} (h : DpAll K H vs (as ++ bs)) : ∃ xs ys, vs = xs ++ ys ∧ DpAll K H xs as ∧ DpAll K H ys bs := by
  have h1 := dps_take (n := as.length) h
  have h2 := dps_drop (n := as.length) h
  rw [List.take_left] at h1
  rw [List.drop_left] at h2
  exact ⟨_, _, (List.take_append_drop _ _).symm, h1, h2⟩
theorem roots_end (t : T) : roots t (size t) = [] := by
  have h := roots_size t (size t)
  have := len_sizes (roots t (size t))
  rw [h, Nat.sub_self] at this
  exact List.length_eq_zero_iff.mp (by omega)
def spTO (K : PySem.W.Frag) : Sp := fun vs H Q _ => ∃ (v1 v2 : V) (t : T) (bs : List Bool), vs = [v1, v2] ∧ size t ≤ 12 ∧ bs.length = size t ∧ Dp K H v1 (enc t) ∧ Dp K H v2 (.list (bs.map flagD)) ∧ ∀ v H', Ex H H' → Dp K H' v (twoD (resT t bs)) → Q v H'
theorem ok_to (F : Fun K "tree_outcomes" "tree_outcomes" (K18.topS 39) f fd) (cS : C8.Cal P w K mg base 1 "subtrees_of" (spSubs K) []) (cC : C8.Cal P w K mg base 2 "closed" (spClosed K) []) (cJ : C8.Cal P w K mg base 4 "joined" (spJoined K) []) (cK : C8.Cal P w K mg base 3 "kept_or_gone" (spKG K) [])
    (m_range : mg "range" = none) (m_len : mg "len" = none) (m_tuple : mg "tuple" = none) : FnOk P w K mg base CX0 5 f fd ["tree", "chances"] (spTO K) := by
  refine F.ok scTO (fun vs H Q E h => ?_) (fun cdv A outer s H vs Q E hr h => ?_)
  · obtain ⟨v1, v2, t, bs, rfl, _⟩ := h
    rfl
  · obtain ⟨v1, v2, t, bs, rfl, hs, hb, p1, p2, q⟩ := h
    refine ⟨_, pss_cons (ps_set (i := 2) scTO.nd rfl (.inr rfl) (pe_lst pa_nil))
      (pss_cons (ps_set (i := 3) scTO.nd rfl (.inl rfl) (C8.pe_c cS hr (by decide) (by rfl) (pa_cons (pv 0) pa_nil)))
      (pss_cons (ps_for PassesOwn.never rfl (pi_range3 (by rfl) m_range (pa_cons (pe_op op_sub (pe_callB (r := rLenS K) call_lenS (by rfl) m_len PySem.boot_len (pa_cons (pv 3) pa_nil)) pe_int) (pa_cons (pe_un un_neg pe_int) (pa_cons (pe_un un_neg pe_int) pa_nil)))) (pg_name (i := 4) scTO.nd rfl (.inl rfl))
        (pss_cons (ps_asg (pe_ix ix_list (pv 3) (pv 4) (fun _ _ => rfl)) (pg_tup (by rfl) (pgs_cons (pg_name (i := 5) scTO.nd rfl (.inr rfl)) (pgs_cons (pg_name (i := 6) scTO.nd rfl (.inr rfl)) (pgs_cons (pg_name (i := 7) scTO.nd rfl (.inl rfl)) pgs_nil)))))
        (pss_cons (ps_setLc (i := 8) (own := [("_", 11)]) (g := gName 11) (by rfl) scTO.nd rfl rfl (sw_true rfl rfl rfl (by kernel_rfl)) (pi_tup (pv 7)) (blkOk_by (own := [("_", 11)]) (N := nTO) (sc := defScope (K18.topS 39)) (by decide +kernel)) (fun _ _ _ _ _ => pg_name (i := 11) scTO.nd rfl (.inl rfl)) (fun _ _ _ _ _ => pts_nil)
            (te := tBM0 K "list" rPop (tVar 2)) (fun _ _ _ _ _ => pe_bm0 PySem.F.plainAttrs_list PySem.F.slot_list_pop PySem.F.type_list_pop mt_pop (pv 2)))
        (pss_cons (ps_set (i := 9) scTO.nd rfl (.inr rfl) (C8.pe_c cC hr (by decide) (by rfl) (pa_cons (C8.pe_c cJ hr (by decide) (by rfl) (pa_cons (pe_lc (own := [("part", 12)]) (g := gName 12) (by rfl) scTO.nd (pi_list (pv 8)) (blkOk_by (own := [("part", 12)]) (N := nTO) (sc := defScope (K18.topS 39)) (by decide +kernel)) (fun _ _ _ _ _ => pg_name (i := 12) scTO.nd rfl (.inl rfl)) (fun _ _ _ _ _ => pts_nil)
            (te := tOp (rIxT K) (tVar 12) (tC (.int 0))) (fun _ _ _ _ _ => pe_ix ix_tup (pv 12) pe_int (fun _ _ => rfl))) pa_nil)) (pa_cons pe_str pa_nil))))
        (pss_cons (ps_set (i := 10) scTO.nd rfl (.inr rfl) (pe_lc (own := [("inner", 13), ("pieces", 14), ("chance", 15)]) (g := gTup K 2 (gCons (gTup K 2 (gCons (gName 13) (gCons (gName 14) gNil))) (gCons (gName 15) gNil))) (by rfl) scTO.nd (pi_list (C8.pe_c cJ hr (by decide) (by rfl) (pa_cons (pe_lc (own := [("part", 12)]) (g := gName 12) (by rfl) scTO.nd (pi_list (pv 8)) (blkOk_by (own := [("part", 12)]) (N := nTO) (sc := defScope (K18.topS 39)) (by decide +kernel)) (fun _ _ _ _ _ => pg_name (i := 12) scTO.nd rfl (.inl rfl)) (fun _ _ _ _ _ => pts_nil)
            (te := tOp (rIxT K) (tVar 12) (tC (.int 1))) (fun _ _ _ _ _ => pe_ix ix_tup (pv 12) pe_int (fun _ _ => rfl))) pa_nil)))
            (blkOk_by (own := [("inner", 13), ("pieces", 14), ("chance", 15)]) (N := nTO) (sc := defScope (K18.topS 39)) (by decide +kernel)) (fun _ _ _ _ _ => pg_tup (by rfl) (pgs_cons (pg_tup (by rfl) (pgs_cons (pg_name (i := 13) scTO.nd rfl (.inl rfl)) (pgs_cons (pg_name (i := 14) scTO.nd rfl (.inl rfl)) pgs_nil))) (pgs_cons (pg_name (i := 15) scTO.nd rfl (.inl rfl)) pgs_nil))) (fun _ _ _ _ _ => pts_nil)
            (fun _ _ _ _ _ => pe_tup (pa_cons (pe_tup (pa_cons (pe_tup (pa_cons (pv 5) (pa_cons (pv 6) (pa_cons (pv 13) pa_nil)))) pa_nil)) (pa_cons (pv 14) (pa_cons (pv 15) pa_nil))))))
        (pss_one (ps_expr (pe_bm PySem.F.plainAttrs_list PySem.F.slot_list_append PySem.F.type_list_append mt_append (pv 2) (pa_cons (pe_callTy (T := "tuple") (r := rTupOf K) call_tupleOf (by rfl) m_tuple (by decide +kernel) (pa_cons (pe_lc (own := [("chance", 15)]) (g := gName 15) (by rfl) scTO.nd (pi_tup (pe_ix ix_list (pv 1) (pv 4) (fun _ _ => rfl))) (blkOk_by (own := [("chance", 15)]) (N := nTO) (sc := defScope (K18.topS 39)) (by decide +kernel)) (fun _ _ _ _ _ => pg_name (i := 15) scTO.nd rfl (.inl rfl)) (fun _ _ _ _ _ => pts_nil)
            (fun _ _ _ _ _ => C8.pe_c cK hr (by decide) (by rfl) (pa_cons (pv 15) (pa_cons (pv 10) (pa_cons (pv 9) pa_nil))))) pa_nil)) pa_nil)))))))))
      (pss_one (ps_ret (pe_ix ix_list (pv 2) pe_int (fun _ _ => rfl)))))), ?_⟩
    refine q_asgL (el_lst ea_nil (by simp)) fun A H1 nA e1 hA => ?_
    replace hA : H1 A = some (.lst []) := hA
    change tSeq (tAsg (tCall (spSubs K) [] C8.E0 (tCons (tVar 0) tNil)) (gName 3)) _ _ [some v1, some v2, some (.ref A), none, none, none, none, none, none, none, none, none, none, none, none, none] H1
    refine q_asgR (F := F0) (n := 0) (k := 0) (rn_call (K := K) (H := H1) (E := C8.E0) (F := F0) (es := (subs t).map enc) F0.ok (ra_one (rd_var0 (K := K) rfl (dp_ex e1 _ _ p1))) ⟨t, by omega, rfl, rfl⟩) F0.g (Nat.le_refl _) fun v3 H2 e2 _ hv3 => ?_
    obtain ⟨TR, zs, rfl, nTR, _, hTR, dzs⟩ := hv3
    replace e2 := F0.ex e2
    have nTA : TR ≠ A := fun z => by rw [z, hA] at nTR; cases nTR
    have hlen : ((subs t).map enc).length = size t := by rw [List.length_map, subs_len]
    refine q_forDown (m := size t) (ra_consV (ka := 0) (kb := 0) (rv_sub (i := (size t : Int)) (j := 1) ((rv_lenL (rl_var F0.ok (n := 0) F0.g rfl ⟨TR, zs, rfl, fun z => z, hTR, dzs⟩ (maps_flat _))).imp fun _ v _ _ _ ev => by rw [ev, hlen]) rv_c) (ra_consV (ka := 0) (kb := 0) rv_neg1 (ra_consV (ka := 0) (kb := 0) rv_neg1 ra_nilV))) (by omega)
      (fun i σ' H' => ∃ u4 u5 u6 u7 u8 u9 u10 ys, σ' = [some v1, some v2, some (.ref A), some (.ref TR), u4, u5, u6, u7, u8, u9, u10, none, none, none, none, none] ∧ Ex H H' ∧ H' TR = some (.lst zs) ∧ DpAll K H' zs ((subs t).map enc) ∧ H' A = some (.lst ys) ∧ DpAll K (del H' A) ys (((resL (roots t (size t - i)) (bs.drop (size t - i))).map twoD).reverse))
      (fun H3 e3 => ⟨none, none, none, none, none, none, none, [], rfl, e1.trans (e2.trans e3), e3 _ _ hTR, dps_ex e3 _ _ dzs, e3 _ _ (e2 _ _ hA), by rw [Nat.sub_zero, roots_end, resL]; exact .nil⟩) (fun i σ' H' hi ⟨u4, u5, u6, u7, u8, u9, u10, ys, es, ee, hT', dz', hA', dy⟩ => ?_) fun σ' H' ⟨u4, u5, u6, u7, u8, u9, u10, ys, es, ee, hT', dz', hA', dy⟩ => ?_
    · subst es
      obtain ⟨k, hk⟩ : ∃ k, k = size t - 1 - i := ⟨_, rfl⟩
      have hk1 : size t - i = k + 1 := by omega
      have hk2 : size t - (i + 1) = k := by omega
      have hks : k < size t := by omega
      rw [hk1] at dy
      rw [← hk]
      obtain ⟨s, us, hsk, r0, r1⟩ := roots_at hks
      have hbk : k < bs.length := by omega
      have hbd : bs.drop k = bs[k] :: bs.drop (k + 1) := List.drop_eq_getElem_cons hbk
      have hbi : bs[k]? = some bs[k] := List.getElem?_eq_getElem hbk
      generalize bs[k] = b at hbd hbi
      rw [r1, resL_app, List.map_append, List.reverse_append] at dy
      obtain ⟨y1, y2, rfl, dy1, dy2⟩ := dps_split dy
      have dC := dps_rev dy2
      rw [List.reverse_reverse] at dC
      have lC := dps_len dC
      rw [List.length_map, resL_len] at lC
      have hsz : sizes s.calls ≤ 11 := by
        have h1 := roots_size t k
        rw [r0, sizes, size_eq] at h1
        omega
      have hcl := len_sizes s.calls
      have fJ : Fw (sizes s.calls) (catR (resL s.calls (bs.drop (k + 1)))) := resL_few _ _
      have lR : (resL s.calls (bs.drop (k + 1))).length = s.calls.length := resL_len _ _
      obtain ⟨rs, hrs⟩ : ∃ rs, rs = resL s.calls (bs.drop (k + 1)) := ⟨_, rfl⟩
      rw [← hrs] at dC fJ lR
      refine q_asgG (F := F0) (n := 0) (k := 0 + 0) (P := IsD K (enc s)) (rd_ixL (ka := 0) (kb := 0) (ds := (subs t).map enc) (i := (k : Int)) F0.ok (rl_var F0.ok (n := 0) F0.g rfl ⟨TR, zs, rfl, fun z => z, hT', dz'⟩ (maps_flat _)) (maps_flat _) (rv_var rfl) k (by rw [hlen]; unfold ixN; rw [if_pos (by omega), if_pos (by omega)]; rfl) (by rw [List.getElem?_map, hsk]; rfl)) F0.g (Nat.le_refl _) fun vs H3 e3 _ ps => ?_
      replace e3 := F0.ex e3
      change Dp K H3 vs (enc s) at ps
      rw [enc_eq] at ps
      obtain ⟨a, x1, x2, x3, rfl, ha, px1, px2, px3⟩ := dp_three ps
      cases px1
      cases px2
      cases px3 with
      | @tup c0 cs _ hc dcs =>
      refine ⟨a, _, rfl, ha, rfl, _, _, rfl, _, _, rfl, _, _, rfl, rfl, ?_⟩
      have lcs := dps_len dcs
      rw [List.length_map] at lcs
      have hA3 := e3 _ _ hA'
      change tSeq (tAsg (tLc (iTup K (tVar 7)) (gName 11) tYes (tBM0 K "list" rPop (tVar 2)) [11]) (gName 8)) _ _ [some v1, some v2, some (.ref A), some (.ref TR), some (.int (k : Int)), some (.str s.name), some (.int s.mark), some (.ref c0), u8, u9, u10, none, none, none, none, none] H3
      refine q_asgX (lc_pops (i := 7) (j := 11) (l := 2) (vs := [11]) (σ := [some v1, some v2, some (.ref A), some (.ref TR), some (.int (k : Int)), some (.str s.name), some (.int s.mark), some (.ref c0), u8, u9, u10, none, none, none, none, none]) (c := c0) (A := A) (cs := cs) (xs := y1) (ys := y2.reverse) rfl hc (by rw [List.reverse_reverse]; exact hA3) (by omega) (fun _ => rfl) (fun _ => rfl) (by omega) fun D2 H4 nD2 same hA4 hD2 => ?_)
      have exD : Ex (del H' A) H4 := fun b o h => by
        have hb : b ≠ A := fun z => by rw [z, del_same] at h; cases h
        rw [del_ne hb] at h
        have h3 := e3 _ _ h
        rw [same b hb fun z => by rw [z, nD2] at h3; cases h3]
        exact h3
      have exDD : Ex (del H' A) (del H4 A) := fun b o h => by
        have hb : b ≠ A := fun z => by rw [z, del_same] at h; cases h
        rw [del_ne hb]
        exact exD b o h
      have ee4 : Ex H H4 := fun b o h => exD b o (by
        have hb : b ≠ A := fun z => by rw [z, nA] at h; cases h
        rw [del_ne hb]
        exact ee _ _ h)
      have hT4 : H4 TR = some (.lst zs) := exD _ _ (by rw [del_ne nTA]; exact hT')
      have dz4 : DpAll K H4 zs ((subs t).map enc) := dps_ex exD _ _ (dps_kt (kt_del hA') _ _ (maps_flat _) dz')
      have dC4 := dps_ex exD _ _ dC
      have dy14 := dps_ex exDD _ _ dy1
      have dP : Dp K H4 (.ref D2) (.list (rs.map twoD)) := .lst (sq_of hD2) dC4
      have few15 : Few 15 (catR rs) := (fJ.up (by omega)).few
      change tSeq (tAsg _ (gName 9)) _ _ [some v1, some v2, some (.ref A), some (.ref TR), some (.int (k : Int)), some (.str s.name), some (.int s.mark), some (.ref c0), some (.ref D2), u9, u10, none, none, none, none, none] H4
      have pick : ∀ {c : Int} {H5 : Hp} {w9 : Option V}, c = 0 ∨ c = 1 → Ex H4 H5 → EvR F0 (tCall (spJoined K) [] C8.E0 (tCons (tLc (iList K (tVar 8)) (gName 12) tYes (tOp (rIxT K) (tVar 12) (tC (.int c))) [12]) tNil)) [some v1, some v2, some (.ref A), some (.ref TR), some (.int (k : Int)), some (.str s.name), some (.int s.mark), some (.ref c0), some (.ref D2), w9, u10, none, none, none, none, none] H5 0 (IsN H5 F0 K [outD (joinR rs)]) := fun {c H5 w9} hc e => rn_call F0.ok (ra_one (r_lcPick (i := 8) (j := 12) hc rfl (dp_ex e _ _ dP) (fun _ => rfl) (fun _ => rfl) (by omega))) ⟨rs, few15, by omega, rfl, rfl⟩
      have fJ15 : Fw 15 (joinR rs) := (fJ.up (by omega)).join
      have fK : Fw 12 (nodeR s.name s.mark true (joinR rs)) := (fJ.join.node (b := true)).up (by omega)
      have fG : Fw 12 (nodeR s.name s.mark false (joinR rs)) := (fJ.join.node (b := false)).up (by omega)
      refine q_asgR (F := F0) (n := 0) (k := 0) (rn_call (K := K) (H := H4) (E := C8.E0) (F := F0) (es := [outD ([], withP "lost" (joinR rs).1 (joinR rs).2)]) F0.ok (ra_cons0 (rd_ofN (pick (.inl rfl) (Ex.refl _))) (ra_one rd_str)) ⟨joinR rs, "lost", .inr rfl, fJ15.few, rfl, rfl⟩) F0.g (Nat.le_refl _) fun v9 H5 e5 _ hv9 => ?_
      replace e5 := F0.ex e5
      obtain ⟨G9, w9, rfl, _, _, hG9, dG9⟩ := hv9
      change tSeq (tAsg _ (gName 10)) _ _ [some v1, some v2, some (.ref A), some (.ref TR), some (.int (k : Int)), some (.str s.name), some (.int s.mark), some (.ref c0), some (.ref D2), some (.ref G9), u10, none, none, none, none, none] H5
      refine q_asgR (F := F0) (n := 0) (k := 0) (r_lc1 (K := K) (H := H5) (d0 := outD (joinR rs)) (d := keptD (nodeR s.name s.mark true (joinR rs))) (rd_ofN (pick (w9 := some (.ref G9)) (.inr rfl) e5)) (fun x H' e dx => ?_) (kept_flat _)) F0.g (Nat.le_refl _) fun v10 H6 e6 _ hv10 => ?_
      · obtain ⟨w1, w2, w3, hg, h1, h2, h3⟩ := gv_out (K := K) (i := 13) (j := 14) (l := 15) (σ0 := [some v1, some v2, some (.ref A), some (.ref TR), some (.int (k : Int)), some (.str s.name), some (.int s.mark), some (.ref c0), some (.ref D2), some (.ref G9), u10, none, none, none, none, none]) dx
        refine ⟨_, hg, rfl, ?_⟩
        have ft : flat (.tuple ((joinR rs).1.map enc)) = true := by rw [flat_tup]; exact maps_flat _
        have fp : flat (.tuple ((joinR rs).2.map Pc.D)) = true := by rw [flat_tup]; exact pcs_flat _
        have fe : flat (enc (.mk s.name s.mark (joinR rs).1)) = true := enc_flat _
        have node : EvR F0 (tTup (tCons (tVar 5) (tCons (tVar 6) (tCons (tVar 13) tNil)))) [some v1, some v2, some (.ref A), some (.ref TR), some (.int (k : Int)), some (.str s.name), some (.int s.mark), some (.ref c0), some (.ref D2), some (.ref G9), u10, none, none, some w1, some w2, some w3] H' 0 (IsD K (enc (.mk s.name s.mark (joinR rs).1))) := by
          rw [enc_eq] at fe ⊢
          exact rd_tup F0.ok (ra_cons0 (rd_ofS (rv_var rfl)) (ra_cons0 (rd_ofI (rv_var rfl)) (ra_one (rd_var0 rfl h1)))) (by rw [flat_tup] at fe; exact fe)
        exact rd_tup (ds := [.tuple [enc (.mk s.name s.mark (joinR rs).1)], .tuple ((joinR rs).2.map Pc.D), frD 1]) F0.ok (ra_cons0 (rd_tup F0.ok (ra_one node) (maps_flat [T.mk s.name s.mark (joinR rs).1])) (ra_cons0 (rd_var0 rfl h2) (ra_one (rd_var0 rfl h3)))) (by
          rw [flats_cons, flats_cons, flats_cons]
          exact ⟨by rw [flat_tup]; exact maps_flat [T.mk s.name s.mark (joinR rs).1], fp, rfl, rfl⟩)
      · replace e6 := F0.ex e6
        obtain ⟨K10, w10, rfl, _, _, hK10, dK10⟩ := hv10
        have e46 := e5.trans e6
        have hA6 := e46 _ _ hA4
        have ch : Dp K H6 v2 (.list (bs.map flagD)) := dp_ex (ee4.trans e46) _ _ p2
        have two : EvR F0 (tCB (rTupOf K) (tCons (tLc (iTup K (tOp (rIxL K) (tVar 1) (tVar 4))) (gName 15) tYes (tCall (spKG K) [] C8.E0 (tCons (tVar 15) (tCons (tVar 10) (tCons (tVar 9) tNil)))) [15]) tNil)) [some v1, some v2, some (.ref A), some (.ref TR), some (.int (k : Int)), some (.str s.name), some (.int s.mark), some (.ref c0), some (.ref D2), some (.ref G9), some (.ref K10), none, none, none, none, none] H6 0 (fun v H' => Dp K (del H' A) v (twoD (nodeR s.name s.mark b (joinR rs)))) :=
          r_tupTwo (zs := y1) (r_lcTwo (zs := y1) (b := b) (rd_ixD (ds := bs.map flagD) (i := (k : Int)) (rd_var0 rfl ch) (rv_var rfl) k (by rw [List.length_map]; unfold ixN; rw [if_pos (by omega), if_pos (by omega)]; rfl) (by rw [List.getElem?_map, hbi]; rfl)) (fun x H' e hx => rn_call F0.ok (ra_cons0 (rd_var0 rfl hx) (ra_cons0 (rd_var0 rfl (.lst (sq_of (e _ _ hK10)) (dps_ex e _ _ dK10))) (ra_one (rd_var0 rfl (.lst (sq_of (e _ _ (e6 _ _ hG9))) (dps_ex (e6.trans e) _ _ dG9)))))) ⟨b, nodeR s.name s.mark true (joinR rs), nodeR s.name s.mark false (joinR rs), (fK.up (by decide)).few, (fG.up (by decide)).few, rfl, by cases b <;> rfl⟩) hA6 (fun _ => rfl)) hA6
        refine q_appR (K := K) (F := F0) (n := 0) (k := 0) (i := 2) (l := A) (xs := y1) rfl hA6 (fun z => z) two F0.g (Nat.le_refl _) ?_ fun v H7 e7 _ hv hA7 => ?_
        · have l1 := dps_len dy1
          rw [List.length_reverse, List.length_map, resL_len] at l1
          have h2 := roots_size t k
          rw [r0, sizes] at h2
          have := len_sizes us
          omega
        · replace e7 := F0.ex e7
          have e47 := e46.trans e7
          refine ⟨some (.int (k : Int)), some (.str s.name), some (.int s.mark), some (.ref c0), some (.ref D2), some (.ref G9), some (.ref K10), y1 ++ [v], rfl, (ee4.trans e47).mut nA, ?_, ?_, upd_same, ?_⟩
          · rw [upd_ne nTA]
            exact e47 _ _ hT4
          · exact dps_kt (kt_lst hA7) _ _ (maps_flat _) (dps_ex e47 _ _ dz4)
          · rw [del_upd, hk2, r0, hbd, res_step, ← hrs, List.map_cons, List.reverse_cons]
            have dd : (bs.drop (k + 1)).drop (sizes s.calls) = (bs.drop (k + 1)).drop (sizes s.calls) := rfl
            exact dps_app (dps_ex (del_ex fun b o _ h => e47 _ _ h) _ _ dy14) (.cons hv .nil)
    · subst es
      rw [Nat.sub_self, roots, resL, resL, List.drop_zero, List.take_of_length_le (Nat.le_of_eq hb), List.map_cons, List.map_nil, List.reverse_singleton] at dy
      cases dy with
      | @cons y yr _ _ dy1 dyr =>
      cases dyr
      exact ⟨.ref A, rfl, A, [y], 0, y, rfl, rfl, sq_of hA', rfl, q y H' ee (dp_ex ex_del _ _ dy1)⟩
end
end K17
/-! ### paths, also of values that are none -/
namespace K17
open PySem PySem.Spec PyProof.Rows L2 Evl Fx Fr Dt Tr K18 So
def tyN : PyData → String
  | .none => "NoneType"
  | .bool _ => "bool"
  | .int _ => "int"
  | .str _ => "str"
  | .list _ => "list"
  | .tuple _ => "tuple"
  | .dict _ => "dict"
def walkB : T → List PyData → Bool
  | _, [] => true
  | t, .int i :: ps => if 0 ≤ i then (match t.calls[i.toNat]? with | some c => walkB c ps | none => false) else false
  | _, _ :: _ => false
def pathB (t : T) : PyData → Bool
  | .tuple ps => walkB t ps
  | _ => false
def nPath : List Str := ["tree", "thing", "here", "place"]
section
variable {P : Program} {w : World} {K : PySem.W.Frag} {mg : Str → Option Value} {base : Heap} {f f2 f3 : Addr} {fd fd2 fd3 : FuncData} {te tl ta tb : TE} {σ σ2 : L2.St} {H : Hp} {k ka kb n : Nat} {d d0 : PyData} {ds es : List PyData} {g : TG} {vs : List Nat}
theorem dp_ty {v : V} (h : Dp K H v d) : TyX K H v (.type (tyN d)) := by
  cases h with
  | non => exact .base .non
  | bl b => exact .base (.bl b)
  | int i => exact .base (.int i)
  | str x => exact .base (.str x)
  | lst h1 h2 =>
    rcases h1 with (h1 | ⟨u, h1⟩) | ⟨o, its, n, h1, h3, _⟩
    · exact .base (.lst h1)
    · exact .base (.frz h1)
    · exact .kList h1 h3
  | tup h1 h2 =>
    rcases h1 with (h1 | ⟨u, h1⟩) | ⟨o, its, n, h1, h3, _⟩
    · exact .base (.tup h1)
    · exact .fTuple h1
    · exact .kTuple h1 h3
def isIntB : PyData → Bool
  | .int _ => true
  | _ => false
def isIB : PyData → Bool
  | .int _ => true
  | .bool _ => true
  | _ => false
def isTupB : PyData → Bool
  | .tuple _ => true
  | _ => false
theorem kit_int (h : ∀ es, d ≠ .dict es) : kitB (tyN d) "int" = some (isIB d) := by
  cases d with
  | dict es => exact absurd rfl (h es)
  | none => exact (by decide +kernel : kitB "NoneType" "int" = some false)
  | bool _ => exact (by decide +kernel : kitB "bool" "int" = some true)
  | int _ => exact (by decide +kernel : kitB "int" "int" = some true)
  | str _ => exact (by decide +kernel : kitB "str" "int" = some false)
  | list _ => exact (by decide +kernel : kitB "list" "int" = some false)
  | tuple _ => exact (by decide +kernel : kitB "tuple" "int" = some false)
theorem kit_bool (h : ∀ es, d ≠ .dict es) : ∃ b, kitB (tyN d) "bool" = some b ∧ (isIB d && !b) = isIntB d := by
  cases d with
  | dict es => exact absurd rfl (h es)
  | none => exact ⟨false, (by decide +kernel : kitB "NoneType" "bool" = some false), rfl⟩
  | bool _ => exact ⟨true, (by decide +kernel : kitB "bool" "bool" = some true), rfl⟩
  | int _ => exact ⟨false, (by decide +kernel : kitB "int" "bool" = some false), rfl⟩
  | str _ => exact ⟨false, (by decide +kernel : kitB "str" "bool" = some false), rfl⟩
  | list _ => exact ⟨false, (by decide +kernel : kitB "list" "bool" = some false), rfl⟩
  | tuple _ => exact ⟨false, (by decide +kernel : kitB "tuple" "bool" = some false), rfl⟩
theorem kit_tup (h : ∀ es, d ≠ .dict es) : kitB (tyN d) "tuple" = some (isTupB d) := by
  cases d with
  | dict es => exact absurd rfl (h es)
  | none => exact (by decide +kernel : kitB "NoneType" "tuple" = some false)
  | bool _ => exact (by decide +kernel : kitB "bool" "tuple" = some false)
  | int _ => exact (by decide +kernel : kitB "int" "tuple" = some false)
  | str _ => exact (by decide +kernel : kitB "str" "tuple" = some false)
  | list _ => exact (by decide +kernel : kitB "list" "tuple" = some false)
  | tuple _ => exact (by decide +kernel : kitB "tuple" "tuple" = some true)
theorem dp_nod {v : V} (h : Dp K H v d) : ∀ es, d ≠ .dict es := fun es z => by
  subst z
  cases h
theorem rv_isTup {i : Nat} {v : V} (h : σ[i]? = some (some v)) (hv : Dp K H v d) : EvR F0 (tCB (rIsi K) (tCons (tVar i) (tCons (tC (.ty "tuple")) tNil))) σ H 0 (fun x _ => x = .bl (isTupB d)) := fun n H1 hn g e Q q =>
  ⟨v, h, v, .ty "tuple", _, _, _, rfl, .ty "tuple", dp_ty (dp_ex (F0.ex e) _ _ hv), kit_ty (kit_tup (dp_nod hv)), q _ H1 Kx.refl g rfl⟩
theorem rv_whole {i : Nat} {v : V} {E : XK} (h : σ[i]? = some (some v)) (hv : Dp K H v d) : EvR F0 (tCall (spWhole K) [] E (tCons (tVar i) tNil)) σ H 0 (fun x _ => x = .bl (isIntB d)) := fun n H1 hn g e Q q => by
  obtain ⟨b, h1, h2⟩ := kit_bool (dp_nod hv)
  exact ⟨v, h, v, tyN d, isIB d, b, rfl, dp_ty (dp_ex (F0.ex e) _ _ hv), kit_int (dp_nod hv), h1, by rw [h2]; exact q _ H1 Kx.refl g rfl⟩
theorem rv_lt {i j : Int} (ha : EvR F0 ta σ H 0 (fun x _ => x = .int i)) (hb : EvR F0 tb σ H 0 (fun x _ => x = .int j)) : EvR F0 (tOp (rI0 fun i j => .bl (decide (i < j))) ta tb) σ H 0 (fun x _ => x = .bl (decide (i < j))) :=
  rv_op (ka := 0) (kb := 0) F0.ok ha hb fun _ => rv_I0 (g := fun i j => .bl (decide (i < j)))
theorem rv_ge {i j : Int} (ha : EvR F0 ta σ H 0 (fun x _ => x = .int i)) (hb : EvR F0 tb σ H 0 (fun x _ => x = .int j)) : EvR F0 (tOp (rI0 fun i j => .bl (decide (j ≤ i))) ta tb) σ H 0 (fun x _ => x = .bl (decide (j ≤ i))) :=
  rv_op (ka := 0) (kb := 0) F0.ok ha hb fun _ => rv_I0 (g := fun i j => .bl (decide (j ≤ i)))
theorem q_forTs {i j : Nat} {a : Addr} {xs : List V} {tb tz : TS} {D : Ends} (hv : σ[i]? = some (some (.ref a))) (Pv : Nat → L2.St → Hp → Prop) (h0 : Pv 0 σ H) (hl : ∀ m σ' H', Pv m σ' H' → SqT K H' a xs)
    (hs : ∀ m x σ' H', xs[m]? = some x → Pv m σ' H' → tb { D with nx := Pv (m + 1), ct := Pv (m + 1), bk := tz D } (σ'.set j (some x)) H') (hd : ∀ σ' H', Pv xs.length σ' H' → tz D σ' H') : tSeq (tFor (iTup K (tVar i)) (gName j) tb) tz D σ H :=
  ⟨.ref a, hv, a, rfl, ⟨xs, hl 0 σ H h0⟩, for_tup Pv h0 (fun m σ' H' _ p => hl m σ' H' p) hs hd⟩
theorem rd_calls {i : Nat} {v : V} {t : T} (h : σ[i]? = some (some v)) (hv : Dp K H v (enc t)) : EvR F0 (tOp (rIxT K) (tVar i) (tC (.int 2))) σ H 0 (IsD K (.tuple (t.calls.map enc))) := by
  have f := enc_flat t
  rw [enc_eq] at hv f
  exact rd_ix (ka := 0) (kb := 0) F0.ok (rd_var0 h hv) rv_c 2 rfl rfl f
def spPath (K : PySem.W.Frag) : Sp := spD K fun ds d' => ∃ (t : T) (d : PyData), size t ≤ 6 ∧ ds = [enc t, d] ∧ d' = .bool (pathB t d)
end
end K17
/-! ### is_ascending, is_kept -/
namespace K17
open PySem PySem.Spec PyProof.Rows L2 Evl Fx Fr Dt Tr K18 So
def intsP (p : List Nat) : List Int := p.map fun (i : Nat) => (i : Int)
def pathLt (p q : List Nat) : Bool := HT.lexLt (intsP p) (intsP q)
/-- each less than the next -/
def ascB (ks : List (List Nat)) : Bool := (List.range (ks.length - 1)).all fun i => pathLt (ks.getD i []) (ks.getD (i + 1) [])
theorem all_range (m : Nat) (b : Nat → Bool) : ((List.range m).map b).all id = (List.range m).all b := by rw [List.all_map]; rfl
section
variable {P : Program} {w : World} {K : PySem.W.Frag} {mg : Str → Option Value} {base : Heap} {f f2 f3 : Addr} {fd fd2 fd3 : FuncData} {te tl ta tb : TE} {σ σ2 : L2.St} {H : Hp} {k ka kb n : Nat} {d d0 : PyData} {ds es : List PyData} {g : TG} {vs : List Nat}
/-- a list of truth values, out of a tuple -/
theorem r_lcB {i j : Nat} {a : Addr} {xs : List V} (b : Nat → Bool) (hv : σ[i]? = some (some (.ref a))) (hT : SqT K H a xs) (hz : xs.length ≤ 1000) (hw : ∀ x : V, wipe ((wipe σ vs).set j (some x)) vs = wipe σ vs)
    (ht : ∀ n x H', xs[n]? = some x → Ex H H' → EvR F0 te ((wipe σ vs).set j (some x)) H' 0 (fun v _ => v = .bl (b n))) : EvR F0 (tLc (iTup K (tVar i)) (gName j) tYes te vs) σ H 0 (fun v H' => ∃ D, v = .ref D ∧ H' D = some (.lst (((List.range xs.length).map b).map V.bl))) := fun n H1 hn g e Q q => by
  replace e := F0.ex e
  have hT1 := ex_t e hT
  refine ⟨.ref a, hv, a, rfl, ⟨xs, hT1⟩, fun D hD => ?_⟩
  have e0 := Ex.new (o := HO.lst []) hD
  refine lc_tup (xs := xs) (fun n H' => Ex H1 H' ∧ H' D = some (.lst (((List.range n).map b).map V.bl))) ⟨e0, upd_same⟩ (fun n H' _ p => ex_t p.1 hT1) (fun n x H' hx ⟨p, hDD⟩ => ?_) fun H' ⟨p, hDD⟩ => q _ H' (Kx.ex p) g ⟨D, rfl, hDD⟩
  have hn' : n < xs.length := (List.getElem?_eq_some_iff.mp hx).1
  refine ⟨hw x, ht n x H' hx (e.trans p) 0 H' (Nat.le_refl _) F0.g Kx.refl _ fun v H2 e2 _ ev => ⟨_, F0.ex e2 _ _ hDD, sz_lt (by rw [List.length_map, List.length_map, List.length_range]; omega), (p.trans (F0.ex e2)).mut hD, ?_⟩⟩
  subst ev
  rw [upd_same, List.range_succ, List.map_append, List.map_append]
  rfl
/-- .. out of range(1, m + 1) -/
theorem r_lcB2 {j m : Nat} {tr : TA} (b : Nat → Bool) (hr : EvRA F0 tr σ H 0 (fun us _ => us = [.int 1, .int (m : Int)])) (hz : m ≤ 1000) (hw : ∀ x : V, wipe ((wipe σ vs).set j (some x)) vs = wipe σ vs)
    (ht : ∀ n H', n < m - 1 → Ex H H' → EvR F0 te ((wipe σ vs).set j (some (.int (1 + (n : Int))))) H' 0 (fun v _ => v = .bl (b n))) : EvR F0 (tLc (iRng2 tr) (gName j) tYes te vs) σ H 0 (fun v H' => ∃ D, v = .ref D ∧ H' D = some (.lst (((List.range (m - 1)).map b).map V.bl))) := fun n H1 hn g e Q q => hr n H1 hn g e _ fun us H2 e2 _ eu => by
  subst eu
  replace e := (F0.ex e).trans (F0.ex e2)
  have hm : ((m : Int) - 1).toNat = m - 1 := by omega
  refine ⟨1, m, rfl, ⟨by omega, by omega, by omega, by omega⟩, fun D hD => ?_⟩
  rw [hm]
  have e0 := Ex.new (o := HO.lst []) hD
  refine lc_range (lo := 1) (n := m - 1) (fun n H' => Ex H2 H' ∧ H' D = some (.lst (((List.range n).map b).map V.bl))) ⟨e0, upd_same⟩ (fun n H' hn' ⟨p, hDD⟩ => ?_) fun H' ⟨p, hDD⟩ => q _ H' (e2.trans (Kx.ex p)) g ⟨D, rfl, hDD⟩
  refine ⟨hw _, ht n H' hn' (e.trans p) 0 H' (Nat.le_refl _) F0.g Kx.refl _ fun v H3 e3 _ ev => ⟨_, F0.ex e3 _ _ hDD, sz_lt (by rw [List.length_map, List.length_map, List.length_range]; omega), (p.trans (F0.ex e3)).mut hD, ?_⟩⟩
  subst ev
  rw [upd_same, List.range_succ, List.map_append, List.map_append]
  rfl
theorem rv_all {bs : List Bool} (h : EvR F0 te σ H 0 (fun v H' => ∃ D, v = .ref D ∧ H' D = some (.lst (bs.map V.bl)))) : EvR F0 (tCB (rAll K) (tCons te tNil)) σ H 0 (fun x _ => x = .bl (bs.all id)) := fun n H1 hn g e Q q =>
  h n H1 hn g e _ fun v H2 e2 _ ⟨D, ev, hD⟩ => ⟨D, bs, by rw [ev], sq_of hD, q _ H2 e2 g rfl⟩
theorem dp_path {v : V} {p : List Nat} (h : Dp K H v (pathD p)) : ∃ a, v = .ref a ∧ SqT K H a ((intsP p).map V.int) := by
  cases h with
  | @tup a xs _ ha hx =>
    refine ⟨a, rfl, ?_⟩
    have : xs = (intsP p).map V.int := by
      have e : (p.map fun (i : Nat) => PyData.int (i : Int)) = (intsP p).map PyData.int := by unfold intsP; rw [List.map_map]; rfl
      rw [e] at hx
      exact dps_ints hx
    rw [← this]
    exact ha
theorem rv_ltP {p q : List Nat} (ha : EvR F0 ta σ H 0 (IsD K (pathD p))) (hb : EvR F0 tb σ H 0 (IsD K (pathD q))) : EvR F0 (tOp (rLtT K) ta tb) σ H 0 (fun x _ => x = .bl (pathLt p q)) := fun n H1 hn g e Q q' =>
  ha n H1 hn g e _ fun x H2 e2 g2 px => hb n H2 hn F0.g (e.trans e2) _ fun y H3 e3 g3 py => by
    obtain ⟨a, rfl, sa⟩ := dp_path (dp_ex (F0.ex e3) _ _ px)
    obtain ⟨b, rfl, sb⟩ := dp_path py
    exact ⟨a, b, _, _, rfl, rfl, sa, sb, q' _ H3 (e2.trans e3) F0.g rfl⟩
def nAsc : List Str := ["things", "k"]
def spAsc (K : PySem.W.Frag) : Sp := spD K fun ds d' => ∃ ks : List (List Nat), ks.length ≤ 100 ∧ ds = [.tuple (ks.map pathD)] ∧ d' = .bool (ascB ks)
end
end K17
/-! ### is_kept -/
namespace K17
open PySem PySem.Spec PyProof.Rows L2 Evl Fx Fr Dt Tr K18 So
def natOf : PyData → Nat
  | .int i => i.toNat
  | _ => 0
def natsOf : PyData → List Nat
  | .tuple ps => ps.map natOf
  | _ => []
def keptB (t : T) : PyData → Bool
  | .tuple ps => ps.all (pathB t) && ascB (ps.map natsOf)
  | _ => false
theorem walk_nats : ∀ {t : T} {ps : List PyData}, walkB t ps = true → ps = (ps.map natOf).map fun (i : Nat) => PyData.int (i : Int)
  | _, [], _ => rfl
  | t, p :: ps, h => by
    cases p with
    | int i =>
      rw [walkB] at h
      split at h
      · rename_i h0
        split at h
        · have := walk_nats h
          rw [List.map_cons, List.map_cons, ← this]
          congr 2
          show i = ((i.toNat : Nat) : Int)
          omega
        · cases h
      · cases h
    | _ => exact absurd h (by simp [walkB])
theorem path_nats {t : T} {d : PyData} (h : pathB t d = true) : d = pathD (natsOf d) := by
  cases d with
  | tuple ps =>
    show PyData.tuple ps = .tuple _
    rw [natsOf]
    exact congrArg PyData.tuple (walk_nats h)
  | _ => exact absurd h (by simp [pathB])
theorem all_nats {t : T} : ∀ {ps : List PyData}, ps.all (pathB t) = true → ps = (ps.map natsOf).map pathD
  | [], _ => rfl
  | p :: ps, h => by
    rw [List.all_cons, Bool.and_eq_true] at h
    rw [List.map_cons, List.map_cons, ← path_nats h.1, ← all_nats h.2]
def nKept : List Str := ["tree", "thing", "path"]
section
variable {P : Program} {w : World} {K : PySem.W.Frag} {mg : Str → Option Value} {base : Heap} {f f2 f3 : Addr} {fd fd2 fd3 : FuncData} {te tl ta tb : TE} {σ σ2 : L2.St} {H : Hp} {k ka kb n : Nat} {d d0 : PyData} {ds es : List PyData} {g : TG} {vs : List Nat}
def spKeptQ (K : PySem.W.Frag) : Sp := spD K fun ds d' => ∃ (t : T) (d : PyData), size t ≤ 6 ∧ (∀ ps, d = .tuple ps → ps.length ≤ 100) ∧ ds = [enc t, d] ∧ d' = .bool (keptB t d)
end
end K17
/-! ### NotUsable; sight_of -/
namespace L2
open PySem PySem.Spec PyProof.Rows
/-- x in t, t a tuple of data -/
def rInDT (K : PySem.W.Frag) : R2 := fun x y H Q => ∃ d ds, Dp K H x d ∧ Dp K H y (.tuple ds) ∧ SeqAt.shaped d = true ∧ SeqAt.shaped (.tuple ds) = true ∧ Q (.bl (ds.any fun z => PyData.eqv z d)) H
theorem op_inDT {X : Cx} (hu : X.A.units + 65 < cLine) : OpR X (compareOp .In) (rInDT X.K) := by
  intro pins s σ H x y v u Q I rx ry h
  obtain ⟨d, ds, hd, he, sd, se, q⟩ := h
  obtain ⟨as, r1⟩ := Dp.reads I d x v hd rx
  obtain ⟨bs, r2⟩ := Dp.reads I (.tuple ds) y u he ry
  exact SeqAt.in_tuple_reads r2 r1 (SeqAt.canLay_of_shaped se) (SeqAt.canLay_of_shaped sd) (room_in_shaped sd hu) ⟨.bl _, H, I, rfl, q⟩
end L2
namespace K17
open PySem PySem.Spec PyProof.Rows L2 Evl Fx Fr Dt Tr K18 So
def bodyOf : Stmt → List Stmt
  | .ClassDef _ _ _ b _ _ _ _ _ _ _ => b
  | _ => []
/-- NotUsable.__init__ -/
def initS : Stmt := (bodyOf (K18.topS 8)).getD 0 (.Pass ⟨0, 0, 0, 0⟩)
theorem scInit : FnScope ["self", "word", "at"] ["self", "word", "at"] (defScope initS) := ⟨rfl, rfl, rfl, by decide +kernel, rfl, by decide +kernel, by decide +kernel⟩
def nSight : List Str := ["tree", "kept", "chances", "path", "_"]
section
variable {P : Program} {w : World} {K : PySem.W.Frag} {mg : Str → Option Value} {base : Heap} {f f2 f3 : Addr} {fd fd2 fd3 : FuncData} {te tl ta tb : TE} {σ σ2 : L2.St} {H : Hp} {k ka kb n : Nat} {d d0 : PyData} {ds es : List PyData} {g : TG} {vs : List Nat} {C : Addr}
def spInit (C : Addr) : Sp := fun vs H Q _ => ∃ (a : Addr) (w1 w2 : V), vs = [.ref a, w1, w2] ∧ H a = some (exo a C none) ∧ ∀ dx, H dx = none → dx ≠ a → Q .non (upd (upd (upd H dx (exd dx [("word", w1)])) a (exo a C (some dx))) dx (exd dx [("at", w2), ("word", w1)]))
theorem ok_init (F : Fun K "__init__" "NotUsable.__init__" initS f fd) (T : OexC K C) (w0 : PySem.W.findIn K (.ref C) "word" = some none) (a0 : PySem.W.findIn K (.ref C) "at" = some none) : FnOk P w K mg base (L2.CX P w) 1 f fd ["self", "word", "at"] (spInit C) := by
  refine F.okX scInit (fun vs H Q E h => ?_) (fun cdv A outer s H vs Q E hr h => ?_)
  · obtain ⟨a, w1, w2, rfl, _⟩ := h
    rfl
  · obtain ⟨a, w1, w2, rfl, hA, q⟩ := h
    refine ⟨_, pss_cons (ps_ost (pv 0) (pv 1)) (pss_one (ps_ost (pv 0) (pv 2))), ?_⟩
    refine ⟨w1, rfl, .ref a, rfl, a, C, rfl, T, w0, .inl ⟨hA, fun dx hdx hne => ?_⟩⟩
    refine ⟨w2, rfl, .ref a, rfl, a, C, rfl, T, a0, .inr ⟨dx, [("word", w1)], upd_same, ?_, (by show 1 ≤ 900; decide), q dx hdx hne⟩⟩
    rw [upd_ne hne]
    exact upd_same
theorem rd_ixT0 {i : Int} (ha : EvR F0 ta σ H 0 (IsD K (.tuple ds))) (hb : EvR F0 tb σ H 0 (fun x _ => x = .int i)) (j : Nat) (hj : ixN ds.length i = some j) (hd : ds[j]? = some d) : EvR F0 (tOp (rIxT K) ta tb) σ H 0 (IsD K d) := fun n H1 hn g e Q q =>
  ha n H1 hn g e _ fun x H2 e2 g2 p => hb n H2 hn F0.g (e.trans e2) _ fun y H3 e3 g3 ey => by
    subst ey
    cases p with
    | @tup a xs _ ha hx =>
    obtain ⟨u, hu, du⟩ := dps_get hx hd
    exact ⟨a, xs, i, u, rfl, rfl, ex_t (F0.ex e3) ha, by unfold atI; rw [dps_len hx, hj]; exact hu, q u H3 (e2.trans e3) F0.g (dp_ex (F0.ex e3) _ _ du)⟩
theorem sh_pathsT (ks : List (List Nat)) : SeqAt.shaped (.tuple (ks.map pathD)) = true := by
  have h := sh_paths ks
  simp only [SeqAt.shaped, PyData.canLay0, PyData.depth] at h ⊢
  exact h
theorem any_paths (ks : List (List Nat)) (p : List Nat) : ((ks.map pathD).any fun z => PyData.eqv z (pathD p)) = ks.any fun z => z == p := by
  rw [List.any_map]
  congr 1
  funext z
  exact path_eqv z p
theorem rv_inDT {p : List Nat} {ks : List (List Nat)} (ha : EvR F0 ta σ H 0 (IsD K (pathD p))) (hb : EvR F0 tb σ H 0 (IsD K (.tuple (ks.map pathD)))) : EvR F0 (tOp (rInDT K) ta tb) σ H 0 (fun x _ => x = .bl (ks.any fun z => z == p)) := fun n H1 hn g e Q q =>
  ha n H1 hn g e _ fun x H2 e2 g2 px => hb n H2 hn F0.g (e.trans e2) _ fun y H3 e3 g3 py => ⟨pathD p, _, dp_ex (F0.ex e3) _ _ px, py, sh_path p, sh_pathsT ks, by rw [any_paths]; exact q _ H3 (e2.trans e3) F0.g rfl⟩
def flagOf (ks : List (List Nat)) (p : List Nat) : Bool := ks.any fun z => z == p
def flagsOf (t : T) (ks : List (List Nat)) : List Bool := (placed [] t).map fun x => flagOf ks x.1
/-- the sight of kept paths -/
def sightOf (t : T) (ks : List (List Nat)) : List Pc := withP "top" (resT t (flagsOf t ks)).1 (resT t (flagsOf t ks)).2
def spSight (K : PySem.W.Frag) (C : Addr) : Sp := fun vs H Q E => ∃ (v1 v2 : V) (t : T) (d : PyData), vs = [v1, v2] ∧ size t ≤ 6 ∧ (∀ ps, d = .tuple ps → ps.length ≤ 100) ∧ Dp K H v1 (enc t) ∧ Dp K H v2 d ∧
  (keptB t d = true → ∀ ps, d = .tuple ps → ∀ v H', Ex H H' → Dp K H' v (.tuple ((sightOf t (ps.map natsOf)).map Pc.D)) → Q v H') ∧
  (keptB t d = false → ∀ H' dd fs, Ex H H' → H' dd = some (.xd fs) → fs.lookup ("word" : Str) = some (.str "kept") → fs.lookup ("at" : Str) = some (.int (-1)) → E (.ref C) (some dd) H')
end
end K17
/-! ### the law's own look: what it finds -/
namespace K17
open PySem PySem.Spec PyProof.Rows L2 Evl Fx Fr Dt Tr K18 So
abbrev S2 : Type := Option T × List Pc
def pcLost (ts : List T) : List Pc := if ts = [] then [] else [.lost (sortT ts)]
mutual
def seenT (keep : List Nat → Bool) : List Nat → T → S2
  | w, .mk s m cs => if keep w then (some (.mk s m (sortT (seenL keep w 0 cs).1)), (seenL keep w 0 cs).2) else (none, (seenL keep w 0 cs).2 ++ pcLost (seenL keep w 0 cs).1)
def seenL (keep : List Nat → Bool) : List Nat → Nat → List T → List T × List Pc
  | _, _, [] => ([], [])
  | w, i, t :: ts => ((seenT keep (w ++ [i]) t).1.toList ++ (seenL keep w (i + 1) ts).1, (seenT keep (w ++ [i]) t).2 ++ (seenL keep w (i + 1) ts).2)
end
theorem seen_eq (keep : List Nat → Bool) (w : List Nat) (t : T) : seenT keep w t = if keep w then (some (.mk t.name t.mark (sortT (seenL keep w 0 t.calls).1)), (seenL keep w 0 t.calls).2) else (none, (seenL keep w 0 t.calls).2 ++ pcLost (seenL keep w 0 t.calls).1) := by
  cases t
  rw [seenT]
  rfl
theorem seen_snoc (keep : List Nat → Bool) (w : List Nat) (t : T) : ∀ (ts : List T) (i : Nat), seenL keep w i (ts ++ [t]) = ((seenL keep w i ts).1 ++ (seenT keep (w ++ [i + ts.length]) t).1.toList, (seenL keep w i ts).2 ++ (seenT keep (w ++ [i + ts.length]) t).2)
  | [], i => by
    rw [List.nil_append, seenL, seenL, seenL]
    simp
  | u :: ts, i => by
    rw [List.cons_append, seenL, seen_snoc keep w t ts (i + 1), seenL, List.length_cons, show i + 1 + ts.length = i + (ts.length + 1) by omega]
    simp only [List.append_assoc]
def Lay (t : T) : Prop := (enc t).canLay0 = true
theorem lay_all : ∀ {ts : List T}, (PyData.canLayAll0 (ts.map enc) = true) ↔ ∀ t ∈ ts, Lay t
  | [] => by simp [PyData.canLayAll0]
  | t :: ts => by
    rw [List.map_cons, PyData.canLayAll0, Bool.and_eq_true, lay_all]
    simp [Lay]
theorem lay_mk {t : T} : Lay t ↔ PyData.strOk t.name = true ∧ ∀ c ∈ t.calls, Lay c := by
  rw [Lay, enc_eq, ← lay_all]
  simp [PyData.canLay0, PyData.canLayAll0]
theorem lost_psizes (ts : List T) : psizes (pcLost ts) = sizes ts := by
  unfold pcLost
  by_cases h : ts = []
  · rw [if_pos h, h]
    simp [psizes, sizes]
  · rw [if_neg h, psizes_cons]
    simp only [Pc.size, psizes, List.map_nil, List.sum_nil, Nat.add_zero]
    exact sizes_perm (sort_perm ts)
theorem lost_len (ts : List T) : (pcLost ts).length ≤ 1 := by
  unfold pcLost
  split <;> simp
mutual
theorem seen_bd (keep : List Nat → Bool) : ∀ (w : List Nat) (t : T), sizes (seenT keep w t).1.toList + psizes (seenT keep w t).2 ≤ size t ∧ (seenT keep w t).2.length ≤ size t ∧ (Lay t → ∀ s ∈ (seenT keep w t).1.toList, Lay s)
  | w, .mk s m cs => by
    obtain ⟨h1, h2, h3⟩ := seens_bd keep w 0 cs
    have hz : size (.mk s m cs) = sizes cs + 1 := by rw [size]
    have hs : sizes (sortT (seenL keep w 0 cs).1) = sizes (seenL keep w 0 cs).1 := sizes_perm (sort_perm _)
    have hl := lost_len (seenL keep w 0 cs).1
    rw [seenT, hz]
    by_cases hk : keep w = true
    · rw [if_pos hk]
      refine ⟨?_, by show (seenL keep w 0 cs).2.length ≤ _; omega, fun hy x hx => ?_⟩
      · simp only [Option.toList_some, sizes, size, hs]
        omega
      · simp only [Option.toList_some, List.mem_singleton] at hx
        subst hx
        obtain ⟨y1, y2⟩ := lay_mk.mp hy
        exact lay_mk.mpr ⟨y1, fun c hc => h3 y2 c ((sort_perm _).mem_iff.mp hc)⟩
    · rw [if_neg hk]
      refine ⟨?_, ?_, fun hy x hx => by simp at hx⟩
      · simp only [Option.toList_none, sizes, psizes_app, lost_psizes]
        omega
      · rw [List.length_append]
        omega
theorem seens_bd (keep : List Nat → Bool) : ∀ (w : List Nat) (i : Nat) (ts : List T), sizes (seenL keep w i ts).1 + psizes (seenL keep w i ts).2 ≤ sizes ts ∧ (seenL keep w i ts).2.length ≤ sizes ts ∧ ((∀ t ∈ ts, Lay t) → ∀ s ∈ (seenL keep w i ts).1, Lay s)
  | w, i, [] => by
    rw [seenL]
    simp [sizes, psizes]
  | w, i, t :: ts => by
    obtain ⟨a1, a2, a3⟩ := seen_bd keep (w ++ [i]) t
    obtain ⟨b1, b2, b3⟩ := seens_bd keep w (i + 1) ts
    rw [seenL, sizes]
    refine ⟨?_, ?_, fun hy x hx => ?_⟩
    · simp only [sizes_app, psizes_app]
      omega
    · rw [List.length_append]
      omega
    · rcases List.mem_append.mp hx with hx | hx
      · exact a3 (hy t (List.mem_cons_self ..)) x hx
      · exact b3 (fun u hu => hy u (List.mem_cons_of_mem _ hu)) x hx
end
theorem sh_trs {ts : List T} (h : ∀ t ∈ ts, Lay t) (hs : sizes ts ≤ 20) : SeqAt.shaped (.list (ts.map enc)) = true := by
  have h1 := encs_depth ts
  rw [encs_map] at h1
  show ((PyData.list (ts.map enc)).canLay0 && decide ((PyData.list (ts.map enc)).depth ≤ 64)) = true
  rw [Bool.and_eq_true]
  exact ⟨by rw [PyData.canLay0]; exact lay_all.mpr h, decide_eq_true (by rw [PyData.depth]; omega)⟩
def optD : Option T → PyData
  | none => .none
  | some t => enc t
section
variable {P : Program} {w : World} {K : PySem.W.Frag} {mg : Str → Option Value} {base : Heap} {f f2 f3 : Addr} {fd fd2 fd3 : FuncData} {te tl ta tb : TE} {σ σ2 : L2.St} {H : Hp} {k ka kb n : Nat} {d d0 : PyData} {ds es : List PyData} {g : TG} {vs : List Nat} {C : Addr}
def rInt1 : List V → Hp → VK → Prop := fun xs H Q => (∃ i, xs = [.int i] ∧ Q (.int i) H) ∨ ∃ k, xs = [.bl k] ∧ Q (.int (if k then 1 else 0)) H
def rNot : L2.R2 := fun x y H Q => y = .non ∧ Q (.bl (!decide (x = .non))) H
theorem rv_int1 {b : Bool} (h : EvR F0 te σ H 0 (fun x _ => x = .bl b)) : EvR F0 (tCB rInt1 (tCons te tNil)) σ H 0 (fun x _ => x = .int (if b then 1 else 0)) := fun n H1 hn g e Q q =>
  h n H1 hn g e _ fun v H2 e2 g2 p => .inr ⟨b, by rw [p], q _ H2 e2 g2 rfl⟩
theorem rl_rep {b : Bool} (ha : EvR F0 ta σ H 0 (IsL F0 K ds)) (hb : EvR F0 tb σ H 0 (fun x _ => x = .int (if b then 1 else 0))) (fd : flats ds = true) (hl : ds.length ≤ 100000) : EvR F0 (tOp rRep ta tb) σ H 0 (IsL F0 K (if b then ds else [])) := fun n H1 hn g e Q q =>
  ha n H1 hn g e _ fun x H2 e2 _ p => hb n H2 hn F0.g (e.trans e2) _ fun y H3 e3 _ p' => by
    obtain ⟨a, xs, rfl, hT, ha, hx⟩ := mono_l F0.ok fd 0 _ _ _ F0.g e3 p
    subst p'
    have l1 := dps_len hx
    refine ⟨a, _, xs, rfl, rfl, ha, by cases b <;> decide, by cases b <;> decide, sz_of (by cases b <;> simp <;> omega), fun l hl => ?_⟩
    refine q (.ref l) _ (e2.trans (e3.trans (Kx.ex (Ex.new hl)))) F0.g ⟨l, _, rfl, fun z => z, upd_same, ?_⟩
    have el := Ex.new (o := HO.lst (List.replicate (if b then (1 : Int) else 0).toNat xs).flatten) hl
    cases b with
    | true =>
      have : (List.replicate (if true = true then (1 : Int) else 0).toNat xs).flatten = xs := by simp
      rw [this]
      rw [this] at el
      exact dps_ex el _ _ hx
    | false => exact .nil
theorem rb_neTs {ts : List T} (ha : EvR F0 ta σ H 0 (IsL F0 K (ts.map enc))) (hs : SeqAt.shaped (.list (ts.map enc)) = true) : EvR F0 (tOp (rNeD K) ta (tLst tNil)) σ H 0 (fun u _ => u = .bl (!ts.isEmpty)) :=
  r_op (ka := 0) (kb := 0) (P' := IsL F0 K []) F0.ok (mono_l F0.ok (maps_flat _)) ha (rl_lst F0.ok ra_nil) fun x y n H1 g e px py Q q => ⟨_, _, px.dp, py.dp, hs, rfl, q _ H1 (Ex.refl _) (by cases ts <;> simp [PyData.eqv, PyData.eqvAll])⟩
theorem rv_inDL {p : List Nat} {ks : List (List Nat)} (ha : EvR F0 ta σ H 0 (IsD K (pathD p))) (hb : EvR F0 tb σ H 0 (IsD K (.list (ks.map pathD)))) : EvR F0 (tOp (rInD K) ta tb) σ H 0 (fun x _ => x = .bl (flagOf ks p)) := fun n H1 hn g e Q q =>
  ha n H1 hn g e _ fun x H2 e2 g2 px => hb n H2 hn F0.g (e.trans e2) _ fun y H3 e3 g3 py => ⟨pathD p, _, dp_ex (F0.ex e3) _ _ px, py, sh_path p, sh_paths ks, by rw [any_paths]; exact q _ H3 (e2.trans e3) F0.g rfl⟩
end
end K17
/-! ### comprehensions of drawn data: each item is some data of which Pe holds -/
namespace Dt
open PySem PySem.Spec PyProof.Rows L2 Evl Fx
section
variable {F : Fd} {K : PySem.W.Frag} {te ta tb tl : TE} {tr : TA} {g : TG} {σ : L2.St} {H H' : Hp} {ds es : List PyData} {n k ke : Nat} {v : V} {Pe : PyData → Prop}
/-- data of which Pe holds -/
def SomeD (K : PySem.W.Frag) (Pe : PyData → Prop) : VP := fun v H => ∃ x, Pe x ∧ Dp K H v x
/-- a list of its own, m items of which Pe holds -/
def IsLP (F : Fd) (K : PySem.W.Frag) (Pe : PyData → Prop) (m : Nat) : VP := fun v H => ∃ es, es.length = m ∧ (∀ x ∈ es, Pe x) ∧ IsL F K es v H
def CdP (F : Fd) (K : PySem.W.Frag) (H1 : Hp) (Dl : Addr) (n0 k : Nat) (Pe : PyData → Prop) (i : Nat) (H' : Hp) : Prop :=
  Kx F.S H1 H' ∧ F.G (n0 + i * k) H' ∧ ∃ vs es, H' Dl = some (.lst vs) ∧ DpAll K H' vs es ∧ es.length = i ∧ ∀ x ∈ es, Pe x
theorem cdp_turn (o : F.Ok) {H1 H' : Hp} {Dl : Addr} {n0 m i : Nat} {σ2 : L2.St} (fP : ∀ x, Pe x → flat x = true) (g1 : F.G n0 H1) (hD : H1 Dl = none) (p : CdP F K H1 Dl n0 ke Pe i H') (hi : i < m) (hm : m ≤ 40000) (hN : n0 + m * ke ≤ F.N) (he : EvR F te σ2 H' ke (SomeD K Pe)) :
    te σ2 H' fun y H4 => ∃ acc, H4 Dl = some (.lst acc) ∧ acc.length < sizeLine ∧ CdP F K H1 Dl n0 ke Pe (i + 1) (upd H4 Dl (.lst (acc ++ [y]))) := by
  obtain ⟨p1, p2, vs, es, p3, p4, p5, p6⟩ := p
  have nS : ¬ F.S Dl := fun s => o.new g1 hD (o.sub s)
  have hk : n0 + (i + 1) * ke = n0 + i * ke + ke := by rw [Nat.succ_mul]; omega
  have hb : n0 + i * ke + ke ≤ F.N := by
    have : (i + 1) * ke ≤ m * ke := Nat.mul_le_mul_right _ hi
    rw [Nat.succ_mul] at this
    omega
  have fo : flats es = true := flats_all.mpr fun x hx => fP x (p6 x hx)
  refine he _ H' hb p2 Kx.refl _ fun y H4 e4 g4 ⟨x, hx, hy⟩ => ?_
  have h4D : H4 Dl = some (.lst vs) := e4 _ _ p3 nS
  have kl : KT K H4 (upd H4 Dl (.lst (vs ++ [y]))) := fun a xs h => by
    have hne : ∀ u, H4 a = some u → (∀ ys, u ≠ .lst ys) → a ≠ Dl := fun u q z => by
      rintro rfl
      rw [h4D] at q
      cases q
      exact z _ rfl
    rcases h with (h | ⟨u, h⟩) | h
    · exact .inl (.inl (by rw [upd_ne (hne _ h fun _ z => by cases z)]; exact h))
    · exact .inl (.inr ⟨u, by rw [upd_ne (hne _ h fun _ z => by cases z)]; exact h⟩)
    · exact .inr h
  have lv := dps_len p4
  refine ⟨vs, h4D, sz_lt (by omega), (p1.trans e4).mut hD, ?_, vs ++ [y], es ++ [x], upd_same, dps_snoc (dps_kt kl _ _ fo (mono_ds o fo _ _ _ _ p2 e4 p4)) (dp_kt kl _ _ (fP x hx) hy), by rw [List.length_append, List.length_singleton, p5], fun z hz => ?_⟩
  · rw [hk]
    exact o.put g1 hD g4
  · rcases List.mem_append.mp hz with h | h
    · exact p6 z h
    · cases List.mem_singleton.mp h
      exact hx
/-- [.. for .. in xs], xs a list of its own -/
theorem r_lcLP (o : F.Ok) {vs : List Nat} (fP : ∀ x, Pe x → flat x = true) (h : EvR F tl σ H k (IsL F K ds)) (fd : flats ds = true) (hm : ds.length ≤ 40000)
    (ht : ∀ (i : Nat) (x : V) (d : PyData) (n : Nat) (H' : Hp), ds[i]? = some d → Dp K H' x d → F.G n H' → Kx F.S H H' → ∃ σ2, Gv g x (wipe σ vs) H' σ2 ∧ wipe σ2 vs = wipe σ vs ∧ EvR F te σ2 H' ke (SomeD K Pe)) :
    EvR F (tLc (iList K tl) g tYes te vs) σ H (k + ds.length * ke) (IsLP F K Pe ds.length) := fun n H0 hn g0 e0 Q q => h n H0 (by omega) g0 e0 _ fun v H1 e1 g1 ⟨a, xs, ev, hT, ha, hx⟩ => by
  subst ev
  have hl := dps_len hx
  have nS : ¬ F.S a := fun s => hT (o.sub s)
  refine ⟨a, rfl, ⟨xs, sq_of ha⟩, fun Dl hD => lc_list (xs := xs) (CdP F K H1 Dl (n + k) ke Pe) ?_ (fun i H' _ p => sq_of (p.1 a _ ha nS)) (fun i x H' hi p => ?_) fun H' p => ?_⟩
  · exact ⟨Kx.ex (Ex.new hD), by rw [Nat.zero_mul]; exact o.put g1 hD g1, [], [], upd_same, .nil, rfl, fun x hx => by cases hx⟩
  · have hlt := (List.getElem?_eq_some_iff.mp hi).1
    have hdi : ds[i]? = some ds[i] := List.getElem?_eq_getElem (by omega)
    obtain ⟨u, hu, hdu⟩ := dps_get (mono_ds o fd _ _ _ _ g1 p.1 hx) hdi
    rw [hi] at hu
    cases hu
    obtain ⟨σ2, q1, q2, q3⟩ := ht i x _ _ H' hdi hdu p.2.1 (e0.trans (e1.trans p.1))
    exact q1 _ ⟨q2, cdp_turn (m := ds.length) o fP g1 hD p (by omega) hm (by rw [Nat.add_assoc]; exact hn) q3⟩
  · rw [hl] at p
    obtain ⟨p1, p2, ws, es, p3, p4, p5, p6⟩ := p
    exact q (.ref Dl) H' (e1.trans p1) (by rw [← Nat.add_assoc]; exact p2) ⟨es, p5, p6, Dl, ws, rfl, o.new g1 hD, p3, p4⟩
/-- .. over range(m) -/
theorem r_lcRP (o : F.Ok) {vs : List Nat} {m : Nat} (fP : ∀ x, Pe x → flat x = true) (h : EvRA F tr σ H k (fun us _ => us = [.int (m : Int)])) (hm : m ≤ 40000)
    (ht : ∀ i n H', i < m → F.G n H' → Kx F.S H H' → ∃ σ2, Gv g (.int (i : Int)) (wipe σ vs) H' σ2 ∧ wipe σ2 vs = wipe σ vs ∧ EvR F te σ2 H' ke (SomeD K Pe)) :
    EvR F (tLc (iRng1 tr) g tYes te vs) σ H (k + m * ke) (IsLP F K Pe m) := fun n H0 hn g0 e0 Q q => h n H0 (by omega) g0 e0 _ fun us H1 e1 g1 hd => by
  subst hd
  refine ⟨(m : Int), rfl, by omega, by omega, fun Dl hD => lc_range (lo := 0) (n := (m : Int).toNat) (CdP F K H1 Dl (n + k) ke Pe) ?_ (fun i H' hi p => ?_) fun H' p => ?_⟩
  · exact ⟨Kx.ex (Ex.new hD), by rw [Nat.zero_mul]; exact o.put g1 hD g1, [], [], upd_same, .nil, rfl, fun x hx => by cases hx⟩
  · have him : i < m := by omega
    have e00 : (0 : Int) + (i : Int) = (i : Int) := Int.zero_add _
    obtain ⟨σ2, q1, q2, q3⟩ := ht i _ H' him p.2.1 (e0.trans (e1.trans p.1))
    rw [e00]
    exact q1 _ ⟨q2, cdp_turn (m := m) o fP g1 hD p him hm (by rw [Nat.add_assoc]; exact hn) q3⟩
  · rw [show (m : Int).toNat = m from Int.toNat_natCast m] at p
    obtain ⟨p1, p2, ws, es, p3, p4, p5, p6⟩ := p
    exact q (.ref Dl) H' (e1.trans p1) (by rw [← Nat.add_assoc]; exact p2) ⟨es, p5, p6, Dl, ws, rfl, o.new g1 hD, p3, p4⟩
/-- tuple(xs) of such a list -/
theorem rd_tupOfP {m : Nat} (o : F.Ok) (h : EvR F te σ H k (IsLP F K Pe m)) : EvR F (tCB (rTupOf K) (tCons te tNil)) σ H k (SomeD K fun x => ∃ es, x = .tuple es ∧ es.length = m ∧ ∀ y ∈ es, Pe y) := fun n H1 hn g e Q q => h n H1 hn g e _ fun v H2 e2 g2 ⟨es, h1, h2, p, xs, ev, hT, ha, hx⟩ => by
  subst ev
  exact ⟨p, xs, rfl, .inl ⟨sq_of ha, fun l hl => q (.ref l) _ (e2.trans (Kx.ex (Ex.new hl))) (o.ex g2 (Ex.new hl)) ⟨_, ⟨es, rfl, h1, h2⟩, .tup (st_of upd_same) (dps_ex (Ex.new hl) _ _ hx)⟩⟩⟩
end
end Dt
/-! ### != of two lists of the same plain items -/
namespace L2
open PySem PySem.Spec PyProof.Rows
theorem same_items {A : Around} {s : Shared} : ∀ {xs : List V} {us ws : List Value}, (∀ v ∈ xs, flatB v = true) → Vals xs us → Vals xs ws → ∀ j (h1 : j < us.length) (h2 : j < ws.length), SeqAt.EqAt A s us[j] ws[j] true
  | _, _, _, f, .nil, .nil, j, h1, _ => absurd h1 (Nat.not_lt_zero j)
  | _, _, _, f, .cons a1 b1, .cons a2 b2, 0, _, _ => eqAt_same a1 a2 (f _ (List.mem_cons_self ..))
  | _, _, _, f, .cons a1 b1, .cons a2 b2, j + 1, h1, h2 => same_items (fun v hv => f v (List.mem_cons_of_mem _ hv)) b1 b2 j (Nat.lt_of_succ_lt_succ h1) (Nat.lt_of_succ_lt_succ h2)
section
variable {X : Cx}
def rNeL (K : PySem.W.Frag) : R2 := fun x y H Q => ∃ a b xs, x = .ref a ∧ y = .ref b ∧ SqL K H a xs ∧ SqL K H b xs ∧ (∀ v ∈ xs, flatB v = true) ∧ Q (.bl false) H
theorem op_neL (hu : X.A.units + 64 < cLine) : OpR X (compareOp .NotEq) (rNeL X.K) := by
  intro pins s σ H x y v u Q I rx ry h
  obtain ⟨a, b, xs, rfl, rfl, ha, hb, f, q⟩ := h
  cases (show v = Value.ref a from rx)
  cases (show u = Value.ref b from ry)
  obtain ⟨us, r1, p1, _⟩ := I.list ha
  obtain ⟨ws, r2, p2, _⟩ := I.list hb
  show wpAny _ _ (richCompare .NotEq _ _) _ _ _
  refine SeqAt.RcNeAt.lists (e := fun _ => true) p1.isList p2.isList (by rw [List.size_toArray, List.size_toArray, ← r1.length, ← r2.length]) (by omega) (fun j h1 h2 => ?_) _ _ _ _ ?_
  · have k := same_items (A := X.A.in1) (s := s) f r1 r2 j (by simpa using h1) (by simpa using h2)
    simpa using k
  · have e : (!((List.range us.toArray.size).all fun _ => true)) = false := by rw [List.all_eq_true.mpr fun _ _ => rfl]; rfl
    rw [e]
    exact ⟨.bl false, H, I, rfl, q⟩
end
end L2
namespace Dt
open PySem PySem.Spec PyProof.Rows L2 Evl Fx
section
variable {F : Fd} {K : PySem.W.Frag} {te ta tb : TE} {tr : TA} {tz : TS} {D : Ends} {σ : L2.St} {H : Hp} {ds : List PyData} {k ka kb : Nat} {ns : List Str}
/-- two lists of the same texts -/
theorem rb_neTxt (o : F.Ok) (ha : EvR F ta σ H ka (IsL F K (ns.map PyData.str))) (hb : EvR F tb σ H kb (IsL F K (ns.map PyData.str))) : EvR F (tOp (rNeL K) ta tb) σ H (ka + kb) (fun x _ => x = .bl false) :=
  r_op o (mono_l o (flats_all.mpr fun d hd => by
    obtain ⟨b, _, rfl⟩ := List.mem_map.mp hd
    rfl)) ha hb fun x y n H1 g e ⟨p, xs, ex, _, hp, hx⟩ ⟨p', xs', ey, _, hp', hx'⟩ Q q => by
    have e1 := dps_strs hx
    have e2 := dps_strs hx'
    subst ex ey e1 e2
    exact ⟨p, p', _, rfl, rfl, sq_of hp, sq_of hp', fun v hv => by
      obtain ⟨b, _, rfl⟩ := List.mem_map.mp hv
      rfl, q _ H1 (Ex.refl _) rfl⟩
/-- a text != itself -/
theorem rb_neOne {x : Str} (o : F.Ok) (ha : EvR F ta σ H ka (fun u _ => u = .str x)) (hb : EvR F tb σ H kb (fun u _ => u = .str x)) : EvR F (tOp rNe ta tb) σ H (ka + kb) (fun u _ => u = .bl false) :=
  r_op o mono_eq ha hb fun u v n H1 g e e1 e2 Q q => by
    subst e1 e2
    exact ⟨rfl, q _ H1 (Ex.refl _) (by simp)⟩
theorem q_par2 {i j : Nat} (h : tr σ H fun vs H1 => ∃ u v, vs = [u, v] ∧ tz D ((σ.set i (some u)).set j (some v)) H1) : tSeq (tPar i j tr) tz D σ H := h
theorem q_nil {Q : List V → Hp → Prop} (h : Q [] H) : tNil σ H Q := h
end
end Dt
/-! ### the law's own look: _law_seen -/
namespace K17
open PySem PySem.Spec PyProof.Rows L2 Evl Fx Fr Dt Tr K18 So
def nSeen : List Str := ["_law_root", "_law_way", "_law_held", "_law_below", "_law_pieces_now", "_law_k", "_law_call", "_law_own", "_law_more"]
theorem scSeen : FnScope nSeen ["_law_root", "_law_way", "_law_held"] (defScope (K18.topS 54)) := ⟨rfl, rfl, rfl, by decide +kernel, rfl, by decide +kernel, by decide +kernel⟩
section
variable {P : Program} {w : World} {K : PySem.W.Frag} {mg : Str → Option Value} {base : Heap} {f f2 f3 : Addr} {fd fd2 fd3 : FuncData} {te tl ta tb : TE} {σ σ2 : L2.St} {H : Hp} {k ka kb n : Nat} {d d0 : PyData} {ds es : List PyData} {g : TG} {vs : List Nat} {C : Addr}
theorem rl_sortT {ts : List T} (h : EvR F0 te σ H 0 (IsL F0 K (ts.map enc))) (hz : sizes ts ≤ 20) : EvR F0 (tCB (rSortD K) (tCons te tNil)) σ H 0 (IsL F0 K ((sortT ts).map enc)) := by
  have := rl_sorted F0.ok h (all_alike ts) (all_sortable ts) fun dd hdd => by have := depth_mem dd hdd; omega
  rwa [sort_map] at this
theorem q_asgC {tr : TA} {sp : Sp} {E : XK} {tz : TS} {D : Ends} {R : List V → Hp → Prop} (h : EvRA F0 tr σ H 0 R) (kk : ∀ vs H1, Ex H H1 → R vs H1 → sp (vs ++ []) H1 (fun v H2 => g v σ H2 (tz D)) E) : tSeq (tAsg (tCall sp [] E tr) g) tz D σ H := h 0 H (Nat.le_refl _) F0.g Kx.refl _ fun vs H1 e _ p => kk vs H1 (F0.ex e) p
theorem s_ret2 {D : Ends} {R : VP} (h : EvR F0 ta σ H 0 R) (h2 : ∀ v H1, Ex H H1 → R v H1 → tb σ H1 fun u H2 => [v, u].length ≤ sizeLine ∧ ∀ a, H2 a = none → D.rt (.ref a) (upd H2 a (.tup [v, u]))) : tRet (tTup (tCons ta (tCons tb tNil))) D σ H := h 0 H (Nat.le_refl _) F0.g Kx.refl _ fun v H1 e _ p => h2 v H1 (F0.ex e) p
/-- n: how many spans at the most -/
def spSeen (K : PySem.W.Frag) (n : Nat) : Sp := fun vs H Q _ => ∃ (v1 v2 v3 : V) (t : T) (p : List Nat) (hs : List (List Nat)), vs = [v1, v2, v3] ∧ size t ≤ n ∧ n ≤ 14 ∧ p.length + n ≤ 100 ∧ hs.length ≤ 100 ∧ Lay t ∧ Dp K H v1 (enc t) ∧ Dp K H v2 (pathD p) ∧ Dp K H v3 (.list (hs.map pathD)) ∧
  ∀ a vo l xs H', Ex H H' → SqT K H' a [vo, .ref l] → H l = none → H' l = some (.lst xs) → Dp K H' vo (optD (seenT (flagOf hs) p t).1) → DpAll K H' xs ((seenT (flagOf hs) p t).2.map Pc.D) → Q (.ref a) H'
theorem ok_seen (F : Fun K "_law_seen" "_law_seen" (K18.topS 54) f fd) (gl : mg "_law_seen" = some (.ref f)) (B : Binds K fd ["_law_root", "_law_way", "_law_held"] []) (m_en : mg "enumerate" = none) (m_tuple : mg "tuple" = none) (m_sorted : mg "sorted" = none) (m_int : mg "int" = none) : ∀ n, FnOk P w K mg base CX0 n f fd ["_law_root", "_law_way", "_law_held"] (spSeen K n)
  | 0 => by
    refine ⟨fun vs H Q E h => ?_, fun A outer s H args us vs Q E hr he hb hv h => ?_⟩
    · obtain ⟨v1, v2, v3, t, p, hs, _, h, _⟩ := h
      rw [size_eq] at h
      omega
    · obtain ⟨v1, v2, v3, t, p, hs, _, h, _⟩ := h
      rw [size_eq] at h
      omega
  | n + 1 => by
    have cS := cal F (ok_seen F gl B m_en m_tuple m_sorted m_int n) gl B
    refine F.ok scSeen (fun vs H Q E h => ?_) (fun cdv A outer s H vs Q E hr h => ?_)
    · obtain ⟨v1, v2, v3, t, p, hs, rfl, _⟩ := h
      rfl
    · obtain ⟨v1, v2, v3, t, p, hs, rfl, hsz, hn, hp, hh, hy, p1, p2, p3, q⟩ := h
      have hu65 : (A.deeper (envOfC "_law_seen" (defScope (K18.topS 54)) s.heap.objs.size f cdv)).units + 65 < cLine := by
        have := hr.un
        omega
      refine ⟨_, pss_cons (ps_par (i := 3) (j := 4) rfl scSeen.nd rfl rfl (by decide) rfl rfl (pa_cons (pe_lst pa_nil) (pa_cons (pe_lst pa_nil) pa_nil)) (by rfl))
        (pss_cons (ps_for PassesOwn.never rfl (DtE.pi_enumT (by rfl) m_en (pa_cons (pe_ix ix_tup (pv 0) pe_int (fun _ _ => rfl)) pa_nil)) (pg_tup (by rfl) (pgs_cons (pg_name (i := 5) scSeen.nd rfl (.inl rfl)) (pgs_cons (pg_name (i := 6) scSeen.nd rfl (.inl rfl)) pgs_nil)))
          (pss_cons (ps_asg (C8.pe_c cS hr (Nat.le_refl _) (by rfl) (pa_cons (pv 6) (pa_cons (pe_op op_catA (pv 1) (pe_tup (pa_cons (pv 5) pa_nil))) (pa_cons (pv 2) pa_nil)))) (pg_tup (by rfl) (pgs_cons (pg_name (i := 7) scSeen.nd rfl (.inl rfl)) (pgs_cons (pg_name (i := 8) scSeen.nd rfl (.inl rfl)) pgs_nil))))
          (pss_cons (ps_expr (pe_bm PySem.F.plainAttrs_list PySem.F.slot_list_extend PySem.F.type_list_extend mt_extend (pv 4) (pa_cons (pv 8) pa_nil)))
          (pss_one (ps_if (pt_cmpR (r := rNot) op_notN (pv 7) pe_non (by rfl)) (pss_one (ps_expr (pe_bm PySem.F.plainAttrs_list PySem.F.slot_list_append PySem.F.type_list_append mt_append (pv 3) (pa_cons (pv 7) pa_nil)))) pss_nil)))))
        (pss_cons (ps_if (pt_cmpR (r := rInD K) (op_inD hu65) (pv 1) (pv 2) (by rfl)) (pss_one (ps_ret (pe_tup (pa_cons (pe_tup (pa_cons (pe_ix ix_tup (pv 0) pe_int (fun _ _ => rfl)) (pa_cons (pe_ix ix_tup (pv 0) pe_int (fun _ _ => rfl)) (pa_cons (pe_callTy (T := "tuple") (r := rTupOf K) call_tupleOf (by rfl) m_tuple (by decide +kernel) (pa_cons (pe_callB (r := rSortD K) (cr_sortedD hr.units) (by rfl) m_sorted (by decide +kernel) (pa_cons (pv 3) pa_nil)) pa_nil)) pa_nil)))) (pa_cons (pv 4) pa_nil))))) pss_nil)
        (pss_one (ps_ret (pe_tup (pa_cons pe_non (pa_cons (pe_op op_cat (pv 4) (pe_op op_rep (pe_lst (pa_cons (pe_tup (pa_cons pe_str (pa_cons (pe_callTy (T := "tuple") (r := rTupOf K) call_tupleOf (by rfl) m_tuple (by decide +kernel) (pa_cons (pe_callB (r := rSortD K) (cr_sortedD hr.units) (by rfl) m_sorted (by decide +kernel) (pa_cons (pv 3) pa_nil)) pa_nil)) pa_nil))) pa_nil)) (pe_callTy (r := rInt1) call_int1 (by rfl) m_int (by decide +kernel) (pa_cons (pe_cmpR (op_neD hr.units) (pv 3) (pe_lst pa_nil) (nomark _)) pa_nil)))) pa_nil))))))), ?_⟩
      refine q_par2 (q_cons ((rn_lst (K := K) (ds := []) F0.ok ra_nil) 0 H (Nat.le_refl _) F0.g Kx.refl _ fun x4 H1 e1 _ ⟨BB, bs, ex4, nB, _, hB, dB⟩ => q_cons ((rn_lst (K := K) (ds := []) F0.ok ra_nil) 0 H1 (Nat.le_refl _) F0.g Kx.refl _ fun x5 H2 e2 _ ⟨L, ls, ex5, nL1, _, hL, dL⟩ => ⟨x4, x5, rfl, ?_⟩)))
      subst ex4 ex5
      cases dB
      cases dL
      have nL : H L = none := kx_none F0.ok (n := 0) F0.g e1 nL1
      replace e1 := F0.ex e1
      replace e2 := F0.ex e2
      have e02 := e1.trans e2
      have hB2 := e2 _ _ hB
      have nBL : BB ≠ L := fun z => by rw [← z, hB] at nL1; cases nL1
      have ht := size_eq t
      change tSeq (tFor _ _ _) _ _ [some v1, some v2, some v3, some (.ref BB), some (.ref L), none, none, none, none] H2
      refine q_forE (F := F0) (n := 0) (k := 0) (ds := t.calls.map enc) F0.ok (rt_calls F0.ok (rd_var F0.ok (n := 0) F0.g rfl (dp_ex e02 _ _ p1) (enc_flat t))) F0.g (Nat.le_refl _) (maps_flat _) (fun H3 i σ' H' => ∃ us xs u5 u6 u7 u8, σ' = [some v1, some v2, some v3, some (.ref BB), some (.ref L), u5, u6, u7, u8] ∧ Ex H H' ∧ KT K H3 H' ∧ H' BB = some (.lst us) ∧ H' L = some (.lst xs) ∧ DpAll K H' us ((seenL (flagOf hs) p 0 (t.calls.take i)).1.map enc) ∧ DpAll K H' xs ((seenL (flagOf hs) p 0 (t.calls.take i)).2.map Pc.D))
        (fun H3 e3 _ => ⟨[], [], none, none, none, none, rfl, e02.trans (F0.ex e3), fun _ _ h => h, F0.ex e3 _ _ hB2, F0.ex e3 _ _ hL, by rw [List.take_zero, seenL]; exact .nil, by rw [List.take_zero, seenL]; exact .nil⟩) (fun H3 i σ' H' ⟨_, _, _, _, _, _, _, _, k, _⟩ => k) (fun H3 i x T0 d σ' H' hi ⟨us, xs, u5, u6, u7, u8, es, e, k, hb, hx, db, dx⟩ hT hd => ?_) fun H3 σ' H' _ ⟨us, xs, u5, u6, u7, u8, es, e, k, hb, hx, db, dx⟩ => ?_
      · subst es
        have hlt : i < t.calls.length := by
          have := (List.getElem?_eq_some_iff.mp hi).1
          rwa [List.length_map] at this
        have hci : t.calls[i]? = some t.calls[i] := List.getElem?_eq_getElem hlt
        rw [List.getElem?_map, hci] at hi
        cases hi
        have hyc : Lay t.calls[i] := (lay_mk.mp hy).2 _ (List.getElem_mem hlt)
        have hsz1 := size_mem hci
        have htk : t.calls.take (i + 1) = t.calls.take i ++ [t.calls[i]] := by rw [List.take_add_one, hci]; rfl
        have hsk := sizes_take i t.calls
        obtain ⟨z1, z2, _⟩ := seens_bd (flagOf hs) p 0 (t.calls.take i)
        have z3 := len_sizes (seenL (flagOf hs) p 0 (t.calls.take i)).1
        generalize t.calls[i] = c at hyc hsz1 htk hd
        obtain ⟨y1, y2, _⟩ := seen_bd (flagOf hs) (p ++ [i]) c
        have eT : Ex H' (upd H' T0 (.tup [.int (i : Nat), x])) := Ex.new hT
        have hb4 := eT _ _ hb
        have hx4 := eT _ _ hx
        have db4 := dps_ex eT _ _ db
        have dx4 := dps_ex eT _ _ dx
        have e04 := e.trans eT
        have k4 : KT K H3 (upd H' T0 (.tup [.int (i : Nat), x])) := kt_trans k (kt_ex eT)
        refine ⟨T0, _, rfl, st_of upd_same, rfl, _, _, rfl, _, _, rfl, rfl, ?_⟩
        generalize upd H' T0 (.tup [.int (i : Nat), x]) = H4 at hd hb4 hx4 db4 dx4 e04 k4 ⊢
        change tSeq (tAsg (tCall (spSeen K n) [] C8.E0 (tCons (tVar 6) (tCons _ (tCons (tVar 2) tNil)))) _) _ _ [some v1, some v2, some v3, some (.ref BB), some (.ref L), some (.int (i : Int)), some x, u7, u8] H4
        have args : EvRA F0 (tCons (tVar 6) (tCons (tOp (rCatA K) (tVar 1) (tTup (tCons (tVar 5) tNil))) (tCons (tVar 2) tNil))) [some v1, some v2, some v3, some (.ref BB), some (.ref L), some (.int (i : Int)), some x, u7, u8] H4 0 (fun vs H => DpAll K H vs [enc c, pathD (p ++ [i]), .list (hs.map pathD)]) :=
          ra_cons0 (rd_var0 rfl hd) (ra_cons0 (by
            rw [pathD_snoc]
            exact rd_cat (ka := 0) (kb := 0) (ds := p.map fun (i : Nat) => PyData.int (i : Int)) (es := [.int (i : Int)]) F0.ok (rd_var F0.ok (n := 0) F0.g rfl (dp_ex e04 _ _ p2) (path_flat p)) (rd_tup F0.ok (ra_cons (ka := 0) (kb := 0) F0.ok (rd_ofI (rv_var rfl)) ra_nil)) (path_flats p) (by rw [List.length_map, List.length_singleton]; omega)) (ra_one (rd_var0 rfl (dp_ex e04 _ _ p3))))
        refine q_asgC args fun vs H5 e5 dv => ?_
        obtain ⟨w1, vs, rfl, d1, dv⟩ := dps_uncons dv
        obtain ⟨w2, vs, rfl, d2, dv⟩ := dps_uncons dv
        obtain ⟨w3, vs, rfl, d3, dv⟩ := dps_uncons dv
        obtain rfl := dps_none dv
        refine ⟨w1, w2, w3, c, p ++ [i], hs, rfl, by omega, by omega, by rw [List.length_append, List.length_singleton]; omega, hh, hyc, d1, d2, d3, fun a vo l xs2 H6 e6 hT6 nl hl6 dvo dxs => ?_⟩
        refine ⟨a, _, rfl, hT6, rfl, _, _, rfl, _, _, rfl, rfl, ?_⟩
        change tSeq (tDrop _) _ _ [some v1, some v2, some v3, some (.ref BB), some (.ref L), some (.int (i : Int)), some x, some vo, some (.ref l)] H6
        have e46 := e5.trans e6
        have lb := dps_len db4
        have lx := dps_len dx4
        rw [List.length_map] at lb lx
        refine q_extL (F := F0) (n := 0) (k := 0) (ds := (seenT (flagOf hs) (p ++ [i]) c).2.map Pc.D) rfl (e46 _ _ hx4) (fun z => z) (rl_var F0.ok (n := 0) F0.g rfl ⟨l, xs2, rfl, fun z => z, hl6, dxs⟩ (pcs_flat _)) F0.g (Nat.le_refl _) (by rw [List.length_map]; omega) fun zs H7 e7 _ dz hx7 => ?_
        replace e7 := F0.ex e7
        have e47 := e46.trans e7
        have k8 : KT K H7 (upd H7 L (.lst (xs ++ zs))) := kt_lst hx7
        have e08 : Ex H (upd H7 L (.lst (xs ++ zs))) := (e04.trans e47).mut nL
        have hb8 : upd H7 L (.lst (xs ++ zs)) BB = some (.lst us) := by rw [upd_ne nBL]; exact e47 _ _ hb4
        have hx8 : upd H7 L (.lst (xs ++ zs)) L = some (.lst (xs ++ zs)) := upd_same
        have db8 := dps_kt k8 _ _ (maps_flat _) (dps_ex e47 _ _ db4)
        have dx8 := dps_app (dps_kt k8 _ _ (pcs_flat _) (dps_ex e47 _ _ dx4)) (dps_kt k8 _ _ (pcs_flat _) dz)
        have do8 : Dp K (upd H7 L (.lst (xs ++ zs))) vo (optD (seenT (flagOf hs) (p ++ [i]) c).1) := dp_kt k8 _ _ (by cases (seenT (flagOf hs) (p ++ [i]) c).1 with | none => rfl | some s => exact enc_flat s) (dp_ex e7 _ _ dvo)
        have k38 : KT K H3 (upd H7 L (.lst (xs ++ zs))) := kt_trans k4 (kt_trans (kt_ex e47) k8)
        generalize upd H7 L (.lst (xs ++ zs)) = H8 at e08 hb8 hx8 db8 dx8 do8 k38 ⊢
        rw [htk, seen_snoc, List.length_take, show 0 + min i t.calls.length = i by omega]
        change tIfS (tTest (tOp rNot (tVar 7) (tC .non))) _ _ _ [some v1, some v2, some v3, some (.ref BB), some (.ref L), some (.int (i : Int)), some x, some vo, some (.ref l)] H8
        refine s_ifR (F := F0) (n := 0) (k := 0) (b := !decide (vo = V.non)) (rt_val fun n1 H9 _ g9 e9 Q q => ⟨vo, rfl, rfl, q _ H9 Kx.refl F0.g rfl⟩) F0.g (Nat.le_refl _) (fun hv H9 e9 _ => ?_) (fun hv H9 e9 _ => ?_)
        · replace e9 := F0.ex e9
          cases hso : (seenT (flagOf hs) (p ++ [i]) c).1 with
          | none =>
            rw [hso] at do8
            cases do8
            cases hv
          | some s =>
            rw [hso] at do8
            refine q_appR (F := F0) (n := 0) (k := 0) (P := IsD K (enc s)) rfl (e9 _ _ hb8) (fun z => z) (rd_var0 rfl (dp_ex e9 _ _ do8)) F0.g (Nat.le_refl _) (by omega) fun v H10 e10 _ dvv hb10 => ?_
            have e8a := e9.trans (F0.ex e10)
            have ka : KT K H10 (upd H10 BB (.lst (us ++ [v]))) := kt_lst hb10
            refine ⟨us ++ [v], xs ++ zs, _, _, _, _, rfl, (e08.trans e8a).mut nB, kt_trans k38 (kt_trans (kt_ex e8a) ka), upd_same, by rw [upd_ne nBL.symm]; exact e8a _ _ hx8, ?_, ?_⟩
            · rw [List.map_append]
              exact dps_kt ka _ _ (by rw [← List.map_append]; exact maps_flat _) (dps_app (dps_ex e8a _ _ db8) (.cons dvv .nil))
            · rw [List.map_append]
              exact dps_kt ka _ _ (by rw [← List.map_append]; exact pcs_flat _) (dps_ex e8a _ _ dx8)
        · replace e9 := F0.ex e9
          cases hso : (seenT (flagOf hs) (p ++ [i]) c).1 with
          | none =>
            refine ⟨us, xs ++ zs, _, _, _, _, rfl, e08.trans e9, kt_trans k38 (kt_ex e9), e9 _ _ hb8, e9 _ _ hx8, ?_, ?_⟩
            · simp only [Option.toList_none, List.append_nil]
              exact dps_ex e9 _ _ db8
            · rw [List.map_append]
              exact dps_ex e9 _ _ dx8
          | some s =>
            rw [hso] at do8
            have hvn : vo = V.non := by
              have := hv
              simpa using this
            subst hvn
            change Dp K H8 .non (enc s) at do8
            rw [enc_eq] at do8
            cases do8
      · subst es
        rw [List.length_map, List.take_length] at db dx
        rw [seen_eq] at q
        obtain ⟨z1, z2, z3⟩ := seens_bd (flagOf hs) p 0 t.calls
        have z4 := len_sizes (seenL (flagOf hs) p 0 t.calls).1
        replace z3 := z3 (lay_mk.mp hy).2
        generalize seenL (flagOf hs) p 0 t.calls = r at db dx q z1 z2 z3 z4
        obtain ⟨below, ps⟩ := r
        dsimp only at z1 z2 z3 z4 q
        change DpAll K H' us (below.map enc) at db
        change DpAll K H' xs (ps.map Pc.D) at dx
        have lb : IsL F0 K (below.map enc) (.ref BB) H' := ⟨BB, us, rfl, fun z => z, hb, db⟩
        have lp : IsL F0 K (ps.map Pc.D) (.ref L) H' := ⟨L, xs, rfl, fun z => z, hx, dx⟩
        refine q_whenR (F := F0) (n := 0) (k := 0) (b := flagOf hs p) (rt_val (rv_inDL (rd_var0 rfl (dp_ex e _ _ p2)) (rd_var0 rfl (dp_ex e _ _ p3)))) F0.g (Nat.le_refl _) (fun hk H4 e4 _ => ?_) (fun hk H4 e4 _ => ?_)
        · rw [if_pos hk] at q
          replace e4 := F0.ex e4
          have inner : EvR F0 (tTup (tCons (tOp (rIxT K) (tVar 0) (tC (.int 0))) (tCons (tOp (rIxT K) (tVar 0) (tC (.int 1))) (tCons (tCB (rTupOf K) (tCons (tCB (rSortD K) (tCons (tVar 3) tNil)) tNil)) tNil)))) [some v1, some v2, some v3, some (.ref BB), some (.ref L), u5, u6, u7, u8] H4 0 (IsD K (enc (T.mk t.name t.mark (sortT below)))) := by
            have rr : EvR F0 (tVar 0) [some v1, some v2, some v3, some (.ref BB), some (.ref L), u5, u6, u7, u8] H4 0 (IsD K (enc t)) := rd_var0 rfl (dp_ex (e.trans e4) _ _ p1)
            exact (rd_tup (ds := [.str t.name, .int t.mark, .tuple ((sortT below).map enc)]) F0.ok (ra_cons0 (rt_name F0.ok rr) (ra_cons0 (rt_mark F0.ok rr) (ra_one (rd_tupOf F0.ok (rl_sortT (rl_var F0.ok (n := 0) F0.g rfl (mono_l F0.ok (maps_flat _) 0 _ _ _ F0.g (Kx.ex e4) lb) (maps_flat _)) (by omega)))))) (by rw [flats_cons, flats_cons, flats_cons, flat_tup]; exact ⟨rfl, rfl, maps_flat _, rfl⟩)).cast (by rw [enc_eq]; rfl)
          refine s_ret2 inner fun v H5 e5 dv => ?_
          have e45 := e4.trans e5
          refine ⟨.ref L, rfl, sz_of (by simp), fun a ha => ?_⟩
          have ea := Ex.new (o := HO.tup [v, .ref L]) ha
          exact q a v L xs _ (e.trans (e45.trans ea)) (st_of upd_same) nL (ea _ _ (e45 _ _ hx)) (dp_ex ea _ _ dv) (dps_ex (e45.trans ea) _ _ dx)
        · rw [if_neg (by rw [hk]; decide)] at q
          replace e4 := F0.ex e4
          have lb4 := mono_l F0.ok (maps_flat _) 0 _ _ _ F0.g (Kx.ex e4) lb
          have lp4 := mono_l F0.ok (pcs_flat _) 0 _ _ _ F0.g (Kx.ex e4) lp
          have rb : EvR F0 (tVar 3) [some v1, some v2, some v3, some (.ref BB), some (.ref L), u5, u6, u7, u8] H4 0 (IsL F0 K (below.map enc)) := rl_var F0.ok (n := 0) F0.g rfl lb4 (maps_flat _)
          have one : flats [(Pc.lost (sortT below)).D] = true := pcs_flat [Pc.lost (sortT below)]
          have total := rn_cat (K := K) (rl_var (σ := [some v1, some v2, some v3, some (.ref BB), some (.ref L), u5, u6, u7, u8]) (i := 4) F0.ok (n := 0) F0.g rfl lp4 (pcs_flat _)) (rl_rep (b := !below.isEmpty) (rl_lst (ds := [(Pc.lost (sortT below)).D]) F0.ok (ra_one (rd_tup (ds := [.str "lost", .tuple ((sortT below).map enc)]) F0.ok (ra_cons0 rd_str (ra_one (rd_tupOf F0.ok (rl_sortT rb (by omega))))) (by rw [flats_cons, flats_cons, flat_tup]; exact ⟨rfl, maps_flat _, rfl⟩)))) (rv_int1 (rb_neTs rb (sh_trs z3 (by omega)))) one (by simp)) (pcs_flat _) (by rw [List.length_map]; split <;> simp <;> omega)
          refine s_ret2 (ta := tC .non) (R := fun x _ => x = .non) rv_c fun v0 H40 e40 ev0 => total 0 H40 (Nat.le_refl _) F0.g (Kx.ex e40) _ fun v H5 e5 _ ⟨l, zs, ev, nl, _, hl, dz⟩ => ?_
          subst ev ev0
          replace e5 := F0.ex e5
          have e45 := e4.trans (e40.trans e5)
          refine ⟨sz_of (by simp), fun a ha => ?_⟩
          have ea := Ex.new (o := HO.tup [.non, .ref l]) ha
          refine q a .non l zs _ (e.trans (e45.trans ea)) (st_of upd_same) (kx_none F0.ok (n := 0) F0.g (Kx.ex (e.trans e4)) nl) (ea _ _ hl) .non ?_
          have e3 : (ps ++ pcLost below).map Pc.D = ps.map Pc.D ++ (if (!below.isEmpty) = true then [(Pc.lost (sortT below)).D] else []) := by
            cases below with
            | nil => simp [pcLost]
            | cons b bs => simp [pcLost]
          show DpAll K _ zs ((ps ++ pcLost below).map Pc.D)
          rw [e3]
          exact dps_ex ea _ _ dz
end
end K17
/-! ### the law's own sight: _law_kept_sight, _law_own_sight -/
namespace K17
open PySem PySem.Spec PyProof.Rows L2 Evl Fx Fr Dt Tr K18 So
/-- the pieces that the law finds, in the order in which it finds them -/
def rawS (keep : List Nat → Bool) (t : T) : List Pc := (seenT keep [0] t).2 ++ (seenT keep [0] t).1.toList.map Pc.top
def ownS (keep : List Nat → Bool) (t : T) : List Pc := sortP (rawS keep t)
theorem raw_sizes (keep : List Nat → Bool) (t : T) : psizes (rawS keep t) ≤ size t ∧ (rawS keep t).length ≤ size t + 1 := by
  obtain ⟨h1, h2, _⟩ := seen_bd keep [0] t
  unfold rawS
  rw [psizes_app, List.length_append, List.length_map]
  have e : psizes ((seenT keep [0] t).1.toList.map Pc.top) = sizes (seenT keep [0] t).1.toList := by
    cases (seenT keep [0] t).1 with
    | none => simp [psizes, sizes]
    | some s => simp [psizes, sizes, Pc.size]
  refine ⟨by omega, ?_⟩
  cases (seenT keep [0] t).1 with
  | none => simp; omega
  | some s => simp; omega
theorem pcs_depth {ps : List Pc} (h : psizes ps ≤ 15) : ∀ d ∈ ps.map Pc.D, PyData.depth d ≤ 40 := fun d hd => by
  obtain ⟨p, hp, rfl⟩ := List.mem_map.mp hd
  have h1 := p.depth
  have h2 := psize_mem hp
  omega
def topD (t : T) : PyData := .tuple [.str "top", enc t]
theorem topD_flat (t : T) : flat (topD t) = true := Pc.flat (.top t)
def nKS : List Str := ["_law_seen_here", "_law_held", "_law_found", "_law_i", "_law_word", "_law_part", "_law_own", "_law_more"]
theorem scKS : FnScope nKS ["_law_seen_here", "_law_held"] (defScope (K18.topS 55)) := ⟨rfl, rfl, rfl, by decide +kernel, rfl, by decide +kernel, by decide +kernel⟩
section
variable {P : Program} {w : World} {K : PySem.W.Frag} {mg : Str → Option Value} {base : Heap} {f f2 f3 : Addr} {fd fd2 fd3 : FuncData} {te tl ta tb : TE} {σ σ2 : L2.St} {H : Hp} {k ka kb n : Nat} {d d0 : PyData} {ds es : List PyData} {g : TG} {vs : List Nat} {C : Addr}
def spKS (K : PySem.W.Frag) : Sp := fun vs H Q _ => ∃ (v1 v2 : V) (t : T) (hs : List (List Nat)), vs = [v1, v2] ∧ size t ≤ 6 ∧ hs.length ≤ 100 ∧ Lay t ∧ Dp K H v1 (.tuple [topD t]) ∧ Dp K H v2 (.list (hs.map pathD)) ∧
  ∀ v H', Ex H H' → Dp K H' v (.tuple ((ownS (flagOf hs) t).map Pc.D)) → Q v H'
theorem ok_ks (F : Fun K "_law_kept_sight" "_law_kept_sight" (K18.topS 55) f fd) (cS : C8.Cal P w K mg base 6 "_law_seen" (spSeen K 6) []) (m_en : mg "enumerate" = none) (m_tuple : mg "tuple" = none) (m_sorted : mg "sorted" = none) : FnOk P w K mg base CX0 7 f fd ["_law_seen_here", "_law_held"] (spKS K) := by
  refine F.ok scKS (fun vs H Q E h => ?_) (fun cdv A outer s H vs Q E hr h => ?_)
  · obtain ⟨v1, v2, t, hs, rfl, _⟩ := h
    rfl
  · obtain ⟨v1, v2, t, hs, rfl, hsz, hh, hy, p1, p2, q⟩ := h
    refine ⟨_, pss_cons (ps_set (i := 2) scKS.nd rfl (.inl rfl) (pe_lst pa_nil))
      (pss_cons (ps_for PassesOwn.never rfl (DtE.pi_enumT (by rfl) m_en (pa_cons (pv 0) pa_nil)) (pg_tup (by rfl) (pgs_cons (pg_name (i := 3) scKS.nd rfl (.inl rfl)) (pgs_cons (pg_tup (by rfl) (pgs_cons (pg_name (i := 4) scKS.nd rfl (.inl rfl)) (pgs_cons (pg_name (i := 5) scKS.nd rfl (.inl rfl)) pgs_nil))) pgs_nil)))
        (pss_cons (ps_asg (C8.pe_c cS hr (by decide) (by rfl) (pa_cons (pe_ifExp (pt_cmpR op_eq (pv 4) pe_str (nomark _)) (pv 5) (pe_tup (pa_cons pe_str (pa_cons pe_int (pa_cons (pv 5) pa_nil))))) (pa_cons (pe_tup (pa_cons (pv 3) pa_nil)) (pa_cons (pv 1) pa_nil)))) (pg_tup (by rfl) (pgs_cons (pg_name (i := 6) scKS.nd rfl (.inl rfl)) (pgs_cons (pg_name (i := 7) scKS.nd rfl (.inl rfl)) pgs_nil))))
        (pss_cons (ps_expr (pe_bm PySem.F.plainAttrs_list PySem.F.slot_list_extend PySem.F.type_list_extend mt_extend (pv 2) (pa_cons (pv 7) pa_nil)))
        (pss_one (ps_if (pt_cmpR (r := rNot) op_notN (pv 6) pe_non (by rfl)) (pss_one (ps_expr (pe_bm PySem.F.plainAttrs_list PySem.F.slot_list_append PySem.F.type_list_append mt_append (pv 2) (pa_cons (pe_tup (pa_cons pe_str (pa_cons (pv 6) pa_nil))) pa_nil)))) pss_nil)))))
      (pss_one (ps_ret (pe_callTy (T := "tuple") (r := rTupOf K) call_tupleOf (by rfl) m_tuple (by decide +kernel) (pa_cons (pe_callB (r := rSortX K) (cr_sortedX hr.units) (by rfl) m_sorted (by decide +kernel) (pa_cons (pv 2) pa_nil)) pa_nil))))), ?_⟩
    obtain ⟨z1, z2⟩ := raw_sizes (flagOf hs) t
    obtain ⟨y1, y2, _⟩ := seen_bd (flagOf hs) [0] t
    refine q_asgR (F := F0) (n := 0) (k := 0) (P := IsN H F0 K []) (rn_lst (K := K) (ds := []) F0.ok ra_nil) F0.g (Nat.le_refl _) fun x2 H1 e1 _ ⟨L, ls, ex2, nL, _, hL, dL⟩ => ?_
    subst ex2
    cases dL
    replace e1 := F0.ex e1
    change tSeq (tFor _ _ _) _ _ [some v1, some v2, some (.ref L), none, none, none, none, none] H1
    refine q_forE (F := F0) (n := 0) (k := 0) (ds := [topD t]) F0.ok (rd_var0 rfl (dp_ex e1 _ _ p1)) F0.g (Nat.le_refl _) (by rw [flats_cons]; exact ⟨topD_flat t, rfl⟩) (fun H3 i σ' H' => ∃ xs u3 u4 u5 u6 u7, σ' = [some v1, some v2, some (.ref L), u3, u4, u5, u6, u7] ∧ Ex H H' ∧ KT K H3 H' ∧ H' L = some (.lst xs) ∧ DpAll K H' xs ((if i = 0 then [] else rawS (flagOf hs) t).map Pc.D))
      (fun H3 e3 _ => ⟨[], none, none, none, none, none, rfl, e1.trans (F0.ex e3), fun _ _ h => h, F0.ex e3 _ _ hL, .nil⟩) (fun H3 i σ' H' ⟨_, _, _, _, _, _, _, _, k, _⟩ => k) (fun H3 i x T0 d σ' H' hi ⟨xs, u3, u4, u5, u6, u7, es, e, k, hx, dx⟩ hT hd => ?_) fun H3 σ' H' _ ⟨xs, u3, u4, u5, u6, u7, es, e, k, hx, dx⟩ => ?_
    · subst es
      have hi0 : i = 0 := by
        have := (List.getElem?_eq_some_iff.mp hi).1
        simp at this
        exact this
      subst hi0
      cases hi
      cases dx
      have eT : Ex H' (upd H' T0 (.tup [.int (0 : Nat), x])) := Ex.new hT
      have hx4 := eT _ _ hx
      have e04 := e.trans eT
      have k4 : KT K H3 (upd H' T0 (.tup [.int (0 : Nat), x])) := kt_trans k (kt_ex eT)
      have hT4 : SqT K (upd H' T0 (.tup [.int (0 : Nat), x])) T0 [.int (0 : Nat), x] := st_of upd_same
      generalize upd H' T0 (.tup [.int (0 : Nat), x]) = H4 at hd hx4 e04 k4 hT4 ⊢
      obtain ⟨a0, c1, c2, rfl, ha0, hc1, hc2⟩ := dp_two hd
      cases hc1
      refine ⟨T0, _, rfl, hT4, rfl, _, _, rfl, _, _, rfl, ⟨a0, _, rfl, ha0, rfl, _, _, rfl, _, _, rfl, rfl, rfl, ?_⟩⟩
      change tSeq (tAsg (tCall (spSeen K 6) [] C8.E0 (tCons (tIf (tTest (tOp rEq (tVar 4) (tC (.str "top")))) (tVar 5) (tTup (tCons (tC (.str "")) (tCons (tC (.int 0)) (tCons (tVar 5) tNil))))) (tCons (tTup (tCons (tVar 3) tNil)) (tCons (tVar 1) tNil)))) _) _ _ [some v1, some v2, some (.ref L), some (.int (0 : Nat)), some (.str "top"), some c2, u6, u7] H4
      have args : EvRA F0 (tCons (tIf (tTest (tOp rEq (tVar 4) (tC (.str "top")))) (tVar 5) (tTup (tCons (tC (.str "")) (tCons (tC (.int 0)) (tCons (tVar 5) tNil))))) (tCons (tTup (tCons (tVar 3) tNil)) (tCons (tVar 1) tNil))) [some v1, some v2, some (.ref L), some (.int (0 : Nat)), some (.str "top"), some c2, u6, u7] H4 0 (fun vs H => DpAll K H vs [enc t, pathD [0], .list (hs.map pathD)]) :=
        ra_cons0 (r_if (ka := 0) (kb := 0) (b := decide (("top" : Str) = "top")) F0.ok (rt_val (rv_eqS (rv_var rfl) rv_c)) (fun _ => rd_var0 rfl hc2) fun hb => absurd hb (by decide +kernel)) (ra_cons0 (rd_tup (ds := [.int (0 : Nat)]) F0.ok (ra_one (rd_ofI (rv_var rfl)))) (ra_one (rd_var0 rfl (dp_ex e04 _ _ p2))))
      refine q_asgC args fun vs H5 e5 dv => ?_
      obtain ⟨w1, vs, rfl, d1, dv⟩ := dps_uncons dv
      obtain ⟨w2, vs, rfl, d2, dv⟩ := dps_uncons dv
      obtain ⟨w3, vs, rfl, d3, dv⟩ := dps_uncons dv
      obtain rfl := dps_none dv
      refine ⟨w1, w2, w3, t, [0], hs, rfl, by omega, by omega, by decide, hh, hy, d1, d2, d3, fun a vo l xs2 H6 e6 hT6 nl hl6 dvo dxs => ?_⟩
      refine ⟨a, _, rfl, hT6, rfl, _, _, rfl, _, _, rfl, rfl, ?_⟩
      change tSeq (tDrop _) _ _ [some v1, some v2, some (.ref L), some (.int (0 : Nat)), some (.str "top"), some c2, some vo, some (.ref l)] H6
      have e46 := e5.trans e6
      refine q_extL (F := F0) (n := 0) (k := 0) (ds := (seenT (flagOf hs) [0] t).2.map Pc.D) rfl (e46 _ _ hx4) (fun z => z) (rl_var F0.ok (n := 0) F0.g rfl ⟨l, xs2, rfl, fun z => z, hl6, dxs⟩ (pcs_flat _)) F0.g (Nat.le_refl _) (by rw [List.length_map]; simp; omega) fun zs H7 e7 _ dz hx7 => ?_
      replace e7 := F0.ex e7
      have e47 := e46.trans e7
      rw [List.nil_append]
      have k8 : KT K H7 (upd H7 L (.lst zs)) := kt_lst hx7
      have e08 : Ex H (upd H7 L (.lst zs)) := (e04.trans e47).mut nL
      have hx8 : upd H7 L (.lst zs) L = some (.lst zs) := upd_same
      have dx8 := dps_kt k8 _ _ (pcs_flat _) dz
      have do8 : Dp K (upd H7 L (.lst zs)) vo (optD (seenT (flagOf hs) [0] t).1) := dp_kt k8 _ _ (by cases (seenT (flagOf hs) [0] t).1 with | none => rfl | some s => exact enc_flat s) (dp_ex e7 _ _ dvo)
      have k38 : KT K H3 (upd H7 L (.lst zs)) := kt_trans k4 (kt_trans (kt_ex e47) k8)
      have lz := dps_len dz
      rw [List.length_map] at lz
      generalize upd H7 L (.lst zs) = H8 at e08 hx8 dx8 do8 k38 ⊢
      change tIfS (tTest (tOp rNot (tVar 6) (tC .non))) _ _ _ [some v1, some v2, some (.ref L), some (.int (0 : Nat)), some (.str "top"), some c2, some vo, some (.ref l)] H8
      refine s_ifR (F := F0) (n := 0) (k := 0) (b := !decide (vo = V.non)) (rt_val fun n1 H9 _ g9 e9 Q q => ⟨vo, rfl, rfl, q _ H9 Kx.refl F0.g rfl⟩) F0.g (Nat.le_refl _) (fun hv H9 e9 _ => ?_) (fun hv H9 e9 _ => ?_)
      · replace e9 := F0.ex e9
        cases hso : (seenT (flagOf hs) [0] t).1 with
        | none =>
          rw [hso] at do8
          cases do8
          cases hv
        | some s =>
          rw [hso] at do8
          refine q_appR (F := F0) (n := 0) (k := 0) (P := IsD K (topD s)) rfl (e9 _ _ hx8) (fun z => z) (rd_tup (ds := [.str "top", enc s]) F0.ok (ra_cons0 rd_str (ra_one (rd_var0 rfl (dp_ex e9 _ _ do8)))) (by rw [flats_cons, flats_cons]; exact ⟨rfl, enc_flat s, rfl⟩)) F0.g (Nat.le_refl _) (by omega) fun v H10 e10 _ dvv hx10 => ?_
          have e8a := e9.trans (F0.ex e10)
          have ka : KT K H10 (upd H10 L (.lst (zs ++ [v]))) := kt_lst hx10
          refine ⟨zs ++ [v], _, _, _, _, _, rfl, (e08.trans e8a).mut nL, kt_trans k38 (kt_trans (kt_ex e8a) ka), upd_same, ?_⟩
          have er : (if 0 + 1 = 0 then [] else rawS (flagOf hs) t).map Pc.D = (seenT (flagOf hs) [0] t).2.map Pc.D ++ [topD s] := by
            rw [if_neg (by decide), rawS, hso, List.map_append]
            rfl
          rw [er]
          exact dps_kt ka _ _ (by rw [← er]; exact pcs_flat _) (dps_app (dps_ex e8a _ _ dx8) (.cons dvv .nil))
      · replace e9 := F0.ex e9
        cases hso : (seenT (flagOf hs) [0] t).1 with
        | none =>
          refine ⟨zs, _, _, _, _, _, rfl, e08.trans e9, kt_trans k38 (kt_ex e9), e9 _ _ hx8, ?_⟩
          have er : (if 0 + 1 = 0 then [] else rawS (flagOf hs) t).map Pc.D = (seenT (flagOf hs) [0] t).2.map Pc.D := by
            rw [if_neg (by decide), rawS, hso, List.map_append]
            simp
          rw [er]
          exact dps_ex e9 _ _ dx8
        | some s =>
          rw [hso] at do8
          have hvn : vo = V.non := by
            have := hv
            simpa using this
          subst hvn
          change Dp K H8 .non (enc s) at do8
          rw [enc_eq] at do8
          cases do8
    · subst es
      have er : (if [topD t].length = 0 then [] else rawS (flagOf hs) t) = rawS (flagOf hs) t := if_neg (by simp)
      rw [er] at dx
      refine s_retR (F := F0) (n := 0) (k := 0) (P := IsD K (.tuple ((ownS (flagOf hs) t).map Pc.D))) (EvR.cast (rd_tupOf F0.ok (rl_sortX (ds := (rawS (flagOf hs) t).map Pc.D) F0.ok (rl_var F0.ok (n := 0) F0.g rfl ⟨L, xs, rfl, fun z => z, hx, dx⟩ (pcs_flat _)) (.inr (near_pcs _)) (pcs_depth (by omega)))) (by rw [sortP_map]; rfl)) F0.g (Nat.le_refl _) fun v H5 e5 _ dv => q v H5 (e.trans (F0.ex e5)) dv
end
end K17
/-! ### the law's own sight: _law_own_sight -/
namespace K17
open PySem PySem.Spec PyProof.Rows L2 Evl Fx Fr Dt Tr K18 So
def nOwn : List Str := ["_law_root", "_law_held", "_law_way"]
theorem scOwn : FnScope nOwn ["_law_root", "_law_held"] (defScope (K18.topS 56)) := ⟨rfl, rfl, rfl, by decide +kernel, rfl, by decide +kernel, by decide +kernel⟩
section
variable {P : Program} {w : World} {K : PySem.W.Frag} {mg : Str → Option Value} {base : Heap} {f f2 f3 : Addr} {fd fd2 fd3 : FuncData} {te tl ta tb : TE} {σ σ2 : L2.St} {H : Hp} {k ka kb n : Nat} {d d0 : PyData} {ds es : List PyData} {g : TG} {vs : List Nat} {C : Addr}
def spOwn (K : PySem.W.Frag) : Sp := fun vs H Q _ => ∃ (v1 v2 : V) (t : T) (ks : List (List Nat)), vs = [v1, v2] ∧ size t ≤ 6 ∧ ks.length ≤ 100 ∧ (∀ p ∈ ks, p.length ≤ 100) ∧ Lay t ∧ Dp K H v1 (enc t) ∧ IsL F0 K (ks.map pathD) v2 H ∧
  ∀ v H', Ex H H' → Dp K H' v (.tuple ((ownS (flagOf (ks.map (0 :: ·))) t).map Pc.D)) → Q v H'
theorem paths_flats (ks : List (List Nat)) : flats (ks.map pathD) = true := flats_all.mpr fun d hd => by
  obtain ⟨p, _, rfl⟩ := List.mem_map.mp hd
  exact path_flat p
theorem s_retC {tr : TA} {sp : Sp} {E : XK} {D : Ends} {R : List V → Hp → Prop} (h : EvRA F0 tr σ H 0 R) (kk : ∀ vs H1, Ex H H1 → R vs H1 → sp (vs ++ []) H1 D.rt E) : tRet (tCall sp [] E tr) D σ H := h 0 H (Nat.le_refl _) F0.g Kx.refl _ fun vs H1 e _ p => kk vs H1 (F0.ex e) p
theorem ok_own (F : Fun K "_law_own_sight" "_law_own_sight" (K18.topS 56) f fd) (cS : C8.Cal P w K mg base 7 "_law_kept_sight" (spKS K) []) : FnOk P w K mg base CX0 8 f fd ["_law_root", "_law_held"] (spOwn K) := by
  refine F.ok scOwn (fun vs H Q E h => ?_) (fun cdv A outer s H vs Q E hr h => ?_)
  · obtain ⟨v1, v2, t, hs, rfl, _⟩ := h
    rfl
  · obtain ⟨v1, v2, t, ks, rfl, hsz, hh, hpl, hy, p1, p2, q⟩ := h
    refine ⟨_, pss_one (ps_ret (C8.pe_c cS hr (by decide) (by rfl) (pa_cons (pe_tup (pa_cons (pe_tup (pa_cons pe_str (pa_cons (pv 0) pa_nil))) pa_nil)) (pa_cons (pe_lc (own := [("_law_way", 2)]) (g := gName 2) (by rfl) scOwn.nd (pi_list (pv 1)) (blkOk_by (own := [("_law_way", 2)]) (N := nOwn) (sc := defScope (K18.topS 56)) (by decide +kernel)) (fun _ _ _ _ _ => pg_name (i := 2) scOwn.nd rfl (.inl rfl)) (fun _ _ _ _ _ => pts_nil)
      (te := tOp (rCatA K) (tTup (tCons (tC (.int 0)) tNil)) (tVar 2)) (fun _ _ _ _ _ => pe_op op_catA (pe_tup (pa_cons pe_int pa_nil)) (pv 2))) pa_nil)))), ?_⟩
    have e2 : outs (fun _ => true) (fun i => (ks.map fun p => pathD (0 :: p)).getD i .none) ks.length = (ks.map (0 :: ·)).map pathD := by
      rw [outs_getD .none _ (by rw [List.length_map]), List.map_map]
      rfl
    have lst := r_lcL (F := F0) (K := K) (k := 0) (kt := 0) (ke := 0) (H := H) (tl := tVar 1) (g := gName 2) (tt := tYes) (te := tOp (rCatA K) (tTup (tCons (tC (.int 0)) tNil)) (tVar 2)) (σ := [some v1, some v2, none]) (vs := [2]) F0.ok (fun _ => true) (fun i => (ks.map fun p => pathD (0 :: p)).getD i .none)
      (rl_var F0.ok (n := 0) F0.g rfl p2 (paths_flats ks)) (paths_flats ks) (by rw [List.length_map]; omega) (fun j hj _ => by
        rw [List.length_map] at hj
        rw [List.getD_eq_getElem?_getD, List.getElem?_map, List.getElem?_eq_getElem hj]
        exact path_flat _) fun i x d n1 H' hi hd _ _ => ⟨[some v1, some v2, some x], gv_name, rfl, fun n2 H2 _ g2 e2 Q q => q H2 Kx.refl g2, fun _ => by
        have hlt : i < ks.length := by
          have := (List.getElem?_eq_some_iff.mp hi).1
          rwa [List.length_map] at this
        have hki : ks[i]? = some ks[i] := List.getElem?_eq_getElem hlt
        rw [List.getElem?_map, hki] at hi
        cases hi
        rw [List.getD_eq_getElem?_getD, List.getElem?_map, hki]
        have hp := hpl _ (List.getElem_mem hlt)
        generalize ks[i] = p at hd hp ⊢
        exact rd_cat (ka := 0) (kb := 0) (ds := [.int 0]) (es := p.map fun (i : Nat) => PyData.int (i : Int)) F0.ok (rd_tup F0.ok (ra_one rd_int)) (rd_var F0.ok (n := 0) F0.g rfl hd (path_flat p)) rfl (by rw [List.length_map]; simp; omega)⟩
    rw [List.length_map, e2] at lst
    have args : EvRA F0 (tCons (tTup (tCons (tTup (tCons (tC (.str "top")) (tCons (tVar 0) tNil))) tNil)) (tCons (tLc (iList K (tVar 1)) (gName 2) tYes (tOp (rCatA K) (tTup (tCons (tC (.int 0)) tNil)) (tVar 2)) [2]) tNil)) [some v1, some v2, none] H 0 (fun vs H => DpAll K H vs [.tuple [topD t], .list ((ks.map (0 :: ·)).map pathD)]) :=
      ra_cons0 (rd_tup F0.ok (ra_one (rd_tup (ds := [.str "top", enc t]) F0.ok (ra_cons0 rd_str (ra_one (rd_var0 rfl p1))) (by rw [flats_cons, flats_cons]; exact ⟨rfl, enc_flat t, rfl⟩))) (by rw [flats_cons]; exact ⟨topD_flat t, rfl⟩)) (ra_one (rd_ofL (by simpa using lst)))
    refine s_retC args fun vs H5 e5 dv => ?_
    obtain ⟨w1, vs, rfl, d1, dv⟩ := dps_uncons dv
    obtain ⟨w2, vs, rfl, d2, dv⟩ := dps_uncons dv
    obtain rfl := dps_none dv
    exact ⟨w1, w2, t, ks.map (0 :: ·), rfl, hsz, by rw [List.length_map]; exact hh, hy, d1, d2, fun v H6 e6 dv => q v H6 (e5.trans e6) dv⟩
end
end K17
/-! ### all sets of paths: _law_sets -/
namespace K17
open PySem PySem.Spec PyProof.Rows L2 Evl Fx Fr Dt Tr K18 So
/-- lists of their own, each of which reads as data -/
inductive LsAll (K : PySem.W.Frag) (H : Hp) : List V → List (List PyData) → Prop where
  | nil : LsAll K H [] []
  | cons {l : Addr} {us xs : List V} {s : List PyData} {ss : List (List PyData)} (h : H l = some (.lst us)) (d : DpAll K H us s) (r : LsAll K H xs ss) : LsAll K H (.ref l :: xs) (s :: ss)
def setsF {α : Type} (l : List α) : List (List α) := l.foldl (fun acc x => acc ++ acc.map fun s => s ++ [x]) [[]]
theorem sets_snoc {α : Type} (l : List α) (x : α) : setsF (l ++ [x]) = setsF l ++ (setsF l).map fun s => s ++ [x] := by
  unfold setsF
  rw [List.foldl_append]
  rfl
theorem snoc_ind {α : Type} {p : List α → Prop} (h0 : p []) (h1 : ∀ l x, p l → p (l ++ [x])) (l : List α) : p l := by
  have : p l.reverse.reverse := by
    induction l.reverse with
    | nil => exact h0
    | cons x r ih => rw [List.reverse_cons]; exact h1 _ _ ih
  rwa [List.reverse_reverse] at this
theorem sets_len {α : Type} (l : List α) : (setsF l).length = 2 ^ l.length := by
  refine snoc_ind (p := fun l : List α => (setsF l).length = 2 ^ l.length) rfl (fun l x ih => ?_) l
  rw [sets_snoc, List.length_append, List.length_map, ih, List.length_append, List.length_singleton, Nat.pow_succ]
  omega
theorem sets_mem {α : Type} (l : List α) : ∀ s ∈ setsF l, s.length ≤ l.length ∧ ∀ x ∈ s, x ∈ l := by
  refine snoc_ind (p := fun l : List α => ∀ s ∈ setsF l, s.length ≤ l.length ∧ ∀ x ∈ s, x ∈ l) (fun s h => ?_) (fun l x ih s h => ?_) l
  · rw [List.mem_singleton.mp h]
    simp
  · rw [sets_snoc] at h
    rcases List.mem_append.mp h with h | h
    · obtain ⟨a, b⟩ := ih s h
      exact ⟨by rw [List.length_append]; omega, fun y hy => List.mem_append_left _ (b y hy)⟩
    · obtain ⟨z, hz, rfl⟩ := List.mem_map.mp h
      obtain ⟨a, b⟩ := ih z hz
      refine ⟨by rw [List.length_append, List.length_append]; simp; omega, fun y hy => ?_⟩
      rcases List.mem_append.mp hy with hy | hy
      · exact List.mem_append_left _ (b y hy)
      · exact List.mem_append_right _ hy
section
variable {P : Program} {w : World} {K : PySem.W.Frag} {mg : Str → Option Value} {base : Heap} {f f2 f3 : Addr} {fd fd2 fd3 : FuncData} {te tl ta tb : TE} {σ σ2 : L2.St} {H H' : Hp} {k ka kb n : Nat} {d d0 : PyData} {ds es : List PyData} {g : TG} {vs : List Nat} {C : Addr} {xs ys : List V} {ss zz : List (List PyData)}
theorem ls_ex (e : Ex H H') (h : LsAll K H xs ss) : LsAll K H' xs ss := by
  induction h with
  | nil => exact .nil
  | cons h d _ ih => exact .cons (e _ _ h) (dps_ex e _ _ d) ih
theorem ls_app (h : LsAll K H xs ss) (h' : LsAll K H ys zz) : LsAll K H (xs ++ ys) (ss ++ zz) := by
  induction h with
  | nil => exact h'
  | cons h d _ ih => exact .cons h d ih
theorem ls_len (h : LsAll K H xs ss) : xs.length = ss.length := by
  induction h with
  | nil => rfl
  | cons h d _ ih => simp [ih]
theorem ls_get (h : LsAll K H xs ss) : ∀ {i : Nat} {x : V}, xs[i]? = some x → ∃ l us s, x = .ref l ∧ H l = some (.lst us) ∧ ss[i]? = some s ∧ DpAll K H us s := by
  induction h with
  | nil => intro i x h; simp at h
  | @cons l us xs s ss h d _ ih =>
    intro i x hx
    cases i with
    | zero => cases hx; exact ⟨l, us, s, rfl, h, rfl, d⟩
    | succ i => exact ih hx
theorem r_lcSet {i j m : Nat} {a : Addr} {u : V} (hv : σ[i]? = some (some (.ref a))) (hA : H a = some (.lst xs)) (hl : LsAll K H xs ss) (hz : xs.length ≤ 1000) (hs : ∀ s ∈ ss, s.length ≤ 100 ∧ flats s = true) (du : Dp K H u d) (fd : flat d = true)
    (hu : ∀ x : V, ((wipe σ vs).set j (some x))[m]? = some (some u)) (hj : ∀ x : V, ((wipe σ vs).set j (some x))[j]? = some (some x)) (hw : ∀ x : V, wipe ((wipe σ vs).set j (some x)) vs = wipe σ vs) :
    EvR F0 (tLc (iList K (tVar i)) (gName j) tYes (tOp rCat (tVar j) (tLst (tCons (tVar m) tNil))) vs) σ H 0 (fun v H' => ∃ D us, v = .ref D ∧ H' D = some (.lst us) ∧ LsAll K H' us (ss.map fun s => s ++ [d])) := fun n H1 hn g e Q q => by
  replace e := F0.ex e
  replace hA := e _ _ hA
  replace hl := ls_ex e hl
  replace du := dp_ex e _ _ du
  refine ⟨.ref a, hv, a, rfl, ⟨xs, sq_of hA⟩, fun D hD => ?_⟩
  have e0 := Ex.new (o := HO.lst []) hD
  have lx := ls_len hl
  refine lc_list (xs := xs) (fun n H' => Ex H1 H' ∧ ∃ us, H' D = some (.lst us) ∧ LsAll K (del H' D) us ((ss.take n).map fun s => s ++ [d])) ⟨e0, [], upd_same, by rw [List.take_zero]; exact .nil⟩ (fun n H' _ p => sq_of (p.1 _ _ hA)) (fun n x H' hxn ⟨p, us, hDD, du'⟩ => ?_) fun H' ⟨p, us, hDD, du'⟩ => ?_
  · obtain ⟨l, os, s, rfl, hl1, hsn, ds1⟩ := ls_get hl hxn
    obtain ⟨hs1, hs2⟩ := hs s (List.mem_of_getElem? hsn)
    have lus := ls_len du'
    rw [List.length_map, List.length_take] at lus
    have los := dps_len ds1
    have hln : n < xs.length := (List.getElem?_eq_some_iff.mp hxn).1
    refine ⟨hw _, .ref l, hj _, u, hu _, sz_of (by simp), fun b hb => ⟨l, b, os, [u], rfl, rfl, ?_, upd_same, sz_of (by simp; omega), fun c hc => ?_⟩⟩
    · rw [upd_ne (ne_addr hb (p _ _ hl1))]
      exact p _ _ hl1
    · have eb := Ex.new (o := HO.lst [u]) hb
      have ec := Ex.new (o := HO.lst (os ++ [u])) hc
      have ebc := eb.trans ec
      have hD4 := ebc _ _ hDD
      have hcD : c ≠ D := (ne_addr hc (eb _ _ hDD)).symm
      refine ⟨us, hD4, sz_lt (by omega), (p.trans ebc).mut hD, _, upd_same, ?_⟩
      rw [del_upd, List.take_add_one, hsn, List.map_append]
      refine ls_app (ls_ex (del_ex fun b' o _ h => ebc _ _ h) du') (.cons (us := os ++ [u]) (by rw [del_ne hcD]; exact upd_same) ?_ .nil)
      refine dps_kt (kt_del hD4) _ _ ?_ (dps_app (dps_ex (p.trans ebc) _ _ ds1) (.cons (dp_ex (p.trans ebc) _ _ du) .nil))
      exact flats_all.mpr fun z hz => by
        rcases List.mem_append.mp hz with hz | hz
        · exact flats_all.mp hs2 z hz
        · rw [List.mem_singleton.mp hz]
          exact fd
  · rw [lx, List.take_length] at du'
    exact q (.ref D) H' (Kx.ex p) g ⟨D, us, rfl, hDD, ls_ex ex_del du'⟩
def nSets : List Str := ["_law_some", "_law_found", "_law_one", "_law_lot"]
theorem scSets : FnScope nSets ["_law_some"] (defScope (K18.topS 57)) := ⟨rfl, rfl, rfl, by decide +kernel, rfl, by decide +kernel, by decide +kernel⟩
def spSets (K : PySem.W.Frag) : Sp := fun vs H Q _ => ∃ (v1 : V) (ws : List (List Nat)), vs = [v1] ∧ ws.length ≤ 6 ∧ Dp K H v1 (.list (ws.map pathD)) ∧ ∀ a xs H', H a = none → Ex H H' → H' a = some (.lst xs) → LsAll K H' xs (setsF (ws.map pathD)) → Q (.ref a) H'
theorem ok_sets (F : Fun K "_law_sets" "_law_sets" (K18.topS 57) f fd) : FnOk P w K mg base CX0 1 f fd ["_law_some"] (spSets K) := by
  refine F.ok scSets (fun vs H Q E h => ?_) (fun cdv A outer s H vs Q E hr h => ?_)
  · obtain ⟨v1, ws, rfl, _⟩ := h
    rfl
  · obtain ⟨v1, ws, rfl, hz, p1, q⟩ := h
    refine ⟨_, pss_cons (ps_set (i := 1) scSets.nd rfl (.inl rfl) (pe_lst (pa_cons (pe_lst pa_nil) pa_nil)))
      (pss_cons (ps_for PassesOwn.never rfl (pi_list (pv 0)) (pg_name (i := 2) scSets.nd rfl (.inr rfl))
        (pss_one (ps_set (i := 1) scSets.nd rfl (.inl rfl) (pe_op op_cat (pv 1) (pe_lc (own := [("_law_lot", 3)]) (g := gName 3) (by rfl) scSets.nd (pi_list (pv 1)) (blkOk_by (own := [("_law_lot", 3)]) (N := nSets) (sc := defScope (K18.topS 57)) (by decide +kernel)) (fun _ _ _ _ _ => pg_name (i := 3) scSets.nd rfl (.inl rfl)) (fun _ _ _ _ _ => pts_nil)
          (te := tOp rCat (tVar 3) (tLst (tCons (tVar 2) tNil))) (fun _ _ _ _ _ => pe_op op_cat (pv 3) (pe_lst (pa_cons (pv 2) pa_nil))))))))
      (pss_one (ps_ret (pv 1)))), ?_⟩
    cases p1 with
    | @lst a0 xs0 _ ha0 hx0 =>
    have lx0 := dps_len hx0
    rw [List.length_map] at lx0
    have small : ∀ m, (setsF ((ws.map pathD).take m)).length ≤ 64 := fun m => by
      rw [sets_len]
      refine Nat.le_trans (Nat.pow_le_pow_right (by decide) (show ((ws.map pathD).take m).length ≤ 6 by rw [List.length_take, List.length_map]; omega)) (by decide)
    have fine : ∀ m, ∀ s ∈ setsF ((ws.map pathD).take m), s.length ≤ 100 ∧ flats s = true := fun m s h => by
      obtain ⟨h1, h2⟩ := sets_mem _ s h
      rw [List.length_take, List.length_map] at h1
      exact ⟨by omega, flats_all.mpr fun z hz => flats_all.mp (paths_flats ws) z (List.mem_of_mem_take (h2 z hz))⟩
    refine q_asgX ⟨sz_of (by simp), fun b hb => ⟨sz_of (by simp), fun A hA => ?_⟩⟩
    have eb := Ex.new (o := HO.lst []) hb
    have eA := Ex.new (o := HO.lst [V.ref b]) hA
    have nA : H A = none := by
      cases z : H A with
      | none => rfl
      | some o => rw [eb _ _ z] at hA; cases hA
    have h1 : upd (upd H b (.lst [])) A (.lst [.ref b]) A = some (.lst [.ref b]) := upd_same
    have l1 : LsAll K (upd (upd H b (.lst [])) A (.lst [.ref b])) [.ref b] (setsF ((ws.map pathD).take 0)) := .cons (eA _ _ upd_same) .nil .nil
    have e1 := eb.trans eA
    generalize upd (upd H b (.lst [])) A (.lst [.ref b]) = H1 at h1 l1 e1
    change tSeq (tFor (iList K (tVar 0)) (gName 2) _) _ _ [some (.ref a0), some (.ref A), none, none] H1
    refine q_forLs (a := a0) (xs := xs0) rfl (fun m σ' H' => ∃ A xs u2, σ' = [some (.ref a0), some (.ref A), u2, none] ∧ Ex H H' ∧ H A = none ∧ H' A = some (.lst xs) ∧ LsAll K H' xs (setsF ((ws.map pathD).take m))) ⟨A, _, none, rfl, e1, nA, h1, l1⟩ (fun m σ' H' ⟨_, _, _, _, e, _⟩ => ex_l e ha0) (fun m x σ' H' hxm ⟨A, xs, u2, es, e, nA, hA, hl⟩ => ?_) fun σ' H' ⟨A, xs, u2, es, e, nA, hA, hl⟩ => ?_
    · subst es
      have hm : m < (ws.map pathD).length := by
        have := (List.getElem?_eq_some_iff.mp hxm).1
        rw [List.length_map]
        omega
      have hdm : (ws.map pathD)[m]? = some (ws.map pathD)[m] := List.getElem?_eq_getElem hm
      have dx : Dp K H' x (ws.map pathD)[m] := by
        obtain ⟨u', hu, du⟩ := dps_get (dps_ex e _ _ hx0) hdm
        rw [hxm] at hu
        cases hu
        exact du
      have fx : flat (ws.map pathD)[m] = true := flats_all.mp (paths_flats ws) _ (List.getElem_mem hm)
      have htk : (ws.map pathD).take (m + 1) = (ws.map pathD).take m ++ [(ws.map pathD)[m]] := by rw [List.take_add_one, hdm]; rfl
      have s1 := small m
      have f1 := fine m
      generalize (ws.map pathD)[m] = d at dx fx htk
      have lxs := ls_len hl
      refine ⟨.ref A, rfl, r_lcSet (i := 1) (j := 3) (m := 2) (vs := [3]) (σ := [some (.ref a0), some (.ref A), some x, none]) rfl hA hl (by omega) f1 dx fx (fun _ => rfl) (fun _ => rfl) (fun _ => rfl) 0 H' (Nat.le_refl _) F0.g Kx.refl _ fun v H2 e2 _ ⟨D, us, ev, hD, hls⟩ => ?_⟩
      replace e2 := F0.ex e2
      have lus := ls_len hls
      rw [List.length_map] at lus
      refine ⟨A, D, xs, us, rfl, ev, e2 _ _ hA, hD, sz_of (by omega), fun p hp => ?_⟩
      have ep := Ex.new (o := HO.lst (xs ++ us)) hp
      refine ⟨p, xs ++ us, some x, rfl, e.trans (e2.trans ep), ?_, upd_same, ?_⟩
      · cases z : H p with
        | none => rfl
        | some o => rw [e2 _ _ (e _ _ z)] at hp; cases hp
      · rw [htk, sets_snoc]
        exact ls_ex ep (ls_app (ls_ex e2 hl) hls)
    · subst es
      rw [lx0, ← List.length_map (f := pathD), List.take_length] at hl
      exact ⟨.ref A, rfl, q A xs H' nA e hA hl⟩
end
end K17
/-! ### the written form of a path; repr of any data -/
namespace K17
open PySem PySem.Spec PyProof.Rows L2 Evl Fx Fr Dt Tr K18 So
def dig (p : List Nat) : Prop := ∀ x ∈ p, x ≤ 9
def jn : List Nat → List Nat
  | [] => []
  | [a] => [48 + a]
  | a :: b :: r => (48 + a) :: 44 :: 32 :: jn (b :: r)
def charsP (p : List Nat) : List Nat := 40 :: (jn p ++ (if p.length = 1 then [44, 41] else [41]))
theorem dig_text : ∀ n : Nat, n ≤ 9 → (PyData.shown (.int (n : Int))).cps.toList = [48 + n] := by
  intro n h
  match n, h with
  | 0, _ | 1, _ | 2, _ | 3, _ | 4, _ | 5, _ | 6, _ | 7, _ | 8, _ | 9, _ => decide +kernel
theorem shownAll_map : ∀ ds : List PyData, PyData.shownAll ds = ds.map PyData.shown
  | [] => rfl
  | d :: ds => by rw [PyData.shownAll, shownAll_map ds]; rfl
theorem join_text : ∀ p : List Nat, dig p → (Str.join ", " ((p.map fun (i : Nat) => PyData.int (i : Int)).map PyData.shown)).cps.toList = jn p
  | [], _ => rfl
  | [a], h => dig_text a (h a (List.mem_cons_self ..))
  | a :: b :: r, h => by
    have ih := join_text (b :: r) fun x hx => h x (List.mem_cons_of_mem _ hx)
    have ha := dig_text a (h a (List.mem_cons_self ..))
    show (PyData.shown (.int (a : Int)) ++ ", " ++ Str.join ", " (((b :: r).map fun (i : Nat) => PyData.int (i : Int)).map PyData.shown)).cps.toList = _
    rw [Str.cps_append, Str.cps_append, Array.toList_append, Array.toList_append, ih, ha]
    rfl
theorem path_text (p : List Nat) (h : dig p) : (PyData.shown (pathD p)).cps.toList = charsP p := by
  have e : PyData.shown (pathD p) = tupleText ((p.map fun (i : Nat) => PyData.int (i : Int)).map PyData.shown) := by
    rw [pathD, PyData.shown, shownAll_map]
  have hl : ((p.map fun (i : Nat) => PyData.int (i : Int)).map PyData.shown).length = p.length := by rw [List.length_map, List.length_map]
  rw [e, tupleText, Str.cps_append, Str.cps_append, Array.toList_append, Array.toList_append, join_text p h, hl]
  unfold charsP
  by_cases h1 : p.length = 1
  · rw [if_pos h1, if_pos (by simpa using h1)]
    rfl
  · rw [if_neg h1, if_neg (by simpa using h1)]
    rfl
theorem jn_len : ∀ p : List Nat, p ≠ [] → (jn p).length + 2 = 3 * p.length
  | [], h => absurd rfl h
  | [a], _ => rfl
  | a :: b :: r, _ => by
    have := jn_len (b :: r) (by simp)
    simp only [jn, List.length_cons] at this ⊢
    omega
theorem jn_inj : ∀ p q : List Nat, p.length = q.length → jn p = jn q → p = q
  | [], [], _, _ => rfl
  | [a], [b], _, h => by simp only [jn, List.cons.injEq] at h; congr 1; omega
  | a :: b :: r, c :: d :: s, hl, h => by
    simp only [jn, List.cons.injEq, true_and] at h
    have ih := jn_inj (b :: r) (d :: s) (by simpa using hl) h.2
    rw [ih]
    congr 1
    omega
  | [], _ :: _, hl, _ => by simp at hl
  | _ :: _, [], hl, _ => by simp at hl
  | [_], _ :: _ :: _, hl, _ => by simp at hl
  | _ :: _ :: _, [_], hl, _ => by simp at hl
theorem chars_len (p : List Nat) : (charsP p).length = if p.length = 0 then 2 else if p.length = 1 then 4 else 3 * p.length := by
  cases p with
  | nil => rfl
  | cons a r =>
    have := jn_len (a :: r) (by simp)
    unfold charsP
    by_cases h1 : (a :: r).length = 1
    · rw [if_pos h1]
      simp only [List.length_cons, List.length_append, List.length_nil] at this h1 ⊢
      simp [h1]
      omega
    · rw [if_neg h1]
      simp only [List.length_cons, List.length_append, List.length_nil] at this h1 ⊢
      rw [if_neg (by omega), if_neg (by omega)]
      omega
theorem chars_inj {p q : List Nat} (h : charsP p = charsP q) : p = q := by
  have hl : p.length = q.length := by
    have h1 := chars_len p
    have h2 := chars_len q
    rw [h, h2] at h1
    split at h1 <;> split at h1 <;> (try split at h1) <;> (try split at h1) <;> omega
  unfold charsP at h
  rw [hl] at h
  injection h with _ h
  exact jn_inj p q hl (List.append_cancel_right h)
/-- a text that may be a path's -/
def okHead : List Nat → Bool
  | 40 :: c :: _ => c == 41 || (decide (48 ≤ c) && decide (c ≤ 57))
  | _ => false
theorem path_head {p : List Nat} (h : dig p) : okHead (charsP p) = true := by
  match p with
  | [] => rfl
  | [a] =>
    have := h a (List.mem_cons_self ..)
    simp [charsP, jn, okHead]
    omega
  | a :: b :: r =>
    have := h a (List.mem_cons_self ..)
    simp [charsP, jn, okHead]
    omega
theorem shown_inj {p q : List Nat} (hp : dig p) (hq : dig q) (h : PyData.shown (pathD p) = PyData.shown (pathD q)) : p = q := chars_inj (by rw [← path_text p hp, ← path_text q hq, h])
/-- no path -/
def oddB (d : PyData) : Bool := !okHead (PyData.shown d).cps.toList
theorem odd_ne {d : PyData} {p : List Nat} (ho : oddB d = true) (hp : dig p) : PyData.shown d ≠ PyData.shown (pathD p) := fun h => by
  rw [oddB, h, path_text p hp, path_head hp] at ho
  cases ho
theorem chars_ok {p : List Nat} (h : dig p) : PyData.strOk (PyData.shown (pathD p)) = true := by
  have hj : ∀ q : List Nat, dig q → ∀ c ∈ jn q, c < 0x110000 := fun q => by
    induction q with
    | nil => intro _ c hc; simp [jn] at hc
    | cons a r ih =>
      intro hq c hc
      have ha := hq a (List.mem_cons_self ..)
      cases r with
      | nil =>
        simp only [jn, List.mem_singleton] at hc
        omega
      | cons b s =>
        simp only [jn, List.mem_cons] at hc
        rcases hc with hc | hc | hc | hc
        · omega
        · omega
        · omega
        · exact ih (fun x hx => hq x (List.mem_cons_of_mem _ hx)) c hc
  show ((PyData.shown (pathD p)).cps.all (· < 0x110000)) = true
  rw [← Array.all_toList, path_text p h, List.all_eq_true]
  intro c hc
  refine decide_eq_true ?_
  unfold charsP at hc
  rcases List.mem_cons.mp hc with hc | hc
  · omega
  · rcases List.mem_append.mp hc with hc | hc
    · exact hj p h c hc
    · split at hc <;> simp at hc <;> omega
section
variable {X : Cx} {K : PySem.W.Frag} {te : TE} {σ : L2.St} {H : Hp} {d : PyData}
/-- repr of any data -/
def rReprX (K : PySem.W.Frag) : List V → Hp → VK → Prop := fun xs H Q => ∃ (x : V) (d : PyData), xs = [x] ∧ Dp K H x d ∧ d.showable = true ∧ d.hasDict = false ∧ d.depth ≤ 60 ∧ d.shown.length ≤ sizeLine ∧ Q (.str d.shown) H
theorem cr_reprX (hg : X.A.guards = some []) (hu : X.A.units + 64 < cLine) : CallR X (.builtin "repr") (rReprX X.K) := by
  intro pins s σ H xs us Q I r h
  obtain ⟨x, d, rfl, hd, h1, h2, h3, h4, q⟩ := h
  cases x with
  | ref a => exact DtG.cr_reprD hg hu pins s σ H [.ref a] us Q I r ⟨a, d, rfl, hd, h1, h2, h3, h4, q⟩
  | non =>
    cases hd
    obtain ⟨u, rfl, ru⟩ := vals1 r
    cases ru
    exact PySem.P.repr_of_none ⟨.str _, H, I.tok _, ⟨_, rfl⟩, q⟩
  | int i =>
    cases hd
    obtain ⟨u, rfl, t, rfl⟩ := vals1 r
    exact PySem.P.repr_of_int (of_decide_eq_true h1) ⟨.str _, H, I.tok _, ⟨_, rfl⟩, q⟩
  | str z =>
    cases hd
    obtain ⟨u, rfl, t, rfl⟩ := vals1 r
    exact PySem.P.repr_of_str ⟨.str _, H, I.tok _, ⟨_, rfl⟩, q⟩ h4
  | bl b =>
    cases hd
    obtain ⟨u, rfl, ru⟩ := vals1 r
    cases ru
    exact PySem.P.repr_of_bool ⟨.str _, H, I.tok _, ⟨_, rfl⟩, q⟩
  | _ => cases hd
theorem rv_reprX {n w : Nat} (h : EvR F0 te σ H 0 (IsD K d)) (s : Sh n w d) (hn : n ≤ 60) (hw : w ≤ 2 ^ 20) : EvR F0 (tCB (rReprX K) (tCons te tNil)) σ H 0 (fun x _ => x = .str (PyData.shown d)) := fun n1 H1 h1 g e Q q => h n1 H1 h1 g e _ fun v H2 e2 g2 hd =>
  ⟨v, d, rfl, hd, s.shows, s.nod, Nat.le_trans s.dep hn, s.len (by omega) hw, q _ H2 e2 g2 rfl⟩
end
end K17
/-! ### what is due: _law_due -/
namespace K17
open PySem PySem.Spec PyProof.Rows L2 Evl Fx Fr Dt Tr K18 So DtG
def rTupListOf (K : PySem.W.Frag) : List V → Hp → VK → Prop := fun xs H Q => ∃ p ys, xs = [.ref p] ∧ (SqL K H p ys ∨ SqT K H p ys) ∧ ∀ l, H l = none → Q (.ref l) (upd H l (.lst ys))
def waysOf (t : T) : List (List Nat) := (placed [] t).map (·.1)
def goodB (t : T) (x : PyData) : Bool := ((waysOf t).map fun q => PyData.shown (pathD q)).any fun z => z == PyData.shown x
def leP (p q : List Nat) : Bool := Ob.lexAt (fun j => decide ((intsP p).getD j 0 = (intsP q).getD j 0)) (fun j => decide ((intsP p).getD j 0 ≤ (intsP q).getD j 0)) (decide ((intsP p).length ≤ (intsP q).length)) 0 (min (intsP p).length (intsP q).length)
/-- a thing of which the law's tuples are made -/
def ElOk (x : PyData) : Prop := (∃ q, x = pathD q ∧ dig q ∧ q.length ≤ 10) ∨ (oddB x = true ∧ PyData.strOk (PyData.shown x) = true ∧ Sh 10 1000 x)
def stepB (t : T) (ps : List PyData) (k : Nat) : Bool := goodB t (ps.getD k .none) && !(decide (0 < k) && leP (natsOf (ps.getD k .none)) (natsOf (ps.getD (k - 1) .none)))
def dueB (t : T) : PyData → Bool
  | .tuple ps => (List.range ps.length).all (stepB t ps)
  | _ => false
theorem snoc_dig {p : List Nat} {i : Nat} (h : dig p) (hi : i ≤ 9) : dig (p ++ [i]) := fun x hx => by
  rcases List.mem_append.mp hx with hx | hx
  · exact h x hx
  · rw [List.mem_singleton.mp hx]
    exact hi
mutual
theorem placed_dig : ∀ (p : List Nat) (t : T), dig p → size t ≤ 10 → ∀ x ∈ placed p t, dig x.1
  | p, .mk s m cs, hp, hs, x, h => by
    rw [Tr.placed, List.mem_cons] at h
    rw [size] at hs
    rcases h with rfl | h
    · exact hp
    · have := len_sizes cs
      exact placedA_dig p 0 cs hp (by omega) (by omega) x h
theorem placedA_dig : ∀ (p : List Nat) (i : Nat) (ts : List T), dig p → i + ts.length ≤ 10 → sizes ts ≤ 10 → ∀ x ∈ placedA p i ts, dig x.1
  | _, _, [], _, _, _, x, h => by rw [placedA] at h; cases h
  | p, i, t :: ts, hp, hi, hs, x, h => by
    rw [placedA] at h
    rw [sizes] at hs
    rw [List.length_cons] at hi
    rcases List.mem_append.mp h with h | h
    · exact placed_dig (p ++ [i]) t (snoc_dig hp (by omega)) (by omega) x h
    · exact placedA_dig p (i + 1) ts hp (by omega) (by omega) x h
end
theorem ways_dig {t : T} (h : size t ≤ 6) : ∀ q ∈ waysOf t, dig q := fun q hq => by
  obtain ⟨x, hx, rfl⟩ := List.mem_map.mp hq
  exact placed_dig [] t (fun y hy => by cases hy) (by omega) x hx
theorem nats_path (q : List Nat) : natsOf (pathD q) = q := by
  show (q.map fun (i : Nat) => PyData.int (i : Int)).map natOf = q
  rw [List.map_map]
  refine (List.map_congr_left fun i _ => ?_).trans (List.map_id q)
  simp [natOf]
/-- what is good is a way of the tree -/
theorem good_is {t : T} {x : PyData} (hs : size t ≤ 6) (he : ElOk x) (h : goodB t x = true) : ∃ q, x = pathD q ∧ q ∈ waysOf t ∧ q.length ≤ 10 := by
  obtain ⟨z, hz, e⟩ := List.any_eq_true.mp h
  obtain ⟨q, hq, rfl⟩ := List.mem_map.mp hz
  have e' : PyData.shown (pathD q) = PyData.shown x := by simpa using e
  rcases he with ⟨p, rfl, hp, hl⟩ | ⟨ho, _, _⟩
  · have := shown_inj (ways_dig hs q hq) hp e'
    subst this
    exact ⟨q, rfl, hq, hl⟩
  · exact absurd e'.symm (odd_ne ho (ways_dig hs q hq))
theorem el_str {x : PyData} (he : ElOk x) : PyData.strOk (PyData.shown x) = true := by
  rcases he with ⟨p, rfl, hp, hl⟩ | ⟨_, h, _⟩
  · exact chars_ok hp
  · exact h
theorem path_sh {q : List Nat} (hq : dig q) (hl : q.length ≤ 10) : Sh 10 1000 (pathD q) := by
  refine (sh_tup (n := 0) (w := 41) (m := 10) (fun d hd => ?_) (by rw [List.length_map]; exact hl)).mono (by decide) (by decide)
  obtain ⟨i, hi, rfl⟩ := List.mem_map.mp hd
  have := hq i hi
  exact sh_int' (by omega)
theorem el_sh {x : PyData} (he : ElOk x) : Sh 10 1000 x := by
  rcases he with ⟨p, rfl, hp, hl⟩ | ⟨_, _, h⟩
  · exact path_sh hp hl
  · exact h
theorem ways_len {t : T} (h : size t ≤ 6) : ∀ q ∈ waysOf t, q.length ≤ 6 := fun q hq => by
  obtain ⟨x, hx, rfl⟩ := List.mem_map.mp hq
  have := placed_path [] t x hx
  simp only [List.length_nil] at this
  omega
def oddD : PyData := .tuple [.str "usable", .str "kept", .int (-1)]
def toldD (ps : List Pc) : PyData := .tuple [.str "told", .tuple (ps.map Pc.D)]
def nDue : List Str := ["_law_root", "_law_item", "_law_ways", "_law_span", "_law_k", "_law_way", "_law_own"]
section
variable {P : Program} {w : World} {K : PySem.W.Frag} {mg : Str → Option Value} {base : Heap} {f f2 f3 : Addr} {fd fd2 fd3 : FuncData} {te tl ta tb : TE} {σ σ2 : L2.St} {H H' : Hp} {k ka kb n : Nat} {d d0 : PyData} {ds es : List PyData} {g : TG} {vs : List Nat} {C : Addr} {xs ys : List V}
def sD (q : List Nat) : PyData := .str (PyData.shown (pathD q))
theorem sh_strs {qs : List (List Nat)} (h : ∀ q ∈ qs, dig q) : SeqAt.shaped (.list (qs.map sD)) = true := by
  have h1 : PyData.canLayAll0 (qs.map sD) = true := by
    induction qs with
    | nil => rfl
    | cons q qs ih =>
      rw [List.map_cons, PyData.canLayAll0, Bool.and_eq_true]
      exact ⟨chars_ok (h q (List.mem_cons_self ..)), ih fun z hz => h z (List.mem_cons_of_mem _ hz)⟩
  have h2 : PyData.depthAll (qs.map sD) = 0 := by
    clear h h1
    induction qs with
    | nil => rfl
    | cons q qs ih => rw [List.map_cons, PyData.depthAll, ih]; rfl
  show ((PyData.list (qs.map sD)).canLay0 && decide ((PyData.list (qs.map sD)).depth ≤ 64)) = true
  rw [Bool.and_eq_true]
  exact ⟨by rw [PyData.canLay0]; exact h1, decide_eq_true (by rw [PyData.depth, h2]; omega)⟩
theorem strs_flat (qs : List (List Nat)) : flats (qs.map sD) = true := flats_all.mpr fun d hd => by
  obtain ⟨q, _, rfl⟩ := List.mem_map.mp hd
  rfl
theorem rv_notIn {t : T} {x : PyData} (hs : size t ≤ 6) (he : ElOk x) (ha : EvR F0 ta σ H 0 (fun v _ => v = .str (PyData.shown x))) (hb : EvR F0 tb σ H 0 (IsL F0 K ((waysOf t).map sD))) : EvR F0 (tOp (rNotInD K) ta tb) σ H 0 (fun v _ => v = .bl (!goodB t x)) := fun n H1 hn g e Q q =>
  ha n H1 hn g e _ fun y H2 e2 g2 ey => hb n H2 hn F0.g (e.trans e2) _ fun z H3 e3 g3 pz => by
    subst ey
    refine ⟨.str (PyData.shown x), _, .str _, pz.dp, ?_, sh_strs (ways_dig hs), ?_⟩
    · show (PyData.strOk (PyData.shown x) && decide (PyData.depth (.str (PyData.shown x)) ≤ 64)) = true
      rw [el_str he]
      rfl
    · refine q _ H3 (e2.trans e3) F0.g ?_
      unfold goodB
      rw [List.any_map, List.any_map]
      rfl
theorem rv_leP {p q : List Nat} (ha : EvR F0 ta σ H 0 (IsD K (pathD p))) (hb : EvR F0 tb σ H 0 (IsD K (pathD q))) : EvR F0 (tOp (rLeT K) ta tb) σ H 0 (fun x _ => x = .bl (leP p q)) := fun n H1 hn g e Q q' =>
  ha n H1 hn g e _ fun x H2 e2 g2 px => hb n H2 hn F0.g (e.trans e2) _ fun y H3 e3 g3 py => by
    obtain ⟨a, rfl, sa⟩ := dp_path (dp_ex (F0.ex e3) _ _ px)
    obtain ⟨b, rfl, sb⟩ := dp_path py
    exact ⟨a, b, _, _, rfl, rfl, sa, sb, q' _ H3 (e2.trans e3) F0.g rfl⟩
theorem rl_listOf (h : EvR F0 te σ H 0 (IsD K (.tuple ds))) : EvR F0 (tCB (rTupListOf K) (tCons te tNil)) σ H 0 (IsL F0 K ds) := fun n H1 hn g e Q q => h n H1 hn g e _ fun v H2 e2 g2 hd => by
  cases hd with
  | @tup a xs _ ha hx => exact ⟨a, xs, rfl, .inr ha, fun l hl => q (.ref l) _ (e2.trans (Kx.ex (Ex.new hl))) F0.g ⟨l, xs, rfl, fun z => z, upd_same, dps_ex (Ex.new hl) _ _ hx⟩⟩
theorem q_forEx {i : Nat} {a : Addr} {tb tz : TS} {D : Ends} (hv : σ[i]? = some (some (.ref a))) (hT : SqT K H a xs) (hx : DpAll K H xs ds) (Pv : Nat → L2.St → Hp → Prop) (h0 : Pv 0 σ H) (hk : ∀ m σ' H', Pv m σ' H' → Ex H H')
    (hs : ∀ m x T d σ' H', ds[m]? = some d → Pv m σ' H' → H' T = none → Dp K (upd H' T (.tup [.int (m : Nat), x])) x d → g (.ref T) σ' (upd H' T (.tup [.int (m : Nat), x])) fun σ2 H2 => tb { D with nx := Pv (m + 1), ct := Pv (m + 1), bk := tz D } σ2 H2)
    (hd : ∀ σ' H', Pv ds.length σ' H' → tz D σ' H') : tSeq (tFor (DtE.iEnumT K (tCons (tVar i) tNil)) g tb) tz D σ H := by
  have lx := dps_len hx
  refine ⟨.ref a, hv, a, xs, rfl, hT, for_enumT Pv h0 (fun m σ' H' p => ex_t (hk _ _ _ p) hT) (fun m x T σ' H' hi p hT' => ?_) fun σ' H' p => hd σ' H' (by rw [← lx]; exact p)⟩
  have h1 := (List.getElem?_eq_some_iff.mp hi).1
  have hdi : ds[m]? = some ds[m] := List.getElem?_eq_getElem (by omega)
  obtain ⟨u, hu, hdu⟩ := dps_get (dps_ex ((hk _ _ _ p).trans (Ex.new (o := HO.tup [.int (m : Nat), x]) hT')) _ _ hx) hdi
  rw [hi] at hu
  cases hu
  exact hs m x T _ σ' H' hdi p hT' hdu
theorem c_call {tr : TA} {sp : Sp} {E : XK} {Q : VK} {R : List V → Hp → Prop} (h : EvRA F0 tr σ H 0 R) (kk : ∀ vs H1, Ex H H1 → R vs H1 → sp (vs ++ []) H1 Q E) : tCall sp [] E tr σ H Q := h 0 H (Nat.le_refl _) F0.g Kx.refl _ fun vs H1 e _ p => kk vs H1 (F0.ex e) p
theorem rv_gt {i j : Int} (ha : EvR F0 ta σ H 0 (fun x _ => x = .int i)) (hb : EvR F0 tb σ H 0 (fun x _ => x = .int j)) : EvR F0 (tOp (rI0 fun i j => .bl (decide (j < i))) ta tb) σ H 0 (fun x _ => x = .bl (decide (j < i))) :=
  rv_op (ka := 0) (kb := 0) F0.ok ha hb fun _ => rv_I0 (g := fun i j => .bl (decide (j < i)))
def spDue (K : PySem.W.Frag) : Sp := fun vs H Q _ => ∃ (v1 v2 : V) (t : T) (d : PyData), vs = [v1, v2] ∧ size t ≤ 6 ∧ Lay t ∧ (∀ ps, d = .tuple ps → ps.length ≤ 100 ∧ ∀ x ∈ ps, ElOk x) ∧ Dp K H v1 (enc t) ∧ Dp K H v2 d ∧
  (dueB t d = true → ∀ ps, d = .tuple ps → ∀ v H', Ex H H' → Dp K H' v (toldD (ownS (flagOf ((ps.map natsOf).map (0 :: ·))) t)) → Q v H') ∧ (dueB t d = false → ∀ v H', Ex H H' → Dp K H' v oddD → Q v H')
end
end K17
/-! ### the program's sight is the law's -/
namespace K17
open PySem PySem.Spec PyProof.Rows L2 Evl Fx Fr Dt Tr K18 So
theorem sortP_idem (ps : List Pc) : sortP (sortP ps) = sortP ps := sortP_perm (sortP_mem ps)
theorem sortT_nil {ts : List T} : sortT ts = [] ↔ ts = [] := by
  have h := (sort_perm ts).length_eq
  refine ⟨fun e => ?_, fun e => by rw [e]; simp [sortT]⟩
  rw [e] at h
  exact List.length_eq_zero_iff.mp h.symm
theorem placed_cons (w : List Nat) (s : Str) (m : Int) (cs : List T) : Tr.placed w (.mk s m cs) = (w, .mk s m cs) :: placedA w 0 cs := by rw [Tr.placed]
theorem placedA_len : ∀ (w : List Nat) (i : Nat) (ts : List T), (placedA w i ts).length = sizes ts
  | _, _, [] => by rw [placedA, sizes]; rfl
  | w, i, t :: ts => by rw [placedA, sizes, List.length_append, placed_len, placedA_len w (i + 1) ts]
theorem piece_lost (ts : List T) : pieceOf "lost" ts = .lost ts := by
  unfold pieceOf
  rw [if_neg words_ne.symm]
theorem withP_lost (ts : List T) (ps : List Pc) : withP "lost" (sortT ts) (sortP ps) = sortP (ps ++ pcLost ts) := by
  unfold pcLost
  by_cases h : ts = []
  · rw [if_pos h, sortT_nil.mpr h, withP, List.append_nil]
  · rw [if_neg h]
    have h' : sortT ts ≠ [] := fun z => h (sortT_nil.mp z)
    cases e : sortT ts with
    | nil => exact absurd e h'
    | cons a r =>
      rw [withP, piece_lost]
      exact sortP_app _ _
mutual
theorem res_seen (keep : List Nat → Bool) : ∀ (w : List Nat) (t : T), (resT t ((Tr.placed w t).map fun x => keep x.1)).1 = (seenT keep w t).1.toList ∧ (resT t ((Tr.placed w t).map fun x => keep x.1)).2 = sortP (seenT keep w t).2
  | w, .mk s m cs => by
    obtain ⟨h1, h2⟩ := ress_seen keep w 0 cs
    rw [placed_cons, List.map_cons, resT, seenT, List.headD_cons, List.tail_cons]
    have j1 : (joinR (resL cs ((placedA w 0 cs).map fun x => keep x.1))).1 = sortT (seenL keep w 0 cs).1 := by rw [joinR, h1]
    have j2 : (joinR (resL cs ((placedA w 0 cs).map fun x => keep x.1))).2 = sortP (seenL keep w 0 cs).2 := by rw [joinR]; exact sortP_perm h2
    unfold nodeR
    by_cases hk : keep w = true
    · rw [if_pos hk, if_pos hk]
      exact ⟨by rw [j1]; rfl, j2⟩
    · rw [if_neg hk, if_neg hk]
      refine ⟨rfl, ?_⟩
      rw [j1, j2]
      exact withP_lost _ _
theorem ress_seen (keep : List Nat → Bool) : ∀ (w : List Nat) (i : Nat) (ts : List T), (catR (resL ts ((placedA w i ts).map fun x => keep x.1))).1 = (seenL keep w i ts).1 ∧ (catR (resL ts ((placedA w i ts).map fun x => keep x.1))).2.Perm (seenL keep w i ts).2
  | w, i, [] => by
    rw [resL, seenL]
    exact ⟨rfl, .refl _⟩
  | w, i, t :: ts => by
    obtain ⟨a1, a2⟩ := res_seen keep (w ++ [i]) t
    obtain ⟨b1, b2⟩ := ress_seen keep w (i + 1) ts
    have hl : ((Tr.placed (w ++ [i]) t).map fun x => keep x.1).length = size t := by rw [List.length_map, placed_len]
    rw [placedA, List.map_append, resL, seenL, ← hl, List.take_left, List.drop_left]
    simp only [catR, List.flatMap_cons] at b1 b2 ⊢
    refine ⟨by rw [a1, b1], ?_⟩
    rw [a2]
    exact (sortP_mem _).append b2
end
mutual
theorem seen_shift (keep keep' : List Nat → Bool) (h : ∀ p, keep' (0 :: p) = keep p) : ∀ (w : List Nat) (t : T), seenT keep' (0 :: w) t = seenT keep w t
  | w, .mk s m cs => by rw [seenT, seenT, h, seens_shift keep keep' h w 0 cs]
theorem seens_shift (keep keep' : List Nat → Bool) (h : ∀ p, keep' (0 :: p) = keep p) : ∀ (w : List Nat) (i : Nat) (ts : List T), seenL keep' (0 :: w) i ts = seenL keep w i ts
  | w, i, [] => by rw [seenL, seenL]
  | w, i, t :: ts => by rw [seenL, seenL, List.cons_append, seen_shift keep keep' h (w ++ [i]) t, seens_shift keep keep' h w (i + 1) ts]
end
theorem flag_shift (ks : List (List Nat)) (p : List Nat) : flagOf (ks.map (0 :: ·)) (0 :: p) = flagOf ks p := by
  unfold flagOf
  rw [List.any_map]
  congr 1
theorem piece_top (t : T) (ts : List T) : pieceOf "top" (t :: ts) = .top t := by
  unfold pieceOf
  rw [if_pos rfl]
/-- the program's sight is the law's -/
theorem sight_own (t : T) (ks : List (List Nat)) : sightOf t ks = ownS (flagOf (ks.map (0 :: ·))) t := by
  obtain ⟨h1, h2⟩ := res_seen (flagOf ks) [] t
  have e := seen_shift (flagOf ks) (flagOf (ks.map (0 :: ·))) (flag_shift ks) [] t
  unfold sightOf ownS rawS flagsOf
  rw [e, h1, h2]
  cases (seenT (flagOf ks) [] t).1 with
  | none => simp [withP]
  | some s =>
    simp only [Option.toList_some, withP, piece_top, List.map_cons, List.map_nil]
    exact sortP_app _ _
end K17
/-! ### what is due is what the program tells -/
namespace K17
open PySem PySem.Spec PyProof.Rows L2 Evl Fx Fr Dt Tr K18 So
theorem lexAt_shift (e r : Nat → Bool) (z : Bool) : ∀ (k i : Nat), Ob.lexAt e r z (i + 1) k = Ob.lexAt (fun j => e (j + 1)) (fun j => r (j + 1)) z i k
  | 0, i => rfl
  | k + 1, i => by rw [Ob.lexAt_succ, Ob.lexAt_succ, lexAt_shift e r z k (i + 1)]
theorem lexAt_lt : ∀ ns ms : List Int, Ob.lexAt (fun j => decide (ns.getD j 0 = ms.getD j 0)) (fun j => decide (ns.getD j 0 ≤ ms.getD j 0)) (decide (ns.length ≤ ms.length)) 0 (min ns.length ms.length) = !HT.lexLt ms ns
  | [], [] => rfl
  | [], y :: ys => by simp [Ob.lexAt, HT.lexLt]
  | x :: xs, [] => by simp [Ob.lexAt, HT.lexLt]
  | x :: xs, y :: ys => by
    have ih := lexAt_lt xs ys
    have hm : min (x :: xs).length (y :: ys).length = min xs.length ys.length + 1 := by simp only [List.length_cons]; omega
    rw [hm, Ob.lexAt_succ, lexAt_shift, HT.lexLt_cons]
    have hz : decide ((x :: xs).length ≤ (y :: ys).length) = decide (xs.length ≤ ys.length) := by simp
    rw [hz]
    simp only [List.getD_cons_zero, List.getD_cons_succ]
    by_cases h : x = y
    · rw [if_pos (by simpa using h), if_pos h.symm]
      exact ih
    · rw [if_neg (by simpa using h), if_neg (fun z => h z.symm)]
      by_cases h2 : x ≤ y
      · rw [decide_eq_true h2, decide_eq_false (by omega)]
        rfl
      · rw [decide_eq_false h2, decide_eq_true (by omega)]
        rfl
theorem le_lt (p q : List Nat) : leP p q = !pathLt q p := lexAt_lt _ _
/-- a way from the root -/
def walkN : T → List Nat → Bool
  | _, [] => true
  | t, i :: ps => match t.calls[i]? with | some c => walkN c ps | none => false
theorem walk_path : ∀ (q : List Nat) (t : T), walkB t (q.map fun (i : Nat) => PyData.int (i : Int)) = walkN t q
  | [], t => by rw [List.map_nil, walkB, walkN]
  | i :: q, t => by
    rw [List.map_cons, walkB, walkN, if_pos (by omega), Int.toNat_natCast]
    cases t.calls[i]? with
    | none => rfl
    | some c => exact walk_path q c
mutual
theorem placed_walk : ∀ (w : List Nat) (t : T) (p : List Nat), p ∈ (Tr.placed w t).map (·.1) ↔ ∃ q, p = w ++ q ∧ walkN t q = true
  | w, .mk s m cs, p => by
    have ih := placedA_walk w 0 cs p
    rw [placed_cons, List.map_cons, List.mem_cons, ih]
    constructor
    · rintro (rfl | ⟨k, c, q, hk, rfl, hq⟩)
      · exact ⟨[], by simp, by rw [walkN]⟩
      · refine ⟨k :: q, by simp, ?_⟩
        rw [walkN]
        show (match cs[k]? with | some c => walkN c q | none => false) = true
        rw [hk]
        exact hq
    · rintro ⟨q, rfl, hq⟩
      cases q with
      | nil => exact .inl (by simp)
      | cons k q =>
        rw [walkN] at hq
        change (match cs[k]? with | some c => walkN c q | none => false) = true at hq
        cases hk : cs[k]? with
        | none => rw [hk] at hq; cases hq
        | some c =>
          rw [hk] at hq
          exact .inr ⟨k, c, q, hk, by simp, hq⟩
theorem placedA_walk : ∀ (w : List Nat) (i : Nat) (ts : List T) (p : List Nat), p ∈ (placedA w i ts).map (·.1) ↔ ∃ k c q, ts[k]? = some c ∧ p = w ++ (i + k) :: q ∧ walkN c q = true
  | w, i, [], p => by
    rw [placedA]
    simp
  | w, i, t :: ts, p => by
    have h1 := placed_walk (w ++ [i]) t p
    have h2 := placedA_walk w (i + 1) ts p
    rw [placedA, List.map_append, List.mem_append, h1, h2]
    constructor
    · rintro (⟨q, rfl, hq⟩ | ⟨k, c, q, hk, rfl, hq⟩)
      · exact ⟨0, t, q, rfl, by simp, hq⟩
      · exact ⟨k + 1, c, q, hk, by rw [show i + (k + 1) = i + 1 + k by omega], hq⟩
    · rintro ⟨k, c, q, hk, rfl, hq⟩
      cases k with
      | zero =>
        cases hk
        exact .inl ⟨q, by simp, hq⟩
      | succ k => exact .inr ⟨k, c, q, hk, by rw [show i + 1 + k = i + (k + 1) by omega], hq⟩
end
theorem ways_walk {t : T} {q : List Nat} : q ∈ waysOf t ↔ walkN t q = true := by
  rw [waysOf, placed_walk]
  simp
theorem good_path {t : T} {x : PyData} (hs : size t ≤ 6) (he : ElOk x) : goodB t x = pathB t x := by
  rw [Bool.eq_iff_iff]
  constructor
  · intro h
    obtain ⟨q, rfl, hq, _⟩ := good_is hs he h
    show walkB t (q.map fun (i : Nat) => PyData.int (i : Int)) = true
    rw [walk_path]
    exact ways_walk.mp hq
  · intro h
    cases x with
    | tuple ps =>
      have h' : walkB t ps = true := h
      have e := walk_nats h'
      have hq : ps.map natOf ∈ waysOf t := by
        rw [e, walk_path] at h'
        exact ways_walk.mpr h'
      refine List.any_eq_true.mpr ⟨PyData.shown (pathD (ps.map natOf)), List.mem_map.mpr ⟨_, hq, rfl⟩, ?_⟩
      have : PyData.tuple ps = pathD (ps.map natOf) := by
        show PyData.tuple ps = .tuple ((ps.map natOf).map fun (i : Nat) => PyData.int (i : Int))
        rw [← e]
      rw [this]
      simp
    | _ => exact absurd h (by simp [pathB])
theorem due_kept {t : T} {d : PyData} (hs : size t ≤ 6) (he : ∀ ps, d = .tuple ps → ps.length ≤ 100 ∧ ∀ x ∈ ps, ElOk x) : dueB t d = keptB t d := by
  cases d with
  | tuple ps =>
    obtain ⟨_, he⟩ := he ps rfl
    show (List.range ps.length).all (stepB t ps) = (ps.all (pathB t) && ascB (ps.map natsOf))
    rw [Bool.eq_iff_iff, Bool.and_eq_true, List.all_eq_true, List.all_eq_true]
    have gD : ∀ k, k < ps.length → ps.getD k .none ∈ ps := fun k hk => by
      rw [List.getD_eq_getElem?_getD, List.getElem?_eq_getElem hk]
      exact List.getElem_mem hk
    have nD : ∀ k, k < ps.length → (ps.map natsOf).getD k [] = natsOf (ps.getD k .none) := fun k hk => by
      rw [List.getD_eq_getElem?_getD, List.getD_eq_getElem?_getD, List.getElem?_map, List.getElem?_eq_getElem hk]
      rfl
    constructor
    · intro h
      refine ⟨fun x hx => ?_, ?_⟩
      · obtain ⟨k, hk, rfl⟩ := List.getElem_of_mem hx
        have h1 := h k (List.mem_range.mpr hk)
        unfold stepB at h1
        rw [Bool.and_eq_true] at h1
        have h2 := h1.1
        rw [List.getD_eq_getElem?_getD, List.getElem?_eq_getElem hk] at h2
        rw [← good_path hs (he _ (List.getElem_mem hk))]
        exact h2
      · unfold ascB
        rw [List.all_eq_true]
        intro i hi
        rw [List.mem_range, List.length_map] at hi
        have h1 := h (i + 1) (List.mem_range.mpr (by omega))
        unfold stepB at h1
        rw [Bool.and_eq_true] at h1
        have h2 := h1.2
        rw [decide_eq_true (show 0 < i + 1 by omega), Bool.true_and, le_lt, Bool.not_not, Nat.add_sub_cancel] at h2
        rw [nD i (by omega), nD (i + 1) (by omega)]
        exact h2
    · rintro ⟨h1, h2⟩ k hk
      have hk := List.mem_range.mp hk
      unfold ascB at h2
      rw [List.all_eq_true] at h2
      unfold stepB
      rw [Bool.and_eq_true]
      refine ⟨by rw [good_path hs (he _ (gD k hk))]; exact h1 _ (gD k hk), ?_⟩
      by_cases h0 : 0 < k
      · obtain ⟨i, rfl⟩ : ∃ i, k = i + 1 := ⟨k - 1, by omega⟩
        have h3 := h2 i (List.mem_range.mpr (by rw [List.length_map]; omega))
        rw [nD i (by omega), nD (i + 1) hk] at h3
        rw [decide_eq_true h0, Bool.true_and, le_lt, Bool.not_not, Nat.add_sub_cancel]
        exact h3
      · rw [decide_eq_false h0]
        rfl
  | _ => rfl
end K17
/-! ### a def called with keywords alone -/
namespace Dt
open PySem PySem.Spec PyProof.Rows L2 Evl Fx
section
variable {X : Cx} {CX : CXT} {k : Nat} {f : Addr} {fd : FuncData} {ps ks : List Str} {sp : Sp} {E : XK} {x : Str} {p pos : Pos} {kws : List Keyword} {tk : TA} {g : List Value → List Value → List Value} {gV : List V → List V → List V}
theorem pe_callW0 (F : FnOk X.prog X.w X.K X.mg X.base CX k f fd ps sp) (hr : Room k X.A) (hg : Gl X x) (hm : X.mg x = some (.ref f)) (hk : PySem.W.keepIn X.K (.ref f) = true) (hb : KBn X.K fd ps 0 ks g gV) (hx : Passes CX X E) (hkw : PK X kws tk)
    (hall : (backToKw pos (keywordEach kws X.env)).all (·.1.isSome) = true := by rfl) (hks : (backToKw pos (keywordEach kws X.env)).filterMap (·.1) = ks := by rfl) (hdb : (x == ("__debug__" : Str)) = false := by decide)
    (hpl : ((backTo pos (starEach [] X.env)).any (·.1) || (backToKw pos (keywordEach kws X.env)).any (·.1.isNone)) = false := by rfl) :
    PE X (.Call (.Name x p) [] kws pos) (tCallN 0 ks.length sp gV E tNil tk) := by
  refine ⟨fun pins s σ H Q I h => ?_⟩
  refine wpAny_Call_Name_kw (ld_glob I hg hm ?_ hdb)
  refine PySem.W.callWith_KW0 (h₀ := X.base) I.ok.mod.kin hk hall ?_ hpl
  refine thn (hkw.run pos pins s σ H _ I h) fun ws s2 ⟨zs, H2, I2, rz, l1, l2, q2⟩ => ⟨I2.kIn, ?_⟩
  rw [hks]
  exact run_fnN (us := []) (vs := []) F hr hb hx I2 .nil rz rfl l2 q2
end
/-- how it binds: the values in another order -/
theorem kbn_of {K : PySem.W.Frag} {x qual : Str} {st : Stmt} {f : Addr} {fd : FuncData} {ps ks : List Str} {go : {α : Type} → List α → List α} (F : L2.Fun K x qual st f fd)
    (h : ∀ (kV doc pm : Value) (an : Option Addr) (cdv ct : Value) (ws : List Value), ws.length = ks.length → bindArgs (PySem.W.fnOf x qual (defArgs st) (defBody st) (defScope st) .none kV doc pm an cdv ct) ⟨[], ks.zip ws⟩ = pure (ps.zip (go ws)))
    (hv : ∀ {zs : List V} {ws : List Value}, Vals zs ws → Vals (go zs) (go ws)) : KBn K fd ps 0 ks (fun _ ws => go ws) (fun _ zs => go zs) := by
  obtain ⟨oc, od, kV, doc, pm, an, cdv, ct, osl, rfl, lk, hcd⟩ := F.ex
  exact ⟨fun s us ws _ h0 h1 => by
    obtain rfl := List.length_eq_zero_iff.mp h0
    exact .of_eq (h kV doc pm an cdv ct ws h1), fun _ rz => hv rz⟩
end Dt
namespace Dt
open PySem PySem.Spec PyProof.Rows L2 Evl Fx
section
variable {F : Fd} {K : PySem.W.Frag} {tk : TA} {σ : L2.St} {H : Hp} {k m : Nat} {ds : List PyData} {d : PyData}
/-- a call by keywords alone, the values turned round -/
theorem rd_callW {Rl : List PyData → PyData → Prop} {E : XK} (o : F.Ok) (h : EvRA F tk σ H k (fun vs H => DpAll K H vs ds)) (hm : ds.length = m) (hR : Rl ds.reverse d) : EvR F (tCallN 0 m (spD K Rl) (fun _ zs => zs.reverse) E tNil tk) σ H k (IsD K d) := fun n H1 hn g e Q q =>
  h n H1 hn g e _ fun zs H2 e2 g2 p => ⟨rfl, (dps_len p).trans hm, ds.reverse, d, dps_rev p, hR, fun v H3 e3 hv => q v H3 (e2.trans (Kx.ex e3)) (o.ex g2 e3) hv⟩
end
end Dt
/-! ### defs whose code object is told; what stays when a table of code objects is written -/
namespace K17
open PySem PySem.Spec PyProof.Rows L2 Evl Fx Fr Dt Tr K18 So DtG
/-- as Fun, the code object at c -/
structure FunC (K : PySem.W.Frag) (x qual : Str) (st : Stmt) (f : Addr) (fd : FuncData) (c : Addr) : Prop where
  ex : ∃ (oc : Value) (od : Option Addr) (kV doc pm : Value) (an : Option Addr) (ct : Value) (osl : Array (Option Value)),
    fd = PySem.W.fnOf x qual (defArgs st) (defBody st) (defScope st) .none kV doc pm an (.ref c) ct ∧ K.lookup f = some ⟨oc, od, .func fd, osl⟩ ∧ PySem.W.codeIn K (.ref c) qual = true
  kp : PySem.W.keepIn K (.ref f) = true
section
variable {P : Program} {w : World} {K : PySem.W.Frag} {mg : Str → Option Value} {base : Heap}
theorem okGC {x qual : Str} {st : Stmt} {f c : Addr} {fd : FuncData} {N ps : List Str} {k : Nat} {sp : Sp} (F : FunC K x qual st f fd c) (S : FnScope N ps (defScope st)) (len : ∀ vs H Q E, sp vs H Q E → vs.length = ps.length)
    (hbody : ∀ (A : Around) (outer : List Env) (s : Shared) (H : Hp) (vs : List V) (Q : VK) (E : XK), (A.deeper (envOfC qual (defScope st) s.heap.objs.size f (.ref c))).guards = some [] → Room k (A.deeper (envOfC qual (defScope st) s.heap.objs.size f (.ref c))) → sp vs H Q E →
      ∃ t, PSs (cxOf CX0 P w K mg base N qual (defScope st) f (.ref c) A outer s H E).nox (defBody st) t ∧ t { nx := fun _ H' => Q .non H', rt := Q } (start N vs) H) : FnG P w K mg base CX0 (k + 1) f fd ps sp := by
  obtain ⟨oc, od, kV, doc, pm, an, ct, osl, rfl, lk, hcd⟩ := F.ex
  refine ⟨len, fun A outer s H args us vs Q E hg hr e0 hb r hsp => ?_⟩
  have keep : ∀ b o, base.get? b = some o → s.heap.get? b = some o := fun b o e => (e0.bs b o e).1
  have KX : K.In s.heap := e0.mod.kin.keeps keep
  have names : ∀ y ∈ ps.zip us, (defScope st).names.lookup y.1 = some .local ∨ ((defScope st).names.lookup y.1 = some .cell ∧ ((cellsFrom (s.heap.objs.size + 1) (defScope st).names []).lookup y.1).isSome = true) := by
    rintro ⟨x, v⟩ hy
    exact (S.par x (List.of_mem_zip hy).1).imp id fun q => ⟨q, PySem.W.cellsFrom_some _ _ _ (.inl q)⟩
  refine codeAny_call_function hr.depth (KX _ _ lk) rfl S.co S.gen rfl (PySem.W.codeRec_of KX hcd) (hb _ _ _ _ (wpAny_newFunctionEnv_cells S.kind names ?_))
  intro env he s1 x
  subst he
  obtain ⟨t, ht, hq⟩ := hbody A outer s H vs Q E (deeper_guards hg) (hr.deeper _) hsp
  have I : Inv (cxOf CX0 P w K mg base N qual (defScope st) f (.ref c) A outer s H E) [] (start N vs) H s1 := inv_start S hr.hd e0 (len _ _ _ _ hsp) r x
  refine ⟨(e0.mod.nolimit.keeps keep).keeps x.toInCall.keep, codeAny_func (wpAny_mono (ht.nox.run [] s1 (start N vs) H _ I hq) (fun fl s' hs => ?_) fun e s' hs => hs)⟩
  cases fl with
  | ret u =>
    obtain ⟨v, σ', H', J, rv, q⟩ := hs
    exact ⟨v, H', J.os, J.bare, J.base, J.hok, rv, q⟩
  | next =>
    obtain ⟨σ', H', J, q⟩ := hs
    exact ⟨V.non, H', J.os, J.bare, J.base, J.hok, rfl, q⟩
  | brk =>
    obtain ⟨_, _, _, q⟩ := hs
    exact False.elim q
  | cont =>
    obtain ⟨_, _, _, q⟩ := hs
    exact False.elim q
end
section
variable {K : PySem.W.Frag} {H H' : Hp} {a : Addr} {xs : List V}
theorem rd_n {o : HO} (e : LamX.ExtN H H') (ho : ∀ ps, o ≠ .tbl ps) (h : Rd H a o) : Rd H' a o := by
  rcases h with h | ⟨u, h⟩
  · exact .inl (e _ _ h ho)
  · exact .inr ⟨u, e _ _ h fun ps z => by cases z⟩
theorem sqL_n (e : LamX.ExtN H H') (h : SqL K H a xs) : SqL K H' a xs := h.imp (rd_n e fun ps z => by cases z) id
theorem sqT_n (e : LamX.ExtN H H') (h : SqT K H a xs) : SqT K H' a xs := h.imp (rd_n e fun ps z => by cases z) id
theorem ex_n (e : Ex H H') : LamX.ExtN H H' := LamX.ExtN.of e
mutual
theorem dp_n (e : LamX.ExtN H H') : ∀ (d : PyData) (v : V), Dp K H v d → Dp K H' v d
  | .none, v, h => by cases h; exact .non
  | .bool _, v, h => by cases h; exact .bl _
  | .int _, v, h => by cases h; exact .int _
  | .str _, v, h => by cases h; exact .str _
  | .list ds, v, h => by
    cases h with
    | @lst a xs _ ha hx => exact .lst (sqL_n e ha) (dps_n e ds xs hx)
  | .tuple ds, v, h => by
    cases h with
    | @tup a xs _ ha hx => exact .tup (sqT_n e ha) (dps_n e ds xs hx)
  | .dict _, v, h => by cases h
theorem dps_n (e : LamX.ExtN H H') : ∀ (ds : List PyData) (vs : List V), DpAll K H vs ds → DpAll K H' vs ds
  | [], vs, h => by cases h; exact .nil
  | d :: ds, vs, h => by
    cases h with
    | @cons v vs' _ _ h1 h2 => exact .cons (dp_n e d v h1) (dps_n e ds vs' h2)
end
end
end K17
set_option maxHeartbeats 2000000
/-! ### the law's look at one tree: _law_agrees -/
namespace K17
open PySem PySem.Spec PyProof.Rows L2 Evl Fx Fr Dt Tr K18 So DtG
def nAgr : List Str := ["_law_root", "_law_ways", "_law_span", "_law_items", "_law_lot", "_law_every", "_law_item", "_law_before", "_law_due_here", "_law_told", "_law_own"]
section
variable {P : Program} {w : World} {K : PySem.W.Frag} {mg : Str → Option Value} {base : Heap} {f f2 f3 : Addr} {fd fd2 fd3 : FuncData} {te tl ta tb : TE} {σ σ2 : L2.St} {H H' : Hp} {k ka kb n : Nat} {d d0 : PyData} {ds es : List PyData} {g : TG} {vs : List Nat} {C : Addr} {xs ys : List V}
def lamQ : Str := "_law_agrees.<locals>.<lambda>"
def spAgr (K : PySem.W.Frag) (P : Addr) : Sp := fun vs H Q _ => ∃ (v1 : V) (t : T), vs = [v1] ∧ Dp K H v1 (enc t) ∧ size t ≤ 6 ∧ NiceM t ∧ LamX.Tabs [(P, lamQ)] H ∧ ∀ H', LamX.ExtN H H' → LamX.Tabs [(P, lamQ)] H' → Q (.bl true) H'
end
end K17
/-! ### the law's items; what is told is short -/
namespace K17
open PySem PySem.Spec PyProof.Rows L2 Evl Fx Fr Dt Tr K18 So DtG
theorem sh_lst {n w m : Nat} {ds : List PyData} (h : ∀ x ∈ ds, Sh n w x) (hm : ds.length ≤ m) : Sh (n + 1) (m * (w + 1)) (.list ds) := by
  obtain ⟨a1, a2, a3, a4, a5, a6⟩ := sh_all h
  refine ⟨by rw [PyData.canLay0]; exact a1, by rw [PyData.intsShort]; exact a2, by rw [PyData.showable]; exact a3, by rw [PyData.hasDict]; exact a4, by rw [PyData.depth]; omega, ?_⟩
  rw [PyData.weight]
  exact Nat.le_trans a6 (Nat.mul_le_mul_right _ hm)
theorem nice_mk {t : T} : NiceM t ↔ (Nm t.name ∧ (t.mark = 0 ∨ t.mark = 1)) ∧ ∀ c ∈ t.calls, NiceM c := by
  have mem : ∀ {ts : List T} {s : T}, s ∈ subsA ts ↔ ∃ c ∈ ts, s ∈ subs c := fun {ts s} => by
    induction ts with
    | nil => rw [subsA]; simp
    | cons t ts ih => rw [subsA, List.mem_append, ih]; simp
  unfold NiceM
  rw [subs_eq]
  constructor
  · intro h
    exact ⟨h t (List.mem_cons_self ..), fun c hc s hs => h s (List.mem_cons_of_mem _ (mem.mpr ⟨c, hc, hs⟩))⟩
  · rintro ⟨h1, h2⟩ s hs
    rcases List.mem_cons.mp hs with rfl | hs
    · exact h1
    · obtain ⟨c, hc, hs⟩ := mem.mp hs
      exact h2 c hc s hs
def NiceP : Pc → Prop
  | .top t => NiceM t
  | .lost ts => ∀ t ∈ ts, NiceM t
mutual
theorem seen_nice (keep : List Nat → Bool) : ∀ (w : List Nat) (t : T), NiceM t → (∀ s ∈ (seenT keep w t).1.toList, NiceM s) ∧ ∀ p ∈ (seenT keep w t).2, NiceP p
  | w, .mk s m cs, h => by
    obtain ⟨h1, h2⟩ := nice_mk.mp h
    obtain ⟨a, b⟩ := seens_nice keep w 0 cs h2
    rw [seenT]
    by_cases hk : keep w = true
    · rw [if_pos hk]
      refine ⟨fun x hx => ?_, b⟩
      simp only [Option.toList_some, List.mem_singleton] at hx
      subst hx
      exact nice_mk.mpr ⟨h1, fun c hc => a c ((sort_perm _).mem_iff.mp hc)⟩
    · rw [if_neg hk]
      refine ⟨fun x hx => by simp at hx, fun p hp => ?_⟩
      rcases List.mem_append.mp hp with hp | hp
      · exact b p hp
      · unfold pcLost at hp
        split at hp
        · cases hp
        · rw [List.mem_singleton.mp hp]
          exact fun t ht => a t ((sort_perm _).mem_iff.mp ht)
theorem seens_nice (keep : List Nat → Bool) : ∀ (w : List Nat) (i : Nat) (ts : List T), (∀ t ∈ ts, NiceM t) → (∀ s ∈ (seenL keep w i ts).1, NiceM s) ∧ ∀ p ∈ (seenL keep w i ts).2, NiceP p
  | w, i, [], _ => by
    rw [seenL]
    exact ⟨fun s h => (by cases h), fun p h => (by cases h)⟩
  | w, i, t :: ts, h => by
    obtain ⟨a1, a2⟩ := seen_nice keep (w ++ [i]) t (h t (List.mem_cons_self ..))
    obtain ⟨b1, b2⟩ := seens_nice keep w (i + 1) ts fun x hx => h x (List.mem_cons_of_mem _ hx)
    rw [seenL]
    refine ⟨fun s hs => ?_, fun p hp => ?_⟩
    · rcases List.mem_append.mp hs with hs | hs
      · exact a1 s hs
      · exact b1 s hs
    · rcases List.mem_append.mp hp with hp | hp
      · exact a2 p hp
      · exact b2 p hp
end
theorem str_sh {x : Str} (h : PyData.strOk x = true) (hw : x.cps.size ≤ 8) : Sh 0 8 (.str x) := sh_str' h hw
theorem sh_pc {p : Pc} (h : NiceP p) (hs : p.size ≤ 6) : Sh 20 1000 p.D := by
  cases p with
  | top t =>
    have h1 : size t ≤ 6 := hs
    have h2 := sh_tree t h
    refine (sh_tup (n := 12) (w := 60) (m := 2) (fun d hd => ?_) (by simp)).mono (by decide) (by decide)
    rcases List.mem_cons.mp hd with rfl | hd
    · exact (str_sh (by decide +kernel) (by decide +kernel)).mono (by decide) (by decide)
    · rw [List.mem_singleton.mp hd]
      exact h2.mono (by omega) (by omega)
  | lost ts =>
    have h1 : sizes ts ≤ 6 := hs
    have hl := len_sizes ts
    refine (sh_tup (n := 13) (w := 400) (m := 2) (fun d hd => ?_) (by simp)).mono (by decide) (by decide)
    rcases List.mem_cons.mp hd with rfl | hd
    · exact (str_sh (by decide +kernel) (by decide +kernel)).mono (by decide) (by decide)
    · rw [List.mem_singleton.mp hd]
      refine (sh_tup (n := 12) (w := 60) (m := 6) (fun d hd => ?_) (by rw [List.length_map]; omega)).mono (by decide) (by decide)
      obtain ⟨t, ht, rfl⟩ := List.mem_map.mp hd
      have h2 := sh_tree t (h t ht)
      have h3 : size t ≤ 6 := by
        obtain ⟨i, hi, rfl⟩ := List.getElem_of_mem ht
        have := size_mem (List.getElem?_eq_getElem hi)
        omega
      exact h2.mono (by omega) (by omega)
theorem own_sh (keep : List Nat → Bool) {t : T} (hN : NiceM t) (hs : size t ≤ 6) : Sh 30 20000 (toldD (ownS keep t)) := by
  obtain ⟨z1, z2⟩ := raw_sizes keep t
  obtain ⟨n1, n2⟩ := seen_nice keep [0] t hN
  have hp : ∀ p ∈ ownS keep t, NiceP p ∧ p.size ≤ 6 := fun p h => by
    have h := (sortP_mem _).mem_iff.mp h
    have h2 := psize_mem h
    refine ⟨?_, by omega⟩
    unfold rawS at h
    rcases List.mem_append.mp h with h | h
    · exact n2 p h
    · obtain ⟨s, hs, rfl⟩ := List.mem_map.mp h
      exact n1 s hs
  have hl : (ownS keep t).length ≤ 7 := by
    rw [ownS, (sortP_mem _).length_eq]
    omega
  refine (sh_tup (n := 21) (w := 7 * 1001) (m := 2) (fun d hd => ?_) (by simp)).mono (by decide) (by decide)
  rcases List.mem_cons.mp hd with rfl | hd
  · exact (str_sh (by decide +kernel) (by decide +kernel)).mono (by decide) (by decide)
  · rw [List.mem_singleton.mp hd]
    refine (sh_tup (n := 20) (w := 1000) (m := 7) (fun d hd => ?_) (by rw [List.length_map]; exact hl))
    obtain ⟨p, hp', rfl⟩ := List.mem_map.mp hd
    exact sh_pc (hp p hp').1 (hp p hp').2
/-- what is due of the item d -/
def dueD (t : T) : PyData → PyData
  | .tuple ps => if keptB t (.tuple ps) then toldD (ownS (flagOf ((ps.map natsOf).map (0 :: ·))) t) else oddD
  | _ => oddD
theorem odd_sh : Sh 30 20000 oddD := ⟨by decide +kernel, by decide +kernel, by decide +kernel, by decide +kernel, by decide +kernel, by decide +kernel⟩
theorem due_sh {t : T} {d : PyData} (hN : NiceM t) (hs : size t ≤ 6) : Sh 30 20000 (dueD t d) := by
  cases d with
  | tuple ps =>
    rw [dueD]
    split
    · exact own_sh _ hN hs
    · exact odd_sh
  | _ => exact odd_sh
theorem told_flat (ps : List Pc) : flat (toldD ps) = true := by
  rw [toldD, flat_tup, flats_cons, flats_cons, flat_tup]
  exact ⟨rfl, pcs_flat _, rfl⟩
theorem due_flat (t : T) (d : PyData) : flat (dueD t d) = true := by
  cases d with
  | tuple ps =>
    rw [dueD]
    split
    · exact told_flat _
    · rfl
  | _ => rfl
theorem due_some {t : T} (d : PyData) : ∃ ps, dueD t d = .tuple ps := by
  cases d with
  | tuple ps =>
    rw [dueD]
    split
    · exact ⟨_, rfl⟩
    · exact ⟨_, rfl⟩
  | _ => exact ⟨_, rfl⟩
/-- an item of the law -/
def ItemOk (d : PyData) : Prop := (∀ ps, d = .tuple ps → ps.length ≤ 100 ∧ ∀ x ∈ ps, ElOk x) ∧ Sh 30 100000 d
theorem nice_lay {t : T} (h : NiceM t) : Lay t := (sh_tree t h).lay
def oddItems : List PyData := [.none, .int 0, .str "()"]
def oddItems2 : List PyData := [.tuple [.none], .tuple [.tuple [.bool true]], .tuple [.list []], .tuple [.tuple [.int (-1)]], .tuple [.int 0], .tuple [.tuple [], .tuple [.tuple []]], .tuple [.str ""], .tuple [.tuple [.bool false]]]
def itemsOf (W : List PyData) : List PyData := (setsF W).map .tuple ++ [.tuple W.reverse, .tuple (W ++ W.drop (W.length - 1)), .tuple (W ++ [pathD [9]]), .tuple (W ++ [pathD [0, 0, 0, 0]]), .list W] ++ oddItems ++ oddItems2
theorem sh_path_el {q : List Nat} (h1 : dig q) (h2 : q.length ≤ 10) : ElOk (pathD q) ∧ Sh 10 1000 (pathD q) := ⟨.inl ⟨q, rfl, h1, h2⟩, path_sh h1 h2⟩
theorem item_tup {ps : List PyData} (h : ∀ x ∈ ps, ElOk x) (hl : ps.length ≤ 64) : ItemOk (.tuple ps) := ⟨fun qs e => by cases e; exact ⟨by omega, h⟩, (sh_tup (n := 10) (w := 1000) (m := 64) (fun x hx => el_sh (h x hx)) hl).mono (by decide) (by decide)⟩
theorem items_ok {W : List PyData} (h : ∀ x ∈ W, ∃ q, x = pathD q ∧ dig q ∧ q.length ≤ 10) (hl : W.length ≤ 6) : ∀ d ∈ itemsOf W, ItemOk d := fun d hd => by
  have hE : ∀ x ∈ W, ElOk x := fun x hx => .inl (h x hx)
  have shw : Sh 30 100000 (.list W) := (sh_lst (n := 10) (w := 1000) (m := 6) (fun x hx => el_sh (hE x hx)) hl).mono (by decide) (by decide)
  have p9 : ElOk (pathD [9]) := .inl ⟨_, rfl, fun x hx => (by rw [List.mem_singleton.mp hx]; decide), by decide⟩
  have p0 : ElOk (pathD [0, 0, 0, 0]) := .inl ⟨_, rfl, fun x hx => (by simp at hx; omega), by decide⟩
  have app : ∀ {a b : List PyData}, (∀ x ∈ a, ElOk x) → (∀ x ∈ b, ElOk x) → ∀ x ∈ a ++ b, ElOk x := fun ha hb x hx => (List.mem_append.mp hx).elim (ha x) (hb x)
  unfold itemsOf at hd
  rcases List.mem_append.mp hd with hd | hd
  · rcases List.mem_append.mp hd with hd | hd
    · rcases List.mem_append.mp hd with hd | hd
      · obtain ⟨s, hs, rfl⟩ := List.mem_map.mp hd
        obtain ⟨s1, s2⟩ := sets_mem W s hs
        exact item_tup (fun x hx => hE x (s2 x hx)) (by omega)
      · simp only [List.mem_cons, List.not_mem_nil, or_false] at hd
        rcases hd with rfl | rfl | rfl | rfl | rfl
        · exact item_tup (fun x hx => hE x (List.mem_reverse.mp hx)) (by rw [List.length_reverse]; omega)
        · exact item_tup (app hE fun x hx => hE x (List.mem_of_mem_drop hx)) (by rw [List.length_append, List.length_drop]; omega)
        · exact item_tup (app hE fun x hx => (List.mem_singleton.mp hx) ▸ p9) (by rw [List.length_append, List.length_singleton]; omega)
        · exact item_tup (app hE fun x hx => (List.mem_singleton.mp hx) ▸ p0) (by rw [List.length_append, List.length_singleton]; omega)
        · exact ⟨fun ps e => (by cases e), shw⟩
    · simp only [oddItems, List.mem_cons, List.not_mem_nil, or_false] at hd
      rcases hd with rfl | rfl | rfl <;> exact ⟨fun ps e => (by cases e), ⟨by decide +kernel, by decide +kernel, by decide +kernel, by decide +kernel, by decide +kernel, by decide +kernel⟩⟩
  · have od : ∀ {x : PyData}, oddB x = true → PyData.strOk (PyData.shown x) = true → Sh 10 1000 x → ElOk x := fun a b c => .inr ⟨a, b, c⟩
    simp only [oddItems2, List.mem_cons, List.not_mem_nil, or_false] at hd
    have one : ∀ {x : PyData}, ElOk x → ItemOk (.tuple [x]) := fun h => item_tup (fun y hy => (List.mem_singleton.mp hy) ▸ h) (by simp)
    have pe : ElOk (.tuple []) := .inl ⟨[], rfl, fun x hx => (by cases hx), by decide⟩
    rcases hd with rfl | rfl | rfl | rfl | rfl | rfl | rfl | rfl
    · exact one (od (by decide +kernel) (by decide +kernel) ⟨by decide +kernel, by decide +kernel, by decide +kernel, by decide +kernel, by decide +kernel, by decide +kernel⟩)
    · exact one (od (by decide +kernel) (by decide +kernel) ⟨by decide +kernel, by decide +kernel, by decide +kernel, by decide +kernel, by decide +kernel, by decide +kernel⟩)
    · exact one (od (by decide +kernel) (by decide +kernel) ⟨by decide +kernel, by decide +kernel, by decide +kernel, by decide +kernel, by decide +kernel, by decide +kernel⟩)
    · exact one (od (by decide +kernel) (by decide +kernel) ⟨by decide +kernel, by decide +kernel, by decide +kernel, by decide +kernel, by decide +kernel, by decide +kernel⟩)
    · exact one (od (by decide +kernel) (by decide +kernel) ⟨by decide +kernel, by decide +kernel, by decide +kernel, by decide +kernel, by decide +kernel, by decide +kernel⟩)
    · refine item_tup (fun y hy => ?_) (by simp)
      rcases List.mem_cons.mp hy with rfl | hy
      · exact pe
      · rw [List.mem_singleton.mp hy]
        exact od (by decide +kernel) (by decide +kernel) ⟨by decide +kernel, by decide +kernel, by decide +kernel, by decide +kernel, by decide +kernel, by decide +kernel⟩
    · exact one (od (by decide +kernel) (by decide +kernel) ⟨by decide +kernel, by decide +kernel, by decide +kernel, by decide +kernel, by decide +kernel, by decide +kernel⟩)
    · exact one (od (by decide +kernel) (by decide +kernel) ⟨by decide +kernel, by decide +kernel, by decide +kernel, by decide +kernel, by decide +kernel, by decide +kernel⟩)
end K17
set_option maxHeartbeats 2000000
/-! ### the law's look at one tree: _law_agrees, its reading -/
namespace K17
open PySem PySem.Spec PyProof.Rows L2 Evl Fx Fr Dt Tr K18 So DtG
theorem sets_last {α : Type} (l : List α) : (setsF l)[(setsF l).length - 1]? = some l := by
  refine snoc_ind (p := fun l : List α => (setsF l)[(setsF l).length - 1]? = some l) rfl (fun l x ih => ?_) l
  have h1 := sets_len l
  have h2 : 0 < 2 ^ l.length := Nat.two_pow_pos _
  rw [sets_snoc, List.length_append, List.length_map, List.getElem?_append_right (by omega), List.getElem?_map, show (setsF l).length + (setsF l).length - 1 - (setsF l).length = (setsF l).length - 1 by omega, ih]
  rfl
section
variable {P : Program} {w : World} {K : PySem.W.Frag} {mg : Str → Option Value} {base : Heap} {f f2 f3 : Addr} {fd fd2 fd3 : FuncData} {te tl ta tb : TE} {σ σ2 : L2.St} {H H' : Hp} {k ka kb n : Nat} {d d0 : PyData} {ds es : List PyData} {g : TG} {vs : List Nat} {C : Addr} {xs ys : List V} {ss : List (List PyData)} {TS : List (Addr × Str)}
def items1 (W : List PyData) : List PyData := (setsF W).map PyData.tuple ++ [PyData.tuple W.reverse, PyData.tuple (W ++ W.drop (W.length - 1)), PyData.tuple (W ++ [pathD [9]]), PyData.tuple (W ++ [pathD [0, 0, 0, 0]]), PyData.list W]
theorem items1_len (W : List PyData) : (items1 W).length = (setsF W).length + 5 := by simp [items1]
theorem rd_non : EvR F0 (tC .non) σ H 0 (IsD K .none) := fun n1 H1 hn g e Q q => q _ H1 Kx.refl g .non
theorem isL_ex {v : V} (e : Ex H H') (p : IsL F0 K ds v H) : IsL F0 K ds v H' := by
  obtain ⟨a, xs, rfl, hT, ha, hx⟩ := p
  exact ⟨a, xs, rfl, hT, e _ _ ha, dps_ex e _ _ hx⟩
theorem rl_varX {i : Nat} {v : V} (h : σ[i]? = some (some v)) (p : IsL F0 K ds v H) : EvR F0 (tVar i) σ H 0 (IsL F0 K ds) := fun n H1 hn g e Q q => ⟨v, h, q v H1 Kx.refl g (isL_ex (F0.ex e) p)⟩
theorem rd_tup0 {tr : TA} (h : EvRA F0 tr σ H 0 (fun vs H => DpAll K H vs ds)) (hl : ds.length ≤ 100000 := by simp) : EvR F0 (tTup tr) σ H 0 (IsD K (.tuple ds)) :=
  fun n H1 hn g e Q q => h n H1 hn g e _ fun vs H2 e2 g2 p => ⟨sz_of (by rw [dps_len p]; exact hl), fun a ha => q (.ref a) _ (e2.trans (Kx.ex (Ex.new ha))) F0.g (.tup (st_of upd_same) (dps_ex (Ex.new ha) _ _ p))⟩
theorem rl_catX (ha : EvR F0 ta σ H 0 (IsL F0 K ds)) (hb : EvR F0 tb σ H 0 (IsL F0 K es)) (hl : ds.length + es.length ≤ 100000) : EvR F0 (tOp rCat ta tb) σ H 0 (IsL F0 K (ds ++ es)) := fun n H1 hn g e Q q =>
  ha n H1 hn g e _ fun x H2 e2 _ p => hb n H2 hn F0.g (e.trans e2) _ fun y H3 e3 _ p' => by
    obtain ⟨a, xs, rfl, hT, ha, hx⟩ := isL_ex (F0.ex e3) p
    obtain ⟨b, ys, rfl, hT', hb, hy⟩ := p'
    have l1 := dps_len hx
    have l2 := dps_len hy
    refine ⟨a, b, xs, ys, rfl, rfl, ha, hb, sz_of (by omega), fun l hl => ?_⟩
    have el := Ex.new (o := HO.lst (xs ++ ys)) hl
    exact q (.ref l) _ (e2.trans (e3.trans (Kx.ex el))) F0.g ⟨l, _, rfl, fun z => z, upd_same, dps_ex el _ _ (dps_app hx hy)⟩
theorem r_lcTup {j : Nat} (h : EvR F0 tl σ H 0 (fun v H' => ∃ a xs, v = .ref a ∧ H' a = some (.lst xs) ∧ LsAll K H' xs ss)) (hz : ss.length ≤ 1000) (hj : ∀ x : V, ((wipe σ vs).set j (some x))[j]? = some (some x)) (hw : ∀ x : V, wipe ((wipe σ vs).set j (some x)) vs = wipe σ vs) :
    EvR F0 (tLc (iList K tl) (gName j) tYes (tCB (rTupOf K) (tCons (tVar j) tNil)) vs) σ H 0 (IsL F0 K (ss.map .tuple)) := fun n H0 hn g e Q q => h n H0 hn g e _ fun v H1 e1 _ ⟨a, xs, ev, hA, hl⟩ => by
  subst ev
  refine ⟨a, rfl, ⟨xs, sq_of hA⟩, fun D hD => ?_⟩
  have lx := ls_len hl
  refine lc_list (xs := xs) (fun n H' => Ex H1 H' ∧ ∃ us, H' D = some (.lst us) ∧ DpAll K (del H' D) us ((ss.take n).map .tuple)) ⟨Ex.new hD, [], upd_same, by rw [List.take_zero]; exact .nil⟩ (fun n H' _ p => sq_of (p.1 _ _ hA)) (fun n x H' hxn ⟨p, us, hDD, du'⟩ => ?_) fun H' ⟨p, us, hDD, du'⟩ => ?_
  · obtain ⟨l, os, s, rfl, hl1, hsn, ds1⟩ := ls_get hl hxn
    have lus := dps_len du'
    rw [List.length_map, List.length_take] at lus
    have hln : n < xs.length := (List.getElem?_eq_some_iff.mp hxn).1
    refine ⟨hw _, .ref l, hj _, l, os, rfl, .inl ⟨sq_of (p _ _ hl1), fun c hc => ?_⟩⟩
    have ec := Ex.new (o := HO.tup os) hc
    have hD4 := ec _ _ hDD
    have hcD : c ≠ D := (ne_addr hc hDD).symm
    have e1D : Ex H1 (del (upd H' c (.tup os)) D) := fun b o hb => by
      have hbD : b ≠ D := fun z => by rw [z, hD] at hb; cases hb
      rw [del_ne hbD]
      exact ec _ _ (p _ _ hb)
    refine ⟨us, hD4, sz_lt (by omega), (p.trans ec).mut hD, _, upd_same, ?_⟩
    rw [del_upd, List.take_add_one, hsn, List.map_append]
    exact dps_app (dps_ex (del_ex fun b' o _ h => ec _ _ h) _ _ du') (.cons (.tup (st_of (by rw [del_ne hcD]; exact upd_same)) (dps_ex e1D _ _ ds1)) .nil)
  · rw [lx, List.take_length] at du'
    exact q (.ref D) H' (e1.trans (Kx.ex p)) F0.g ⟨D, us, rfl, fun z => z, hDD, dps_ex ex_del _ _ du'⟩
theorem extN_mut {l : Addr} {o : HO} (e : LamX.ExtN H H') (h : ∀ b u, H b = some u → (∀ ps, u ≠ .tbl ps) → b ≠ l) : LamX.ExtN H (upd H' l o) := fun b u hb hn => by
  rw [upd_ne (h b u hb hn)]
  exact e b u hb hn
theorem tabs_lst {l : Addr} {o : HO} (t : LamX.Tabs TS H) (h : H l = some (.lst xs)) : LamX.Tabs TS (upd H l o) := fun p hp => by
  obtain ⟨ps, h1, h2, h3⟩ := t p hp
  have ne : ∀ {b : Addr} {u : HO}, H b = some u → (∀ ys, u ≠ .lst ys) → b ≠ l := fun hb hu z => by
    rw [z, h] at hb
    exact hu xs (Option.some.inj hb).symm
  refine ⟨ps, by rw [upd_ne (ne h1 fun ys z => by cases z)]; exact h1, h2, fun pos cv hc => ?_⟩
  obtain ⟨c, e1, e2⟩ := h3 pos cv hc
  exact ⟨c, e1, by rw [upd_ne (ne e2 fun ys z => by cases z)]; exact e2⟩
theorem r_sets {i : Nat} {v : V} {ws : List (List Nat)} {E : XK} (h : σ[i]? = some (some v)) (hl : ws.length ≤ 6) (hv : Dp K H v (.list (ws.map pathD))) : EvR F0 (tCall (spSets K) [] E (tCons (tVar i) tNil)) σ H 0 (fun v H' => ∃ a xs, v = .ref a ∧ H' a = some (.lst xs) ∧ LsAll K H' xs (setsF (ws.map pathD))) := fun n H1 hn g e Q q =>
  ⟨v, h, v, ws, rfl, hl, dp_ex (F0.ex e) _ _ hv, fun a xs H' _ ex ha hls => q (.ref a) H' (Kx.ex ex) F0.g ⟨a, xs, rfl, ha, hls⟩⟩
theorem r_due {i j : Nat} {v x : V} {t : T} {E : XK} (hi : σ[i]? = some (some v)) (hj : σ[j]? = some (some x)) (hs : size t ≤ 6) (hN : NiceM t) (ok : ItemOk d) (p1 : Dp K H v (enc t)) (p2 : Dp K H x d) : EvR F0 (tCall (spDue K) [] E (tCons (tVar i) (tCons (tVar j) tNil))) σ H 0 (IsD K (dueD t d)) := fun n H1 hn g e Q q => by
  have ek := due_kept hs ok.1
  refine ⟨v, hi, x, hj, v, x, t, d, rfl, hs, nice_lay hN, ok.1, dp_ex (F0.ex e) _ _ p1, dp_ex (F0.ex e) _ _ p2, fun hb ps ed v' H' ex dv => ?_, fun hb v' H' ex dv => ?_⟩
  · subst ed
    refine q v' H' (Kx.ex ex) F0.g ?_
    show Dp K H' v' (dueD t (.tuple ps))
    rw [dueD, if_pos (by rw [← ek]; exact hb)]
    exact dv
  · refine q v' H' (Kx.ex ex) F0.g ?_
    have : dueD t d = oddD := by
      cases d with
      | tuple ps => rw [dueD, if_neg (by rw [← ek, hb]; decide)]
      | _ => rfl
    show Dp K H' v' (dueD t d)
    rw [this]
    exact dv
/-- what the lambda's call is asked for -/
theorem sight_told {v x : V} {t : T} {Q : VK} (hs : size t ≤ 6) (ok : ItemOk d) (p1 : Dp K H v (enc t)) (p2 : Dp K H x d) (q : ∀ p H', Ex H H' → Dp K H' (.ref p) (dueD t d) → Q (.ref p) H') :
    spSight K C [v, x] H (fun u H2 => ∀ p, H2 p = none → Q (.ref p) (upd H2 p (.tup [.str "told", u]))) (exOut C Q) := by
  refine ⟨v, x, t, d, rfl, hs, fun ps e => (ok.1 ps e).1, p1, p2, fun hb ps e u H2 e2 du p hp => ?_, fun hb H2 dd fs e2 hd lw la => ⟨rfl, dd, fs, _, _, rfl, hd, lw, la, fun H3 p e3 hp => ?_⟩⟩
  · subst e
    have ep := Ex.new (o := HO.tup [V.str "told", u]) hp
    refine q p _ (e2.trans ep) ?_
    rw [dueD, if_pos hb, toldD, ← sight_own]
    exact .tup (st_of upd_same) (.cons (.str _) (.cons (dp_ex ep _ _ du) .nil))
  · refine q p H3 (e2.trans e3) ?_
    have : dueD t d = oddD := by
      cases d with
      | tuple ps => rw [dueD, if_neg (by rw [hb]; decide)]
      | _ => rfl
    rw [this]
    exact .tup (st_of hp) (.cons (.str _) (.cons (.str _) (.cons (.int _) .nil)))
theorem lam1 {PT : Addr} {i j : Nat} {v x : V} {t : T} {Q : VK} (hi : σ[i]? = some (some v)) (hj : σ[j]? = some (some x)) (hT : LamX.Tabs [(PT, lamQ)] H) (hs : size t ≤ 6) (ok : ItemOk d) (p1 : Dp K H v (enc t)) (p2 : Dp K H x d)
    (q : ∀ p H', LamX.ExtN H H' → LamX.Tabs [(PT, lamQ)] H' → Dp K H' (.ref p) (dueD t d) → Q (.ref p) H') : LamX.tLam [(PT, lamQ)] (TOut C) (fun E => tCall (spSight K C) [] E (tCons (tVar i) (tCons (tVar j) tNil))) σ H Q :=
  ⟨hT, fun H1 e1 T1 H2 e2 => ⟨v, hi, x, hj, sight_told hs ok (dp_ex e2 _ _ (dp_n e1 _ _ p1)) (dp_ex e2 _ _ (dp_n e1 _ _ p2)) fun p H3 e3 dp => q p H3 (e1.trans (ex_n (e2.trans e3))) (T1.ext fun b o h => (e2.trans e3) b o h) dp⟩⟩
theorem lam2 {PT : Addr} {i j : Nat} {v x : V} {t : T} {Q : VK} (hi : σ[i]? = some (some v)) (hj : σ[j]? = some (some x)) (hT : LamX.Tabs [(PT, lamQ)] H) (hs : size t ≤ 6) (ok : ItemOk d) (p1 : Dp K H v (enc t)) (p2 : Dp K H x d)
    (q : ∀ p H', LamX.ExtN H H' → LamX.Tabs [(PT, lamQ)] H' → Dp K H' (.ref p) (dueD t d) → Q (.ref p) H') : LamX.tLam [(PT, lamQ)] (TOut C) (fun E => tCallN 0 (["kept", "tree"] : List Str).length (spSight K C) (fun _ zs => zs.reverse) E tNil (tCons (tVar j) (tCons (tVar i) tNil))) σ H Q :=
  ⟨hT, fun H1 e1 T1 H2 e2 => ⟨x, hj, v, hi, rfl, rfl, sight_told hs ok (dp_ex e2 _ _ (dp_n e1 _ _ p1)) (dp_ex e2 _ _ (dp_n e1 _ _ p2)) fun p H3 e3 dp => q p H3 (e1.trans (ex_n (e2.trans e3))) (T1.ext fun b o h => (e2.trans e3) b o h) dp⟩⟩
end
end K17
set_option maxHeartbeats 1000000
/-! ### k21: the form of a span and of a tree, of any data -/
namespace Q21
open PySem PySem.Spec PyProof.Rows L2 Evl Fx Fr Dt Tr K18 So K17
def isStrB : PyData → Bool
  | .str _ => true
  | _ => false
def spanB : PyData → Bool
  | .tuple [.str _, .int _, .tuple _] => true
  | _ => false
mutual
def dsz : PyData → Nat
  | .tuple ds => dszs ds + 1
  | .list ds => dszs ds + 1
  | _ => 1
def dszs : List PyData → Nat
  | [] => 0
  | d :: ds => dsz d + dszs ds
end
mutual
def shapeB : PyData → Bool
  | .tuple [.str _, .int _, .tuple cs] => shapesB cs
  | _ => false
def shapesB : List PyData → Bool
  | [] => true
  | d :: ds => shapeB d && shapesB ds
end
theorem dszs_app : ∀ xs ys : List PyData, dszs (xs ++ ys) = dszs xs + dszs ys
  | [], ys => by rw [List.nil_append, dszs]; omega
  | x :: xs, ys => by rw [List.cons_append, dszs, dszs, dszs_app xs ys]; omega
theorem len_dszs : ∀ ds : List PyData, ds.length ≤ dszs ds
  | [] => by rw [dszs]; exact Nat.le_refl _
  | d :: ds => by
    have := len_dszs ds
    have h1 : 1 ≤ dsz d := by cases d <;> simp [dsz]
    rw [dszs, List.length_cons]
    omega
theorem shapes_app : ∀ xs ys : List PyData, shapesB (xs ++ ys) = (shapesB xs && shapesB ys)
  | [], ys => by rw [List.nil_append, shapesB, Bool.true_and]
  | x :: xs, ys => by rw [List.cons_append, shapesB, shapesB, shapes_app xs ys, Bool.and_assoc]
theorem span_is {d : PyData} (h : spanB d = true) : ∃ s m cs, d = .tuple [.str s, .int m, .tuple cs] := by
  unfold spanB at h
  split at h
  · exact ⟨_, _, _, rfl⟩
  · cases h
theorem shape_span {d : PyData} (h : spanB d = false) : shapeB d = false := by
  unfold shapeB
  split
  · exact absurd h (by simp [spanB])
  · rfl
section
variable {P : Program} {w : World} {K : PySem.W.Frag} {mg : Str → Option Value} {base : Heap} {f f2 f3 : Addr} {fd fd2 fd3 : FuncData} {te tl ta tb : TE} {σ σ2 : L2.St} {H H' : Hp} {k ka kb n : Nat} {d d0 : PyData} {ds es : List PyData} {g : TG} {vs : List Nat} {i : Int}
theorem kit_str (h : ∀ es, d ≠ .dict es) : kitB (tyN d) "str" = some (isStrB d) := by
  cases d with
  | dict es => exact absurd rfl (h es)
  | none => exact (by decide +kernel : kitB "NoneType" "str" = some false)
  | bool _ => exact (by decide +kernel : kitB "bool" "str" = some false)
  | int _ => exact (by decide +kernel : kitB "int" "str" = some false)
  | str _ => exact (by decide +kernel : kitB "str" "str" = some true)
  | list _ => exact (by decide +kernel : kitB "list" "str" = some false)
  | tuple _ => exact (by decide +kernel : kitB "tuple" "str" = some false)
theorem rv_isi {T : String} {b : Bool} (ha : EvR F0 ta σ H 0 (IsD K d)) (hk : (∀ es, d ≠ .dict es) → kitB (tyN d) T = some b) : EvR F0 (tCB (rIsi K) (tCons ta (tCons (tC (.ty T)) tNil))) σ H 0 (fun x _ => x = .bl b) := fun n H1 hn g e Q q =>
  ha n H1 hn g e _ fun v H2 e2 g2 hv => ⟨v, .ty T, _, _, _, rfl, .ty T, dp_ty hv, kit_ty (hk (dp_nod hv)), q _ H2 e2 g2 rfl⟩
theorem rv_wholeE {E : XK} (ha : EvR F0 ta σ H 0 (IsD K d)) : EvR F0 (tCall (spWhole K) [] E (tCons ta tNil)) σ H 0 (fun x _ => x = .bl (isIntB d)) := fun n H1 hn g e Q q => ha n H1 hn g e _ fun v H2 e2 g2 hv => by
  obtain ⟨b, h1, h2⟩ := kit_bool (dp_nod hv)
  exact ⟨v, tyN d, isIB d, b, rfl, dp_ty hv, kit_int (dp_nod hv), h1, by rw [h2]; exact q _ H2 e2 g2 rfl⟩
theorem rd_ix0 (ha : EvR F0 ta σ H 0 (IsD K (.tuple ds))) (hb : EvR F0 tb σ H 0 (fun x _ => x = .int i)) (j : Nat) (hj : ixN ds.length i = some j) (hd : ds[j]? = some d) : EvR F0 (tOp (rIxT K) ta tb) σ H 0 (IsD K d) := fun n H1 hn g e Q q =>
  ha n H1 hn g e _ fun x H2 e2 g2 px => hb n H2 hn F0.g (e.trans e2) _ fun y H3 e3 g3 py => by
    subst py
    cases dp_ex (F0.ex e3) _ _ px with
    | tup h1 h2 =>
      obtain ⟨u, hu, hdu⟩ := dps_get h2 hd
      exact ⟨_, _, i, u, rfl, rfl, h1, by unfold atI; rw [dps_len h2, hj]; exact hu, q u H3 (e2.trans e3) F0.g hdu⟩
/-- of one datum, of which Pd holds: a bool -/
def spOne (K : PySem.W.Frag) (Pd : PyData → Prop) (b : PyData → Bool) : Sp := fun vs H Q _ => ∃ (v : V) (d : PyData), vs = [v] ∧ Dp K H v d ∧ Pd d ∧ ∀ H', Ex H H' → Q (.bl (b d)) H'
theorem rv_eqI {a b : Int} (ha : EvR F0 ta σ H 0 (fun x _ => x = .int a)) (hb : EvR F0 tb σ H 0 (fun x _ => x = .int b)) : EvR F0 (tOp rEq ta tb) σ H 0 (fun x _ => x = .bl (decide (a = b))) := by
  have h := rv_op (ka := 0) (kb := 0) (z := .bl (decide (V.int a = V.int b))) F0.ok ha hb (fun _ => rv_eq rfl)
  have e : decide (V.int a = V.int b) = decide (a = b) := decide_eq_decide.mpr ⟨fun h => V.int.inj h, fun h => by rw [h]⟩
  rw [e] at h
  exact h
theorem scSpan : FnScope ["thing"] ["thing"] (defScope (K18.topS 14)) := ⟨rfl, rfl, rfl, by decide +kernel, rfl, by decide +kernel, by decide +kernel⟩
def tSpan (K : PySem.W.Frag) : TE := tAndV (tCB (rIsi K) (tCons (tVar 0) (tCons (tC (.ty "tuple")) tNil))) (tAndV (tOp rEq (tCB (rLenS K) (tCons (tVar 0) tNil)) (tC (.int 3))) (tAndV (tCB (rIsi K) (tCons (tOp (rIxT K) (tVar 0) (tC (.int 0))) (tCons (tC (.ty "str")) tNil))) (tAndV (tCall (spWhole K) [] C8.E0 (tCons (tOp (rIxT K) (tVar 0) (tC (.int 1))) tNil)) (tCB (rIsi K) (tCons (tOp (rIxT K) (tVar 0) (tC (.int 2))) (tCons (tC (.ty "tuple")) tNil))))))
theorem rv_span {v : V} (hv : Dp K H v d) : EvR F0 (tSpan K) [some v] H 0 (fun x _ => x = .bl (isTupB d && spanB d)) := by
  have hx : EvR F0 (tVar 0) [some v] H 0 (IsD K d) := rd_var0 rfl hv
  refine rb_and (F := F0) (ka := 0) (kb := 0) (b := spanB d) F0.ok (rv_isi (K := K) (T := "tuple") hx kit_tup) fun h1 => ?_
  obtain ⟨ds, rfl⟩ : ∃ ds, d = .tuple ds := by cases d <;> first | exact ⟨_, rfl⟩ | (exact absurd h1 (by simp [isTupB]))
  have hl := rv_eqI (rv_lenT (F := F0) hx) (rv_c (F := F0) (v := .int 3))
  have e3 : spanB (.tuple ds) = (decide (((ds.length : Nat) : Int) = 3) && spanB (.tuple ds)) := by
    by_cases h3 : ((ds.length : Nat) : Int) = 3
    · rw [decide_eq_true h3, Bool.true_and]
    · rw [decide_eq_false h3, Bool.false_and]
      match ds, h3 with
      | [], _ => rfl
      | [_], _ => simp [spanB]
      | [_, _], _ => simp [spanB]
      | _ :: _ :: _ :: _ :: _, _ => simp [spanB]
      | [_, _, _], h3 => exact absurd rfl h3
  rw [e3]
  refine rb_and (F := F0) (ka := 0) (kb := 0) (b := spanB (.tuple ds)) F0.ok hl fun h2 => ?_
  have h2 : ((ds.length : Nat) : Int) = 3 := of_decide_eq_true h2
  match ds, h2, hx with
  | [a, b, c], _, hx =>
    have i0 : EvR F0 (tOp (rIxT K) (tVar 0) (tC (.int 0))) [some v] H 0 (IsD K a) := rd_ix0 hx rv_c 0 rfl rfl
    have i1 : EvR F0 (tOp (rIxT K) (tVar 0) (tC (.int 1))) [some v] H 0 (IsD K b) := rd_ix0 hx rv_c 1 rfl rfl
    have i2 : EvR F0 (tOp (rIxT K) (tVar 0) (tC (.int 2))) [some v] H 0 (IsD K c) := rd_ix0 hx rv_c 2 rfl rfl
    have e : spanB (.tuple [a, b, c]) = (isStrB a && (isIntB b && isTupB c)) := by
      cases a <;> first | rfl | (cases b <;> first | rfl | (cases c <;> rfl))
    rw [e]
    exact rb_and (ka := 0) (kb := 0) F0.ok (rv_isi i0 kit_str) fun _ => rb_and (ka := 0) (kb := 0) F0.ok (rv_wholeE i1) fun _ => rv_isi i2 kit_tup
theorem ok_span (F : Fun K "has_span_shape" "has_span_shape" (K18.topS 14) f fd) (cW : C8.Cal P w K mg base 1 "is_whole" (spWhole K) []) (mI : mg "isinstance" = none) (mt : mg "tuple" = none) (ms : mg "str" = none) (ml : mg "len" = none) : FnOk P w K mg base CX0 2 f fd ["thing"] (spOne K (fun _ => True) spanB) := by
  refine F.ok scSpan (fun vs H Q E h => ?_) (fun cdv A outer s H vs Q E hr h => ?_)
  · obtain ⟨v, d, rfl, _⟩ := h
    rfl
  · obtain ⟨v, d, rfl, hv, _, q⟩ := h
    refine ⟨_, pss_one (ps_ret (pe_and (pe_callB call_isi (by rfl) mI (by decide +kernel) (pa_cons (pv 0) (pa_cons (pe_bltn (v := .ty "tuple") (by rfl) mt (by decide +kernel) rfl) pa_nil)))
      (pe_and (pe_cmpR op_eq (pe_callB (r := rLenS K) call_lenS (by rfl) ml PySem.boot_len (pa_cons (pv 0) pa_nil)) pe_int (nomark _))
      (pe_and (pe_callB call_isi (by rfl) mI (by decide +kernel) (pa_cons (pe_ix ix_tup (pv 0) pe_int (fun _ _ => rfl)) (pa_cons (pe_bltn (v := .ty "str") (by rfl) ms (by decide +kernel) rfl) pa_nil)))
      (pe_and (C8.pe_c cW hr (by decide) (by rfl) (pa_cons (pe_ix ix_tup (pv 0) pe_int (fun _ _ => rfl)) pa_nil))
      (pe_one (pe_callB call_isi (by rfl) mI (by decide +kernel) (pa_cons (pe_ix ix_tup (pv 0) pe_int (fun _ _ => rfl)) (pa_cons (pe_bltn (v := .ty "tuple") (by rfl) mt (by decide +kernel) rfl) pa_nil))))))))), ?_⟩
    show tRet (tSpan K) _ [some v] H
    refine rv_span hv 0 H (Nat.le_refl _) F0.g Kx.refl _ fun v' H' e' _ z => ?_
    subst z
    have : (isTupB d && spanB d) = spanB d := by cases d <;> first | rfl | (simp [isTupB])
    rw [this]
    exact q H' (F0.ex e')
end
end Q21
set_option maxHeartbeats 1000000
/-! ### k21: has_tree_shape -/
namespace Q21
open PySem PySem.Spec PyProof.Rows L2 Evl Fx Fr Dt Tr K18 So K17
theorem scShape : FnScope ["thing", "waiting", "here"] ["thing"] (defScope (K18.topS 15)) := ⟨rfl, rfl, rfl, by decide +kernel, rfl, by decide +kernel, by decide +kernel⟩
section
variable {P : Program} {w : World} {K : PySem.W.Frag} {mg : Str → Option Value} {base : Heap} {f f2 f3 : Addr} {fd fd2 fd3 : FuncData} {te tl ta tb : TE} {σ σ2 : L2.St} {H H' : Hp} {k ka kb n : Nat} {d d0 : PyData} {ds es : List PyData} {g : TG} {vs : List Nat} {i : Int}
theorem cal_one {Pd : PyData → Prop} {b : PyData → Bool} {E : XK} (ha : EvR F0 ta σ H 0 (IsD K d)) (h : Pd d) : EvR F0 (tCall (spOne K Pd b) [] E (tCons ta tNil)) σ H 0 (fun x _ => x = .bl (b d)) := fun n H1 hn g e Q q =>
  ha n H1 hn g e _ fun v H2 e2 g2 hv => ⟨v, d, rfl, hv, h, fun H3 e3 => q _ H3 (e2.trans (Kx.ex e3)) F0.g rfl⟩
theorem ok_shape (F : Fun K "has_tree_shape" "has_tree_shape" (K18.topS 15) f fd) (cS : C8.Cal P w K mg base 2 "has_span_shape" (spOne K (fun _ => True) spanB) []) : FnOk P w K mg base CX0 3 f fd ["thing"] (spOne K (fun d => dsz d ≤ 1000) shapeB) := by
  refine F.ok scShape (fun vs H Q E h => ?_) (fun cdv A outer s H vs Q E hr h => ?_)
  · obtain ⟨v, d, rfl, _⟩ := h
    rfl
  · obtain ⟨v, d, rfl, hv, hz, q⟩ := h
    refine ⟨_, pss_cons (ps_set (i := 1) scShape.nd rfl (.inl rfl) (pe_lst (pa_cons (pv 0) pa_nil)))
      (pss_cons (ps_while PassesOwn.never (pt_truth (pv 1) (fun _ => rfl))
        (pss_cons (ps_asg (pe_bm0 PySem.F.plainAttrs_list PySem.F.slot_list_pop PySem.F.type_list_pop mt_pop (pv 1)) (pg_name (i := 2) scShape.nd rfl (.inl rfl)))
        (pss_cons (ps_if (pt_not (pt_val (C8.pe_c cS hr (by decide) (by rfl) (pa_cons (pv 2) pa_nil)))) (pss_one (ps_ret pe_bl)) pss_nil)
        (pss_one (ps_expr (pe_bm PySem.F.plainAttrs_list PySem.F.slot_list_extend PySem.F.type_list_extend mt_extendT (pv 1) (pa_cons (pe_ix ix_tup (pv 2) pe_int (fun _ _ => rfl)) pa_nil)))))))
      (pss_one (ps_ret pe_bl))), ?_⟩
    show tSeq (tAsg (tLst (tCons (tVar 0) tNil)) (gName 1)) (tSeq (tWhile (tTru K 1) _) _) _ _ _
    refine q_asgL (el_lst (ea_cons (ev_var rfl) ea_nil) (by simp)) fun A1 H1 n1 e1 h1 => ?_
    refine s_while (fun m σ' H' => ∃ (pend : List PyData) (ys : List V) (u : Option V), σ' = [some v, some (.ref A1), u] ∧ Ex H H' ∧ H' A1 = some (.lst ys) ∧ DpAll K H ys pend ∧ shapesB pend = shapeB d ∧ m = dszs pend ∧ m ≤ 1000) (dszs [d]) ⟨[d], [v], none, rfl, e1, h1, .cons hv .nil, by simp [shapesB], rfl, by simp only [dszs]; omega⟩ fun m σ' H' ⟨pend, ys, u, es, ee, hy, dy, hm, em, bm⟩ => ?_
    subst es em
    refine ⟨!ys.isEmpty, et_truL rfl hy, fun hb H3 e3 => ?_, fun hb H3 e3 => ?_⟩
    · have hp : pend ≠ [] := by
        rintro rfl
        cases dy
        simp at hb
      obtain ⟨ps, y, rfl⟩ : ∃ ps y, pend = ps ++ [y] := ⟨_, _, (List.dropLast_concat_getLast hp).symm⟩
      obtain ⟨zs, x, rfl, dz, dv⟩ := dps_last dy
      refine ⟨fun σ2 H2 => ∃ m', m' < dszs (ps ++ [y]) ∧ ∃ (pend : List PyData) (ys : List V) (u : Option V), σ2 = [some v, some (.ref A1), u] ∧ Ex H H2 ∧ H2 A1 = some (.lst ys) ∧ DpAll K H ys pend ∧ shapesB pend = shapeB d ∧ m' = dszs pend ∧ m' ≤ 1000, fun _ _ h => h, ?_⟩
      refine q_popR rfl (e3 _ _ hy) ?_
      have ex1 : Ex H (upd H3 A1 (.lst zs)) := (ee.trans e3).mut n1
      rw [shapes_app] at hm
      have hm' : (shapesB ps && shapeB y) = shapeB d := by simpa [shapesB] using hm
      rw [dszs_app] at bm
      have bm' : dszs ps + dsz y ≤ 1000 := by simpa [dszs] using bm
      refine q_whenR (F := F0) (n := 0) (k := 0) (b := !spanB y) (rt_not (rt_val (cal_one (rd_var0 rfl (dp_ex ex1 _ _ dv)) trivial))) F0.g (Nat.le_refl _) (fun hb' H4 e4 _ => ?_) fun hb' H4 e4 _ => ?_
      · have hs : spanB y = false := by simpa using hb'
        rw [shape_span hs, Bool.and_false] at hm'
        have := q H4 (ex1.trans (F0.ex e4))
        rw [← hm'] at this
        exact this
      · obtain ⟨s', m', cs, rfl⟩ := span_is (show spanB y = true by simpa using hb')
        have e4' := F0.ex e4
        have hy4 : H4 A1 = some (.lst zs) := e4' _ _ upd_same
        have eH := ex1.trans e4'
        cases dv with
        | @tup a xs _ ha hx =>
          cases hx with
          | cons _ hx =>
            cases hx with
            | cons _ hx =>
              cases hx with
              | @cons x3 _ _ _ h3 hx =>
                cases hx
                cases h3 with
                | @tup b us _ hb2 hus =>
                  have lz := dps_len dz
                  have lu := dps_len hus
                  have c1 := len_dszs ps
                  have c2 := len_dszs cs
                  have sz : dsz (.tuple [.str s', .int m', .tuple cs]) = dszs cs + 4 := by simp only [dsz, dszs]; omega
                  refine ⟨.ref A1, rfl, .inl ⟨rfl, zs, sq_of hy4⟩, .ref a, rfl, a, _, 2, .ref b, rfl, rfl, ex_t eH ha, rfl, A1, b, zs, us, rfl, rfl, hy4, ex_t eH hb2, sz_of (by omega), ?_⟩
                  refine ⟨dszs (ps ++ cs), ?_, ps ++ cs, zs ++ us, _, rfl, eH.mut n1, upd_same, dps_app dz hus, ?_, rfl, ?_⟩
                  · rw [dszs_app, dszs_app]
                    simp only [dszs]
                    omega
                  · rw [shapes_app, ← hm']
                    simp [shapeB]
                  · rw [dszs_app]
                    omega
    · have hp : ys = [] := by
        cases ys with
        | nil => rfl
        | cons _ _ => simp at hb
      subst hp
      have hp : pend = [] := by
        cases pend with
        | nil => rfl
        | cons _ _ => cases dy
      subst hp
      have := q H3 (ee.trans e3)
      rw [← hm] at this
      exact this
end
end Q21
set_option maxHeartbeats 2000000
/-! ### k21: <= of tuples that begin with words that differ -/
namespace Q21
open PySem PySem.SeqAt
open PySem.AutoSeq1 (wpAny_loadPart')
open PySem.MeetsSeq PySem.MeetsSeq2 PySem.MeetsSeq3
/-- t <= u of two tuples whose first items differ -/
theorem le_head {l b : Addr} {vs us : Array Value} {n n2 : Nat} {dd dd2 : Option Addr} {sl sl2 : Array (Option Value)} {k : Bool} (z1 : 0 < vs.size) (z2 : 0 < us.size) :
    Meets (Builtin.«tuple.__le__» ⟨[.ref l, .ref b], []⟩)
      (fun A R s => s.heap.get? l = some ⟨.type "tuple", dd, .seq vs n, sl⟩ ∧ s.heap.get? b = some ⟨.type "tuple", dd2, .seq us n2, sl2⟩ ∧ EqAt A.in1 s vs[0] us[0] false ∧ Ob.RcOp .LtE A.in1 s vs[0] us[0] k ∧ R (.ok (.ret (.bool k))) s) :=
  .of_wp fun prog w A R s ⟨ha, hb, he, hr, h⟩ => by
    obtain ⟨hp, gn, ds, tk, os⟩ := s
    have sub := AutoSeq1.sub_tuple_tuple
    have zz : vs.toList.zip us.toList = (vs[0], us[0]) :: (vs.toList.zip us.toList).tail := by
      obtain ⟨vs⟩ := vs
      obtain ⟨us⟩ := us
      cases vs with
      | nil => cases z1
      | cons v vs =>
        cases us with
        | nil => cases z2
        | cons u us => rfl
    wp_walk using wpAny_loadPart' ha, wpAny_loadPart' hb, wpAny_forIn_list _ (fun rest acc s' => acc.1 = none ∧ s' = ⟨hp, gn, ds, tk, os⟩ ∧ rest = vs.toList.zip us.toList) _
    case turn =>
      rintro ⟨y, x⟩ rest acc s' ⟨_, rfl, e⟩
      rw [zz] at e
      injection e with e _
      cases e
      refine wpAny_bind (he prog w _ _ ?_)
      have hk := hr prog w
      wp_walk using hk
      exact ⟨_, rfl, h⟩
    case fin =>
      rintro ⟨_, _⟩ s' ⟨_, _, e⟩
      rw [zz] at e
      cases e
    case h => exact ⟨rfl, rfl, rfl⟩
end Q21
namespace Q21
open PySem PySem.Spec PyProof.Rows L2 Evl Fx Fr Dt Tr K18 So K17
open PySem.W (alike alikeAll AllAlike Sortable dataLe dataLt keyToks keyToksAll)
/-- x <= y of data that are alike, or begin with words that differ -/
def rLeN (K : PySem.W.Frag) : L2.R2 := fun x y H Q => ∃ d d', Dp K H x d ∧ Dp K H y d' ∧ (alike d d' = true ∨ So.HeadsNe d d') ∧ d ≠ .none ∧ PyData.depth d ≤ 60 ∧ Q (.bl (dataLe false id d d')) H
theorem op_leN {X : Cx} (hu : X.A.units + 64 < cLine) : OpR X (compareOp .LtE) (rLeN X.K) := by
  intro pins s σ H x y v u Q I rx ry h
  obtain ⟨d, d', hx, hy, ha, hn, hd, q⟩ := h
  obtain ⟨as, ra⟩ := Dp.reads I d x v hx rx
  obtain ⟨bs, rb⟩ := Dp.reads I d' y u hy ry
  rcases ha with ha | ⟨a, b, r, r', rfl, rfl, hne⟩
  · exact PySem.W.le_data ra rb ha hn (by omega) ⟨.bl _, H, I, rfl, q⟩
  · have q' : Q (.bl (!dataLt (.str b) (.str a))) H := by
      have e : dataLe false id (.tuple (.str a :: r)) (.tuple (.str b :: r')) = !dataLt (.str b) (.str a) := by
        show (!dataLt (.tuple (.str b :: r')) (.tuple (.str a :: r))) = _
        rw [So.toks_heads (Ne.symm hne)]
      rwa [e] at q
    cases ra with
    | @tuple l o xs n _ _ h1 h2 h3 h4 =>
      cases rb with
      | @tuple l' o' xs' n' _ _ k1 k2 k3 k4 =>
        obtain ⟨c1, dd, dt, sl⟩ := o
        obtain ⟨c2, dd2, dt2, sl2⟩ := o'
        simp only at h2 h3 k2 k3
        subst h2 h3 k2 k3
        obtain ⟨xs⟩ := xs
        obtain ⟨xs'⟩ := xs'
        cases h4 with
        | @cons v0 _ vr _ _ _ g1 _ =>
          cases k4 with
          | @cons u0 _ ur _ _ _ g2 _ =>
            have room : X.A.in1.units + min (PyData.depth (.str a)) (PyData.depth (.str b)) < cLine := by
              show X.A.units + 1 + min 0 0 < cLine
              simp only [Nat.min_self]
              omega
            have he := PySem.W.eqAt_alike (.str a) (.str b) X.A.in1 s _ _ _ _ g1 g2 rfl room
            rw [show PyData.eqv (.str a) (.str b) = false by rw [PyData.eqv]; exact beq_false_of_ne hne] at he
            have hr := PySem.W.rcLe_alike (.str a) (.str b) X.A.in1 s _ _ _ _ g1 g2 rfl (fun z => by cases z) room
            have z : wpAny (model X.prog X.w) X.A (compareOp .LtE (.ref l) (.ref l')) (EP X pins σ Q) X.xe s :=
              richCompare_meets_room (op := .LtE) ⟨_, h1, rfl⟩ ⟨_, k1, rfl⟩ F.slot_tuple_le F.entry_tuple_le (F.args_tuple_le_2 _ _) (le_head (by simp) (by simp)) ⟨h1, k1, he, hr, ⟨(fun x => nomatch x), ⟨.bl _, H, I, rfl, q'⟩⟩⟩ (by omega)
            exact z
end Q21
set_option maxHeartbeats 1000000
/-! ### k21: in order -/
namespace Q21
open PySem PySem.Spec PyProof.Rows L2 Evl Fx Fr Dt Tr K18 So K17
open PySem.W (alike alikeAll AllAlike Sortable dataLe dataLt keyToks keyToksAll)
/-- each at most the next -/
def ascD (ds : List PyData) : Bool := (List.range (ds.length - 1)).all fun i => dataLe false id (ds.getD i .none) (ds.getD (i + 1) .none)
/-- what can be compared -/
structure Cmp (n : Nat) (ds : List PyData) : Prop where
  two : ∀ d ∈ ds, ∀ d' ∈ ds, alike d d' = true ∨ So.HeadsNe d d'
  nn : ∀ d ∈ ds, d ≠ .none
  dep : ∀ d ∈ ds, PyData.depth d ≤ 40
  len : ds.length ≤ n
def nSorted : List Str := ["things", "k"]
theorem scSorted : FnScope nSorted ["things"] (defScope (K18.topS 11)) := ⟨rfl, rfl, rfl, by decide +kernel, rfl, by decide +kernel, by decide +kernel⟩
section
variable {P : Program} {w : World} {K : PySem.W.Frag} {mg : Str → Option Value} {base : Heap} {f f2 f3 : Addr} {fd fd2 fd3 : FuncData} {te tl ta tb : TE} {σ σ2 : L2.St} {H H' : Hp} {k ka kb n : Nat} {d d' d0 : PyData} {ds es : List PyData} {g : TG} {vs : List Nat} {i : Int}
theorem rv_leN (ha : EvR F0 ta σ H 0 (IsD K d)) (hb : EvR F0 tb σ H 0 (IsD K d')) (hal : alike d d' = true ∨ So.HeadsNe d d') (hn : d ≠ .none) (hd : PyData.depth d ≤ 60) : EvR F0 (tOp (rLeN K) ta tb) σ H 0 (fun x _ => x = .bl (dataLe false id d d')) := fun n H1 hn1 g e Q q =>
  ha n H1 hn1 g e _ fun x H2 e2 g2 px => hb n H2 hn1 F0.g (e.trans e2) _ fun y H3 e3 g3 py => ⟨d, d', dp_ex (F0.ex e3) _ _ px, py, hal, hn, hd, q _ H3 (e2.trans e3) F0.g rfl⟩
def spSorted (K : PySem.W.Frag) : Sp := fun vs H Q _ => ∃ (v : V) (ds : List PyData), vs = [v] ∧ Dp K H v (.tuple ds) ∧ Cmp 1000 ds ∧ ∀ H', Ex H H' → Q (.bl (ascD ds)) H'
theorem ok_sorted (F : Fun K "is_sorted" "is_sorted" (K18.topS 11) f fd) (m_all : mg "all" = none) (m_range : mg "range" = none) (ml : mg "len" = none) : FnOk P w K mg base CX0 1 f fd ["things"] (spSorted K) := by
  refine F.ok scSorted (fun vs H Q E h => ?_) (fun cdv A outer s H vs Q E hr h => ?_)
  · obtain ⟨v, ds, rfl, _⟩ := h
    rfl
  · obtain ⟨v1, ds, rfl, p1, c, q⟩ := h
    refine ⟨_, pss_one (ps_ret (pe_callB (r := rAll K) (cr_all rfl) (by rfl) m_all (by decide +kernel) (pa_cons (pe_lc (own := [("k", 1)]) (g := gName 1) (by rfl) scSorted.nd (pi_range2 (by rfl) m_range (pa_cons pe_int (pa_cons (pe_callB (r := rLenS K) call_lenS (by rfl) ml PySem.boot_len (pa_cons (pv 0) pa_nil)) pa_nil))) (blkOk_by (own := [("k", 1)]) (N := nSorted) (sc := defScope (K18.topS 11)) (by decide +kernel))
      (fun _ _ _ _ _ => pg_name (i := 1) scSorted.nd rfl (.inl rfl)) (fun _ _ _ _ _ => pts_nil)
      (te := tOp (rLeN K) (tOp (rIxT K) (tVar 0) (tOp (rI0 fun i j => .int (i - j)) (tVar 1) (tC (.int 1)))) (tOp (rIxT K) (tVar 0) (tVar 1)))
      (fun _ _ _ _ _ => pe_cmpR (op_leN (by have := hr.units; show _ < _; exact this)) (pe_ix ix_tup (pv 0) (pe_op op_sub (pv 1) pe_int) (fun _ _ => rfl)) (pe_ix ix_tup (pv 0) (pv 1) (fun _ _ => rfl)) (nomark _))) pa_nil))), ?_⟩
    have lenR : EvR F0 (tCB (rLenS K) (tCons (tVar 0) tNil)) [some v1, none] H 0 (fun x _ => x = .int (ds.length : Int)) := rv_lenT (rd_var0 rfl p1)
    refine s_retR (F := F0) (n := 0) (k := 0) (P := fun v _ => v = .bl (ascD ds)) ?_ F0.g (Nat.le_refl _) fun v H1 e _ ev => by rw [ev]; exact q H1 (F0.ex e)
    have cl := c.len
    refine (rv_all (bs := (List.range (ds.length - 1)).map fun i => dataLe false id (ds.getD i .none) (ds.getD (i + 1) .none)) (r_lcB2 (vs := [1]) (j := 1) (m := ds.length) _ (ra_consV (ka := 0) (kb := 0) rv_c (ra_consV (ka := 0) (kb := 0) lenR ra_nilV)) (by omega) (fun _ => rfl) (fun n H' hn e => ?_))).imp fun _ v _ _ _ ev => by rw [ev, K17.all_range]; rfl
    have h1 : n < ds.length := by omega
    have h2 : n + 1 < ds.length := by omega
    have d1 : ds.getD n .none = ds[n] := by rw [List.getD_eq_getElem?_getD, List.getElem?_eq_getElem h1]; rfl
    have d2 : ds.getD (n + 1) .none = ds[n + 1] := by rw [List.getD_eq_getElem?_getD, List.getElem?_eq_getElem h2]; rfl
    rw [d1, d2]
    have hx : EvR F0 (tVar 0) [some v1, some (.int (1 + (n : Int)))] H' 0 (IsD K (.tuple ds)) := rd_var0 rfl (dp_ex e _ _ p1)
    have vk : EvR F0 (tVar 1) [some v1, some (.int (1 + (n : Int)))] H' 0 (fun x _ => x = .int (1 + (n : Int))) := rv_var rfl
    refine rv_leN (rd_ix0 hx (i := 1 + (n : Int) - 1) (rv_op (ka := 0) (kb := 0) F0.ok vk rv_c fun _ => rv_I0 (g := fun i j => .int (i - j))) n ?_ (List.getElem?_eq_getElem h1)) (rd_ix0 hx vk (n + 1) ?_ (List.getElem?_eq_getElem h2)) (c.two _ (List.getElem_mem h1) _ (List.getElem_mem h2)) (c.nn _ (List.getElem_mem h1)) (Nat.le_trans (c.dep _ (List.getElem_mem h1)) (by decide))
    · rw [show 1 + (n : Int) - 1 = (n : Int) by omega]
      exact ixN_nat h1
    · rw [show 1 + (n : Int) = ((n + 1 : Nat) : Int) by omega]
      exact ixN_nat h2
end
/-! in order is as sorted -/
theorem pw_adj {α : Type} {R : α → α → Prop} (tr : ∀ a b c, R a b → R b c → R a c) : ∀ {l : List α}, (∀ i (h : i + 1 < l.length), R (l[i]'(by omega)) l[i + 1]) → l.Pairwise R
  | [], _ => .nil
  | [a], _ => List.pairwise_singleton _ _
  | a :: b :: r, h => by
    have ih : (b :: r).Pairwise R := pw_adj tr fun i hi => h (i + 1) (by simpa using hi)
    refine List.pairwise_cons.mpr ⟨fun x hx => ?_, ih⟩
    have hab : R a b := h 0 (by simp)
    rcases List.mem_cons.mp hx with rfl | hx
    · exact hab
    · exact tr _ _ _ hab ((List.pairwise_cons.mp ih).1 x hx)
theorem le_tr {α : Type} (k : α → PyData) (a b c : α) (h1 : dataLe false id (k a) (k b) = true) (h2 : dataLe false id (k b) (k c) = true) : dataLe false id (k a) (k c) = true :=
  (PySem.W.sortLe_total (listOrd itemOrd) false fun a : α => keyToks (k a)).trans a b c h1 h2
theorem asc_pw {α : Type} (k : α → PyData) (l : List α) : ascD (l.map k) = true ↔ l.Pairwise (fun a b => dataLe false id (k a) (k b) = true) := by
  unfold ascD
  rw [List.all_eq_true, List.length_map]
  have gd : ∀ i (h : i < l.length), (l.map k).getD i .none = k l[i] := fun i h => by
    rw [List.getD_eq_getElem?_getD, List.getElem?_map, List.getElem?_eq_getElem h]
    rfl
  constructor
  · intro h
    refine pw_adj (le_tr k) fun i hi => ?_
    have h1 := h i (List.mem_range.mpr (by omega))
    rw [gd i (by omega), gd (i + 1) hi] at h1
    exact h1
  · intro h i hi
    have hi := List.mem_range.mp hi
    rw [gd i (by omega), gd (i + 1) (by omega)]
    exact List.pairwise_iff_getElem.mp h i (i + 1) (by omega) (by omega) (by omega)
theorem eqvs_inj {α : Type} {k : α → PyData} (inj : ∀ a b, keyToks (k a) = keyToks (k b) → a = b) (al : ∀ a b, alike (k a) (k b) = true) : ∀ {l m : List α}, PyData.eqvAll (l.map k) (m.map k) = true → l = m
  | [], [], _ => rfl
  | [], _ :: _, h => by simp [PyData.eqvAll] at h
  | _ :: _, [], h => by simp [PyData.eqvAll] at h
  | a :: l, b :: m, h => by
    rw [List.map_cons, List.map_cons, PyData.eqvAll, Bool.and_eq_true] at h
    rw [inj a b ((PySem.W.toks_eqv (k a) (k b) (al a b)).1 h.1), eqvs_inj inj al h.2]
theorem alikes_of {α : Type} {k : α → PyData} (al : ∀ a b, alike (k a) (k b) = true) : ∀ l : List α, alikeAll (l.map k) (l.map k) = true
  | [] => by simp [alikeAll]
  | a :: l => by rw [List.map_cons, alikeAll, al, alikes_of al l]; rfl
/-- list(x) == sorted(x) -/
theorem eqv_sorted {α : Type} {k : α → PyData} (inj : ∀ a b, keyToks (k a) = keyToks (k b) → a = b) (al : ∀ a b, alike (k a) (k b) = true) (l : List α) :
    PyData.eqv (.list (l.map k)) (.list ((l.map k).mergeSort (dataLe false id))) = ascD (l.map k) := by
  have em : (l.map k).mergeSort (dataLe false id) = (l.mergeSort fun a b => dataLe false id (k a) (k b)).map k :=
    (List.map_mergeSort (r := fun a b => dataLe false id (k a) (k b)) (s := dataLe false id) (f := k) (l := l) (fun _ _ _ _ => rfl)).symm
  have pw := Tr.sort_pw k l
  rw [em, Bool.eq_iff_iff, asc_pw]
  constructor
  · intro h
    have e : l = l.mergeSort fun a b => dataLe false id (k a) (k b) := eqvs_inj inj al (by simpa [PyData.eqv] using h)
    rw [e]
    exact pw
  · intro h
    have e : (l.mergeSort fun a b => dataLe false id (k a) (k b)) = l := Tr.one_order (Tr.le_anti inj) pw h (List.mergeSort_perm _ _)
    rw [e]
    have := PySem.W.eqvAll_refl_alike (l.map k) (alikes_of al l)
    simpa [PyData.eqv] using this
end Q21
set_option maxHeartbeats 1000000
/-! ### k21: names and marks -/
namespace Q21
open PySem PySem.Spec PyProof.Rows L2 Evl Fx Fr Dt Tr K18 So K17
def letters : Str := "abcdefghijklmnopqrstuvwxyz"
def nameB (s : Str) : Bool := (decide (1 ≤ s.length) && decide (s.length ≤ 8)) && s.cps.toList.all fun c => decide (c ∈ letters.cps.toList)
theorem letter_is (c : Nat) : decide (c ∈ letters.cps.toList) = (decide (97 ≤ c) && decide (c ≤ 122)) := by
  have h : letters.cps.toList = List.range' 97 26 := by decide +kernel
  rw [h, Bool.eq_iff_iff, decide_eq_true_iff, Bool.and_eq_true, decide_eq_true_iff, decide_eq_true_iff, List.mem_range'_1]
  omega
section
variable {P : Program} {w : World} {K : PySem.W.Frag} {mg : Str → Option Value} {base : Heap} {f f2 f3 : Addr} {fd fd2 fd3 : FuncData} {te tl ta tb tc : TE} {tt : TT} {σ σ2 : L2.St} {H H' : Hp} {k ka kb n : Nat} {d d' d0 : PyData} {ds es : List PyData} {g : TG} {vs : List Nat} {i : Int}
theorem rv_chain {r r' : L2.R2} {x y z : V} {b c : Bool} (ha : EvR F0 ta σ H 0 (fun u _ => u = x)) (hb : EvR F0 tb σ H 0 (fun u _ => u = y)) (hc : EvR F0 tc σ H 0 (fun u _ => u = z)) (h1 : ∀ H Q, Q (.bl b) H → r x y H Q) (h2 : ∀ H Q, Q (.bl c) H → r' y z H Q) :
    EvR F0 (tChain r r' ta tb tc) σ H 0 (fun u _ => u = .bl (b && c)) := by
  intro n H1 hn g e Q q
  refine ha n H1 hn g e _ fun u H2 e2 _ eu => hb n H2 hn F0.g (e.trans e2) _ fun v H3 e3 _ ev => ?_
  subst eu ev
  refine h1 _ _ ⟨b, rfl, ?_⟩
  cases b with
  | false => exact q _ H3 (e2.trans e3) F0.g rfl
  | true =>
    refine hc n H3 hn F0.g (e.trans (e2.trans e3)) _ fun w' H4 e4 _ ew => ?_
    subst ew
    exact h2 _ _ (q _ H4 (e2.trans (e3.trans e4)) F0.g (by rw [Bool.true_and]))
theorem bl_of {Q : VK} {a b : Bool} (h : a = b) (q : Q (.bl a) H) : Q (.bl b) H := h ▸ q
theorem rt_yes0 : EvRT F0 tYes σ H 0 true := fun n H1 hn g e Q q => q H1 Kx.refl g
/-- over the signs of a text -/
theorem lc_str {x : Str} {H1 : Hp} {D : Addr} {Qd : Hp → Prop} (Pv : Nat → Hp → Prop) (h0 : Pv 0 (upd H1 D (.lst [])))
    (hs : ∀ i (c : Nat) H, x.cps[i]? = some c → Pv i H → g (.str ⟨#[c]⟩) (wipe σ vs) H fun σ2 H2 => wipe σ2 vs = wipe σ vs ∧ tt σ2 H2 fun b H3 =>
      if b = true then te σ2 H3 fun y H4 => ∃ acc, H4 D = some (.lst acc) ∧ acc.length < sizeLine ∧ Pv (i + 1) (upd H4 D (.lst (acc ++ [y]))) else Pv (i + 1) H3) (hd : ∀ H, Pv x.cps.size H → Qd H) :
    ∃ W : Nat → Nat → Hp → Prop, (∃ m, W 0 m (upd H1 D (.lst []))) ∧ ∀ i m H, W i m H →
      ((Its x).stop i H ∧ Qd H) ∨ ((Its x).go i H ∧ ∃ Nx : Hp → Prop, (∀ H', Nx H' → ∃ m', m' < m ∧ W (i + 1) m' H') ∧ ∀ y H', (Its x).yld i H y H' → g y (wipe σ vs) H' fun σ2 H2 => wipe σ2 vs = wipe σ vs ∧ tt σ2 H2 fun b H3 =>
        if b = true then te σ2 H3 fun y H4 => ∃ acc, H4 D = some (.lst acc) ∧ acc.length < sizeLine ∧ Nx (upd H4 D (.lst (acc ++ [y]))) else Nx H3) := by
  refine ⟨fun i m H => m = x.cps.size - i ∧ i ≤ x.cps.size ∧ Pv i H, ⟨x.cps.size, by simp, Nat.zero_le _, h0⟩, ?_⟩
  rintro i m H ⟨rfl, hi, p⟩
  by_cases hlt : i < x.cps.size
  · refine .inr ⟨hlt, Pv (i + 1), fun H' p' => ⟨x.cps.size - (i + 1), by omega, rfl, hlt, p'⟩, fun y H' hy => ?_⟩
    obtain ⟨e, c, hc, ey⟩ := hy
    subst e ey
    exact hs i c _ hc p
  · have e : i = x.cps.size := by omega
    subst e
    exact .inl ⟨Nat.le_refl _, hd H p⟩
/-- a list out of the signs of a text -/
theorem r_lcS {j : Nat} {z : Str} (b : Nat → Bool) (v : Nat → V) (ha : EvR F0 ta σ H 0 (fun u _ => u = .str z)) (hz : z.cps.size ≤ 1000) (hw : ∀ x : V, wipe ((wipe σ vs).set j (some x)) vs = wipe σ vs)
    (ht : ∀ n (c : Nat) H', z.cps[n]? = some c → Ex H H' → EvRT F0 tt ((wipe σ vs).set j (some (.str ⟨#[c]⟩))) H' 0 (b n) ∧ (b n = true → EvR F0 te ((wipe σ vs).set j (some (.str ⟨#[c]⟩))) H' 0 (fun u _ => u = v n))) :
    EvR F0 (tLc (iStr ta) (gName j) tt te vs) σ H 0 (fun u H' => ∃ D, u = .ref D ∧ H' D = some (.lst (((List.range z.cps.size).filter b).map v))) := fun n H0 hn g e Q q => ha n H0 hn g e _ fun u H1 e1 _ eu => by
  subst eu
  have e' := F0.ex (e.trans e1)
  refine ⟨z, rfl, fun D hD => ?_⟩
  have e0 := Ex.new (o := HO.lst []) hD
  refine lc_str (x := z) (fun n H' => Ex H1 H' ∧ H' D = some (.lst (((List.range n).filter b).map v))) ⟨e0, upd_same⟩ (fun n c H' hx ⟨p, hDD⟩ => ?_) fun H' ⟨p, hDD⟩ => q _ H' (e1.trans (Kx.ex p)) F0.g ⟨D, rfl, hDD⟩
  have hn' : n < z.cps.size := (Array.getElem?_eq_some_iff.mp hx).1
  have lf : ((List.range n).filter b).length ≤ n := by
    have := List.length_filter_le b (List.range n)
    rwa [List.length_range] at this
  obtain ⟨t1, t2⟩ := ht n c H' hx (e'.trans p)
  refine ⟨hw _, t1 0 H' (Nat.le_refl _) F0.g Kx.refl _ fun H2 e2 _ => ?_⟩
  cases hb : b n with
  | false =>
    refine iteF ⟨p.trans (F0.ex e2), ?_⟩
    rw [List.range_succ, List.filter_append, List.filter_cons_of_neg (by simp [hb]), List.filter_nil, List.append_nil]
    exact F0.ex e2 _ _ hDD
  | true =>
    refine iteT (t2 hb 0 H2 (Nat.le_refl _) F0.g e2 _ fun y H3 e3 _ ey => ⟨_, F0.ex e3 _ _ (F0.ex e2 _ _ hDD), sz_lt (by rw [List.length_map]; omega), (p.trans ((F0.ex e2).trans (F0.ex e3))).mut hD, ?_⟩)
    subst ey
    rw [upd_same, List.range_succ, List.filter_append, List.filter_cons_of_pos (by simp [hb]), List.filter_nil, List.map_append]
    rfl
theorem rv_lenS {z : Str} (ha : EvR F0 ta σ H 0 (fun u _ => u = .str z)) (hz : z.length ≤ 1000) : EvR F0 (tCB (rLen K) (tCons ta tNil)) σ H 0 (fun u _ => u = .int (z.length : Int)) := fun n H1 hn g e Q q =>
  ha n H1 hn g e _ fun u H2 e2 _ eu => by
    subst eu
    exact ⟨.str z, z.length, rfl, ⟨sz_of (by omega), rfl⟩, q _ H2 e2 F0.g rfl⟩
theorem all_idx {α : Type} (l : Array α) (p : α → Bool) : (((List.range l.size).map fun i => (l[i]?.map p).getD true).all id) = l.toList.all p := by
  rw [List.all_map, Bool.eq_iff_iff, List.all_eq_true, List.all_eq_true]
  constructor
  · intro h x hx
    obtain ⟨i, hi, rfl⟩ := List.getElem_of_mem hx
    have hi' : i < l.size := by simpa using hi
    have := h i (List.mem_range.mpr hi')
    simp only [Function.comp, id, Array.getElem?_eq_getElem hi'] at this
    simpa using this
  · intro h i hi
    have hi' := List.mem_range.mp hi
    simp only [Function.comp, id, Array.getElem?_eq_getElem hi']
    exact h _ (by simp)
def nName : List Str := ["text", "letter"]
theorem scName : FnScope nName ["text"] (defScope (K18.topS 17)) := ⟨rfl, rfl, rfl, by decide +kernel, rfl, by decide +kernel, by decide +kernel⟩
def spName (K : PySem.W.Frag) : Sp := fun vs H Q _ => ∃ z : Str, vs = [.str z] ∧ z.length ≤ 1000 ∧ ∀ H', Ex H H' → Q (.bl (nameB z)) H'
theorem ok_name (F : Fun K "is_service_name" "is_service_name" (K18.topS 17) f fd) (m_all : mg "all" = none) (ml : mg "len" = none) : FnOk P w K mg base CX0 1 f fd ["text"] (spName K) := by
  refine F.ok scName (fun vs H Q E h => ?_) (fun cdv A outer s H vs Q E hr h => ?_)
  · obtain ⟨z, rfl, _⟩ := h
    rfl
  · obtain ⟨z, rfl, hz, q⟩ := h
    refine ⟨_, pss_one (ps_ret (pe_and (pe_chain op_le op_le pe_int (pe_callB (r := rLen K) call_len (by rfl) ml PySem.boot_len (pa_cons (pv 0) pa_nil)) pe_int)
      (pe_one (pe_callB (r := rAll K) (cr_all rfl) (by rfl) m_all (by decide +kernel) (pa_cons (pe_lc (own := [("letter", 1)]) (g := gName 1) (by rfl) scName.nd (pi_str (pv 0)) (blkOk_by (own := [("letter", 1)]) (N := nName) (sc := defScope (K18.topS 17)) (by decide +kernel))
      (fun _ _ _ _ _ => pg_name (i := 1) scName.nd rfl (.inl rfl)) (fun _ _ _ _ _ => pts_nil)
      (te := tOp rInS (tVar 1) (tC (.str letters)))
      (fun _ _ _ _ _ => pe_cmpR op_inS (pv 1) pe_str (by rfl))) pa_nil))))), ?_⟩
    have hx : EvR F0 (tVar 0) [some (.str z), none] H 0 (fun u _ => u = .str z) := rv_var rfl
    refine s_retR (F := F0) (n := 0) (k := 0) (P := fun v _ => v = .bl (nameB z)) (rb_and (ka := 0) (kb := 0) F0.ok (rv_chain (b := decide (1 ≤ z.length)) (c := decide (z.length ≤ 8)) (x := .int 1) (y := .int (z.length : Int)) (z := .int 8) rv_c (rv_lenS hx hz) rv_c (fun H Q q => ⟨_, _, rfl, rfl, bl_of (decide_eq_decide.mpr (by omega)) q⟩) (fun H Q q => ⟨_, _, rfl, rfl, bl_of (decide_eq_decide.mpr (by omega)) q⟩)) fun _ => ?_) F0.g (Nat.le_refl _) fun v H1 e _ ev => by rw [ev]; exact q H1 (F0.ex e)
    have R := r_lcS (vs := [1]) (j := 1) (tt := tYes) (te := tOp rInS (tVar 1) (tC (.str letters))) (z := z) (fun _ => true) (fun i => V.bl ((z.cps[i]?.map fun c => decide (c ∈ letters.cps.toList)).getD true)) hx hz (fun _ => rfl) fun n c H' hc e => ⟨rt_yes0, fun _ => by
      rw [hc]
      exact rv_op (ka := 0) (kb := 0) F0.ok (rv_var (i := 1) rfl) rv_c fun _ H _ Q q => ⟨c, letters, rfl, rfl, q _ (Ex.refl _)⟩⟩
    have e1 : ((List.range z.cps.size).filter fun _ => true) = List.range z.cps.size := List.filter_eq_self.mpr fun _ _ => rfl
    refine (rv_all (bs := (List.range z.cps.size).map fun i => (z.cps[i]?.map fun c => decide (c ∈ letters.cps.toList)).getD true) (R.imp fun _ v H' _ _ ⟨D, ev, hD⟩ => ⟨D, ev, by rw [hD, e1, List.map_map]; rfl⟩)).imp fun _ v _ _ _ ev => by rw [ev, all_idx]
end
end Q21
set_option maxHeartbeats 2000000
/-! ### k21: a tree -/
namespace Q21
open PySem PySem.Spec PyProof.Rows L2 Evl Fx Fr Dt Tr K18 So K17
open PySem.W (alike alikeAll AllAlike Sortable dataLe dataLt keyToks keyToksAll)
def markB (m : Int) : Bool := m == 0 || m == 1
mutual
def treeB : PyData → Bool
  | .tuple [.str s, .int m, .tuple cs] => (nameB s && (markB m && ascD cs)) && treesB cs
  | _ => false
def treesB : List PyData → Bool
  | [] => true
  | d :: ds => treeB d && treesB ds
end
def spanOk (t : T) : Bool := nameB t.name && (markB t.mark && ascD (t.calls.map enc))
mutual
theorem tree_subs : ∀ t : T, treeB (enc t) = (subs t).all spanOk
  | .mk s m cs => by
    have := trees_subs cs
    rw [enc, treeB, subs, List.all_cons, this, encs_map]
    rfl
theorem trees_subs : ∀ ts : List T, treesB (encs ts) = (subsA ts).all spanOk
  | [] => by rw [encs, treesB, subsA]; rfl
  | t :: ts => by rw [encs, treesB, subsA, List.all_append, tree_subs t, trees_subs ts]
end
mutual
theorem shape_enc : ∀ d : PyData, shapeB d = true → ∃ t, d = enc t
  | .tuple [.str s, .int m, .tuple cs], h => by
    obtain ⟨ts, e⟩ := shapes_enc cs (by simpa [shapeB] using h)
    exact ⟨.mk s m ts, by rw [enc, e]⟩
  | d, h => by
    unfold shapeB at h
    split at h
    · rename_i s m cs
      obtain ⟨ts, e⟩ := shapes_enc cs h
      exact ⟨.mk s m ts, by rw [enc, e]⟩
    · cases h
theorem shapes_enc : ∀ ds : List PyData, shapesB ds = true → ∃ ts, ds = encs ts
  | [], _ => ⟨[], by rw [encs]⟩
  | d :: ds, h => by
    rw [shapesB, Bool.and_eq_true] at h
    obtain ⟨t, e1⟩ := shape_enc d h.1
    obtain ⟨ts, e2⟩ := shapes_enc ds h.2
    exact ⟨t :: ts, by rw [encs, e1, e2]⟩
end

mutual
theorem dsz_wt : ∀ d : PyData, dsz d ≤ PyData.weight d + 1
  | .tuple ds => by
    have := dszs_wt ds
    rw [dsz, PyData.weight]
    omega
  | .list ds => by
    have := dszs_wt ds
    rw [dsz, PyData.weight]
    omega
  | .none | .bool _ | .int _ | .str _ | .dict _ => by simp [dsz]
theorem dszs_wt : ∀ ds : List PyData, dszs ds ≤ PyData.weightAll ds
  | [] => by simp [dszs]
  | d :: ds => by
    have h1 := dsz_wt d
    have h2 := dszs_wt ds
    rw [dszs, PyData.weightAll]
    omega
end
abbrev Ok (d : PyData) : Prop := Sh 38 500 d
theorem wts_mem : ∀ {ds : List PyData} {d : PyData}, d ∈ ds → PyData.weight d + 1 ≤ PyData.weightAll ds ∧ PyData.depth d ≤ PyData.depthAll ds
  | [], _, h => by cases h
  | x :: ds, d, h => by
    rw [PyData.weightAll, PyData.depthAll]
    rcases List.mem_cons.mp h with rfl | h
    · omega
    · have := wts_mem h
      omega
theorem len_wts : ∀ ds : List PyData, ds.length ≤ PyData.weightAll ds
  | [] => by simp
  | x :: ds => by
    have := len_wts ds
    rw [PyData.weightAll, List.length_cons]
    omega
/-- a part of data that are short enough is -/
theorem Ok.mem {ds : List PyData} (h : Ok (.tuple ds)) {d : PyData} (hd : d ∈ ds) : Ok d := by
  obtain ⟨a1, a2, a3, a4, a5, a6⟩ := h
  have hm := wts_mem hd
  rw [PyData.depth] at a5
  rw [PyData.weight] at a6
  have z1 : ∀ {ds : List PyData}, PyData.canLayAll0 ds = true → ∀ {d}, d ∈ ds → PyData.canLay0 d = true := fun {ds} => by
    induction ds with
    | nil => intro _ d hd; cases hd
    | cons x xs ih =>
      intro h d hd
      rw [PyData.canLayAll0, Bool.and_eq_true] at h
      rcases List.mem_cons.mp hd with rfl | hd
      · exact h.1
      · exact ih h.2 hd
  have z2 : ∀ {ds : List PyData}, PyData.intsShortAll 13 ds = true → ∀ {d}, d ∈ ds → PyData.intsShort 13 d = true := fun {ds} => by
    induction ds with
    | nil => intro _ d hd; cases hd
    | cons x xs ih =>
      intro h d hd
      rw [PyData.intsShortAll, Bool.and_eq_true] at h
      rcases List.mem_cons.mp hd with rfl | hd
      · exact h.1
      · exact ih h.2 hd
  have z3 : ∀ {ds : List PyData}, PyData.showableAll ds = true → ∀ {d}, d ∈ ds → PyData.showable d = true := fun {ds} => by
    induction ds with
    | nil => intro _ d hd; cases hd
    | cons x xs ih =>
      intro h d hd
      rw [PyData.showableAll, Bool.and_eq_true] at h
      rcases List.mem_cons.mp hd with rfl | hd
      · exact h.1
      · exact ih h.2 hd
  have z4 : ∀ {ds : List PyData}, PyData.hasDictAll ds = false → ∀ {d}, d ∈ ds → PyData.hasDict d = false := fun {ds} => by
    induction ds with
    | nil => intro _ d hd; cases hd
    | cons x xs ih =>
      intro h d hd
      rw [PyData.hasDictAll, Bool.or_eq_false_iff] at h
      rcases List.mem_cons.mp hd with rfl | hd
      · exact h.1
      · exact ih h.2 hd
  exact ⟨z1 (by simpa [PyData.canLay0] using a1) hd, z2 (by simpa [PyData.intsShort] using a2) hd, z3 (by simpa [PyData.showable] using a3) hd, z4 (by simpa [PyData.hasDict] using a4) hd, by omega, by omega⟩
end Q21
set_option maxHeartbeats 2000000
/-! ### k21: is_mark, fault_of_span, is_tree -/
namespace Q21
open PySem PySem.Spec PyProof.Rows L2 Evl Fx Fr Dt Tr K18 So K17
open PySem.W (alike alikeAll AllAlike Sortable dataLe dataLt keyToks keyToksAll)
theorem scMark : FnScope ["thing"] ["thing"] (defScope (K18.topS 18)) := ⟨rfl, rfl, rfl, by decide +kernel, rfl, by decide +kernel, by decide +kernel⟩
def nFault : List Str := ["tree", "service", "mark", "trees"]
theorem scFault : FnScope nFault ["tree"] (defScope (K18.topS 19)) := ⟨rfl, rfl, rfl, by decide +kernel, rfl, by decide +kernel, by decide +kernel⟩
def nTree : List Str := ["thing", "tree"]
theorem scTree : FnScope nTree ["thing"] (defScope (K18.topS 21)) := ⟨rfl, rfl, rfl, by decide +kernel, rfl, by decide +kernel, by decide +kernel⟩
theorem subs_ok : ∀ {t s : T}, Ok (enc t) → s ∈ subs t → Ok (enc s) := by
  suffices h : ∀ n, ∀ {t s : T}, size t ≤ n → Ok (enc t) → s ∈ subs t → Ok (enc s) from fun {t s} h1 h2 => h _ (Nat.le_refl _) h1 h2
  intro n
  induction n with
  | zero =>
    intro t s hs
    have := size_eq t
    omega
  | succ n ih =>
    intro t s hs ho h
    rw [subs_eq, List.mem_cons] at h
    rcases h with rfl | h
    · exact ho
    · obtain ⟨c, hc, h⟩ := mem_subsA h
      have e := enc_eq t
      rw [e] at ho
      have oc : Ok (.tuple (t.calls.map enc)) := ho.mem (by simp)
      obtain ⟨i, hi, rfl⟩ := List.getElem_of_mem hc
      have h2 : size t.calls[i] ≤ sizes t.calls := size_mem (List.getElem?_eq_getElem hi)
      have := size_eq t
      exact ih (by omega) (oc.mem (List.mem_map.mpr ⟨_, hc, rfl⟩)) h
theorem cmp_calls {ts : List T} (h : Ok (.tuple (ts.map enc))) : Cmp 1000 (ts.map enc) where
  two := fun d hd d' hd' => .inl (all_alike ts d hd d' hd')
  nn := fun d hd => by
    obtain ⟨a, _, rfl⟩ := List.mem_map.mp hd
    rw [enc_eq]
    simp
  dep := fun d hd => by
    have := (h.mem hd).dep
    omega
  len := by
    have h1 := len_wts (ts.map enc)
    have h2 := h.wt
    rw [PyData.weight] at h2
    omega
section
variable {P : Program} {w : World} {K : PySem.W.Frag} {mg : Str → Option Value} {base : Heap} {f f2 f3 : Addr} {fd fd2 fd3 : FuncData} {te tl ta tb tc : TE} {tt : TT} {σ σ2 : L2.St} {H H' : Hp} {k ka kb n : Nat} {d d' d0 : PyData} {ds es : List PyData} {g : TG} {vs : List Nat} {i : Int}
/-- an int in a tuple of ints -/
theorem rb_inTI {a : Int} {ns : List Int} (ha : EvR F0 ta σ H 0 (fun u _ => u = .int a)) (hb : EvR F0 tb σ H 0 (IsD K (.tuple (ns.map PyData.int)))) : EvR F0 (tOp (rIn K false) ta tb) σ H 0 (fun u _ => u = .bl (ns.any fun y => y == a)) :=
  r_op (ka := 0) (kb := 0) F0.ok mono_eq ha hb fun x y n H1 g e ex py Q q => by
    subst ex
    cases py with
    | @tup b ys _ hb hy =>
    have := dps_ints hy
    subst this
    refine ⟨b, _, rfl, .inr hb, rfl, by rw [List.all_map]; exact List.all_eq_true.mpr fun _ _ => rfl, q _ H1 (Ex.refl _) ?_⟩
    show V.bl (inV _ _) = _
    unfold inV
    rw [List.any_map]
    rfl
def spMark (K : PySem.W.Frag) : Sp := fun vs H Q _ => ∃ m : Int, vs = [.int m] ∧ ∀ H', Ex H H' → Q (.bl (markB m)) H'
theorem ok_mark (F : Fun K "is_mark" "is_mark" (K18.topS 18) f fd) (cW : C8.Cal P w K mg base 1 "is_whole" (spWhole K) []) : FnOk P w K mg base CX0 2 f fd ["thing"] (spMark K) := by
  refine F.ok scMark (fun vs H Q E h => ?_) (fun cdv A outer s H vs Q E hr h => ?_)
  · obtain ⟨z, rfl, _⟩ := h
    rfl
  · obtain ⟨m, rfl, q⟩ := h
    refine ⟨_, pss_one (ps_ret (pe_and (C8.pe_c cW hr (by decide) (by rfl) (pa_cons (pv 0) pa_nil)) (pe_one (pe_cmpR op_in_seq (pv 0) (pe_tup (pa_cons pe_int (pa_cons pe_int pa_nil))) (by rfl))))), ?_⟩
    have hx : EvR F0 (tVar 0) [some (.int m)] H 0 (fun u _ => u = .int m) := rv_var rfl
    refine s_retR (F := F0) (n := 0) (k := 0) (P := fun v _ => v = .bl (isIntB (.int m) && ([0, 1] : List Int).any fun y => y == m)) (rb_and (ka := 0) (kb := 0) F0.ok (rv_wholeE (rd_ofI hx)) fun _ => rb_inTI (ns := [0, 1]) hx (rd_tup (ds := [.int 0, .int 1]) F0.ok (ra_cons0 (rd_ofI rv_c) (ra_one (rd_ofI rv_c))))) F0.g (Nat.le_refl _) fun v H1 e _ ev => ?_
    have eb : (isIntB (.int m) && ([0, 1] : List Int).any fun y => y == m) = markB m := by
      show (true && (0 == m || (1 == m || false))) = (m == 0 || m == 1)
      rw [Bool.true_and, Bool.or_false, Bool.beq_comm (a := (0 : Int)), Bool.beq_comm (a := (1 : Int))]
    rw [ev, eb]
    exact q H1 (F0.ex e)
def faultV (t : T) : V := if nameB t.name = true then (if markB t.mark = true then (if ascD (t.calls.map enc) = true then .non else .str "order") else .str "mark") else .str "service"
theorem fault_non (t : T) : decide (faultV t = .non) = spanOk t := by
  unfold faultV spanOk
  cases nameB t.name <;> cases markB t.mark <;> cases ascD (t.calls.map enc) <;> simp
def spFault (K : PySem.W.Frag) : Sp := fun vs H Q _ => ∃ (v : V) (t : T), vs = [v] ∧ Dp K H v (enc t) ∧ Ok (enc t) ∧ ∀ H', Ex H H' → Q (faultV t) H'
theorem ok_fault (F : Fun K "fault_of_span" "fault_of_span" (K18.topS 19) f fd) (cN : C8.Cal P w K mg base 1 "is_service_name" (spName K) []) (cM : C8.Cal P w K mg base 2 "is_mark" (spMark K) []) (cS : C8.Cal P w K mg base 1 "is_sorted" (spSorted K) []) : FnOk P w K mg base CX0 3 f fd ["tree"] (spFault K) := by
  refine F.ok scFault (fun vs H Q E h => ?_) (fun cdv A outer s H vs Q E hr h => ?_)
  · obtain ⟨v, t, rfl, _⟩ := h
    rfl
  · obtain ⟨v, t, rfl, hv, ho, q⟩ := h
    refine ⟨_, pss_cons (ps_asg (pv 0) (pg_tup (by rfl) (pgs_cons (pg_name (i := 1) scFault.nd rfl (.inl rfl)) (pgs_cons (pg_name (i := 2) scFault.nd rfl (.inl rfl)) (pgs_cons (pg_name (i := 3) scFault.nd rfl (.inl rfl)) pgs_nil)))))
      (pss_cons (ps_if (pt_not (pt_val (C8.pe_c cN hr (by decide) (by rfl) (pa_cons (pv 1) pa_nil)))) (pss_one (ps_ret pe_str)) pss_nil)
      (pss_cons (ps_if (pt_not (pt_val (C8.pe_c cM hr (by decide) (by rfl) (pa_cons (pv 2) pa_nil)))) (pss_one (ps_ret pe_str)) pss_nil)
      (pss_cons (ps_if (pt_not (pt_val (C8.pe_c cS hr (by decide) (by rfl) (pa_cons (pv 3) pa_nil)))) (pss_one (ps_ret pe_str)) pss_nil)
      (pss_one (ps_ret pe_non))))), ?_⟩
    have hv' := hv
    rw [enc_eq] at hv' ho
    have oc : Ok (.tuple (t.calls.map enc)) := ho.mem (by simp)
    have on : t.name.length ≤ 1000 := by
      have := (ho.mem (d := .str t.name) (by simp)).wt
      simp only [PyData.weight] at this
      show t.name.cps.size ≤ 1000
      omega
    obtain ⟨u1, u2, u3, gv, p1, p2, p3⟩ := gv_three (K := K) (i := 1) (j := 2) (l := 3) (σ0 := [some v, none, none, none]) hv'
    cases p1
    cases p2
    refine ⟨v, rfl, gv _ ?_⟩
    show tSeq (tIfS (tNot (tTest (tCall (spName K) [] C8.E0 (tCons (tVar 1) tNil)))) (tRet (tC (.str "service"))) tNext) _ _ [some v, some (.str t.name), some (.int t.mark), some u3] H
    have n1 : EvR F0 (tCall (spName K) [] C8.E0 (tCons (tVar 1) tNil)) [some v, some (.str t.name), some (.int t.mark), some u3] H 0 (fun x _ => x = .bl (nameB t.name)) := fun n H1 hn g e Q q => ⟨.str t.name, rfl, t.name, rfl, on, fun H2 e2 => q _ H2 (Kx.ex e2) F0.g rfl⟩
    refine q_whenR (F := F0) (n := 0) (k := 0) (b := !nameB t.name) (rt_not (rt_val n1)) F0.g (Nat.le_refl _) (fun hb H1 e1 _ => ?_) fun hb H1 e1 _ => ?_
    · have e : faultV t = .str "service" := by unfold faultV; rw [if_neg (by simpa using hb)]
      rw [← e]
      exact q H1 (F0.ex e1)
    have b1 : nameB t.name = true := by simpa using hb
    have m1 : EvR F0 (tCall (spMark K) [] C8.E0 (tCons (tVar 2) tNil)) [some v, some (.str t.name), some (.int t.mark), some u3] H1 0 (fun x _ => x = .bl (markB t.mark)) := fun n H2 hn g e Q q => ⟨.int t.mark, rfl, t.mark, rfl, fun H2 e2 => q _ H2 (Kx.ex e2) F0.g rfl⟩
    refine q_whenR (F := F0) (n := 0) (k := 0) (b := !markB t.mark) (rt_not (rt_val m1)) F0.g (Nat.le_refl _) (fun hb H2 e2 _ => ?_) fun hb H2 e2 _ => ?_
    · have e : faultV t = .str "mark" := by unfold faultV; rw [if_pos b1, if_neg (by simpa using hb)]
      rw [← e]
      exact q H2 ((F0.ex e1).trans (F0.ex e2))
    have b2 : markB t.mark = true := by simpa using hb
    have s1 : EvR F0 (tCall (spSorted K) [] C8.E0 (tCons (tVar 3) tNil)) [some v, some (.str t.name), some (.int t.mark), some u3] H2 0 (fun x _ => x = .bl (ascD (t.calls.map enc))) := fun n H3 hn g e Q q => ⟨u3, rfl, u3, _, rfl, dp_ex (((F0.ex e1).trans (F0.ex e2)).trans (F0.ex e)) _ _ p3, cmp_calls oc, fun H4 e4 => q _ H4 (Kx.ex e4) F0.g rfl⟩
    refine q_whenR (F := F0) (n := 0) (k := 0) (b := !ascD (t.calls.map enc)) (rt_not (rt_val s1)) F0.g (Nat.le_refl _) (fun hb H3 e3 _ => ?_) fun hb H3 e3 _ => ?_
    · have e : faultV t = .str "order" := by unfold faultV; rw [if_pos b1, if_pos b2, if_neg (by simpa using hb)]
      rw [← e]
      exact q H3 (((F0.ex e1).trans (F0.ex e2)).trans (F0.ex e3))
    · have e : faultV t = .non := by unfold faultV; rw [if_pos b1, if_pos b2, if_pos (by simpa using hb)]
      show Q .non H3
      rw [← e]
      exact q H3 (((F0.ex e1).trans (F0.ex e2)).trans (F0.ex e3))
end
end Q21
set_option maxHeartbeats 2000000
/-! ### k21: is_tree, is_calls, is_piece, is_sight -/
namespace Q21
open PySem PySem.Spec PyProof.Rows L2 Evl Fx Fr Dt Tr K18 So K17
open PySem.W (alike alikeAll AllAlike Sortable dataLe dataLt keyToks keyToksAll)
theorem map_range {α : Type} (ds : List PyData) (p : PyData → α) : (List.range ds.length).map (fun n => p (ds.getD n .none)) = ds.map p := by
  apply List.ext_getElem
  · simp
  · intro i h1 h2
    have hi : i < ds.length := by simpa using h2
    rw [List.getElem_map, List.getElem_map, List.getElem_range, List.getD_eq_getElem?_getD, List.getElem?_eq_getElem hi]
    rfl
mutual
theorem tree_shape : ∀ d : PyData, treeB d = true → shapeB d = true
  | .tuple [.str s, .int m, .tuple cs], h => by
    rw [treeB, Bool.and_eq_true] at h
    rw [shapeB]
    exact trees_shape cs h.2
  | d, h => by
    unfold treeB at h
    split at h
    · rename_i s m cs
      rw [Bool.and_eq_true] at h
      rw [shapeB]
      exact trees_shape cs h.2
    · cases h
theorem trees_shape : ∀ ds : List PyData, treesB ds = true → shapesB ds = true
  | [], _ => by rw [shapesB]
  | d :: ds, h => by
    rw [treesB, Bool.and_eq_true] at h
    rw [shapesB, tree_shape d h.1, trees_shape ds h.2]
    rfl
end
def spanD : PyData → Bool
  | .tuple [.str s, .int m, .tuple cs] => nameB s && (markB m && ascD cs)
  | _ => false
theorem spanD_enc (t : T) : spanD (enc t) = spanOk t := by rw [enc_eq]; rfl
theorem size_dsz : ∀ t : T, size t ≤ dsz (enc t) := by
  suffices h : ∀ n t, size t ≤ n → size t ≤ dsz (enc t) from fun t => h _ t (Nat.le_refl _)
  intro n
  induction n with
  | zero =>
    intro t h
    have := size_eq t
    omega
  | succ n ih =>
    intro t h
    have e := size_eq t
    rw [enc_eq]
    simp only [dsz, dszs]
    have hh : ∀ ts : List T, sizes ts ≤ n → sizes ts ≤ dszs (ts.map enc) := by
      intro ts
      induction ts with
      | nil => intro _; simp [sizes]
      | cons c cs ihc =>
        intro hc
        rw [sizes] at hc
        rw [sizes, List.map_cons, dszs]
        have h1 := ih c (by omega)
        have h2 := ihc (by omega)
        omega
    have := hh t.calls (by omega)
    omega
theorem Ok.dsz {d : PyData} (ho : Ok d) : dsz d ≤ 1000 := by
  have h1 := dsz_wt d
  have h2 := ho.wt
  omega
section
variable {P : Program} {w : World} {K : PySem.W.Frag} {mg : Str → Option Value} {base : Heap} {f f2 f3 : Addr} {fd fd2 fd3 : FuncData} {te tl ta tb tc : TE} {tt : TT} {σ σ2 : L2.St} {H H' : Hp} {k ka kb n : Nat} {d d' d0 : PyData} {ds es : List PyData} {g : TG} {vs : List Nat} {i : Int}
theorem dps_at {xs : List V} {x : V} {m : Nat} (h : DpAll K H xs ds) (hx : xs[m]? = some x) : ∃ hm : m < ds.length, Dp K H x ds[m] := by
  have hm : m < ds.length := by
    have h1 := (List.getElem?_eq_some_iff.mp hx).1
    have h2 := dps_len h
    omega
  obtain ⟨u, hu, du⟩ := dps_get h (List.getElem?_eq_getElem hm)
  rw [hx] at hu
  cases hu
  exact ⟨hm, du⟩
theorem getD_at {m : Nat} (h : m < ds.length) : ds.getD m .none = ds[m] := by rw [List.getD_eq_getElem?_getD, List.getElem?_eq_getElem h]; rfl
/-- all(.. for .. in a tuple) -/
theorem rb_allT {i j : Nat} {v : V} (p : PyData → Bool) (hv : σ[i]? = some (some v)) (hd : Dp K H v (.tuple ds)) (hz : ds.length ≤ 1000) (hw : ∀ x : V, wipe ((wipe σ vs).set j (some x)) vs = wipe σ vs)
    (ht : ∀ x d H', d ∈ ds → Dp K H' x d → Ex H H' → EvR F0 te ((wipe σ vs).set j (some x)) H' 0 (fun u _ => u = .bl (p d))) : EvR F0 (tCB (rAll K) (tCons (tLc (iTup K (tVar i)) (gName j) tYes te vs) tNil)) σ H 0 (fun x _ => x = .bl (ds.all p)) := by
  cases hd with
  | @tup a xs _ ha hx =>
  have lx := dps_len hx
  refine (rv_all (bs := (List.range xs.length).map fun n => p (ds.getD n .none)) (r_lcB (i := i) (j := j) (vs := vs) _ hv ha (by omega) hw fun n x H' hx' e => ?_)).imp fun _ v _ _ _ ev => ?_
  · obtain ⟨hn', dx⟩ := dps_at (dps_ex e _ _ hx) hx'
    rw [getD_at hn']
    exact ht x _ H' (List.getElem_mem hn') dx e
  · rw [ev, lx, map_range, List.all_map]
    rfl
/-- .. in a new list -/
theorem rb_allL {j : Nat} (p : PyData → Bool) (hl : EvR F0 tl σ H 0 (IsL F0 K ds)) (hz : ds.length ≤ 1000) (hw : ∀ x : V, wipe ((wipe σ vs).set j (some x)) vs = wipe σ vs)
    (ht : ∀ x d H', d ∈ ds → Dp K H' x d → Ex H H' → EvR F0 te ((wipe σ vs).set j (some x)) H' 0 (fun u _ => u = .bl (p d))) : EvR F0 (tCB (rAll K) (tCons (tLc (iList K tl) (gName j) tYes te vs) tNil)) σ H 0 (fun x _ => x = .bl (ds.all p)) := by
  have R : EvR F0 (tLc (iList K tl) (gName j) tYes te vs) σ H 0 (fun v H' => ∃ D, v = .ref D ∧ H' D = some (.lst (((List.range ds.length).map fun n => p (ds.getD n .none)).map V.bl))) := fun n0 H0 hn g0 e0 Q q => hl n0 H0 hn g0 e0 _ fun v H1 e1 _ ⟨a, xs, ev, _, ha, hx⟩ => by
    subst ev
    have e01 := F0.ex (e0.trans e1)
    refine ⟨a, rfl, ⟨xs, sq_of ha⟩, fun D hD => ?_⟩
    have eD := Ex.new (o := HO.lst []) hD
    have lx := dps_len hx
    have z := lc_list (K := K) (a := a) (xs := xs) (g := gName j) (tt := tYes) (te := te) (vs := vs) (σ := σ) (H1 := H1) (D := D) (Qd := fun H' => Q (.ref D) H') (fun n H' => Ex H1 H' ∧ H' D = some (.lst (((List.range n).map fun n => p (ds.getD n .none)).map V.bl))) ⟨eD, upd_same⟩ (fun n H' _ p => sq_of (p.1 _ _ ha)) (fun n x H' hx' ⟨p1, hDD⟩ => ?_) fun H' ⟨p1, hDD⟩ => q _ H' (e1.trans (Kx.ex p1)) F0.g ⟨D, rfl, by rw [hDD, lx]⟩
    · exact z
    · obtain ⟨hn', dx⟩ := dps_at (dps_ex p1 _ _ hx) hx'
      refine ⟨hw x, ht x _ H' (List.getElem_mem hn') dx (e01.trans p1) 0 H' (Nat.le_refl _) F0.g Kx.refl _ fun u H2 e2 _ eu => ⟨_, F0.ex e2 _ _ hDD, sz_lt (by rw [List.length_map, List.length_map, List.length_range]; omega), (p1.trans (F0.ex e2)).mut hD, ?_⟩⟩
      subst eu
      rw [upd_same, List.range_succ, List.map_append, List.map_append, ← getD_at hn']
      rfl
  exact (rv_all R).imp fun _ v _ _ _ ev => by
    rw [ev, map_range, List.all_map]
    rfl
theorem ok_tree (F : Fun K "is_tree" "is_tree" (K18.topS 21) f fd) (cH : C8.Cal P w K mg base 3 "has_tree_shape" (spOne K (fun d => dsz d ≤ 1000) shapeB) []) (cU : C8.Cal P w K mg base 1 "subtrees_of" (spSubs K) []) (cF : C8.Cal P w K mg base 3 "fault_of_span" (spFault K) []) (m_all : mg "all" = none) : FnOk P w K mg base CX0 4 f fd ["thing"] (spOne K Ok treeB) := by
  refine F.ok scTree (fun vs H Q E h => ?_) (fun cdv A outer s H vs Q E hr h => ?_)
  · obtain ⟨v, d, rfl, _⟩ := h
    rfl
  · obtain ⟨v, d, rfl, hv, ho, q⟩ := h
    refine ⟨_, pss_one (ps_ret (pe_and (C8.pe_c cH hr (by decide) (by rfl) (pa_cons (pv 0) pa_nil)) (pe_one (pe_callB (r := rAll K) (cr_all rfl) (by rfl) m_all (by decide +kernel) (pa_cons (pe_lc (own := [("tree", 1)]) (g := gName 1) (by rfl) scTree.nd (pi_list (C8.pe_c cU hr (by decide) (by rfl) (pa_cons (pv 0) pa_nil))) (blkOk_by (own := [("tree", 1)]) (N := nTree) (sc := defScope (K18.topS 21)) (by decide +kernel))
      (fun _ _ _ _ _ => pg_name (i := 1) scTree.nd rfl (.inl rfl)) (fun _ _ _ _ _ => pts_nil)
      (te := tIsN (tCall (spFault K) [] C8.E0 (tCons (tVar 1) tNil)))
      (fun _ _ _ _ _ => pe_cmp (pc_isN (C8.pe_c cF hr (by decide) (by rfl) (pa_cons (pv 1) pa_nil))))) pa_nil))))), ?_⟩
    have hx : EvR F0 (tVar 0) [some v, none] H 0 (IsD K d) := rd_var0 rfl hv
    refine s_retR (F := F0) (n := 0) (k := 0) (P := fun v _ => v = .bl (shapeB d && treeB d)) (rb_and (ka := 0) (kb := 0) F0.ok (cal_one hx ho.dsz) fun hs => ?_) F0.g (Nat.le_refl _) fun v H1 e _ ev => ?_
    · obtain ⟨t, rfl⟩ := shape_enc d hs
      have sz : size t ≤ 1000 := Nat.le_trans (size_dsz t) ho.dsz
      rw [tree_subs]
      refine (rb_allL (ds := (subs t).map enc) (j := 1) (vs := [1]) spanD (rl_call F0.ok (ra_one hx) ⟨t, sz, rfl, rfl⟩) (by rw [List.length_map, subs_len]; exact sz) (fun _ => rfl) fun x d' H' hd' dx e => ?_).imp fun _ v _ _ _ ev => ?_
      · obtain ⟨s', hs', rfl⟩ := List.mem_map.mp hd'
        rw [spanD_enc, ← fault_non]
        exact fun n H1 hn g e1 Q q1 => ⟨x, rfl, x, s', rfl, dp_ex (F0.ex e1) _ _ dx, subs_ok ho hs', fun H2 e2 => q1 _ H2 (Kx.ex e2) F0.g rfl⟩
      · rw [ev, List.all_map]
        congr 1
        exact congrArg (fun p => List.all (subs t) p) (funext fun x => spanD_enc x)
    · have : (shapeB d && treeB d) = treeB d := by
        cases htb : treeB d with
        | false => rw [Bool.and_false]
        | true => rw [tree_shape d htb]; rfl
      rw [ev, this]
      exact q H1 (F0.ex e)
end
end Q21
set_option maxHeartbeats 2000000
/-! ### k21: is_calls, is_piece -/
namespace Q21
open PySem PySem.Spec PyProof.Rows L2 Evl Fx Fr Dt Tr K18 So K17
open PySem.W (alike alikeAll AllAlike Sortable dataLe dataLt keyToks keyToksAll)
def callsB : PyData → Bool
  | .tuple ds => !ds.isEmpty && (ds.all treeB && ascD ds)
  | _ => false
def pieceB : PyData → Bool
  | .tuple [w, h] => if PyData.eqv w (.str "top") = true then treeB h else (PyData.eqv w (.str "lost") && callsB h)
  | _ => false
theorem trees_all : ∀ ds : List PyData, treesB ds = ds.all treeB
  | [] => by rw [treesB]; rfl
  | d :: ds => by rw [treesB, List.all_cons, trees_all ds]
theorem all_enc {ds : List PyData} (h : ds.all treeB = true) : ∃ ts : List T, ds = ts.map enc := by
  rw [← trees_all] at h
  obtain ⟨ts, e⟩ := shapes_enc ds (trees_shape ds h)
  exact ⟨ts, by rw [e, encs_map]⟩
theorem eqv_word {w : PyData} {x : Str} (h : PyData.eqv w (.str x) = true) : w = .str x := by
  cases w <;> simp_all [PyData.eqv]
theorem scCalls : FnScope nTree ["thing"] (defScope (K18.topS 24)) := ⟨rfl, rfl, rfl, by decide +kernel, rfl, by decide +kernel, by decide +kernel⟩
def nPiece : List Str := ["thing", "word", "held"]
theorem scPiece : FnScope nPiece ["thing"] (defScope (K18.topS 23)) := ⟨rfl, rfl, rfl, by decide +kernel, rfl, by decide +kernel, by decide +kernel⟩
section
variable {P : Program} {w : World} {K : PySem.W.Frag} {mg : Str → Option Value} {base : Heap} {f f2 f3 : Addr} {fd fd2 fd3 : FuncData} {te tl ta tb tc : TE} {tt : TT} {σ σ2 : L2.St} {H H' : Hp} {k ka kb n : Nat} {d d' d0 : PyData} {ds es : List PyData} {g : TG} {vs : List Nat} {i : Int}
theorem rb_eq0 (ha : EvR F0 ta σ H 0 (IsD K d)) (hb : EvR F0 tb σ H 0 (IsD K d')) (sd : SeqAt.shaped d = true) (sd' : SeqAt.shaped d' = true) : EvR F0 (tOp (rEqD K) ta tb) σ H 0 (fun x _ => x = .bl (PyData.eqv d d')) := fun n H1 hn g e Q q =>
  ha n H1 hn g e _ fun x H2 e2 g2 px => hb n H2 hn F0.g (e.trans e2) _ fun y H3 e3 g3 py => ⟨d, d', dp_ex (F0.ex e3) _ _ px, py, sd, sd', q _ H3 (e2.trans e3) F0.g rfl⟩
theorem rv_neI {a b : Int} (ha : EvR F0 ta σ H 0 (fun x _ => x = .int a)) (hb : EvR F0 tb σ H 0 (fun x _ => x = .int b)) : EvR F0 (tOp rNe ta tb) σ H 0 (fun x _ => x = .bl (!decide (a = b))) := fun n H1 hn g e Q q =>
  ha n H1 hn g e _ fun u H2 e2 _ eu => hb n H2 hn F0.g (e.trans e2) _ fun v H3 e3 _ ev => by
    rw [eu, ev]
    refine ⟨rfl, q _ H3 (e2.trans e3) F0.g ?_⟩
    rw [show decide (V.int a = V.int b) = decide (a = b) from decide_eq_decide.mpr ⟨fun h => V.int.inj h, fun h => by rw [h]⟩]
theorem ok_calls (F : Fun K "is_calls" "is_calls" (K18.topS 24) f fd) (cT : C8.Cal P w K mg base 4 "is_tree" (spOne K Ok treeB) []) (cS : C8.Cal P w K mg base 1 "is_sorted" (spSorted K) []) (mI : mg "isinstance" = none) (mt : mg "tuple" = none) (m_all : mg "all" = none) : FnOk P w K mg base CX0 5 f fd ["thing"] (spOne K Ok callsB) := by
  refine F.ok scCalls (fun vs H Q E h => ?_) (fun cdv A outer s H vs Q E hr h => ?_)
  · obtain ⟨v, d, rfl, _⟩ := h
    rfl
  · obtain ⟨v, d, rfl, hv, ho, q⟩ := h
    refine ⟨_, pss_cons (ps_if (PW.pt (pw_or (pt_not (pt_val (pe_callB call_isi (by rfl) mI (by decide +kernel) (pa_cons (pv 0) (pa_cons (pe_bltn (v := .ty "tuple") (by rfl) mt (by decide +kernel) rfl) pa_nil))))) (pw_or1 (pt_not (pt_truth (pv 0) (fun _ => rfl)))))) (pss_one (ps_ret pe_bl)) pss_nil)
      (pss_one (ps_ret (pe_and (pe_callB (r := rAll K) (cr_all rfl) (by rfl) m_all (by decide +kernel) (pa_cons (pe_lc (own := [("tree", 1)]) (g := gName 1) (by rfl) scCalls.nd (pi_tup (pv 0)) (blkOk_by (own := [("tree", 1)]) (N := nTree) (sc := defScope (K18.topS 24)) (by decide +kernel)) (fun _ _ _ _ _ => pg_name (i := 1) scCalls.nd rfl (.inl rfl)) (fun _ _ _ _ _ => pts_nil)
        (fun _ _ _ _ _ => C8.pe_c cT hr (by decide) (by rfl) (pa_cons (pv 1) pa_nil))) pa_nil)) (pe_one (C8.pe_c cS hr (by decide) (by rfl) (pa_cons (pv 0) pa_nil)))))), ?_⟩
    have tst : EvRT F0 (tOr (tNot (tTest (tCB (rIsi K) (tCons (tVar 0) (tCons (tC (.ty "tuple")) tNil))))) (tNot (tTru K 0))) [some v, none] H 0 (!isTupB d || (match d with | .tuple ds => ds.isEmpty | _ => false)) := by
      refine rt_or (ka := 0) (kb := 0) F0.ok (rt_not (rt_val (rv_isTup rfl hv))) fun hb => ?_
      obtain ⟨ds, rfl⟩ : ∃ ds, d = .tuple ds := by cases d <;> first | exact ⟨_, rfl⟩ | (exact absurd hb (by simp [isTupB]))
      exact rt_is (rt_not (rt_truT rfl hv)) (Bool.not_not _)
    refine q_whenR (F := F0) (n := 0) (k := 0) tst F0.g (Nat.le_refl _) (fun hb H1 e1 _ => ?_) fun hb H1 e1 _ => ?_
    · have : callsB d = false := by
        cases d with
        | tuple ds =>
          have hb' : ds.isEmpty = true := by simpa [isTupB] using hb
          simp [callsB, hb']
        | _ => rfl
      rw [← this]
      exact q H1 (F0.ex e1)
    obtain ⟨ds, rfl⟩ : ∃ ds, d = .tuple ds := by cases d <;> first | exact ⟨_, rfl⟩ | (exact absurd hb (by simp [isTupB]))
    have ne : ds.isEmpty = false := by simpa [isTupB] using hb
    have e1' := F0.ex e1
    have hv1 := dp_ex e1' _ _ hv
    have ln : ds.length ≤ 1000 := by
      have h1 := len_wts ds
      have h2 := ho.wt
      rw [PyData.weight] at h2
      omega
    refine s_retR (F := F0) (n := 0) (k := 0) (P := fun v _ => v = .bl (ds.all treeB && ascD ds)) (rb_and (ka := 0) (kb := 0) F0.ok (rb_allT treeB rfl hv1 ln (fun _ => rfl) fun x d' H' hd' dx e => cal_one (rd_var0 rfl dx) (ho.mem hd')) fun ha => ?_) F0.g (Nat.le_refl _) fun v' H2 e2 _ ev => ?_
    · obtain ⟨ts, rfl⟩ := all_enc ha
      exact fun n H2 hn g e2 Q q2 => ⟨v, rfl, v, _, rfl, dp_ex (F0.ex e2) _ _ hv1, cmp_calls ho, fun H3 e3 => q2 _ H3 (Kx.ex e3) F0.g rfl⟩
    · have : callsB (.tuple ds) = (ds.all treeB && ascD ds) := by rw [callsB, ne]; rfl
      rw [ev, ← this]
      exact q H2 (e1'.trans (F0.ex e2))
theorem ok_piece (F : Fun K "is_piece" "is_piece" (K18.topS 23) f fd) (cT : C8.Cal P w K mg base 4 "is_tree" (spOne K Ok treeB) []) (cC : C8.Cal P w K mg base 5 "is_calls" (spOne K Ok callsB) []) (mI : mg "isinstance" = none) (mt : mg "tuple" = none) (ml : mg "len" = none) : FnOk P w K mg base CX0 6 f fd ["thing"] (spOne K Ok pieceB) := by
  refine F.ok scPiece (fun vs H Q E h => ?_) (fun cdv A outer s H vs Q E hr h => ?_)
  · obtain ⟨v, d, rfl, _⟩ := h
    rfl
  · obtain ⟨v, d, rfl, hv, ho, q⟩ := h
    have un : (A.deeper (envOfC (Str.ofString "is_piece") (defScope (K18.topS 23)) s.heap.objs.size f cdv)).units + 64 < cLine := hr.units
    refine ⟨_, pss_cons (ps_if (PW.pt (pw_or (pt_not (pt_val (pe_callB call_isi (by rfl) mI (by decide +kernel) (pa_cons (pv 0) (pa_cons (pe_bltn (v := .ty "tuple") (by rfl) mt (by decide +kernel) rfl) pa_nil))))) (pw_or1 (pt_cmpR op_ne (pe_callB (r := rLenS K) call_lenS (by rfl) ml PySem.boot_len (pa_cons (pv 0) pa_nil)) pe_int (nomark _))))) (pss_one (ps_ret pe_bl)) pss_nil)
      (pss_cons (ps_asg (pv 0) (pg_tup (by rfl) (pgs_cons (pg_name (i := 1) scPiece.nd rfl (.inl rfl)) (pgs_cons (pg_name (i := 2) scPiece.nd rfl (.inl rfl)) pgs_nil))))
      (pss_cons (ps_if (pt_cmpR (r := rEqD K) (op_eqD un) (pv 1) pe_str (nomark _)) (pss_one (ps_ret (C8.pe_c cT hr (by decide) (by rfl) (pa_cons (pv 2) pa_nil)))) pss_nil)
      (pss_one (ps_ret (pe_and (pe_cmpR (r := rEqD K) (op_eqD un) (pv 1) pe_str (nomark _)) (pe_one (C8.pe_c cC hr (by decide) (by rfl) (pa_cons (pv 2) pa_nil)))))))), ?_⟩
    have tst : EvRT F0 (tOr (tNot (tTest (tCB (rIsi K) (tCons (tVar 0) (tCons (tC (.ty "tuple")) tNil))))) (tTest (tOp rNe (tCB (rLenS K) (tCons (tVar 0) tNil)) (tC (.int 2))))) [some v, none, none] H 0 (!isTupB d || (match d with | .tuple ds => !decide (((ds.length : Nat) : Int) = 2) | _ => false)) := by
      refine rt_or (ka := 0) (kb := 0) F0.ok (rt_not (rt_val (rv_isTup rfl hv))) fun hb => ?_
      obtain ⟨ds, rfl⟩ : ∃ ds, d = .tuple ds := by cases d <;> first | exact ⟨_, rfl⟩ | (exact absurd hb (by simp [isTupB]))
      exact rt_val (rv_neI (rv_lenT (rd_var0 rfl hv)) rv_c)
    refine q_whenR (F := F0) (n := 0) (k := 0) tst F0.g (Nat.le_refl _) (fun hb H1 e1 _ => ?_) fun hb H1 e1 _ => ?_
    · have : pieceB d = false := by
        cases d with
        | tuple ds =>
          have hb' : ¬ ((ds.length : Nat) : Int) = 2 := by simpa [isTupB] using hb
          match ds, hb' with
          | [], _ => rfl
          | [_], _ => simp [pieceB]
          | [_, _], h => exact absurd rfl h
          | _ :: _ :: _ :: _, _ => simp [pieceB]
        | _ => rfl
      rw [← this]
      exact q H1 (F0.ex e1)
    obtain ⟨ds, rfl⟩ : ∃ ds, d = .tuple ds := by cases d <;> first | exact ⟨_, rfl⟩ | (exact absurd hb (by simp [isTupB]))
    have l2 : ((ds.length : Nat) : Int) = 2 := by simpa [isTupB] using hb
    obtain ⟨wd, hd, rfl⟩ : ∃ wd hd, ds = [wd, hd] := by
      match ds, l2 with
      | [a, b], _ => exact ⟨a, b, rfl⟩
    have e1' := F0.ex e1
    obtain ⟨u1, u2, gv, p1, p2⟩ := gv_two (K := K) (i := 1) (j := 2) (σ0 := [some v, none, none]) (dp_ex e1' _ _ hv)
    have ow : Ok wd := ho.mem (by simp)
    have oh : Ok hd := ho.mem (by simp)
    refine ⟨v, rfl, gv _ ?_⟩
    show tSeq (tIfS (tTest (tOp (rEqD K) (tVar 1) (tC (.str "top")))) (tRet (tCall (spOne K Ok treeB) [] C8.E0 (tCons (tVar 2) tNil))) tNext) _ _ [some v, some u1, some u2] H1
    have eqw : ∀ (x : Str) (H2 : Hp), PyData.strOk x = true → Ex H1 H2 → EvR F0 (tOp (rEqD K) (tVar 1) (tC (.str x))) [some v, some u1, some u2] H2 0 (fun z _ => z = .bl (PyData.eqv wd (.str x))) := fun x H2 hx e => rb_eq0 (rd_var0 rfl (dp_ex e _ _ p1)) rd_str (ow.shaped (by decide)) (by
      show ((PyData.str x).canLay0 && decide ((PyData.str x).depth ≤ 64)) = true
      simp [PyData.canLay0, PyData.depth, hx])
    refine q_whenR (F := F0) (n := 0) (k := 0) (rt_val (eqw "top" H1 (by decide +kernel) (Ex.refl _))) F0.g (Nat.le_refl _) (fun hb H2 e2 _ => ?_) fun hb H2 e2 _ => ?_
    · have e2' := F0.ex e2
      refine s_retR (F := F0) (n := 0) (k := 0) (cal_one (rd_var0 rfl (dp_ex e2' _ _ p2)) oh) F0.g (Nat.le_refl _) fun v' H3 e3 _ ev => ?_
      have : pieceB (.tuple [wd, hd]) = treeB hd := by rw [pieceB, if_pos hb]
      rw [ev, ← this]
      exact q H3 ((e1'.trans e2').trans (F0.ex e3))
    · have e2' := F0.ex e2
      refine s_retR (F := F0) (n := 0) (k := 0) (rb_and (ka := 0) (kb := 0) F0.ok (eqw "lost" H2 (by decide +kernel) e2') fun _ => cal_one (rd_var0 rfl (dp_ex e2' _ _ p2)) oh) F0.g (Nat.le_refl _) fun v' H3 e3 _ ev => ?_
      have : pieceB (.tuple [wd, hd]) = (PyData.eqv wd (.str "lost") && callsB hd) := by rw [pieceB, if_neg (by rw [hb]; simp)]
      rw [ev, ← this]
      exact q H3 ((e1'.trans e2').trans (F0.ex e3))
end
end Q21
set_option maxHeartbeats 2000000
/-! ### k21: is_sight, check_sight -/
namespace Q21
open PySem PySem.Spec PyProof.Rows L2 Evl Fx Fr Dt Tr K18 So K17
open PySem.W (alike alikeAll AllAlike Sortable dataLe dataLt keyToks keyToksAll)
def isTopD : PyData → Bool
  | .tuple (w :: _) => PyData.eqv w (.str "top")
  | _ => false
def sightB : PyData → Bool
  | .tuple ds => ds.all pieceB && (decide ((ds.filter isTopD).length ≤ 1) && ascD ds)
  | _ => false
theorem piece_is {d : PyData} (h : pieceB d = true) : ∃ p : Pc, d = p.D := by
  unfold pieceB at h
  split at h
  · rename_i w hd
    split at h
    · rename_i ht
      obtain ⟨t, rfl⟩ := shape_enc hd (tree_shape hd h)
      exact ⟨.top t, by rw [eqv_word ht]; rfl⟩
    · rw [Bool.and_eq_true] at h
      obtain ⟨hl, hc⟩ := h
      unfold callsB at hc
      split at hc
      · rename_i ds
        rw [Bool.and_eq_true, Bool.and_eq_true] at hc
        obtain ⟨ts, rfl⟩ := all_enc hc.2.1
        exact ⟨.lost ts, by rw [eqv_word hl]; rfl⟩
      · cases hc
  · cases h
theorem pieces_are : ∀ {ds : List PyData}, ds.all pieceB = true → ∃ ps : List Pc, ds = ps.map Pc.D
  | [], _ => ⟨[], rfl⟩
  | d :: ds, h => by
    rw [List.all_cons, Bool.and_eq_true] at h
    obtain ⟨p, rfl⟩ := piece_is h.1
    obtain ⟨ps, rfl⟩ := pieces_are h.2
    exact ⟨p :: ps, rfl⟩
theorem cmp_pieces {ps : List Pc} (h : Ok (.tuple (ps.map Pc.D))) : Cmp 1000 (ps.map Pc.D) where
  two := fun d hd d' hd' => (near_pcs ps).two d hd d' hd'
  nn := fun d hd => by
    obtain ⟨p, _, rfl⟩ := List.mem_map.mp hd
    cases p <;> simp [Pc.D]
  dep := fun d hd => by
    have := (h.mem hd).dep
    omega
  len := by
    have h1 := len_wts (ps.map Pc.D)
    have h2 := h.wt
    rw [PyData.weight] at h2
    omega
theorem outs_filter (p : PyData → Bool) (ds : List PyData) : outs (fun i => p (ds.getD i .none)) (fun i => ds.getD i .none) ds.length = ds.filter p := by
  unfold outs
  have h := map_range ds (fun d => d)
  rw [List.map_id'] at h
  conv => rhs; rw [← h]
  rw [List.filter_map]
  rfl
def nSight2 : List Str := ["thing", "tops", "piece"]
theorem scSight2 : FnScope nSight2 ["thing"] (defScope (K18.topS 22)) := ⟨rfl, rfl, rfl, by decide +kernel, rfl, by decide +kernel, by decide +kernel⟩
section
variable {P : Program} {w : World} {K : PySem.W.Frag} {mg : Str → Option Value} {base : Heap} {f f2 f3 : Addr} {fd fd2 fd3 : FuncData} {te tl ta tb tc : TE} {tt : TT} {σ σ2 : L2.St} {H H' : Hp} {k ka kb n : Nat} {d d' d0 : PyData} {ds es : List PyData} {g : TG} {vs : List Nat} {i : Int}
theorem rv_leI {i j : Int} (ha : EvR F0 ta σ H 0 (fun x _ => x = .int i)) (hb : EvR F0 tb σ H 0 (fun x _ => x = .int j)) : EvR F0 (tOp (rI0 fun i j => .bl (decide (i ≤ j))) ta tb) σ H 0 (fun x _ => x = .bl (decide (i ≤ j))) :=
  rv_op (ka := 0) (kb := 0) F0.ok ha hb fun _ => rv_I0 (g := fun i j => .bl (decide (i ≤ j)))
theorem ok_sightQ (F : Fun K "is_sight" "is_sight" (K18.topS 22) f fd) (cP : C8.Cal P w K mg base 6 "is_piece" (spOne K Ok pieceB) []) (cS : C8.Cal P w K mg base 1 "is_sorted" (spSorted K) []) (mI : mg "isinstance" = none) (mt : mg "tuple" = none) (m_all : mg "all" = none) (ml : mg "len" = none) : FnOk P w K mg base CX0 7 f fd ["thing"] (spOne K Ok sightB) := by
  refine F.ok scSight2 (fun vs H Q E h => ?_) (fun cdv A outer s H vs Q E hr h => ?_)
  · obtain ⟨v, d, rfl, _⟩ := h
    rfl
  · obtain ⟨v, d, rfl, hv, ho, q⟩ := h
    have un : (A.deeper (envOfC (Str.ofString "is_sight") (defScope (K18.topS 22)) s.heap.objs.size f cdv)).units + 64 < cLine := hr.units
    refine ⟨_, pss_cons (ps_if (PW.pt (pw_or (pt_not (pt_val (pe_callB call_isi (by rfl) mI (by decide +kernel) (pa_cons (pv 0) (pa_cons (pe_bltn (v := .ty "tuple") (by rfl) mt (by decide +kernel) rfl) pa_nil)))))
        (pw_or1 (pt_not (pt_val (pe_callB (r := rAll K) (cr_all rfl) (by rfl) m_all (by decide +kernel) (pa_cons (pe_lc (own := [("piece", 2)]) (g := gName 2) (by rfl) scSight2.nd (pi_tup (pv 0)) (blkOk_by (own := [("piece", 2)]) (N := nSight2) (sc := defScope (K18.topS 22)) (by decide +kernel)) (fun _ _ _ _ _ => pg_name (i := 2) scSight2.nd rfl (.inl rfl)) (fun _ _ _ _ _ => pts_nil)
        (fun _ _ _ _ _ => C8.pe_c cP hr (by decide) (by rfl) (pa_cons (pv 2) pa_nil))) pa_nil))))))) (pss_one (ps_ret pe_bl)) pss_nil)
      (pss_cons (ps_setLc (i := 1) (own := [("piece", 2)]) (g := gName 2) (by rfl) scSight2.nd rfl rfl (sw_true rfl rfl rfl (by kernel_rfl)) (pi_tup (pv 0)) (blkOk_by (own := [("piece", 2)]) (N := nSight2) (sc := defScope (K18.topS 22)) (by decide +kernel)) (fun _ _ _ _ _ => pg_name (i := 2) scSight2.nd rfl (.inl rfl))
          (tt := tTest (tOp (rEqD K) (tOp (rIxT K) (tVar 2) (tC (.int 0))) (tC (.str "top"))))
          (fun _ _ _ _ _ => pts_one (pt_cmpR (r := rEqD K) (op_eqD un) (pe_ix (r := rIxT K) ix_tup (pv 2) pe_int (fun _ _ => rfl)) pe_str (nomark _)))
          (te := tVar 2) (fun _ _ _ _ _ => pv 2))
      (pss_one (ps_ret (pe_and (pe_cmpR op_le (pe_callB (r := rLenS K) call_lenS (by rfl) ml PySem.boot_len (pa_cons (pv 1) pa_nil)) pe_int (nomark _)) (pe_one (C8.pe_c cS hr (by decide) (by rfl) (pa_cons (pv 0) pa_nil))))))), ?_⟩
    have tst : EvRT F0 (tOr (tNot (tTest (tCB (rIsi K) (tCons (tVar 0) (tCons (tC (.ty "tuple")) tNil))))) (tNot (tTest (tCB (rAll K) (tCons (tLc (iTup K (tVar 0)) (gName 2) tYes (tCall (spOne K Ok pieceB) [] C8.E0 (tCons (tVar 2) tNil)) [2]) tNil))))) [some v, none, none] H 0 (!isTupB d || (match d with | .tuple ds => !ds.all pieceB | _ => false)) := by
      refine rt_or (ka := 0) (kb := 0) F0.ok (rt_not (rt_val (rv_isTup rfl hv))) fun hb => ?_
      obtain ⟨ds, rfl⟩ : ∃ ds, d = .tuple ds := by cases d <;> first | exact ⟨_, rfl⟩ | (exact absurd hb (by simp [isTupB]))
      have ln : ds.length ≤ 1000 := by
        have h1 := len_wts ds
        have h2 := ho.wt
        rw [PyData.weight] at h2
        omega
      exact rt_not (rt_val (rb_allT pieceB rfl hv ln (fun _ => rfl) fun x d' H' hd' dx e => cal_one (rd_var0 rfl dx) (ho.mem hd')))
    refine q_whenR (F := F0) (n := 0) (k := 0) tst F0.g (Nat.le_refl _) (fun hb H1 e1 _ => ?_) fun hb H1 e1 _ => ?_
    · have : sightB d = false := by
        cases d with
        | tuple ds =>
          have hb' : ds.all pieceB = false := by simpa [isTupB] using hb
          show (ds.all pieceB && _) = false
          rw [hb', Bool.false_and]
        | _ => rfl
      rw [← this]
      exact q H1 (F0.ex e1)
    obtain ⟨ds, rfl⟩ : ∃ ds, d = .tuple ds := by cases d <;> first | exact ⟨_, rfl⟩ | (exact absurd hb (by simp [isTupB]))
    have ha : ds.all pieceB = true := by simpa [isTupB] using hb
    have ev0 : sightB (.tuple ds) = (decide ((((ds.filter isTopD).length : Nat) : Int) ≤ 1) && ascD ds) := by
      show (ds.all pieceB && (decide ((ds.filter isTopD).length ≤ 1) && ascD ds)) = _
      rw [ha, Bool.true_and]
      congr 1
      exact decide_eq_decide.mpr (by omega)
    obtain ⟨ps, rfl⟩ := pieces_are ha
    have e1' := F0.ex e1
    have hv1 := dp_ex e1' _ _ hv
    have fl := pcs_flat ps
    have c := cmp_pieces ho
    have ln := c.len
    have hx : EvR F0 (tVar 0) [some v, none, none] H1 0 (IsD K (.tuple (ps.map Pc.D))) := rd_var0 rfl hv1
    have gd : ∀ j (h : j < (ps.map Pc.D).length), (ps.map Pc.D).getD j .none ∈ ps.map Pc.D := fun j h => by
      rw [getD_at h]
      exact List.getElem_mem h
    have lc : EvR F0 (tLc (iTup K (tVar 0)) (gName 2) (tTest (tOp (rEqD K) (tOp (rIxT K) (tVar 2) (tC (.int 0))) (tC (.str "top")))) (tVar 2) [2]) [some v, none, none] H1 (0 + (ps.map Pc.D).length * (0 + 0)) (IsL F0 K ((ps.map Pc.D).filter isTopD)) := by
      rw [← outs_filter]
      refine r_lcT (kt := 0) (ke := 0) F0.ok (vs := [2]) (fun i => isTopD ((ps.map Pc.D).getD i .none)) (fun i => (ps.map Pc.D).getD i .none) hx fl (by omega) (fun j hj _ => flats_all.mp fl _ (gd j hj)) fun i x d' n H' hd dx _ _ => ⟨_, gv_name, rfl, ?_, fun _ => ?_⟩
      · have hi := (List.getElem?_eq_some_iff.mp hd).1
        have ed : (ps.map Pc.D).getD i .none = d' := by rw [getD_at hi]; exact (List.getElem?_eq_some_iff.mp hd).2
        have hm : d' ∈ ps.map Pc.D := by rw [← ed]; exact gd i hi
        have hm0 := hm
        obtain ⟨p, _, rfl⟩ := List.mem_map.mp hm
        simp only [ed]
        have od := ho.mem hm0
        have hx2 : EvR F0 (tVar 2) [some v, none, some x] H' 0 (IsD K p.D) := rd_var0 rfl dx
        cases p with
        | top t => exact rt_val (rb_eq0 (d := .str "top") (rd_ix0 hx2 rv_c 0 rfl rfl) rd_str (by decide +kernel) (by decide +kernel))
        | lost ts => exact rt_val (rb_eq0 (d := .str "lost") (rd_ix0 hx2 rv_c 0 rfl rfl) rd_str (by decide +kernel) (by decide +kernel))
      · have hi := (List.getElem?_eq_some_iff.mp hd).1
        have ed : (ps.map Pc.D).getD i .none = d' := by rw [getD_at hi]; exact (List.getElem?_eq_some_iff.mp hd).2
        simp only [ed]
        exact rd_var0 rfl dx
    rw [show 0 + (ps.map Pc.D).length * (0 + 0) = 0 by omega] at lc
    refine q_asgR (F := F0) (n := 0) (k := 0) (P := IsL F0 K ((ps.map Pc.D).filter isTopD)) lc F0.g (Nat.le_refl _) fun vt H2 e2 _ pt => ?_
    have e2' := F0.ex e2
    have ht : EvR F0 (tVar 1) [some v, some vt, none] H2 0 (IsL F0 K ((ps.map Pc.D).filter isTopD)) := rl_varX rfl pt
    refine s_retR (F := F0) (n := 0) (k := 0) (P := fun u _ => u = .bl (decide (((((ps.map Pc.D).filter isTopD).length : Nat) : Int) ≤ 1) && ascD (ps.map Pc.D))) (rb_and (ka := 0) (kb := 0) F0.ok (rv_leI (rv_lenL ht) rv_c) fun _ => ?_) F0.g (Nat.le_refl _) fun v' H3 e3 _ ev => ?_
    · exact fun n H3 hn g e3 Q q3 => ⟨v, rfl, v, _, rfl, dp_ex (e2'.trans (F0.ex e3)) _ _ hv1, c, fun H4 e4 => q3 _ H4 (Kx.ex e4) F0.g rfl⟩
    · rw [ev, ← ev0]
      exact q H3 ((e1'.trans e2').trans (F0.ex e3))
end
end Q21
set_option maxHeartbeats 2000000
/-! ### k21: check_sight, stay_chances -/
namespace Q21
open PySem PySem.Spec PyProof.Rows L2 Evl Fx Fr Dt Tr K18 So K17
open PySem.W (alike alikeAll AllAlike Sortable dataLe dataLt keyToks keyToksAll)
theorem scCheck : FnScope ["thing"] ["thing"] (defScope (K18.topS 44)) := ⟨rfl, rfl, rfl, by decide +kernel, rfl, by decide +kernel, by decide +kernel⟩
section
variable {P : Program} {w : World} {K : PySem.W.Frag} {mg : Str → Option Value} {base : Heap} {f f2 f3 : Addr} {fd fd2 fd3 : FuncData} {te tl ta tb tc : TE} {tt : TT} {σ σ2 : L2.St} {H H' : Hp} {k ka kb n : Nat} {d d' d0 : PyData} {ds es : List PyData} {g : TG} {vs : List Nat} {i : Int} {C : Addr}
def spCheck (K : PySem.W.Frag) (C : Addr) : Sp := fun vs H Q E => ∃ (v : V) (d : PyData), vs = [v] ∧ Dp K H v d ∧ Ok d ∧ (sightB d = true → ∀ H', Ex H H' → Q .non H') ∧
  (sightB d = false → ∀ H' dd fs, Ex H H' → H' dd = some (.xd fs) → fs.lookup ("word" : Str) = some (.str "sight") → fs.lookup ("at" : Str) = some (.int (-1)) → E (.ref C) (some dd) H')
theorem ok_check {f1 : Addr} {fd1 : FuncData} (F : Fun K "check_sight" "check_sight" (K18.topS 44) f fd) (cQ : C8.Cal P w K mg base 7 "is_sight" (spOne K Ok sightB) []) (T : OexC K C) (gC : mg "NotUsable" = some (.ref C)) (iC : PySem.W.findIn K (.ref C) "__init__" = some (some (.ref f1))) (tI : PySem.W.typeIn K (.ref f1) = some (.type "function"))
    (F1 : FnOk P w K mg base (L2.CX P w) 1 f1 fd1 ["self", "word", "at"] (spInit C)) (B1 : L2.Binds K fd1 ["self", "word", "at"] []) : FnOk P w K mg base (L2.CX P w) 8 f fd ["thing"] (spCheck K C) := by
  refine F.okX scCheck (fun vs H Q E h => ?_) (fun cdv A outer s H vs Q E hr h => ?_)
  · obtain ⟨v, d, rfl, _⟩ := h
    rfl
  · obtain ⟨v, d, rfl, hv, ho, q1, q2⟩ := h
    refine ⟨_, pss_one (ps_if (pt_not (pt_val (C8.pe_c cQ hr (by decide) (by rfl) (pa_cons (pv 0) pa_nil)))) (pss_one (ps_raise rfl (takes_of rfl rfl rfl rfl) (pmk_oex (dvs := []) T iC tI F1 (hr.mono (by decide)) B1 .nil (fun _ _ _ _ _ _ _ h => by obtain ⟨_, _, _, _, _, _, _, _, _, _, _, _, z⟩ := h; exact z.elim) (by rfl) gC (pa_cons pe_str (pa_cons (pe_un un_neg pe_int) pa_nil))))) pss_nil), ?_⟩
    refine rt_not (rt_val (cal_one (rd_var0 (σ := [some v]) rfl hv) ho)) 0 H (Nat.le_refl _) F0.g Kx.refl _ fun H1 e1 _ => ?_
    replace e1 := F0.ex e1
    cases hs : sightB d with
    | true => exact iteF (q1 hs H1 e1)
    | false =>
      refine iteT ?_
      refine ⟨1, rfl, (by show 2 ≤ 1000; decide), fun a ha => ⟨a, .str "sight", .int (-1), rfl, upd_same, fun dx hdx hne => ?_⟩⟩
      have hd1 : H1 dx = none := by rwa [upd_ne hne] at hdx
      refine ⟨rfl, dx, [("at", .int (-1)), ("word", .str "sight")], by rw [upd_ne hne.symm]; exact upd_same, upd_same, hd1, q2 hs _ dx _ (fun b o h => ?_) upd_same (by decide +kernel) (by decide +kernel)⟩
      have h1 := e1 _ _ h
      have b1 : b ≠ a := fun z => by rw [z, ha] at h1; cases h1
      have b2 : b ≠ dx := fun z => by rw [z, hd1] at h1; cases h1
      rw [upd_ne b2, del_ne b1, upd_ne b2, upd_ne b1, upd_ne b2, upd_ne b1]
      exact h1
end
end Q21
set_option maxHeartbeats 2000000
/-! ### k21: chance_to_stay, stay_chances -/
namespace Q21
open PySem PySem.Spec PyProof.Rows L2 Evl Fx Fr Dt Tr K18 So K17
def stD (x : Str) : PyData := .tuple [.str x, frD 1]
def memB (lot : List Str) (s : Str) : Bool := lot.any fun x => x == s
def nStay : List Str := ["service", "stays", "others", "name", "chance"]
theorem scStay : FnScope nStay ["service", "stays", "others"] (defScope (K18.topS 48)) := ⟨rfl, rfl, rfl, by decide +kernel, rfl, by decide +kernel, by decide +kernel⟩
def nStays : List Str := ["tree", "stays", "others", "chances", "here", "chance"]
theorem scStays : FnScope nStays ["tree", "stays", "others"] (defScope (K18.topS 47)) := ⟨rfl, rfl, rfl, by decide +kernel, rfl, by decide +kernel, by decide +kernel⟩
theorem stD_flat (x : Str) : flat (stD x) = true := rfl
section
variable {P : Program} {w : World} {K : PySem.W.Frag} {mg : Str → Option Value} {base : Heap} {f f2 f3 : Addr} {fd fd2 fd3 : FuncData} {te tl ta tb tc : TE} {tt : TT} {σ σ2 : L2.St} {H H' : Hp} {k ka kb n : Nat} {d d' d0 : PyData} {ds es : List PyData} {g : TG} {vs : List Nat} {i : Int} {C : Addr}
def spStay (K : PySem.W.Frag) : Sp := fun vs H Q _ => ∃ (s : Str) (v2 v3 : V) (lot : List Str), vs = [.str s, v2, v3] ∧ Dp K H v2 (.list (lot.map stD)) ∧ Dp K H v3 (frD 0) ∧ ∀ v H', Ex H H' → Dp K H' v (chD (memB lot s)) → Q v H'
theorem ok_stay (F : Fun K "chance_to_stay" "chance_to_stay" (K18.topS 48) f fd) : FnOk P w K mg base CX0 1 f fd ["service", "stays", "others"] (spStay K) := by
  refine F.ok scStay (fun vs H Q E h => ?_) (fun cdv A outer s H vs Q E hr h => ?_)
  · obtain ⟨s, v2, v3, lot, rfl, _⟩ := h
    rfl
  · obtain ⟨s0, v2, v3, lot, rfl, p2, p3, q⟩ := h
    refine ⟨_, pss_cons (ps_for PassesOwn.never rfl (pi_list (pv 1)) (pg_tup (by rfl) (pgs_cons (pg_name (i := 3) scStay.nd rfl (.inl rfl)) (pgs_cons (pg_name (i := 4) scStay.nd rfl (.inl rfl)) pgs_nil)))
        (pss_one (ps_if (pt_cmpR op_eq (pv 3) (pv 0) (nomark _)) (pss_one (ps_ret (pv 4))) pss_nil)))
      (pss_one (ps_ret (pv 2))), ?_⟩
    cases p2 with
    | @lst a xs _ ha hx =>
    show tSeq (tFor (iList K (tVar 1)) (gTup K 2 (gCons (gName 3) (gCons (gName 4) gNil))) _) _ _ [some (.str s0), some (.ref a), some v3, none, none] H
    refine ⟨.ref a, rfl, a, rfl, ⟨_, ha⟩, for_list (xs := xs) (fun m σ' H' => ∃ x4 x5, σ' = [some (.str s0), some (.ref a), some v3, x4, x5] ∧ Ex H H' ∧ memB (lot.take m) s0 = false) ⟨none, none, rfl, Ex.refl _, rfl⟩ (fun m σ' H' _ ⟨_, _, _, e, _⟩ => ex_l e ha) (fun m x σ' H' hxm ⟨x4, x5, es, e, hm⟩ => ?_) fun σ' H' ⟨x4, x5, es, e, hm⟩ => ?_⟩
    · subst es
      obtain ⟨hlt, dx⟩ := dps_at (dps_ex e _ _ hx) hxm
      rw [List.length_map] at hlt
      rw [List.getElem_map] at dx
      obtain ⟨u1, u2, gv, p1, p4⟩ := gv_two (K := K) (i := 3) (j := 4) (σ0 := [some (.str s0), some (.ref a), some v3, x4, x5]) dx
      cases p1
      refine gv _ ?_
      have tk : memB (lot.take (m + 1)) s0 = (memB (lot.take m) s0 || lot[m] == s0) := by
        unfold memB
        rw [List.take_succ_eq_append_getElem hlt, List.any_append]
        simp
      refine rt_val (rv_op (ka := 0) (kb := 0) (r := rEq) (z := .bl (decide (V.str lot[m] = V.str s0))) F0.ok (rv_var (i := 3) (v := .str lot[m]) rfl) (rv_var (i := 0) rfl) fun _ => rv_eq rfl) 0 H' (Nat.le_refl _) F0.g Kx.refl _ fun H2 e2 _ => ?_
      have e2' := F0.ex e2
      by_cases hq : lot[m] = s0
      · rw [decide_eq_true (congrArg V.str hq)]
        refine iteT ⟨u2, rfl, q u2 H2 (e.trans e2') ?_⟩
        have : memB lot s0 = true := List.any_eq_true.mpr ⟨lot[m], List.getElem_mem hlt, by rw [hq]; simp⟩
        rw [this]
        exact dp_ex e2' _ _ p4
      · rw [decide_eq_false (fun z => hq (V.str.inj z))]
        refine iteF ⟨_, _, rfl, e.trans e2', ?_⟩
        rw [tk, hm, Bool.false_or]
        exact beq_false_of_ne hq
    · subst es
      have lx := dps_len hx
      rw [List.length_map] at lx
      refine ⟨v3, rfl, q v3 H' e ?_⟩
      rw [lx, List.take_length] at hm
      rw [hm]
      exact dp_ex e _ _ p3
/-- [.. for .. in a list], flat data to flat data -/
theorem rl_map {j : Nat} (φ : PyData → PyData) (hl : EvR F0 tl σ H 0 (IsL F0 K ds)) (fd : flats ds = true) (hm : ds.length ≤ 40000) (fl : ∀ d ∈ ds, flat (φ d) = true) (hw : ∀ x : V, wipe ((wipe σ vs).set j (some x)) vs = wipe σ vs)
    (ht : ∀ x d H', d ∈ ds → Dp K H' x d → Ex H H' → EvR F0 te ((wipe σ vs).set j (some x)) H' 0 (IsD K (φ d))) : EvR F0 (tLc (iList K tl) (gName j) tYes te vs) σ H 0 (IsL F0 K (ds.map φ)) := by
  have eo : outs (fun _ => true) (fun i => φ (ds.getD i .none)) ds.length = ds.map φ := by
    unfold outs
    rw [List.filter_eq_self.mpr fun _ _ => rfl, map_range]
  have z := r_lcL (F := F0) (K := K) (k := 0) (kt := 0) (ke := 0) (tt := tYes) (te := te) (g := gName j) F0.ok (vs := vs) (fun _ => true) (fun i => φ (ds.getD i .none)) hl fd hm (fun i hi _ => fl _ (by rw [getD_at hi]; exact List.getElem_mem hi)) fun i x d n H' hi hx _ e => by
    have h1 := (List.getElem?_eq_some_iff.mp hi).1
    have ed : ds.getD i .none = d := by rw [getD_at h1]; exact (List.getElem?_eq_some_iff.mp hi).2
    have hd : d ∈ ds := by rw [← ed, getD_at h1]; exact List.getElem_mem h1
    refine ⟨_, gv_name, hw x, rt_yes0, fun _ => ?_⟩
    show EvR F0 te _ H' 0 (IsD K (φ (ds.getD i .none)))
    rw [ed]
    exact ht x d H' hd hx (F0.ex e)
  rw [eo, show 0 + ds.length * (0 + 0) = 0 by omega] at z
  exact z
/-- of each subtree, whether its service is in lot -/
def bitsOf (lot : List Str) (t : T) : List Bool := (subs t).map fun s => memB lot s.name
def nameD : PyData → Str
  | .tuple (.str s :: _) => s
  | _ => ""
def unCh (d : PyData) : PyData := .tuple [d, d]
def spStays (K : PySem.W.Frag) : Sp := fun vs H Q _ => ∃ (v1 v2 v3 : V) (t : T) (lot : List Str), vs = [v1, v2, v3] ∧ size t ≤ 100 ∧ Dp K H v1 (enc t) ∧ Dp K H v2 (.list (lot.map stD)) ∧ Dp K H v3 (frD 0) ∧ ∀ v H', Ex H H' → Dp K H' v (.list ((bitsOf lot t).map flagD)) → Q v H'
theorem ok_stays (F : Fun K "stay_chances" "stay_chances" (K18.topS 47) f fd) (cU : C8.Cal P w K mg base 1 "subtrees_of" (spSubs K) []) (cS : C8.Cal P w K mg base 1 "chance_to_stay" (spStay K) []) : FnOk P w K mg base CX0 2 f fd ["tree", "stays", "others"] (spStays K) := by
  refine F.ok scStays (fun vs H Q E h => ?_) (fun cdv A outer s H vs Q E hr h => ?_)
  · obtain ⟨v1, v2, v3, t, lot, rfl, _⟩ := h
    rfl
  · obtain ⟨v1, v2, v3, t, lot, rfl, hs, p1, p2, p3, q⟩ := h
    refine ⟨_, pss_cons (ps_setLc (i := 3) (own := [("here", 4)]) (g := gName 4) (by rfl) scStays.nd rfl rfl (sw_true rfl rfl rfl (by kernel_rfl)) (pi_list (C8.pe_c cU hr (by decide) (by rfl) (pa_cons (pv 0) pa_nil))) (blkOk_by (own := [("here", 4)]) (N := nStays) (sc := defScope (K18.topS 47)) (by decide +kernel)) (fun _ _ _ _ _ => pg_name (i := 4) scStays.nd rfl (.inl rfl)) (fun _ _ _ _ _ => pts_nil)
        (te := tCall (spStay K) [] C8.E0 (tCons (tOp (rIxT K) (tVar 4) (tC (.int 0))) (tCons (tVar 1) (tCons (tVar 2) tNil))))
        (fun _ _ _ _ _ => C8.pe_c cS hr (by decide) (by rfl) (pa_cons (pe_ix (r := rIxT K) ix_tup (pv 4) pe_int (fun _ _ => rfl)) (pa_cons (pv 1) (pa_cons (pv 2) pa_nil)))))
      (pss_one (ps_ret (pe_lc (own := [("chance", 5)]) (g := gName 5) (by rfl) scStays.nd (pi_list (pv 3)) (blkOk_by (own := [("chance", 5)]) (N := nStays) (sc := defScope (K18.topS 47)) (by decide +kernel)) (fun _ _ _ _ _ => pg_name (i := 5) scStays.nd rfl (.inl rfl)) (fun _ _ _ _ _ => pts_nil)
        (te := tTup (tCons (tVar 5) (tCons (tVar 5) tNil))) (fun _ _ _ _ _ => pe_tup (pa_cons (pv 5) (pa_cons (pv 5) pa_nil)))))), ?_⟩
    have sl := subs_len t
    have m1 : EvR F0 (tLc (iList K (tCall (spSubs K) [] C8.E0 (tCons (tVar 0) tNil))) (gName 4) tYes (tCall (spStay K) [] C8.E0 (tCons (tOp (rIxT K) (tVar 4) (tC (.int 0))) (tCons (tVar 1) (tCons (tVar 2) tNil)))) [4]) [some v1, some v2, some v3, none, none, none] H 0 (IsL F0 K (((subs t).map enc).map fun d => chD (memB lot (nameD d)))) :=
      rl_map (fun d => chD (memB lot (nameD d))) (rl_call F0.ok (ra_one (rd_var0 rfl p1)) ⟨t, by omega, rfl, rfl⟩) (maps_flat _) (by rw [List.length_map]; omega) (fun _ _ => rfl) (fun _ => rfl) fun x d H' hd hx e => by
        obtain ⟨s', _, rfl⟩ := List.mem_map.mp hd
        rw [enc_eq] at hx ⊢
        have nm : EvR F0 (tOp (rIxT K) (tVar 4) (tC (.int 0))) [some v1, some v2, some v3, none, some x, none] H' 0 (fun z _ => z = .str s'.name) := rv_str (rd_ix0 (rd_var0 rfl hx) rv_c 0 rfl rfl)
        exact fun n H1 hn g e1 Q q1 => nm n H1 hn g e1 _ fun z H2 e2 _ ez => ⟨v2, rfl, v3, rfl, s'.name, v2, v3, lot, by rw [ez]; rfl, dp_ex (e.trans ((F0.ex e1).trans (F0.ex e2))) _ _ p2, dp_ex (e.trans ((F0.ex e1).trans (F0.ex e2))) _ _ p3, fun v H3 e3 dv => q1 v H3 (e2.trans (Kx.ex e3)) F0.g dv⟩
    refine q_asgR (F := F0) (n := 0) (k := 0) m1 F0.g (Nat.le_refl _) fun vc H1 e1 _ pc => ?_
    have e1' := F0.ex e1
    have fc : flats (((subs t).map enc).map fun d => chD (memB lot (nameD d))) = true := flats_all.mpr fun d hd => by
      obtain ⟨_, _, rfl⟩ := List.mem_map.mp hd
      rfl
    refine s_retR (F := F0) (n := 0) (k := 0) (P := IsL F0 K ((((subs t).map enc).map fun d => chD (memB lot (nameD d))).map unCh)) (rl_map unCh (rl_varX (i := 3) rfl pc) fc (by rw [List.length_map, List.length_map]; omega) (fun d hd => ?_) (fun _ => rfl) fun x d H' hd hx e => rd_tup (ds := [d, d]) F0.ok (ra_cons0 (rd_var0 rfl hx) (ra_one (rd_var0 rfl hx))) ?_) F0.g (Nat.le_refl _) fun v H2 e2 _ pv => ?_
    · rw [unCh, flat_tup, flats_cons, flats_cons]
      exact ⟨flats_all.mp fc d hd, flats_all.mp fc d hd, rfl⟩
    · rw [flats_cons, flats_cons]
      exact ⟨flats_all.mp fc d hd, flats_all.mp fc d hd, rfl⟩
    · refine q v H2 (e1'.trans (F0.ex e2)) ?_
      have := pv.dp
      rw [List.map_map, List.map_map] at this
      rw [bitsOf, List.map_map]
      have e : (unCh ∘ ((fun d => chD (memB lot (nameD d))) ∘ enc)) = (flagD ∘ fun s => memB lot s.name) := funext fun s => by
        show unCh (chD (memB lot (nameD (enc s)))) = flagD (memB lot s.name)
        rw [enc_eq]
        rfl
      rw [← e]
      exact this
end
end Q21
set_option maxHeartbeats 2000000
/-! ### k21: a comprehension of lists of outcomes -/
namespace Q21
open PySem PySem.Spec PyProof.Rows L2 Evl Fx Fr Dt Tr K18 So K17
/-- nothing is a list and a tuple -/
def Sane (K : PySem.W.Frag) (H : Hp) : Prop := ∀ a xs ys, SqL K H a xs → SqT K H a ys → False
def tSane (K : PySem.W.Frag) (t : TE) : TE := fun σ H Q => t σ H fun v H' => Sane K H' → Q v H'
theorem pe_sane {X : Cx} {e : Expr} {t : TE} (h : PE X e t) : PE X e (tSane X.K t) := by
  refine ⟨fun pins s σ H Q I hw => ?_⟩
  refine thn (h.run pins s σ H _ I hw) fun v s1 ⟨y, H1, I1, r1, q1⟩ => ⟨y, H1, I1, r1, q1 fun a xs ys hl ht => ?_⟩
  obtain ⟨its, _, pl, _⟩ := I1.list hl
  obtain ⟨its2, _, pt, _⟩ := I1.tuple ht
  obtain ⟨o, n, e1, c1, _⟩ := pl
  obtain ⟨o2, e2, c2, _⟩ := pt
  rw [e1] at e2
  cases e2
  rw [c1] at c2
  exact absurd c2 (by decide)
section
variable {K : PySem.W.Frag} {te tl ta tb tc : TE} {σ σ2 : L2.St} {H H' : Hp} {vs : List Nat}
theorem rv_sane {P : VP} (h : EvR F0 te σ H 0 P) : EvR F0 (tSane K te) σ H 0 (fun v H' => P v H' ∧ Sane K H') := fun n H1 hn g e Q q => h n H1 hn g e _ fun v H2 e2 g2 p s => q v H2 e2 g2 ⟨p, s⟩
theorem r_lcOnes {i j : Nat} {v : V} {α : Type} {ts : List α} {κ : α → PyData} (ρ : α → K17.R2) (hv : σ[i]? = some (some v)) (hd : Dp K H v (.tuple (ts.map κ))) (hz : ts.length ≤ 1000) (hw : ∀ x : V, wipe ((wipe σ vs).set j (some x)) vs = wipe σ vs)
    (ht : ∀ x t H', t ∈ ts → Dp K H' x (κ t) → Ex H H' → EvR F0 te ((wipe σ vs).set j (some x)) H' 0 (fun u H2 => IsD K (oneD (ρ t)) u H2 ∧ Sane K H2)) :
    EvR F0 (tLc (iTup K (tVar i)) (gName j) tYes te vs) σ H 0 (IsD K (.list ((ts.map ρ).map oneD))) := fun n0 H1 hn g0 e0 Q q => by
  cases hd with
  | @tup a xs _ ha hx =>
  have e0' := F0.ex e0
  have hT1 := ex_t e0' ha
  have lx := dps_len hx
  rw [List.length_map] at lx
  refine ⟨.ref a, hv, a, rfl, ⟨xs, hT1⟩, fun D hD => ?_⟩
  have eD := Ex.new (o := HO.lst []) hD
  refine lc_tup (xs := xs) (fun n H' => Ex H1 H' ∧ ∃ ys, H' D = some (.lst ys) ∧ DpAll K (del H' D) ys (((ts.take n).map ρ).map oneD)) ⟨eD, [], upd_same, by simpa using DpAll.nil⟩ (fun n H' _ p => ex_t p.1 hT1) (fun n x H' hxn ⟨p, ys, hDD, dy⟩ => ?_) fun H' ⟨p, ys, hDD, dy⟩ => ?_
  · obtain ⟨hlt, dx⟩ := dps_at (dps_ex (e0'.trans p) _ _ hx) hxn
    rw [List.length_map] at hlt
    rw [List.getElem_map] at dx
    refine ⟨hw x, ht x _ H' (List.getElem_mem hlt) dx (e0'.trans p) 0 H' (Nat.le_refl _) F0.g Kx.refl _ fun y H2 e2 _ ⟨dv, sane⟩ => ?_⟩
    have e2' := F0.ex e2
    have hD2 := e2' _ _ hDD
    have ly := dps_len dy
    rw [List.length_map, List.length_map, List.length_take] at ly
    refine ⟨ys, hD2, sz_lt (by omega), (p.trans e2').mut hD, ys ++ [y], upd_same, ?_⟩
    rw [del_upd]
    have old : DpAll K (del H2 D) ys (((ts.take n).map ρ).map oneD) := dps_ex (del_ex fun b o _ h => e2' _ _ h) _ _ dy
    have ee : Ex (del H' D) H2 := fun b o h => by
      by_cases hb : b = D
      · rw [hb, del_same] at h
        cases h
      · rw [del_ne hb] at h
        exact e2' _ _ h
    have new : Dp K (del H2 D) y (oneD (ρ ts[n])) := by
      cases dv with
      | @lst c ws _ h1 h2 =>
        obtain ⟨x1, ws, rfl, dx1, h2⟩ := dps_uncons h2
        obtain rfl := dps_none h2
        have dx1' : Dp K (del H2 D) x1 (outD (ρ ts[n])) := dp_kt (kt_del hD2) _ _ (out_flat _) dx1
        refine .lst ?_ (.cons dx1' .nil)
        rcases h1 with (h1 | ⟨u, h1⟩) | h1
        · have nc : c ≠ D := fun z => by
            rw [z, hD2] at h1
            cases h1
            -- ys = [x1]
            have l1 : ((ts.take n).map ρ).length = 1 := by
              have := dps_len dy
              rw [List.length_map] at this
              simpa using this.symm
            obtain ⟨r0, er⟩ := List.length_eq_one_iff.mp l1
            rw [er] at dy
            cases dy with
            | cons d0 _ =>
              cases d0 with
              | @lst c1 zs _ k1 _ =>
                have k2 : SqL K H2 c1 zs := ex_l ee k1
                cases dx1 with
                | @tup _ us _ t1 _ => exact sane _ _ _ k2 t1
          exact .inl (.inl (by rw [del_ne nc]; exact h1))
        · have nc : c ≠ D := fun z => by
            rw [z, hD2] at h1
            cases h1
          exact .inl (.inr ⟨u, by rw [del_ne nc]; exact h1⟩)
        · exact .inr h1
    rw [List.take_succ_eq_append_getElem hlt, List.map_append, List.map_append]
    exact dps_app old (.cons new .nil)
  · have hn' : xs.length = ts.length := lx
    rw [hn', List.take_length] at dy
    refine q (.ref D) H' (Kx.ex p) F0.g (.lst (sq_of hDD) (dps_ex (fun b o h => ?_) _ _ dy))
    by_cases hb : b = D
    · rw [hb, del_same] at h
      cases h
    · rw [del_ne hb] at h
      exact h
end
end Q21
set_option maxHeartbeats 2000000
/-! ### k21: piece_outcomes -/
namespace Q21
open PySem PySem.Spec PyProof.Rows L2 Evl Fx Fr Dt Tr K18 So K17
def treesP : Pc → List T
  | .top t => [t]
  | .lost ts => ts
def wdP : Pc → Str
  | .top _ => "top"
  | .lost _ => "lost"
def ρT (lot : List Str) (t : T) : K17.R2 := resT t (bitsOf lot t)
def pieceR (lot : List Str) (p : Pc) : K17.R2 := ([], withP (wdP p) (joinR ((treesP p).map (ρT lot))).1 (joinR ((treesP p).map (ρT lot))).2)
theorem bits_len (lot : List Str) (t : T) : (bitsOf lot t).length = size t := by rw [bitsOf, List.length_map, subs_len]
theorem resL_bits (lot : List Str) : ∀ ts : List T, resL ts (ts.flatMap (bitsOf lot)) = ts.map (ρT lot)
  | [] => rfl
  | t :: ts => by
    have h1 : (bitsOf lot t ++ ts.flatMap (bitsOf lot)).take (size t) = bitsOf lot t := by rw [← bits_len lot t, List.take_left]
    have h2 : (bitsOf lot t ++ ts.flatMap (bitsOf lot)).drop (size t) = ts.flatMap (bitsOf lot) := by rw [← bits_len lot t, List.drop_left]
    rw [List.flatMap_cons, resL, h1, h2, resL_bits lot ts]
    rfl
theorem size_trees (p : Pc) : sizes (treesP p) = p.size := by
  cases p with
  | top t => show size t + 0 = size t; omega
  | lost ts => rfl
theorem rs_few (lot : List Str) (p : Pc) : Fw p.size (catR ((treesP p).map (ρT lot))) := by
  rw [← resL_bits, ← size_trees]
  exact resL_few _ _
def nPO : List Str := ["piece", "stays", "others", "word", "held", "trees", "parts", "tree"]
theorem scPO : FnScope nPO ["piece", "stays", "others"] (defScope (K18.topS 46)) := ⟨rfl, rfl, rfl, by decide +kernel, rfl, by decide +kernel, by decide +kernel⟩
theorem pcD_eq (p : Pc) : p.D = .tuple [.str (wdP p), (match p with | .top t => enc t | .lost ts => .tuple (ts.map enc))] := by cases p <;> rfl
section
variable {P : Program} {w : World} {K : PySem.W.Frag} {mg : Str → Option Value} {base : Heap} {f f2 f3 : Addr} {fd fd2 fd3 : FuncData} {te tl ta tb tc : TE} {tt : TT} {σ σ2 : L2.St} {H H' : Hp} {k ka kb n : Nat} {d d' d0 : PyData} {ds es : List PyData} {g : TG} {vs : List Nat} {i : Int} {C : Addr}
def spPO (K : PySem.W.Frag) : Sp := fun vs H Q _ => ∃ (v1 v2 v3 : V) (p : Pc) (lot : List Str), vs = [v1, v2, v3] ∧ p.size ≤ 12 ∧ Dp K H v1 p.D ∧ Dp K H v2 (.list (lot.map stD)) ∧ Dp K H v3 (frD 0) ∧ ∀ v H', Ex H H' → Dp K H' v (oneD (pieceR lot p)) → Q v H'
theorem ok_po (F : Fun K "piece_outcomes" "piece_outcomes" (K18.topS 46) f fd) (cT : C8.Cal P w K mg base 5 "tree_outcomes" (spTO K) []) (cS : C8.Cal P w K mg base 2 "stay_chances" (spStays K) []) (cJ : C8.Cal P w K mg base 4 "joined" (spJoined K) []) (cC : C8.Cal P w K mg base 2 "closed" (spClosed K) []) : FnOk P w K mg base CX0 6 f fd ["piece", "stays", "others"] (spPO K) := by
  refine F.ok scPO (fun vs H Q E h => ?_) (fun cdv A outer s H vs Q E hr h => ?_)
  · obtain ⟨v1, v2, v3, p, lot, rfl, _⟩ := h
    rfl
  · obtain ⟨v1, v2, v3, p, lot, rfl, hs, p1, p2, p3, q⟩ := h
    refine ⟨_, pss_cons (ps_asg (pv 0) (pg_tup (by rfl) (pgs_cons (pg_name (i := 3) scPO.nd rfl (.inl rfl)) (pgs_cons (pg_name (i := 4) scPO.nd rfl (.inl rfl)) pgs_nil))))
      (pss_cons (ps_set (i := 5) scPO.nd rfl (.inl rfl) (pe_ifExp (pt_cmpR op_eq (pv 3) pe_str (nomark _)) (pe_tup (pa_cons (pv 4) pa_nil)) (pv 4)))
      (pss_cons (ps_setLc (i := 6) (own := [("tree", 7)]) (g := gName 7) (by rfl) scPO.nd rfl rfl (sw_true rfl rfl rfl (by kernel_rfl)) (pi_tup (pv 5)) (blkOk_by (own := [("tree", 7)]) (N := nPO) (sc := defScope (K18.topS 46)) (by decide +kernel)) (fun _ _ _ _ _ => pg_name (i := 7) scPO.nd rfl (.inl rfl)) (fun _ _ _ _ _ => pts_nil)
        (te := tSane K (tOp (rIxT K) (tCall (spTO K) [] C8.E0 (tCons (tVar 7) (tCons (tCall (spStays K) [] C8.E0 (tCons (tVar 7) (tCons (tVar 1) (tCons (tVar 2) tNil)))) tNil))) (tC (.int 0))))
        (fun _ _ _ _ _ => pe_sane (pe_ix (r := rIxT K) ix_tup (C8.pe_c cT hr (by decide) (by rfl) (pa_cons (pv 7) (pa_cons (C8.pe_c cS hr (by decide) (by rfl) (pa_cons (pv 7) (pa_cons (pv 1) (pa_cons (pv 2) pa_nil)))) pa_nil))) pe_int (fun _ _ => rfl))))
      (pss_one (ps_ret (C8.pe_c cC hr (by decide) (by rfl) (pa_cons (C8.pe_c cJ hr (by decide) (by rfl) (pa_cons (pv 6) pa_nil)) (pa_cons (pv 3) pa_nil))))))), ?_⟩
    rw [pcD_eq] at p1
    obtain ⟨u1, u2, gv, w1, w2⟩ := gv_two (K := K) (i := 3) (j := 4) (σ0 := [some v1, some v2, some v3, none, none, none, none, none]) p1
    cases w1
    refine ⟨v1, rfl, gv _ ?_⟩
    show tSeq (tAsg (tIf (tTest (tOp rEq (tVar 3) (tC (.str "top")))) (tTup (tCons (tVar 4) tNil)) (tVar 4)) (gName 5)) _ _ [some v1, some v2, some v3, some (.str (wdP p)), some u2, none, none, none] H
    have tr : EvR F0 (tIf (tTest (tOp rEq (tVar 3) (tC (.str "top")))) (tTup (tCons (tVar 4) tNil)) (tVar 4)) [some v1, some v2, some v3, some (.str (wdP p)), some u2, none, none, none] H 0 (IsD K (.tuple ((treesP p).map enc))) := by
      refine r_if (ka := 0) (kb := 0) (b := decide (V.str (wdP p) = V.str "top")) F0.ok (rt_val (rv_op (ka := 0) (kb := 0) (r := rEq) F0.ok (rv_var rfl) rv_c fun _ => rv_eq rfl)) (fun hb => ?_) fun hb => ?_
      · cases p with
        | top t => exact rd_tup (ds := [enc t]) F0.ok (ra_one (rd_var0 rfl w2)) (by rw [flats_cons]; exact ⟨enc_flat t, rfl⟩)
        | lost ts => exact absurd (V.str.inj (of_decide_eq_true hb)) words_ne.symm
      · cases p with
        | top t => exact absurd hb (by simp [wdP])
        | lost ts => exact rd_var0 rfl w2
    refine q_asgR (F := F0) (n := 0) (k := 0) tr F0.g (Nat.le_refl _) fun v5 H1 e1 _ p5 => ?_
    replace e1 := F0.ex e1
    have lt : (treesP p).length ≤ 12 := by
      have h1 := len_sizes (treesP p)
      rw [size_trees] at h1
      omega
    have lc := r_lcOnes (K := K) (i := 5) (j := 7) (vs := [7]) (σ := [some v1, some v2, some v3, some (.str (wdP p)), some u2, some v5, none, none]) (te := tSane K (tOp (rIxT K) (tCall (spTO K) [] C8.E0 (tCons (tVar 7) (tCons (tCall (spStays K) [] C8.E0 (tCons (tVar 7) (tCons (tVar 1) (tCons (tVar 2) tNil)))) tNil))) (tC (.int 0)))) (ρT lot) rfl p5 (by omega) (fun _ => rfl) fun x t H' ht dx e => rv_sane (by
      have sz : size t ≤ 12 := by
        obtain ⟨k, hk, rfl⟩ := List.getElem_of_mem ht
        have := size_mem (List.getElem?_eq_getElem hk)
        rw [size_trees] at this
        omega
      have st : EvR F0 (tCall (spStays K) [] C8.E0 (tCons (tVar 7) (tCons (tVar 1) (tCons (tVar 2) tNil)))) [some v1, some v2, some v3, some (.str (wdP p)), some u2, some v5, none, some x] H' 0 (IsD K (.list ((bitsOf lot t).map flagD))) := fun n H2 hn g e2 Q q2 =>
        ⟨x, rfl, v2, rfl, v3, rfl, x, v2, v3, t, lot, rfl, by omega, dp_ex (F0.ex e2) _ _ dx, dp_ex ((e1.trans e).trans (F0.ex e2)) _ _ p2, dp_ex ((e1.trans e).trans (F0.ex e2)) _ _ p3, fun v H3 e3 dv => q2 v H3 (Kx.ex e3) F0.g dv⟩
      have to : EvR F0 (tCall (spTO K) [] C8.E0 (tCons (tVar 7) (tCons (tCall (spStays K) [] C8.E0 (tCons (tVar 7) (tCons (tVar 1) (tCons (tVar 2) tNil)))) tNil))) [some v1, some v2, some v3, some (.str (wdP p)), some u2, some v5, none, some x] H' 0 (IsD K (twoD (ρT lot t))) := fun n H2 hn g e2 Q q2 =>
        ⟨x, rfl, st n H2 hn g e2 _ fun v H3 e3 _ dv => ⟨x, v, t, bitsOf lot t, rfl, sz, bits_len lot t, dp_ex ((F0.ex e2).trans (F0.ex e3)) _ _ dx, dv, fun u H4 e4 du => q2 u H4 (e3.trans (Kx.ex e4)) F0.g du⟩⟩
      exact rd_ix0 to rv_c 0 rfl rfl)
    refine q_asgR (F := F0) (n := 0) (k := 0) lc F0.g (Nat.le_refl _) fun v6 H2 e2 _ p6 => ?_
    replace e2 := F0.ex e2
    have fw := rs_few lot p
    have few : Few 15 (catR ((treesP p).map (ρT lot))) := (fw.up (by omega)).few
    have fewJ : Few 15 (joinR ((treesP p).map (ρT lot))) := (Fw.join (fw.up (by omega))).few
    have J : EvR F0 (tCall (spJoined K) [] C8.E0 (tCons (tVar 6) tNil)) [some v1, some v2, some v3, some (.str (wdP p)), some u2, some v5, some v6, none] H2 0 (IsL F0 K [outD (joinR ((treesP p).map (ρT lot)))]) := rl_call F0.ok (ra_one (rd_var0 rfl p6)) ⟨(treesP p).map (ρT lot), few, by rw [List.length_map]; omega, rfl, rfl⟩
    have wd : wdP p = "top" ∨ wdP p = "lost" := by cases p <;> simp [wdP]
    have Cl : EvR F0 (tCall (spClosed K) [] C8.E0 (tCons (tCall (spJoined K) [] C8.E0 (tCons (tVar 6) tNil)) (tCons (tVar 3) tNil))) [some v1, some v2, some v3, some (.str (wdP p)), some u2, some v5, some v6, none] H2 0 (IsL F0 K [outD (pieceR lot p)]) := rl_call F0.ok (ra_cons0 (J.imp fun _ _ _ _ _ z => z.dp) (ra_one (rd_var0 rfl (.str _)))) ⟨joinR ((treesP p).map (ρT lot)), wdP p, wd, fewJ, rfl, rfl⟩
    refine s_retR (F := F0) (n := 0) (k := 0) Cl F0.g (Nat.le_refl _) fun v H3 e3 _ pv => q v H3 (e1.trans (e2.trans (F0.ex e3))) pv.dp
end
end Q21
set_option maxHeartbeats 2000000
/-! ### k21: chances_left -/
namespace Q21
open PySem PySem.Spec PyProof.Rows L2 Evl Fx Fr Dt Tr K18 So K17
theorem withP_few {wd : Str} {n : Nat} {r : K17.R2} (h : Fw n r) : Fw n ([], withP wd r.1 r.2) := by
  obtain ⟨ts, ps⟩ := r
  obtain ⟨h1, h2⟩ := h
  cases ts with
  | nil => exact ⟨by simpa [withP, sizes] using h1, h2⟩
  | cons t ts =>
    have h1 : sizes (t :: ts) + psizes ps ≤ n := h1
    have hp : (pieceOf wd (t :: ts)).size ≤ sizes (t :: ts) ∧ 1 ≤ (pieceOf wd (t :: ts)).size := by
      have e := size_eq t
      unfold pieceOf
      split
      · show size t ≤ sizes (t :: ts) ∧ 1 ≤ size t
        rw [sizes]
        omega
      · show sizes (t :: ts) ≤ sizes (t :: ts) ∧ 1 ≤ sizes (t :: ts)
        rw [sizes]
        omega
    have z : psizes (withP wd (t :: ts) ps) = psizes ps + (pieceOf wd (t :: ts)).size := by
      show psizes (sortP (ps ++ [pieceOf wd (t :: ts)])) = _
      rw [psizes_perm (sortP_mem _), psizes_app, psizes_cons]
      simp [psizes]
    refine ⟨?_, fun p hp' => ?_⟩
    · show sizes [] + psizes (withP wd (t :: ts) ps) ≤ n
      rw [z, sizes]
      omega
    · have hm : p ∈ ps ++ [pieceOf wd (t :: ts)] := (sortP_mem _).mem_iff.mp hp'
      rcases List.mem_append.mp hm with hm | hm
      · exact h2 p hm
      · rw [List.mem_singleton.mp hm]
        exact hp.2
theorem piece_few (lot : List Str) (p : Pc) : Fw p.size (pieceR lot p) := withP_few (rs_few lot p).join
theorem cat_cons (r : K17.R2) (rs : List K17.R2) : catR (r :: rs) = (r.1 ++ (catR rs).1, r.2 ++ (catR rs).2) := by
  unfold catR
  rw [List.flatMap_cons, List.flatMap_cons]
theorem pieces_few (lot : List Str) : ∀ ps : List Pc, Fw (psizes ps) (catR (ps.map (pieceR lot)))
  | [] => ⟨by simp [catR, sizes, psizes], fun p hp => by simp [catR] at hp⟩
  | p :: ps => by
    obtain ⟨a1, a2⟩ := piece_few lot p
    obtain ⟨b1, b2⟩ := pieces_few lot ps
    rw [List.map_cons, cat_cons]
    refine ⟨?_, fun x hx => ?_⟩
    · show sizes ((pieceR lot p).1 ++ _) + psizes ((pieceR lot p).2 ++ _) ≤ _
      rw [sizes_app, psizes_app, psizes_cons]
      omega
    · rcases List.mem_append.mp hx with hx | hx
      · exact a2 x hx
      · exact b2 x hx
def nCL : List Str := ["sight", "stays", "others", "piece"]
theorem scCL : FnScope nCL ["sight", "stays", "others"] (defScope (K18.topS 45)) := ⟨rfl, rfl, rfl, by decide +kernel, rfl, by decide +kernel, by decide +kernel⟩
/-- what is left of a sight, services in lot alone staying -/
def leftP (lot : List Str) (ps : List Pc) : List Pc := (joinR (ps.map (pieceR lot))).2
section
variable {P : Program} {w : World} {K : PySem.W.Frag} {mg : Str → Option Value} {base : Heap} {f f2 f3 : Addr} {fd fd2 fd3 : FuncData} {te tl ta tb tc : TE} {tt : TT} {σ σ2 : L2.St} {H H' : Hp} {k ka kb n : Nat} {d d' d0 : PyData} {ds es : List PyData} {g : TG} {vs : List Nat} {i : Int} {C : Addr}
def spCL (K : PySem.W.Frag) : Sp := fun vs H Q _ => ∃ (v1 v2 v3 : V) (ps : List Pc) (lot : List Str), vs = [v1, v2, v3] ∧ psizes ps ≤ 12 ∧ ps.length ≤ 15 ∧ Dp K H v1 (.tuple (ps.map Pc.D)) ∧ Dp K H v2 (.list (lot.map stD)) ∧ Dp K H v3 (frD 0) ∧ ∀ v H', Ex H H' → Dp K H' v (.list [sightD (leftP lot ps)]) → Q v H'
theorem ok_cl (F : Fun K "chances_left" "chances_left" (K18.topS 45) f fd) (cP : C8.Cal P w K mg base 6 "piece_outcomes" (spPO K) []) (cJ : C8.Cal P w K mg base 4 "joined" (spJoined K) []) (cA : C8.Cal P w K mg base 1 "as_sights" (spAsS K) []) : FnOk P w K mg base CX0 7 f fd ["sight", "stays", "others"] (spCL K) := by
  refine F.ok scCL (fun vs H Q E h => ?_) (fun cdv A outer s H vs Q E hr h => ?_)
  · obtain ⟨v1, v2, v3, ps, lot, rfl, _⟩ := h
    rfl
  · obtain ⟨v1, v2, v3, ps, lot, rfl, hs, hl, p1, p2, p3, q⟩ := h
    refine ⟨_, pss_one (ps_ret (C8.pe_c cA hr (by decide) (by rfl) (pa_cons (C8.pe_c cJ hr (by decide) (by rfl) (pa_cons (pe_lc (own := [("piece", 3)]) (g := gName 3) (by rfl) scCL.nd (pi_tup (pv 0)) (blkOk_by (own := [("piece", 3)]) (N := nCL) (sc := defScope (K18.topS 45)) (by decide +kernel)) (fun _ _ _ _ _ => pg_name (i := 3) scCL.nd rfl (.inl rfl)) (fun _ _ _ _ _ => pts_nil)
        (te := tSane K (tCall (spPO K) [] C8.E0 (tCons (tVar 3) (tCons (tVar 1) (tCons (tVar 2) tNil)))))
        (fun _ _ _ _ _ => pe_sane (C8.pe_c cP hr (by decide) (by rfl) (pa_cons (pv 3) (pa_cons (pv 1) (pa_cons (pv 2) pa_nil)))))) pa_nil)) pa_nil))), ?_⟩
    have lc := r_lcOnes (K := K) (i := 0) (j := 3) (vs := [3]) (κ := Pc.D) (σ := [some v1, some v2, some v3, none]) (te := tSane K (tCall (spPO K) [] C8.E0 (tCons (tVar 3) (tCons (tVar 1) (tCons (tVar 2) tNil))))) (pieceR lot) rfl p1 (by omega) (fun _ => rfl) fun x p H' hp dx e => rv_sane (by
      have sz := psize_mem hp
      exact fun n H2 hn g e2 Q q2 => ⟨x, rfl, v2, rfl, v3, rfl, x, v2, v3, p, lot, rfl, by omega, dp_ex (F0.ex e2) _ _ dx, dp_ex (e.trans (F0.ex e2)) _ _ p2, dp_ex (e.trans (F0.ex e2)) _ _ p3, fun v H3 e3 dv => q2 v H3 (Kx.ex e3) F0.g dv⟩)
    have few : Few 15 (catR (ps.map (pieceR lot))) := ((pieces_few lot ps).up (by omega)).few
    have J := rl_call (F := F0) (K := K) (E := C8.E0) (Rl := fun ds es => ∃ rs : List K17.R2, Few 15 (catR rs) ∧ rs.length ≤ 15 ∧ ds = [.list (rs.map oneD)] ∧ es = [outD (joinR rs)]) F0.ok (ra_one lc) ⟨ps.map (pieceR lot), few, by rw [List.length_map]; exact hl, rfl, rfl⟩
    have S := rl_call (F := F0) (K := K) (E := C8.E0) (Rl := fun ds es => ∃ r : K17.R2, ds = [oneD r] ∧ es = [sightD r.2]) F0.ok (ra_one (J.imp fun _ _ _ _ _ z => z.dp)) ⟨joinR (ps.map (pieceR lot)), rfl, rfl⟩
    exact s_retR (F := F0) (n := 0) (k := 0) S F0.g (Nat.le_refl _) fun v H3 e3 _ pv => q v H3 (F0.ex e3) pv.dp
end
end Q21
set_option maxHeartbeats 2000000
/-! ### k21: left_of -/
namespace Q21
open PySem PySem.Spec PyProof.Rows L2 Evl Fx Fr Dt Tr K18 So K17
def nLeft : List Str := ["sight", "services", "stays", "service"]
theorem scLeft : FnScope nLeft ["sight", "services"] (defScope (K18.topS 43)) := ⟨rfl, rfl, rfl, by decide +kernel, rfl, by decide +kernel, by decide +kernel⟩
section
variable {P : Program} {w : World} {K : PySem.W.Frag} {mg : Str → Option Value} {base : Heap} {f f2 f3 : Addr} {fd fd2 fd3 : FuncData} {te tl ta tb tc : TE} {tt : TT} {σ σ2 : L2.St} {H H' : Hp} {k ka kb n : Nat} {d d' d0 : PyData} {ds es : List PyData} {g : TG} {vs : List Nat} {i : Int} {C : Addr}
/-- [.. for .. in a tuple], flat data to flat data -/
theorem rl_mapT {j : Nat} (φ : PyData → PyData) (hl : EvR F0 tl σ H 0 (IsD K (.tuple ds))) (fd : flats ds = true) (hm : ds.length ≤ 40000) (fl : ∀ d ∈ ds, flat (φ d) = true) (hw : ∀ x : V, wipe ((wipe σ vs).set j (some x)) vs = wipe σ vs)
    (ht : ∀ x d H', d ∈ ds → Dp K H' x d → Ex H H' → EvR F0 te ((wipe σ vs).set j (some x)) H' 0 (IsD K (φ d))) : EvR F0 (tLc (iTup K tl) (gName j) tYes te vs) σ H 0 (IsL F0 K (ds.map φ)) := by
  have eo : outs (fun _ => true) (fun i => φ (ds.getD i .none)) ds.length = ds.map φ := by
    unfold outs
    rw [List.filter_eq_self.mpr fun _ _ => rfl, map_range]
  have z := r_lcT (F := F0) (K := K) (k := 0) (kt := 0) (ke := 0) (tt := tYes) (te := te) (g := gName j) F0.ok (vs := vs) (fun _ => true) (fun i => φ (ds.getD i .none)) hl fd hm (fun i hi _ => fl _ (by rw [getD_at hi]; exact List.getElem_mem hi)) fun i x d n H' hi hx _ e => by
    have h1 := (List.getElem?_eq_some_iff.mp hi).1
    have ed : ds.getD i .none = d := by rw [getD_at h1]; exact (List.getElem?_eq_some_iff.mp hi).2
    have hd : d ∈ ds := by rw [← ed, getD_at h1]; exact List.getElem_mem h1
    refine ⟨_, gv_name, hw x, rt_yes0, fun _ => ?_⟩
    show EvR F0 te _ H' 0 (IsD K (φ (ds.getD i .none)))
    rw [ed]
    exact ht x d H' hd hx (F0.ex e)
  rw [eo, show 0 + ds.length * (0 + 0) = 0 by omega] at z
  exact z
def spLeft (K : PySem.W.Frag) (C : Addr) : Sp := fun vs H Q E => ∃ (v1 v2 : V) (d : PyData) (lot : List Str), vs = [v1, v2] ∧ Dp K H v1 d ∧ Ok d ∧ Dp K H v2 (.tuple (lot.map PyData.str)) ∧ lot.length ≤ 100 ∧
  (sightB d = true → ∀ ps : List Pc, d = .tuple (ps.map Pc.D) → psizes ps ≤ 12 ∧ ps.length ≤ 15 ∧ ∀ v H', Ex H H' → Dp K H' v (.tuple ((leftP lot ps).map Pc.D)) → Q v H') ∧
  (sightB d = false → ∀ H' dd fs, Ex H H' → H' dd = some (.xd fs) → fs.lookup ("word" : Str) = some (.str "sight") → fs.lookup ("at" : Str) = some (.int (-1)) → E (.ref C) (some dd) H')
theorem ok_left {fc : Addr} {fdc : FuncData} (F : Fun K "left_of" "left_of" (K18.topS 43) f fd) (G : FnOk P w K mg base (L2.CX P w) 8 fc fdc ["thing"] (spCheck K C)) (gc : mg "check_sight" = some (.ref fc)) (kc : PySem.W.keepIn K (.ref fc) = true) (bc : L2.Binds K fdc ["thing"] [])
    (cL : C8.Cal P w K mg base 7 "chances_left" (spCL K) []) (W1 : Wr K mg "ONE" (frD 1)) (W0 : Wr K mg "ZERO" (frD 0)) : FnOk P w K mg base (L2.CX P w) 9 f fd ["sight", "services"] (spLeft K C) := by
  refine F.okX scLeft (fun vs H Q E h => ?_) (fun cdv A outer s H vs Q E hr h => ?_)
  · obtain ⟨v1, v2, d, lot, rfl, _⟩ := h
    rfl
  · obtain ⟨v1, v2, d, lot, rfl, p1, ho, p2, hl, q1, q2⟩ := h
    obtain ⟨a1, g1, w1⟩ := W1
    obtain ⟨a0, g0, w0⟩ := W0
    refine ⟨_, pss_cons (ps_expr (pe_call G hr (by rfl) gc kc bc .nil (passes_call (takes_of rfl rfl rfl rfl) fun _ _ _ _ h => h) (pa_cons (pv 0) pa_nil)))
      (pss_cons (ps_setLc (i := 2) (own := [("service", 3)]) (g := gName 3) (by rfl) scLeft.nd rfl rfl (sw_true rfl rfl rfl (by kernel_rfl)) (pi_tup (pv 1)) (blkOk_by (own := [("service", 3)]) (N := nLeft) (sc := defScope (K18.topS 43)) (by decide +kernel)) (fun _ _ _ _ _ => pg_name (i := 3) scLeft.nd rfl (.inl rfl)) (fun _ _ _ _ _ => pts_nil)
        (te := tTup (tCons (tVar 3) (tCons (tC (.ref a1)) tNil))) (fun _ _ _ _ _ => pe_tup (pa_cons (pv 3) (pa_cons (pe_glob (v := .ref a1) (by rfl) g1 rfl) pa_nil))))
      (pss_one (ps_ret (pe_ix ix_tup (pe_ix ix_list (C8.pe_c cL hr (by decide) (by rfl) (pa_cons (pv 0) (pa_cons (pv 2) (pa_cons (pe_glob (v := .ref a0) (by rfl) g0 rfl) pa_nil)))) pe_int (fun _ _ => rfl)) pe_int (fun _ _ => rfl))))), ?_⟩
    refine ⟨v1, rfl, v1, d, rfl, p1, ho, fun hs H1 e1 => ?_, fun hs => q2 hs⟩
    obtain ⟨ds, rfl⟩ : ∃ ds, d = .tuple ds := by cases d <;> first | exact ⟨_, rfl⟩ | (exact absurd hs (by simp [sightB]))
    have ha : ds.all pieceB = true := by
      rw [sightB, Bool.and_eq_true] at hs
      exact hs.1
    obtain ⟨ps, rfl⟩ := pieces_are ha
    obtain ⟨z1, z2, q⟩ := q1 hs ps rfl
    show tSeq (tAsg (tLc (iTup K (tVar 1)) (gName 3) tYes (tTup (tCons (tVar 3) (tCons (tC (.ref a1)) tNil))) [3]) (gName 2)) _ _ [some v1, some v2, none, none] H1
    have m1 : EvR F0 (tLc (iTup K (tVar 1)) (gName 3) tYes (tTup (tCons (tVar 3) (tCons (tC (.ref a1)) tNil))) [3]) [some v1, some v2, none, none] H1 0 (IsL F0 K ((lot.map PyData.str).map fun d => .tuple [d, frD 1])) :=
      rl_mapT (fun d => .tuple [d, frD 1]) (rd_var0 rfl (dp_ex e1 _ _ p2)) (flats_all.mpr fun d hd => by
        obtain ⟨_, _, rfl⟩ := List.mem_map.mp hd
        rfl) (by rw [List.length_map]; omega) (fun d hd => by
        obtain ⟨_, _, rfl⟩ := List.mem_map.mp hd
        rfl) (fun _ => rfl) fun x d H' hd dx e => by
        obtain ⟨s', _, rfl⟩ := List.mem_map.mp hd
        exact rd_tup (ds := [.str s', frD 1]) F0.ok (ra_cons0 (rd_var0 rfl dx) (ra_one (rd_wr w1)))
    refine q_asgR (F := F0) (n := 0) (k := 0) m1 F0.g (Nat.le_refl _) fun vc H2 e2 _ pc => ?_
    replace e2 := F0.ex e2
    have pc' : Dp K H2 vc (.list (lot.map stD)) := by
      have := pc.dp
      rw [List.map_map] at this
      exact this
    have cl : EvR F0 (tCall (spCL K) [] C8.E0 (tCons (tVar 0) (tCons (tVar 2) (tCons (tC (.ref a0)) tNil)))) [some v1, some v2, some vc, none] H2 0 (IsD K (.list [sightD (leftP lot ps)])) := fun n H3 hn g e3 Q' q3 =>
      ⟨v1, rfl, vc, rfl, v1, vc, .ref a0, ps, lot, rfl, z1, z2, dp_ex ((e1.trans e2).trans (F0.ex e3)) _ _ p1, dp_ex (F0.ex e3) _ _ pc', w0 _, fun v H4 e4 dv => q3 v H4 (Kx.ex e4) F0.g dv⟩
    exact s_retR (F := F0) (n := 0) (k := 0) (rd_ix0 (rd_ixD cl rv_c 0 rfl rfl) rv_c 0 rfl rfl) F0.g (Nat.le_refl _) fun v H3 e3 _ dv => q v H3 (e1.trans (e2.trans (F0.ex e3))) dv
end
end Q21
set_option maxHeartbeats 2000000
/-! ### k21: _law_is_name, _law_is_sorted -/
namespace Q21
open PySem PySem.Spec PyProof.Rows L2 Evl Fx Fr Dt Tr K18 So K17
open PySem.W (alike alikeAll AllAlike Sortable dataLe dataLt keyToks keyToksAll)
def nameDB : PyData → Bool
  | .str s => nameB s
  | _ => false
def rLeS : L2.R2 := fun x y H Q => ∃ i j, x = .str i ∧ y = .str j ∧ Q (.bl (!decide (j.cps.toList < i.cps.toList))) H
theorem sign_lt (a b : Nat) : decide (([a] : List Nat) < [b]) = decide (a < b) := decide_eq_decide.mpr (by
  rw [List.cons_lt_cons_iff]
  simp)
def nLN : List Str := ["_law_item", "_law_c"]
theorem scLN : FnScope nLN ["_law_item"] (defScope (K18.topS 61)) := ⟨rfl, rfl, rfl, by decide +kernel, rfl, by decide +kernel, by decide +kernel⟩
theorem scLS : FnScope ["_law_some"] ["_law_some"] (defScope (K18.topS 62)) := ⟨rfl, rfl, rfl, by decide +kernel, rfl, by decide +kernel, by decide +kernel⟩
section
variable {P : Program} {w : World} {K : PySem.W.Frag} {mg : Str → Option Value} {base : Heap} {f f2 f3 : Addr} {fd fd2 fd3 : FuncData} {te tl ta tb tc : TE} {tt : TT} {σ σ2 : L2.St} {H H' : Hp} {k ka kb n : Nat} {d d' d0 : PyData} {ds es : List PyData} {g : TG} {vs : List Nat} {i : Int} {C : Addr}
theorem dps_strV : ∀ ss : List Str, DpAll K H (ss.map V.str) (ss.map PyData.str)
  | [] => .nil
  | s :: ss => .cons (.str s) (dps_strV ss)
theorem sh_strs {ss : List Str} (h : ∀ s ∈ ss, PyData.strOk s = true) : SeqAt.shaped (.list (ss.map PyData.str)) = true := by
  have h1 : PyData.canLayAll0 (ss.map PyData.str) = true ∧ PyData.depthAll (ss.map PyData.str) = 0 := by
    induction ss with
    | nil => simp [PyData.canLayAll0, PyData.depthAll]
    | cons s ss ih =>
      obtain ⟨i1, i2⟩ := ih fun x hx => h x (List.mem_cons_of_mem _ hx)
      rw [List.map_cons, PyData.canLayAll0, PyData.depthAll, i1, i2]
      simp [PyData.canLay0, PyData.depth, h s (List.mem_cons_self ..)]
  show ((PyData.list (ss.map PyData.str)).canLay0 && decide ((PyData.list (ss.map PyData.str)).depth ≤ 64)) = true
  rw [PyData.canLay0, PyData.depth, h1.1, h1.2]
  rfl
/-- a list of texts == [] -/
theorem rb_eqNil {ss : List Str} (h : EvR F0 te σ H 0 (fun v H' => ∃ D, v = .ref D ∧ H' D = some (.lst (ss.map V.str)))) (hs : ∀ s ∈ ss, PyData.strOk s = true) : EvR F0 (tOp (rEqD K) te (tLst tNil)) σ H 0 (fun x _ => x = .bl ss.isEmpty) := fun n H1 hn g e Q q =>
  h n H1 hn g e _ fun v H2 e2 _ ⟨D, ev, hD⟩ => ⟨sz_of (by simp), fun a ha => by
    subst ev
    have eA := Ex.new (o := HO.lst []) ha
    refine ⟨.list (ss.map PyData.str), .list [], .lst (sq_of (eA _ _ hD)) (dps_strV ss), .lst (sq_of upd_same) .nil, sh_strs hs, sh_strs (ss := []) (fun _ hx => by cases hx), ?_⟩
    have : PyData.eqv (.list (ss.map PyData.str)) (.list []) = ss.isEmpty := by
      cases ss <;> simp [PyData.eqv, PyData.eqvAll]
    rw [this]
    exact q _ _ (e2.trans (Kx.ex eA)) F0.g rfl⟩
theorem ok_lname (F : Fun K "_law_is_name" "_law_is_name" (K18.topS 61) f fd) (mI : mg "isinstance" = none) (ms : mg "str" = none) (ml : mg "len" = none) : FnOk P w K mg base CX0 1 f fd ["_law_item"] (spOne K Ok nameDB) := by
  refine F.ok scLN (fun vs H Q E h => ?_) (fun cdv A outer s H vs Q E hr h => ?_)
  · obtain ⟨v, d, rfl, _⟩ := h
    rfl
  · obtain ⟨v, d, rfl, hv, ho, q⟩ := h
    have un : (A.deeper (envOfC (Str.ofString "_law_is_name") (defScope (K18.topS 61)) s.heap.objs.size f cdv)).units + 64 < cLine := hr.units
    refine ⟨_, pss_one (ps_ret (pe_and (pe_callB call_isi (by rfl) mI (by decide +kernel) (pa_cons (pv 0) (pa_cons (pe_bltn (v := .ty "str") (by rfl) ms (by decide +kernel) rfl) pa_nil)))
      (pe_and (pe_chain op_le op_le pe_int (pe_callB (r := rLen K) call_len (by rfl) ml PySem.boot_len (pa_cons (pv 0) pa_nil)) pe_int)
      (pe_one (pe_cmpR (r := rEqD K) (op_eqD un) (pe_lc (own := [("_law_c", 1)]) (g := gName 1) (by rfl) scLN.nd (pi_str (pv 0)) (blkOk_by (own := [("_law_c", 1)]) (N := nLN) (sc := defScope (K18.topS 61)) (by decide +kernel))
        (fun _ _ _ _ _ => pg_name (i := 1) scLN.nd rfl (.inl rfl))
        (tt := tNot (tTest (tChain rLeS rLeS (tC (.str "a")) (tVar 1) (tC (.str "z")))))
        (fun _ _ _ _ _ => pts_one (pt_not (pt_chain (r := rLeS) (r' := rLeS) op_le_str op_le_str pe_str (pv 1) pe_str)))
        (te := tVar 1) (fun _ _ _ _ _ => pv 1)) (pe_lst pa_nil) (by rfl)))))), ?_⟩
    have hx : EvR F0 (tVar 0) [some v, none] H 0 (IsD K d) := rd_var0 rfl hv
    refine s_retR (F := F0) (n := 0) (k := 0) (P := fun u _ => u = .bl (isStrB d && nameDB d)) (rb_and (ka := 0) (kb := 0) F0.ok (rv_isi hx kit_str) fun hb => ?_) F0.g (Nat.le_refl _) fun v' H1 e _ ev => ?_
    · obtain ⟨z, rfl⟩ : ∃ z, d = .str z := by cases d <;> first | exact ⟨_, rfl⟩ | (exact absurd hb (by simp [isStrB]))
      cases hv
      have hz : z.length ≤ 1000 := by
        have := ho.wt
        simp only [PyData.weight] at this
        show z.cps.size ≤ 1000
        omega
      have ok : PyData.strOk z = true := by simpa [PyData.canLay0] using ho.lay
      have hx : EvR F0 (tVar 0) [some (.str z), none] H 0 (fun u _ => u = .str z) := rv_var rfl
      have en : nameDB (.str z) = ((decide (1 ≤ z.length) && decide (z.length ≤ 8)) && ((List.range z.cps.size).filter fun i => !((z.cps[i]?.map fun c => decide (97 ≤ c) && decide (c ≤ 122)).getD true)).isEmpty) := by
        show nameB z = _
        unfold nameB
        congr 1
        rw [show (fun c => decide (c ∈ letters.cps.toList)) = fun c => decide (97 ≤ c) && decide (c ≤ 122) from funext letter_is, ← all_idx, List.all_map, Bool.eq_iff_iff, List.isEmpty_iff, List.filter_eq_nil_iff, List.all_eq_true]
        constructor
        · intro h i hi
          have := h i hi
          simp only [Function.comp, id] at this
          simp [this]
        · intro h i hi
          have := h i hi
          simpa using this
      rw [en]
      refine rb_and (ka := 0) (kb := 0) F0.ok (rv_chain (b := decide (1 ≤ z.length)) (c := decide (z.length ≤ 8)) (x := .int 1) (y := .int (z.length : Int)) (z := .int 8) rv_c (rv_lenS hx hz) rv_c (fun H Q q => ⟨_, _, rfl, rfl, bl_of (decide_eq_decide.mpr (by omega)) q⟩) (fun H Q q => ⟨_, _, rfl, rfl, bl_of (decide_eq_decide.mpr (by omega)) q⟩)) fun _ => ?_
      have R := r_lcS (vs := [1]) (j := 1) (tt := tNot (tTest (tChain rLeS rLeS (tC (.str "a")) (tVar 1) (tC (.str "z"))))) (te := tVar 1) (z := z) (fun i => !((z.cps[i]?.map fun c => decide (97 ≤ c) && decide (c ≤ 122)).getD true)) (fun i => V.str ⟨#[z.cps[i]?.getD 0]⟩) hx hz (fun _ => rfl) fun n c H' hc e => ⟨by
        rw [hc]
        refine rt_not (rt_val (rv_chain (x := .str "a") (y := .str ⟨#[c]⟩) (z := .str "z") rv_c (rv_var (i := 1) rfl) rv_c (fun H Q q => ⟨_, _, rfl, rfl, bl_of ?_ q⟩) (fun H Q q => ⟨_, _, rfl, rfl, bl_of ?_ q⟩)))
        · show decide (97 ≤ c) = !decide (([c] : List Nat) < [97])
          rw [sign_lt]
          by_cases h : 97 ≤ c
          · rw [decide_eq_true h, decide_eq_false (by omega)]; rfl
          · rw [decide_eq_false h, decide_eq_true (by omega)]; rfl
        · show decide (c ≤ 122) = !decide (([122] : List Nat) < [c])
          rw [sign_lt]
          by_cases h : c ≤ 122
          · rw [decide_eq_true h, decide_eq_false (by omega)]; rfl
          · rw [decide_eq_false h, decide_eq_true (by omega)]; rfl, fun _ => by
        rw [hc]
        exact rv_var (i := 1) rfl⟩
      refine (rb_eqNil (ss := ((List.range z.cps.size).filter fun i => !((z.cps[i]?.map fun c => decide (97 ≤ c) && decide (c ≤ 122)).getD true)).map fun i => (⟨#[z.cps[i]?.getD 0]⟩ : Str)) (R.imp fun _ v H' _ _ ⟨D, ev, hD⟩ => ⟨D, ev, by rw [hD, List.map_map]; rfl⟩) fun s hs => ?_).imp fun _ v _ _ _ ev => by rw [ev, List.isEmpty_map]
      obtain ⟨i, hi, rfl⟩ := List.mem_map.mp hs
      have hi' : i < z.cps.size := List.mem_range.mp (List.mem_filter.mp hi).1
      have hc : z.cps[i]?.getD 0 < 0x110000 := by
        rw [Array.getElem?_eq_getElem hi']
        have : ((z.cps).all (· < 0x110000)) = true := ok
        rw [Array.all_eq_true] at this
        simpa using this i hi'
      show ((#[z.cps[i]?.getD 0] : Array Nat).all (· < 0x110000)) = true
      simpa using hc
    · have : (isStrB d && nameDB d) = nameDB d := by cases d <;> simp [isStrB, nameDB]
      rw [ev, this]
      exact q H1 (F0.ex e)
end
end Q21
set_option maxHeartbeats 2000000
/-! ### k21: _law_is_sorted -/
namespace Q21
open PySem PySem.Spec PyProof.Rows L2 Evl Fx Fr Dt Tr K18 So K17
open PySem.W (alike alikeAll AllAlike Sortable dataLe dataLt keyToks keyToksAll)
/-- what the law may ask to be in order -/
structure SortOk (ds : List PyData) : Prop where
  srt : So.Srt ds
  dep : ∀ d ∈ ds, PyData.depth d ≤ 40
  len : ds.length ≤ 1000
  sh1 : SeqAt.shaped (.list ds) = true
  sh2 : SeqAt.shaped (.list (ds.mergeSort (dataLe false id))) = true
  eq : PyData.eqv (.list ds) (.list (ds.mergeSort (dataLe false id))) = ascD ds
theorem eqvs_id {α : Type} {k : α → PyData} (hq : ∀ a b, PyData.eqv (k a) (k b) = true → a = b) : ∀ {l m : List α}, PyData.eqvAll (l.map k) (m.map k) = true → l = m
  | [], [], _ => rfl
  | [], _ :: _, h => by simp [PyData.eqvAll] at h
  | _ :: _, [], h => by simp [PyData.eqvAll] at h
  | a :: l, b :: m, h => by
    rw [List.map_cons, List.map_cons, PyData.eqvAll, Bool.and_eq_true] at h
    rw [hq a b h.1, eqvs_id hq h.2]
theorem eqvs_self {α : Type} {k : α → PyData} (hr : ∀ a, PyData.eqv (k a) (k a) = true) : ∀ l : List α, PyData.eqvAll (l.map k) (l.map k) = true
  | [] => by simp [PyData.eqvAll]
  | a :: l => by rw [List.map_cons, PyData.eqvAll, hr, eqvs_self hr l]; rfl
theorem eqv_sorted2 {α : Type} {k : α → PyData} (inj : ∀ a b, keyToks (k a) = keyToks (k b) → a = b) (hq : ∀ a b, PyData.eqv (k a) (k b) = true → a = b) (hr : ∀ a, PyData.eqv (k a) (k a) = true) (l : List α) :
    PyData.eqv (.list (l.map k)) (.list ((l.map k).mergeSort (dataLe false id))) = ascD (l.map k) := by
  have em : (l.map k).mergeSort (dataLe false id) = (l.mergeSort fun a b => dataLe false id (k a) (k b)).map k :=
    (List.map_mergeSort (r := fun a b => dataLe false id (k a) (k b)) (s := dataLe false id) (f := k) (l := l) (fun _ _ _ _ => rfl)).symm
  have pw := Tr.sort_pw k l
  rw [em, Bool.eq_iff_iff, asc_pw]
  constructor
  · intro h
    have e : l = l.mergeSort fun a b => dataLe false id (k a) (k b) := eqvs_id hq (by simpa [PyData.eqv] using h)
    rw [e]
    exact pw
  · intro h
    have e : (l.mergeSort fun a b => dataLe false id (k a) (k b)) = l := Tr.one_order (Tr.le_anti inj) pw h (List.mergeSort_perm _ _)
    rw [e]
    simpa [PyData.eqv] using eqvs_self hr l
theorem tree_eqv (a b : T) (h : PyData.eqv (enc a) (enc b) = true) : a = b := enc_inj a b ((PySem.W.toks_eqv _ _ (enc_alike a b)).1 h)
theorem tree_refl (a : T) : PyData.eqv (enc a) (enc a) = true := PySem.W.eqv_refl_alike _ (enc_alike a a)
theorem pc_two (p q : Pc) : alike p.D q.D = true ∨ So.HeadsNe p.D q.D := (near_pcs [p, q]).two _ (by simp) _ (by simp)
theorem pc_eqv (p q : Pc) (h : PyData.eqv p.D q.D = true) : p = q := by
  rcases pc_two p q with z | ⟨a, b, r, r', e1, e2, hne⟩
  · exact toks_piece p q ((PySem.W.toks_eqv _ _ z).1 h)
  · rw [e1, e2] at h
    simp [PyData.eqv, PyData.eqvAll, hne] at h
theorem pc_refl (p : Pc) : PyData.eqv p.D p.D = true := by
  rcases pc_two p p with z | ⟨a, b, r, r', e1, e2, hne⟩
  · exact PySem.W.eqv_refl_alike _ z
  · rw [e1] at e2
    injection e2 with e2
    injection e2 with e2
    injection e2 with e2
    exact absurd e2 hne
theorem lay_perm {ds es : List PyData} (p : ds.Perm es) : PyData.canLayAll0 ds = PyData.canLayAll0 es ∧ PyData.depthAll ds = PyData.depthAll es := by
  induction p with
  | nil => exact ⟨rfl, rfl⟩
  | cons x _ ih => simp only [PyData.canLayAll0, PyData.depthAll, ih.1, ih.2]; exact ⟨trivial, trivial⟩
  | swap x y l =>
    simp only [PyData.canLayAll0, PyData.depthAll]
    constructor
    · cases PyData.canLay0 x <;> cases PyData.canLay0 y <;> rfl
    · omega
  | trans _ _ h1 h2 => exact ⟨h1.1.trans h2.1, h1.2.trans h2.2⟩
theorem shaped_perm {ds es : List PyData} (p : ds.Perm es) (h : SeqAt.shaped (.list ds) = true) : SeqAt.shaped (.list es) = true := by
  have h : ((PyData.list ds).canLay0 && decide ((PyData.list ds).depth ≤ 64)) = true := h
  show ((PyData.list es).canLay0 && decide ((PyData.list es).depth ≤ 64)) = true
  rw [PyData.canLay0, PyData.depth] at h ⊢
  rw [← (lay_perm p).1, ← (lay_perm p).2]
  exact h
theorem Ok.shL {ds : List PyData} (h : Ok (.tuple ds)) : SeqAt.shaped (.list ds) = true := by
  obtain ⟨a1, _, _, _, a5, _⟩ := h
  show ((PyData.list ds).canLay0 && decide ((PyData.list ds).depth ≤ 64)) = true
  rw [PyData.canLay0] at a1
  rw [PyData.depth] at a5
  rw [PyData.canLay0, PyData.depth, a1, decide_eq_true (by omega)]
  rfl
theorem Ok.len {ds : List PyData} (h : Ok (.tuple ds)) : ds.length ≤ 1000 := by
  have h1 := len_wts ds
  have h2 := h.wt
  rw [PyData.weight] at h2
  omega
theorem Ok.deps {ds : List PyData} (h : Ok (.tuple ds)) : ∀ d ∈ ds, PyData.depth d ≤ 40 := fun d hd => by
  have := (h.mem hd).dep
  omega
theorem sortOk_trees {ts : List T} (h : Ok (.tuple (ts.map enc))) : SortOk (ts.map enc) where
  srt := .inl ⟨all_alike ts, all_sortable ts⟩
  dep := h.deps
  len := h.len
  sh1 := h.shL
  sh2 := shaped_perm (List.mergeSort_perm _ _).symm h.shL
  eq := eqv_sorted2 enc_inj tree_eqv tree_refl ts
theorem sortOk_pcs {ps : List Pc} (h : Ok (.tuple (ps.map Pc.D))) : SortOk (ps.map Pc.D) where
  srt := .inr (near_pcs ps)
  dep := h.deps
  len := h.len
  sh1 := h.shL
  sh2 := shaped_perm (List.mergeSort_perm _ _).symm h.shL
  eq := eqv_sorted2 toks_piece pc_eqv pc_refl ps
section
variable {P : Program} {w : World} {K : PySem.W.Frag} {mg : Str → Option Value} {base : Heap} {f f2 f3 : Addr} {fd fd2 fd3 : FuncData} {te tl ta tb tc : TE} {tt : TT} {σ σ2 : L2.St} {H H' : Hp} {k ka kb n : Nat} {d d' d0 : PyData} {ds es : List PyData} {g : TG} {vs : List Nat} {i : Int} {C : Addr}
def spLSorted (K : PySem.W.Frag) : Sp := fun vs H Q _ => ∃ (v : V) (ds : List PyData), vs = [v] ∧ Dp K H v (.tuple ds) ∧ SortOk ds ∧ ∀ H', Ex H H' → Q (.bl (ascD ds)) H'
theorem ok_lsorted (F : Fun K "_law_is_sorted" "_law_is_sorted" (K18.topS 62) f fd) (m_list : mg "list" = none) (m_sorted : mg "sorted" = none) : FnOk P w K mg base CX0 1 f fd ["_law_some"] (spLSorted K) := by
  refine F.ok scLS (fun vs H Q E h => ?_) (fun cdv A outer s H vs Q E hr h => ?_)
  · obtain ⟨v, ds, rfl, _⟩ := h
    rfl
  · obtain ⟨v, ds, rfl, hv, so, q⟩ := h
    have un : (A.deeper (envOfC (Str.ofString "_law_is_sorted") (defScope (K18.topS 62)) s.heap.objs.size f cdv)).units + 64 < cLine := hr.units
    refine ⟨_, pss_one (ps_ret (pe_cmpR (r := rEqD K) (op_eqD un) (pe_callTy (T := "list") (r := rTupListOf K) call_list_of (by rfl) m_list (by decide +kernel) (pa_cons (pv 0) pa_nil)) (pe_callB (r := rSortX K) (cr_sortedX un) (by rfl) m_sorted (by decide +kernel) (pa_cons (pv 0) pa_nil)) (nomark _))), ?_⟩
    have hx : EvR F0 (tVar 0) [some v] H 0 (IsD K (.tuple ds)) := rd_var0 rfl hv
    refine s_retR (F := F0) (n := 0) (k := 0) (rb_eq0 ((rl_listOf hx).imp fun _ _ _ _ _ z => z.dp) ((rl_sortXT F0.ok hx so.srt so.dep).imp fun _ _ _ _ _ z => z.dp) so.sh1 so.sh2) F0.g (Nat.le_refl _) fun v' H1 e _ ev => ?_
    rw [ev, so.eq]
    exact q H1 (F0.ex e)
end
end Q21
set_option maxHeartbeats 2000000
/-! ### k21: the written form of a mark -/
namespace Q21
open PySem PySem.Spec PyProof.Rows L2 Evl Fx Fr Dt Tr K18 So K17
def markX : PyData → Bool
  | .int m => m == 0 || m == 1
  | _ => false
theorem one_len : (Str.ofString "0").length = 1 := by decide +kernel
theorem app_len (a b : Str) : (a ++ b).length = a.length + b.length := by
  show (a.cps ++ b.cps).size = a.cps.size + b.cps.size
  exact Array.size_append
theorem two_ne {x y : Str} (h : 2 ≤ x.length) (hy : y.length = 1) : x ≠ y := fun e => by rw [e] at h; omega
theorem shown_len2 : ∀ d : PyData, (∀ i, d ≠ .int i) → 2 ≤ d.shown.length
  | .none, _ => by rw [PyData.shown_none]; decide +kernel
  | .bool b, _ => by rw [PyData.shown_bool]; cases b <;> decide +kernel
  | .int i, h => absurd rfl (h i)
  | .str x, _ => by rw [PyData.shown_str]; exact StrLaws.reprText_ge2 x
  | .list xs, _ => by
    rw [PyData.shown_list, app_len, app_len]
    have h1 : (Str.ofString "[").length = 1 := by decide +kernel
    have h2 : (Str.ofString "]").length = 1 := by decide +kernel
    omega
  | .tuple xs, _ => by
    rw [PyData.shown_tuple, app_len, app_len]
    have h1 : (Str.ofString "(").length = 1 := by decide +kernel
    have h2 : 1 ≤ (Str.ofString (if (xs.length == 1) = true then ",)" else ")")).length := by
      split <;> decide +kernel
    omega
  | .dict xs, _ => by
    rw [PyData.shown_dict, app_len, app_len]
    have h1 : (Str.ofString "{").length = 1 := by decide +kernel
    have h2 : (Str.ofString "}").length = 1 := by decide +kernel
    omega
theorem ofS_inj {a b : String} (h : Str.ofString a = Str.ofString b) : a = b := by
  rw [Str.ofString_eq_toList, Str.ofString_eq_toList] at h
  injection h with h
  have h : a.toList.map Char.toNat = b.toList.map Char.toNat := by simpa using h
  have : a.toList = b.toList := (List.map_inj_right fun x y e => Char.toNat_inj.mp e).mp h
  exact String.toList_inj.mp this
theorem int_shown {i j : Int} (h : (PyData.int i).shown = (PyData.int j).shown) : i = j := by
  rw [PyData.shown_int, PyData.shown_int] at h
  have h := ofS_inj h
  have e : ∀ k : Int, (toString k : String) = Int.repr k := fun k => by cases k <;> rfl
  rw [e, e] at h
  exact Int.repr_injective h
theorem shown_mark (d : PyData) : (([("0" : Str), "1"] : List Str).any fun z => z == d.shown) = markX d := by
  have h0 : ("0" : Str) = (PyData.int 0).shown := by rw [PyData.shown_int]; decide +kernel
  have h1 : ("1" : Str) = (PyData.int 1).shown := by rw [PyData.shown_int]; decide +kernel
  have l0 : ("0" : Str).length = 1 := by decide +kernel
  have l1 : ("1" : Str).length = 1 := by decide +kernel
  by_cases hd : ∃ i, d = .int i
  · obtain ⟨i, rfl⟩ := hd
    show (("0" : Str) == (PyData.int i).shown || (("1" : Str) == (PyData.int i).shown || false)) = (i == 0 || i == 1)
    have a0 : (("0" : Str) == (PyData.int i).shown) = (i == 0) := by
      rw [Bool.eq_iff_iff, beq_iff_eq, beq_iff_eq, h0]
      exact ⟨fun h => (int_shown h).symm, fun h => by rw [h]⟩
    have a1 : (("1" : Str) == (PyData.int i).shown) = (i == 1) := by
      rw [Bool.eq_iff_iff, beq_iff_eq, beq_iff_eq, h1]
      exact ⟨fun h => (int_shown h).symm, fun h => by rw [h]⟩
    rw [a0, a1, Bool.or_false]
  · have h2 := shown_len2 d fun i e => hd ⟨i, e⟩
    have n0 : (("0" : Str) == d.shown) = false := beq_false_of_ne (Ne.symm (two_ne h2 l0))
    have n1 : (("1" : Str) == d.shown) = false := beq_false_of_ne (Ne.symm (two_ne h2 l1))
    show (("0" : Str) == d.shown || (("1" : Str) == d.shown || false)) = markX d
    rw [n0, n1]
    cases d <;> first | rfl | exact absurd ⟨_, rfl⟩ hd
end Q21
set_option maxHeartbeats 2000000
/-! ### k21: what a filter leaves; not in -/
namespace Q21
open PySem PySem.Spec PyProof.Rows L2 Evl Fx Fr Dt Tr K18 So K17
section
variable {P : Program} {w : World} {K : PySem.W.Frag} {mg : Str → Option Value} {base : Heap} {f f2 f3 : Addr} {fd fd2 fd3 : FuncData} {te tl ta tb tc : TE} {tt : TT} {σ σ2 : L2.St} {H H' : Hp} {k ka kb n : Nat} {d d' d0 : PyData} {ds es : List PyData} {g : TG} {vs : List Nat} {i : Int} {C : Addr}
theorem rb_notInT {a : Str} {ws : List Str} (ha : EvR F0 ta σ H 0 (fun u _ => u = .str a)) (hb : EvR F0 tb σ H 0 (IsD K (.tuple (ws.map PyData.str)))) : EvR F0 (tOp (rIn K true) ta tb) σ H 0 (fun u _ => u = .bl (!ws.any fun y => y == a)) :=
  r_op (ka := 0) (kb := 0) F0.ok mono_eq ha hb fun x y n H1 g e ex py Q q => by
    subst ex
    cases py with
    | @tup b ys _ hb hy =>
    have := dps_strs hy
    subst this
    refine ⟨b, _, rfl, .inr hb, rfl, flat_strs ws, q _ H1 (Ex.refl _) ?_⟩
    show V.bl (!inV _ _) = _
    unfold inV
    rw [List.any_map]
    rfl
/-- [x for x in a tuple if ..], any data -/
theorem r_lcFilt {j : Nat} (p : PyData → Bool) (hl : EvR F0 tl σ H 0 (IsD K (.tuple ds))) (hz : ds.length ≤ 1000) (hw : ∀ x : V, wipe ((wipe σ vs).set j (some x)) vs = wipe σ vs) (hj : ∀ x : V, ((wipe σ vs).set j (some x))[j]? = some (some x))
    (ht : ∀ x d H', d ∈ ds → Dp K H' x d → Ex H H' → EvRT F0 tt ((wipe σ vs).set j (some x)) H' 0 (p d)) : EvR F0 (tLc (iTup K tl) (gName j) tt (tVar j) vs) σ H 0 (IsD K (.list (ds.filter p))) := fun n0 H0 hn g0 e0 Q q => hl n0 H0 hn g0 e0 _ fun v H1 e1 _ hd => by
  cases hd with
  | @tup a xs _ ha hx =>
  have e01 := F0.ex (e0.trans e1)
  refine ⟨a, rfl, ⟨xs, ha⟩, fun D hD => ?_⟩
  have eD := Ex.new (o := HO.lst []) hD
  have lx := dps_len hx
  refine lc_tup (xs := xs) (fun n H' => Ex H1 H' ∧ ∃ ys, H' D = some (.lst ys) ∧ DpAll K H1 ys ((ds.take n).filter p)) ⟨eD, [], upd_same, by simpa using DpAll.nil⟩ (fun n H' _ p => ex_t p.1 ha) (fun n x H' hxn ⟨p1, ys, hDD, dy⟩ => ?_) fun H' ⟨p1, ys, hDD, dy⟩ => ?_
  · obtain ⟨hlt, dx⟩ := dps_at hx hxn
    have tk : (ds.take (n + 1)).filter p = (ds.take n).filter p ++ (if p ds[n] = true then [ds[n]] else []) := by
      rw [List.take_succ_eq_append_getElem hlt, List.filter_append]
      congr 1
      by_cases hp : p ds[n] = true
      · rw [if_pos hp, List.filter_cons_of_pos hp, List.filter_nil]
      · rw [if_neg hp, List.filter_cons_of_neg hp, List.filter_nil]
    have ly : ys.length ≤ n := by
      have h1 := dps_len dy
      have h2 := List.length_filter_le p (ds.take n)
      rw [List.length_take] at h2
      omega
    refine ⟨hw x, ht x _ H' (List.getElem_mem hlt) (dp_ex p1 _ _ dx) (e01.trans p1) 0 H' (Nat.le_refl _) F0.g Kx.refl _ fun H2 e2 _ => ?_⟩
    have e2' := F0.ex e2
    cases hp : p ds[n] with
    | false =>
      refine iteF ⟨p1.trans e2', ys, e2' _ _ hDD, ?_⟩
      rw [tk, hp, if_neg (by simp), List.append_nil]
      exact dy
    | true =>
      refine iteT ⟨x, hj x, ys, e2' _ _ hDD, sz_lt (by omega), (p1.trans e2').mut hD, ys ++ [x], upd_same, ?_⟩
      rw [tk, hp, if_pos rfl]
      exact dps_app dy (.cons dx .nil)
  · rw [lx, List.take_length] at dy
    exact q (.ref D) H' (e1.trans (Kx.ex p1)) F0.g (.lst (sq_of hDD) (dps_ex p1 _ _ dy))
/-- .. != [] -/
theorem rb_neNilD (h : EvR F0 te σ H 0 (IsD K (.list ds))) (hs : SeqAt.shaped (.list ds) = true) : EvR F0 (tOp (rNeD K) te (tLst tNil)) σ H 0 (fun x _ => x = .bl (!ds.isEmpty)) := fun n H1 hn g e Q q =>
  h n H1 hn g e _ fun v H2 e2 _ hv => ⟨sz_of (by simp), fun a ha => by
    have eA := Ex.new (o := HO.lst []) ha
    refine ⟨.list ds, .list [], dp_ex eA _ _ hv, .lst (sq_of upd_same) .nil, hs, sh_strs (ss := []) (fun _ hx => by cases hx), ?_⟩
    have : PyData.eqv (.list ds) (.list []) = ds.isEmpty := by
      cases ds <;> simp [PyData.eqv, PyData.eqvAll]
    rw [this]
    exact q _ _ (e2.trans (Kx.ex eA)) F0.g rfl⟩
end
end Q21
set_option maxHeartbeats 2000000
/-! ### k21: _law_is_tree -/
namespace Q21
open PySem PySem.Spec PyProof.Rows L2 Evl Fx Fr Dt Tr K18 So K17 DtG
def nLT : List Str := ["_law_item", "_law_own"]
theorem scLT : FnScope nLT ["_law_item"] (defScope (K18.topS 63)) := ⟨rfl, rfl, rfl, by decide +kernel, rfl, by decide +kernel, by decide +kernel⟩
/-- the beginning of a tree -/
def headB : PyData → Bool
  | .tuple [a, b, _] => nameDB a && markX b
  | _ => false
section
variable {P : Program} {w : World} {K : PySem.W.Frag} {mg : Str → Option Value} {base : Heap} {f f2 f3 : Addr} {fd fd2 fd3 : FuncData} {te tl ta tb tc : TE} {tt : TT} {σ σ2 : L2.St} {H H' : Hp} {k ka kb n : Nat} {d d' d0 : PyData} {ds es : List PyData} {g : TG} {vs : List Nat} {i : Int} {C : Addr}
abbrev tIs (K : PySem.W.Frag) (te : TE) : TT := tTest (tCB (rIsi K) (tCons te (tCons (tC (.ty "tuple")) tNil)))
abbrev tAt (K : PySem.W.Frag) (j : Int) : TE := tOp (rIxT K) (tVar 0) (tC (.int j))
def tHead (K : PySem.W.Frag) : TT := tOr (tNot (tIs K (tVar 0))) (tOr (tTest (tOp rNe (tCB (rLenS K) (tCons (tVar 0) tNil)) (tC (.int 3)))) (tOr (tNot (tTest (tCall (spOne K Ok nameDB) [] C8.E0 (tCons (tAt K 0) tNil)))) (tTest (tOp (rIn K true) (tCB (rReprX K) (tCons (tAt K 1) tNil)) (tTup (tCons (tC (.str "0")) (tCons (tC (.str "1")) tNil)))))))
theorem rt_head {v u : V} {o : Option V} (hv : Dp K H v d) (ho : Ok d) : EvRT F0 (tHead K) [some v, o] H 0 (!headB d) := by
  have hx : EvR F0 (tVar 0) [some v, o] H 0 (IsD K d) := rd_var0 rfl hv
  have R := rt_or (ka := 0) (kb := 0) (a := !isTupB d) (b := !headB d) (σ := [some v, o]) (H := H) F0.ok (rt_not (rt_val (rv_isi (K := K) (T := "tuple") hx kit_tup))) (tu := tOr (tTest (tOp rNe (tCB (rLenS K) (tCons (tVar 0) tNil)) (tC (.int 3)))) (tOr (tNot (tTest (tCall (spOne K Ok nameDB) [] C8.E0 (tCons (tAt K 0) tNil)))) (tTest (tOp (rIn K true) (tCB (rReprX K) (tCons (tAt K 1) tNil)) (tTup (tCons (tC (.str "0")) (tCons (tC (.str "1")) tNil))))))) fun hb => by
    obtain ⟨ds, rfl⟩ : ∃ ds, d = .tuple ds := by cases d <;> first | exact ⟨_, rfl⟩ | (exact absurd hb (by simp [isTupB]))
    refine rt_is (rt_or (ka := 0) (kb := 0) (a := !decide (((ds.length : Nat) : Int) = 3)) (b := !headB (.tuple ds)) F0.ok (rt_val (rv_neI (rv_lenT hx) rv_c)) fun h3 => ?_) ?_
    · have h3 : ((ds.length : Nat) : Int) = 3 := by simpa using h3
      match ds, h3, hx, ho with
      | [a, b, c], _, hx, ho =>
        have i0 : EvR F0 (tAt K 0) [some v, o] H 0 (IsD K a) := rd_ix0 hx rv_c 0 rfl rfl
        have i1 : EvR F0 (tAt K 1) [some v, o] H 0 (IsD K b) := rd_ix0 hx rv_c 1 rfl rfl
        have oa : Ok a := ho.mem (by simp)
        have ob : Ok b := ho.mem (by simp)
        refine rt_is (rt_or (ka := 0) (kb := 0) (a := !nameDB a) (b := !markX b) F0.ok (rt_not (rt_val (cal_one i0 oa))) fun _ => ?_) (by show (!nameDB a || !markX b) = !(nameDB a && markX b); rw [Bool.not_and])
        have tw : EvR F0 (tTup (tCons (tC (.str "0")) (tCons (tC (.str "1")) tNil))) [some v, o] H 0 (IsD K (.tuple (([("0" : Str), "1"] : List Str).map PyData.str))) := rd_tup (ds := [.str "0", .str "1"]) F0.ok (ra_cons0 rd_str (ra_one rd_str))
        refine rt_is (rt_val (rb_notInT (rv_reprX i1 ob (by decide) (by decide)) tw)) ?_
        rw [shown_mark]
    · by_cases h3 : ((ds.length : Nat) : Int) = 3
      · rw [decide_eq_true h3]; rfl
      · have : headB (.tuple ds) = false := by
          match ds, h3 with
          | [], _ => rfl
          | [_], _ => simp [headB]
          | [_, _], _ => simp [headB]
          | [_, _, _], h => exact absurd rfl h
          | _ :: _ :: _ :: _ :: _, _ => simp [headB]
        rw [this, decide_eq_false h3]
        rfl
  refine rt_is R ?_
  cases d <;> first | rfl | (simp [isTupB])
theorem filt_trees : ∀ cs : List PyData, (cs.filter fun d => !treeB d).isEmpty = treesB cs
  | [] => by rw [treesB]; rfl
  | c :: cs => by
    rw [treesB, ← filt_trees cs]
    cases h : treeB c with
    | true => rw [List.filter_cons_of_neg (by simp [h]), Bool.true_and]
    | false => rw [List.filter_cons_of_pos (by simp [h])]; rfl
theorem tree_head {a b c : PyData} : treeB (.tuple [a, b, c]) = (headB (.tuple [a, b, c]) && (match c with | .tuple cs => treesB cs && ascD cs | _ => false)) := by
  cases a <;> first | rfl | (cases b <;> first | (simp [treeB, headB, markX]; done) | (cases c <;> first | (simp [treeB]; done) | skip))
  rename_i s m cs
  show ((nameB s && (markB m && ascD cs)) && treesB cs) = ((nameB s && (m == 0 || m == 1)) && (treesB cs && ascD cs))
  unfold markB
  cases nameB s <;> cases (m == 0 || m == 1) <;> cases treesB cs <;> cases ascD cs <;> rfl
theorem sh_filter {cs : List PyData} (p : PyData → Bool) (h : Ok (.tuple cs)) : SeqAt.shaped (.list (cs.filter p)) = true := by
  obtain ⟨a1, _, _, _, a5, _⟩ := h
  rw [PyData.canLay0] at a1
  rw [PyData.depth] at a5
  have key : ∀ ds : List PyData, PyData.canLayAll0 ds = true → PyData.canLayAll0 (ds.filter p) = true ∧ PyData.depthAll (ds.filter p) ≤ PyData.depthAll ds := by
    intro ds
    induction ds with
    | nil => intro _; simp [PyData.canLayAll0, PyData.depthAll]
    | cons x xs ih =>
      intro h
      rw [PyData.canLayAll0, Bool.and_eq_true] at h
      obtain ⟨i1, i2⟩ := ih h.2
      by_cases hp : p x = true
      · rw [List.filter_cons_of_pos hp, PyData.canLayAll0, PyData.depthAll, PyData.depthAll, h.1, i1]
        exact ⟨rfl, by omega⟩
      · rw [List.filter_cons_of_neg hp, PyData.depthAll]
        exact ⟨i1, by omega⟩
  obtain ⟨k1, k2⟩ := key cs a1
  show ((PyData.list (cs.filter p)).canLay0 && decide ((PyData.list (cs.filter p)).depth ≤ 64)) = true
  rw [PyData.canLay0, PyData.depth, k1, decide_eq_true (by omega)]
  rfl
end
end Q21
set_option maxHeartbeats 2000000
/-! ### k21: _law_is_tree itself -/
namespace Q21
open PySem PySem.Spec PyProof.Rows L2 Evl Fx Fr Dt Tr K18 So K17 DtG
theorem tree_head0 : ∀ d : PyData, headB d = false → treeB d = false
  | .tuple [a, b, c], h => by rw [tree_head, h, Bool.false_and]
  | .tuple [], _ => by rw [treeB]; simp
  | .tuple [_], _ => by rw [treeB]; simp
  | .tuple [_, _], _ => by rw [treeB]; simp
  | .tuple (_ :: _ :: _ :: _ :: _), _ => by rw [treeB]; simp
  | .none, _ => by rw [treeB]; simp
  | .bool _, _ => by rw [treeB]; simp
  | .int _, _ => by rw [treeB]; simp
  | .str _, _ => by rw [treeB]; simp
  | .list _, _ => by rw [treeB]; simp
  | .dict _, _ => by rw [treeB]; simp
section
variable {P : Program} {w : World} {K : PySem.W.Frag} {mg : Str → Option Value} {base : Heap} {f f2 f3 : Addr} {fd fd2 fd3 : FuncData} {te tl ta tb tc : TE} {tt : TT} {σ σ2 : L2.St} {H H' : Hp} {k ka kb n : Nat} {d d' d0 : PyData} {ds es : List PyData} {g : TG} {vs : List Nat} {i : Int} {C : Addr}
abbrev LtOk (n : Nat) (d : PyData) : Prop := Ok d ∧ PyData.depth d < n
theorem ok_ltree (F : Fun K "_law_is_tree" "_law_is_tree" (K18.topS 63) f fd) (gl : mg "_law_is_tree" = some (.ref f)) (B : L2.Binds K fd ["_law_item"] []) (cN : C8.Cal P w K mg base 1 "_law_is_name" (spOne K Ok nameDB) []) (cS : C8.Cal P w K mg base 1 "_law_is_sorted" (spLSorted K) [])
    (mI : mg "isinstance" = none) (mt : mg "tuple" = none) (ml : mg "len" = none) (mr : mg "repr" = none) : ∀ n, FnG P w K mg base CX0 (n + 1) f fd ["_law_item"] (spOne K (LtOk n) treeB)
  | 0 => by
    refine ⟨fun vs H Q E h => ?_, fun A outer s H args us vs Q E hg hr he hb hv h => ?_⟩
    · obtain ⟨v, d, _, _, ⟨_, h⟩, _⟩ := h
      omega
    · obtain ⟨v, d, _, _, ⟨_, h⟩, _⟩ := h
      omega
  | n + 1 => by
    have ih := ok_ltree F gl B cN cS mI mt ml mr n
    refine okG F scLT (fun vs H Q E h => ?_) (fun cdv A outer s H vs Q E hgd hr h => ?_)
    · obtain ⟨v, d, rfl, _⟩ := h
      rfl
    · obtain ⟨v, d, rfl, hv, ⟨ho, hdep⟩, q⟩ := h
      have un : (A.deeper (envOfC (Str.ofString "_law_is_tree") (defScope (K18.topS 63)) s.heap.objs.size f cdv)).units + 64 < cLine := hr.units
      refine ⟨_, pss_cons (ps_if (PW.pt (pw_or (pt_not (pt_val (pe_callB call_isi (by rfl) mI (by decide +kernel) (pa_cons (pv 0) (pa_cons (pe_bltn (v := .ty "tuple") (by rfl) mt (by decide +kernel) rfl) pa_nil)))))
          (pw_or (pt_cmpR op_ne (pe_callB (r := rLenS K) call_lenS (by rfl) ml PySem.boot_len (pa_cons (pv 0) pa_nil)) pe_int (nomark _))
          (pw_or (pt_not (pt_val (C8.pe_c cN hr (by omega) (by rfl) (pa_cons (pe_ix ix_tup (pv 0) pe_int (fun _ _ => rfl)) pa_nil))))
          (pw_or1 (pt_cmpR op_notIn_seq (pe_callB (r := rReprX K) (cr_reprX hgd un) (by rfl) mr (by decide +kernel) (pa_cons (pe_ix ix_tup (pv 0) pe_int (fun _ _ => rfl)) pa_nil)) (pe_tup (pa_cons pe_str (pa_cons pe_str pa_nil))) (by rfl))))))) (pss_one (ps_ret pe_bl)) pss_nil)
        (pss_cons (ps_if (PW.pt (pw_or (pt_not (pt_val (pe_callB call_isi (by rfl) mI (by decide +kernel) (pa_cons (pe_ix ix_tup (pv 0) pe_int (fun _ _ => rfl)) (pa_cons (pe_bltn (v := .ty "tuple") (by rfl) mt (by decide +kernel) rfl) pa_nil)))))
          (pw_or1 (pt_cmpR (r := rNeD K) (op_neD un) (pe_lc (own := [("_law_own", 1)]) (g := gName 1) (by rfl) scLT.nd (pi_tup (pe_ix ix_tup (pv 0) pe_int (fun _ _ => rfl))) (blkOk_by (own := [("_law_own", 1)]) (N := nLT) (sc := defScope (K18.topS 63)) (by decide +kernel)) (fun _ _ _ _ _ => pg_name (i := 1) scLT.nd rfl (.inl rfl))
            (tt := tNot (tTest (tCall (spOne K (LtOk n) treeB) [] C8.E0 (tCons (tVar 1) tNil))))
            (fun _ _ _ _ _ => pts_one (pt_not (pt_val (pe_callG (E := C8.E0) ih hgd hr (by rfl) gl F.kp B C8.pass0 (pa_cons (pv 1) pa_nil)))))
            (te := tVar 1) (fun _ _ _ _ _ => pv 1)) (pe_lst pa_nil) (by rfl))))) (pss_one (ps_ret pe_bl)) pss_nil)
        (pss_one (ps_ret (C8.pe_c cS hr (by omega) (by rfl) (pa_cons (pe_ix ix_tup (pv 0) pe_int (fun _ _ => rfl)) pa_nil))))), ?_⟩
      show tSeq (tIfS (tHead K) _ _) _ _ [some v, none] H
      refine q_whenR (F := F0) (n := 0) (k := 0) (rt_head (u := v) hv ho) F0.g (Nat.le_refl _) (fun hb H1 e1 _ => ?_) fun hb H1 e1 _ => ?_
      · have hh : headB d = false := by simpa using hb
        have : treeB d = false := tree_head0 d hh
        rw [← this]
        exact q H1 (F0.ex e1)
      have hh : headB d = true := by simpa using hb
      obtain ⟨a, b, c, rfl⟩ : ∃ a b c, d = .tuple [a, b, c] := by
        unfold headB at hh
        split at hh
        · exact ⟨_, _, _, rfl⟩
        · cases hh
      have e1' := F0.ex e1
      have hv1 := dp_ex e1' _ _ hv
      have oc : Ok c := ho.mem (by simp)
      have dc : PyData.depth c < n + 1 := by
        simp only [PyData.depth, PyData.depthAll] at hdep
        omega
      have hx : ∀ (o : Option V) (H2 : Hp), Ex H1 H2 → EvR F0 (tAt K 2) [some v, o] H2 0 (IsD K c) := fun o H2 e => rd_ix0 (rd_var0 rfl (dp_ex e _ _ hv1)) rv_c 2 rfl rfl
      have cmp : EvRT F0 (tOr (tNot (tIs K (tAt K 2))) (tTest (tOp (rNeD K) (tLc (iTup K (tAt K 2)) (gName 1) (tNot (tTest (tCall (spOne K (LtOk n) treeB) [] C8.E0 (tCons (tVar 1) tNil)))) (tVar 1) [1]) (tLst tNil)))) [some v, none] H1 0 (!(match c with | .tuple cs => treesB cs | _ => false)) := by
        refine rt_is (rt_or (ka := 0) (kb := 0) (a := !isTupB c) (b := !(match c with | .tuple cs => treesB cs | _ => false)) F0.ok (rt_not (rt_val (rv_isi (K := K) (T := "tuple") (hx none H1 (Ex.refl _)) kit_tup))) fun hb => ?_) (by cases c <;> simp [isTupB])
        obtain ⟨cs, rfl⟩ : ∃ cs, c = .tuple cs := by cases c <;> first | exact ⟨_, rfl⟩ | (exact absurd hb (by simp [isTupB]))
        refine rt_is (rt_val (rb_neNilD (r_lcFilt (fun d => !treeB d) (hx none H1 (Ex.refl _)) oc.len (fun _ => rfl) (fun _ => rfl) fun x d' H' hd' dx e => rt_not (rt_val (cal_one (rd_var0 rfl dx) ⟨oc.mem hd', ?_⟩))) (sh_filter _ oc))) (by rw [filt_trees])
        have := (wts_mem hd').2
        rw [PyData.depth] at dc
        omega
      refine q_whenR (F := F0) (n := 0) (k := 0) cmp F0.g (Nat.le_refl _) (fun hb H2 e2 _ => ?_) fun hb H2 e2 _ => ?_
      · have : treeB (.tuple [a, b, c]) = false := by
          rw [tree_head, hh, Bool.true_and]
          cases c with
          | tuple cs =>
            have hb' : treesB cs = false := by simpa using hb
            show (treesB cs && ascD cs) = false
            rw [hb', Bool.false_and]
          | _ => rfl
        rw [← this]
        exact q H2 (e1'.trans (F0.ex e2))
      · have e2' := F0.ex e2
        obtain ⟨cs, rfl⟩ : ∃ cs, c = .tuple cs := by cases c <;> first | exact ⟨_, rfl⟩ | (exact absurd hb (by simp))
        have ht : treesB cs = true := by simpa using hb
        obtain ⟨ts, rfl⟩ := all_enc (by rw [← trees_all]; exact ht)
        have fin : treeB (.tuple [a, b, .tuple (ts.map enc)]) = ascD (ts.map enc) := by
          rw [tree_head, hh, Bool.true_and]
          show (treesB (ts.map enc) && ascD (ts.map enc)) = _
          rw [ht, Bool.true_and]
        have so := sortOk_trees oc
        have last : EvR F0 (tCall (spLSorted K) [] C8.E0 (tCons (tAt K 2) tNil)) [some v, none] H2 0 (fun x _ => x = .bl (ascD (ts.map enc))) := fun n0 H3 hn g e3 Q q3 =>
          hx none H2 e2' n0 H3 hn g e3 _ fun u H4 e4 _ du => ⟨u, _, rfl, du, so, fun H5 e5 => q3 _ H5 (e4.trans (Kx.ex e5)) F0.g rfl⟩
        refine s_retR (F := F0) (n := 0) (k := 0) last F0.g (Nat.le_refl _) fun v' H3 e3 _ ev => ?_
        rw [ev, ← fin]
        exact q H3 (e1'.trans (e2'.trans (F0.ex e3)))
end
end Q21
set_option maxHeartbeats 2000000
/-! ### k21: the written form of a word -/
namespace Q21
open PySem PySem.Spec PyProof.Rows L2 Evl Fx Fr Dt Tr K18 So K17
theorem sign_two (q c : Nat) : Builtin.Str.reprChar q c = [c] ∨ ∃ r, Builtin.Str.reprChar q c = 92 :: r := by
  unfold Builtin.Str.reprChar
  repeat' split
  all_goals first
    | exact .inl rfl
    | exact .inr ⟨_, rfl⟩
theorem signs_are (q : Nat) : ∀ l : List Nat, 92 ∉ l.flatMap (Builtin.Str.reprChar q) → l.flatMap (Builtin.Str.reprChar q) = l
  | [], _ => rfl
  | c :: l, h => by
    rw [List.flatMap_cons] at h ⊢
    have h1 : 92 ∉ Builtin.Str.reprChar q c := fun z => h (List.mem_append_left _ z)
    have h2 : 92 ∉ l.flatMap (Builtin.Str.reprChar q) := fun z => h (List.mem_append_right _ z)
    rw [signs_are q l h2]
    rcases sign_two q c with e | ⟨r, e⟩
    · rw [e]; rfl
    · rw [e] at h1
      exact absurd (List.mem_cons_self ..) h1
theorem fold_signs (q : Nat) : ∀ (l : List Nat) (acc : Array Nat), (l.foldl (fun out c => out ++ (Builtin.Str.reprChar q c).toArray) acc).toList = acc.toList ++ l.flatMap (Builtin.Str.reprChar q)
  | [], acc => by simp
  | c :: l, acc => by
    rw [List.foldl_cons, fold_signs q l, List.flatMap_cons, Array.toList_append, List.append_assoc]
theorem text_list (x : Str) : (reprText x).cps.toList = reprQuote x :: (x.cps.toList.flatMap (Builtin.Str.reprChar (reprQuote x)) ++ [reprQuote x]) := by
  show ((x.cps.foldl (fun out c => out ++ (Builtin.Str.reprChar (reprQuote x) c).toArray) #[reprQuote x]).push (reprQuote x)).toList = _
  rw [Array.toList_push, ← Array.foldl_toList, fold_signs]
  rfl
/-- a text written as 'w' is w, where w has no backslash -/
theorem word_text {x : Str} {w : List Nat} (h : (reprText x).cps.toList = 39 :: (w ++ [39])) (hw : 92 ∉ w) : x.cps.toList = w := by
  rw [text_list] at h
  injection h with hq h
  rw [hq] at h
  have e : x.cps.toList.flatMap (Builtin.Str.reprChar 39) = w := List.append_cancel_right h
  rw [← e]
  rw [← e] at hw
  exact (signs_are 39 _ hw).symm
theorem str_list {x y : Str} (h : x.cps.toList = y.cps.toList) : x = y := by
  obtain ⟨⟨a⟩⟩ := x
  obtain ⟨⟨b⟩⟩ := y
  have h : a = b := h
  rw [h]
theorem int_signs (i : Int) : ∀ c ∈ (Int.repr i).toList, c.isDigit = true ∨ c = '-' := by
  have hn : ∀ n : Nat, ∀ c ∈ (Nat.repr n).toList, c.isDigit = true := fun n c hc => by
    have e : (Nat.repr n).toList = Nat.toDigits 10 n := by simp [Nat.repr]
    rw [e] at hc
    exact Nat.isDigit_of_mem_toDigits (by decide) (by decide) hc
  intro c hc
  cases i with
  | ofNat n => exact .inl (hn n c hc)
  | negSucc n =>
    have e : (Int.repr (Int.negSucc n)).toList = '-' :: (Nat.repr (n + 1)).toList := by
      show (("-" : String) ++ Nat.repr (n + 1)).toList = _
      rw [String.toList_append]
      rfl
    rw [e] at hc
    rcases List.mem_cons.mp hc with rfl | hc
    · exact .inr rfl
    · exact .inl (hn _ c hc)
/-- a word's written form is no other datum's -/
theorem shown_word {d : PyData} {s : Str} {t : String} {w : List Nat} (ht : (Str.ofString t).cps.toList = 39 :: (w ++ [39])) (hs : s.cps.toList = w) (hw : 92 ∉ w) (hn : ∃ c ∈ t.toList, c.isDigit = false ∧ c ≠ '-') (hr : reprText s = Str.ofString t) : (Str.ofString t == d.shown) = PyData.eqv d (.str s) := by
  have hd : ∀ {y : Str} {c : Nat} {r : List Nat}, y.cps.toList = c :: r → c ≠ 39 → (Str.ofString t == y) = false := fun {y c r} e hc => beq_false_of_ne fun z => by
    rw [← z, ht] at e
    injection e with e _
    exact hc e.symm
  cases d with
  | none => rw [PyData.shown_none]; exact (hd (c := 78) (r := [111, 110, 101]) (by decide +kernel) (by decide)).trans (by simp [PyData.eqv])
  | bool b =>
    rw [PyData.shown_bool]
    cases b with
    | true => exact (hd (c := 84) (r := [114, 117, 101]) (by decide +kernel) (by decide)).trans (by simp [PyData.eqv])
    | false => exact (hd (c := 70) (r := [97, 108, 115, 101]) (by decide +kernel) (by decide)).trans (by simp [PyData.eqv])
  | int i =>
    rw [PyData.shown_int]
    have : (Str.ofString t == Str.ofString (toString i)) = false := beq_false_of_ne fun z => by
      have e := ofS_inj z
      have e2 : (toString i : String) = Int.repr i := by cases i <;> rfl
      obtain ⟨c, hc, h1, h2⟩ := hn
      rw [e, e2] at hc
      rcases int_signs i c hc with h | h
      · rw [h] at h1
        cases h1
      · exact h2 h
    rw [this]
    simp [PyData.eqv]
  | str x =>
    rw [PyData.shown_str, Bool.eq_iff_iff, beq_iff_eq]
    constructor
    · intro h
      have := word_text (x := x) (w := w) (by rw [← h, ht]) hw
      rw [str_list (this.trans hs.symm)]
      simp [PyData.eqv]
    · intro h
      cases eqv_word h
      exact hr.symm
  | list xs =>
    rw [PyData.shown_list]
    exact (hd (c := 91) (r := _) (by rw [Str.cps_append, Str.cps_append, Array.toList_append, Array.toList_append]; rfl) (by decide)).trans (by simp [PyData.eqv])
  | tuple xs =>
    rw [PyData.shown_tuple]
    exact (hd (c := 40) (r := _) (by rw [Str.cps_append, Str.cps_append, Array.toList_append, Array.toList_append]; rfl) (by decide)).trans (by simp [PyData.eqv])
  | dict xs =>
    rw [PyData.shown_dict]
    exact (hd (c := 123) (r := _) (by rw [Str.cps_append, Str.cps_append, Array.toList_append, Array.toList_append]; rfl) (by decide)).trans (by simp [PyData.eqv])
theorem shown_top (d : PyData) : (("'top'" : Str) == d.shown) = PyData.eqv d (.str "top") := shown_word (w := [116, 111, 112]) (by decide +kernel) (by decide +kernel) (by decide) ⟨'t', by decide +kernel, by decide +kernel, by decide +kernel⟩ (by decide +kernel)
theorem shown_lost (d : PyData) : (("'lost'" : Str) == d.shown) = PyData.eqv d (.str "lost") := shown_word (w := [108, 111, 115, 116]) (by decide +kernel) (by decide +kernel) (by decide) ⟨'t', by decide +kernel, by decide +kernel, by decide +kernel⟩ (by decide +kernel)
end Q21
set_option maxHeartbeats 2000000
/-! ### k21: list.count over texts -/
namespace Q21
open PySem PySem.Spec PyProof.Rows L2 Evl Fx Fr Dt Tr K18 So K17
def isText (k : Str) (v : Value) : Bool := match v with
  | .str y _ => y == k
  | _ => false
theorem texts_count (k : Str) : ∀ {ss : List Str} {us : List Value}, Vals (ss.map V.str) us → us.countP (isText k) = ss.countP (fun y => y == k) ∧ ∀ u ∈ us, ∃ y t, u = Value.str y t
  | [], _, h => by
    cases h
    exact ⟨rfl, fun u hu => by cases hu⟩
  | s :: r, _, h => by
    cases h with
    | cons a t =>
      obtain ⟨tk, rfl⟩ := a
      obtain ⟨e1, e2⟩ := texts_count k t
      refine ⟨?_, fun u hu => ?_⟩
      · rw [List.countP_cons, List.countP_cons, e1]
        rfl
      · rcases List.mem_cons.mp hu with rfl | hu
        · exact ⟨_, _, rfl⟩
        · exact e2 u hu
section
variable {X : Cx}
def rCntS (K : PySem.W.Frag) : V → List V → Hp → VK → Prop := fun x xs H Q => ∃ (p : Addr) (ss : List Str) (k : Str), x = .ref p ∧ xs = [.str k] ∧ SqL K H p (ss.map V.str) ∧ Q (.int (ss.countP (fun y => y == k) : Nat)) H
theorem mt_countS : MtR X "list.count" (rCntS X.K) := by
  intro pins s σ H x xs v us Q I rx rxs h
  obtain ⟨p, ss, k, rfl, rfl, hs, q⟩ := h
  cases rx
  obtain ⟨u, rfl, ru⟩ := rxs.one
  obtain ⟨t, rfl⟩ := ru
  obtain ⟨its, rv, ⟨⟨cls, dd, data, sl⟩, n, ho, hc, hdn, hd⟩, hlen⟩ := I.list hs
  simp only at hc hd
  subst hc hd
  obtain ⟨ec, em⟩ := texts_count k rv
  refine call_meets PySem.F.slot_list_count ⟨_, ho, rfl⟩ PySem.F.entry_list_count (PySem.F.args_list_count_2 _ _)
    (SeqAt.list_countAt p its.toArray n dd sl (.str k t) (isText k)) ⟨ho, fun y hy => ?_, ?_⟩
  · obtain ⟨z, tz, rfl⟩ := em y (by simpa using hy)
    exact SeqAt.EqAt.str_str z tz k t
  · refine ⟨.int (ss.countP (fun y => y == k) : Nat), H, I.tok _, ⟨s.toks, ?_⟩, q⟩
    have : its.toArray.toList.countP (isText k) = ss.countP (fun y => y == k) := ec
    first
      | (show Value.int _ _ = Value.int _ _; rw [this])
      | (simp [ec])
end
end Q21
set_option maxHeartbeats 2000000
/-! ### k21: pieces for _law_is_sight -/
namespace Q21
open PySem PySem.Spec PyProof.Rows L2 Evl Fx Fr Dt Tr K18 So K17 DtG
def nLG : List Str := ["_law_item", "_law_own", "_law_part"]
theorem scLG : FnScope nLG ["_law_item"] (defScope (K18.topS 64)) := ⟨rfl, rfl, rfl, by decide +kernel, rfl, by decide +kernel, by decide +kernel⟩
def pairB : PyData → Bool
  | .tuple [w, _] => PyData.eqv w (.str "top") || PyData.eqv w (.str "lost")
  | _ => false
theorem pair0 : ∀ d : PyData, pairB d = false → pieceB d = false
  | .tuple [w, h], e => by
    have e : (PyData.eqv w (.str "top") || PyData.eqv w (.str "lost")) = false := e
    rw [Bool.or_eq_false_iff] at e
    rw [pieceB, if_neg (by rw [e.1]; simp), e.2, Bool.false_and]
  | .tuple [], _ => rfl
  | .tuple [_], _ => by rw [pieceB]; simp
  | .tuple (_ :: _ :: _ :: _), _ => by rw [pieceB]; simp
  | .none, _ => rfl
  | .bool _, _ => rfl
  | .int _, _ => rfl
  | .str _, _ => rfl
  | .list _, _ => rfl
  | .dict _, _ => rfl
def headD : PyData → PyData
  | .tuple (w :: _) => w
  | _ => .none
theorem count_tops (ps : List Pc) : (ps.map wdP).countP (fun y => y == ("top" : Str)) = ((ps.map Pc.D).filter isTopD).length := by
  rw [← List.countP_eq_length_filter, List.countP_map, List.countP_map]
  congr 1
  funext p
  cases p with
  | top t => show (("top" : Str) == "top") = PyData.eqv (.str "top") (.str "top"); simp [PyData.eqv]
  | lost ts => show (("lost" : Str) == "top") = PyData.eqv (.str "lost") (.str "top"); simp [PyData.eqv]
section
variable {P : Program} {w : World} {K : PySem.W.Frag} {mg : Str → Option Value} {base : Heap} {f f2 f3 : Addr} {fd fd2 fd3 : FuncData} {te tl ta tb tc : TE} {tt : TT} {σ σ2 : L2.St} {H H' : Hp} {k ka kb n : Nat} {d d' d0 : PyData} {ds es : List PyData} {g : TG} {vs : List Nat} {i : Int} {C : Addr}
theorem rv_count {ss : List Str} {k : Str} (h : EvR F0 te σ H 0 (IsL F0 K (ss.map PyData.str))) : EvR F0 (tBM K "list" (rCntS K) te (tCons (tC (.str k)) tNil)) σ H 0 (fun x _ => x = .int (ss.countP (fun y => y == k) : Nat)) := fun n H1 hn g e Q q =>
  h n H1 hn g e _ fun v H2 e2 _ ⟨D, xs, ev, _, hD, hx⟩ => by
    have := dps_strs hx
    subst this ev
    exact ⟨.inl ⟨rfl, _, sq_of hD⟩, D, ss, k, rfl, rfl, sq_of hD, q _ H2 e2 F0.g rfl⟩
abbrev tOwn (K : PySem.W.Frag) (j : Int) : TE := tOp (rIxT K) (tVar 1) (tC (.int j))
def tPair (K : PySem.W.Frag) : TT := tOr (tNot (tIs K (tVar 1))) (tOr (tTest (tOp rNe (tCB (rLenS K) (tCons (tVar 1) tNil)) (tC (.int 2)))) (tTest (tOp (rIn K true) (tCB (rReprX K) (tCons (tOwn K 0) tNil)) (tTup (tCons (tC (.str "'top'")) (tCons (tC (.str "'lost'")) tNil))))))
theorem rt_pair {v u : V} {o : Option V} (hv : Dp K H u d) (ho : Ok d) : EvRT F0 (tPair K) [some v, some u, o] H 0 (!pairB d) := by
  have hx : EvR F0 (tVar 1) [some v, some u, o] H 0 (IsD K d) := rd_var0 rfl hv
  have R := rt_or (ka := 0) (kb := 0) (a := !isTupB d) (b := !pairB d) (σ := [some v, some u, o]) (H := H) F0.ok (rt_not (rt_val (rv_isi (K := K) (T := "tuple") hx kit_tup))) (tu := tOr (tTest (tOp rNe (tCB (rLenS K) (tCons (tVar 1) tNil)) (tC (.int 2)))) (tTest (tOp (rIn K true) (tCB (rReprX K) (tCons (tOwn K 0) tNil)) (tTup (tCons (tC (.str "'top'")) (tCons (tC (.str "'lost'")) tNil)))))) fun hb => by
    obtain ⟨ds, rfl⟩ : ∃ ds, d = .tuple ds := by cases d <;> first | exact ⟨_, rfl⟩ | (exact absurd hb (by simp [isTupB]))
    refine rt_is (rt_or (ka := 0) (kb := 0) (a := !decide (((ds.length : Nat) : Int) = 2)) (b := !pairB (.tuple ds)) F0.ok (rt_val (rv_neI (rv_lenT hx) rv_c)) fun h3 => ?_) ?_
    · have h3 : ((ds.length : Nat) : Int) = 2 := by simpa using h3
      match ds, h3, hx, ho with
      | [a, b], _, hx, ho =>
        have i0 : EvR F0 (tOwn K 0) [some v, some u, o] H 0 (IsD K a) := rd_ix0 hx rv_c 0 rfl rfl
        have oa : Ok a := ho.mem (by simp)
        have tw : EvR F0 (tTup (tCons (tC (.str "'top'")) (tCons (tC (.str "'lost'")) tNil))) [some v, some u, o] H 0 (IsD K (.tuple (([("'top'" : Str), "'lost'"] : List Str).map PyData.str))) := rd_tup (ds := [.str "'top'", .str "'lost'"]) F0.ok (ra_cons0 rd_str (ra_one rd_str))
        refine rt_is (rt_val (rb_notInT (rv_reprX i0 oa (by decide) (by decide)) tw)) ?_
        show (!(("'top'" : Str) == a.shown || (("'lost'" : Str) == a.shown || false))) = !(PyData.eqv a (.str "top") || PyData.eqv a (.str "lost"))
        rw [shown_top, shown_lost, Bool.or_false]
    · by_cases h3 : ((ds.length : Nat) : Int) = 2
      · rw [decide_eq_true h3]; rfl
      · have : pairB (.tuple ds) = false := by
          match ds, h3 with
          | [], _ => rfl
          | [_], _ => simp [pairB]
          | [_, _], h => exact absurd rfl h
          | _ :: _ :: _ :: _, _ => simp [pairB]
        rw [this, decide_eq_false h3]
        rfl
  refine rt_is R ?_
  cases d <;> first | rfl | (simp [isTupB])
end
end Q21
set_option maxHeartbeats 4000000
/-! ### k21: _law_is_sight -/
namespace Q21
open PySem PySem.Spec PyProof.Rows L2 Evl Fx Fr Dt Tr K18 So K17 DtG
section
variable {P : Program} {w : World} {K : PySem.W.Frag} {mg : Str → Option Value} {base : Heap} {f f2 f3 : Addr} {fd fd2 fd3 : FuncData} {te tl ta tb tc : TE} {tt : TT} {σ σ2 : L2.St} {H H' : Hp} {k ka kb n : Nat} {d d' d0 : PyData} {ds es : List PyData} {g : TG} {vs : List Nat} {i : Int} {C : Addr}
theorem ok_lsight (F : Fun K "_law_is_sight" "_law_is_sight" (K18.topS 64) f fd) (GT : FnG P w K mg base CX0 (n + 1) f2 fd2 ["_law_item"] (spOne K (LtOk n) treeB)) (gt : mg "_law_is_tree" = some (.ref f2)) (kt : PySem.W.keepIn K (.ref f2) = true) (bt : L2.Binds K fd2 ["_law_item"] []) (cS : C8.Cal P w K mg base 1 "_law_is_sorted" (spLSorted K) [])
    (mI : mg "isinstance" = none) (mt : mg "tuple" = none) (ml : mg "len" = none) (mr : mg "repr" = none) : FnG P w K mg base CX0 (n + 2) f fd ["_law_item"] (spOne K (LtOk n) sightB) := by
  refine okG F scLG (fun vs H Q E h => ?_) (fun cdv A outer s H vs Q E hgd hr h => ?_)
  · obtain ⟨v, d, rfl, _⟩ := h
    rfl
  · obtain ⟨v, d, rfl, hv, ⟨ho, hdep⟩, q⟩ := h
    have un : (A.deeper (envOfC (Str.ofString "_law_is_sight") (defScope (K18.topS 64)) s.heap.objs.size f cdv)).units + 64 < cLine := hr.units
    refine ⟨_, pss_cons (ps_if (pt_not (pt_val (pe_callB call_isi (by rfl) mI (by decide +kernel) (pa_cons (pv 0) (pa_cons (pe_bltn (v := .ty "tuple") (by rfl) mt (by decide +kernel) rfl) pa_nil))))) (pss_one (ps_ret pe_bl)) pss_nil)
      (pss_cons (ps_for PassesOwn.never rfl (pi_tup (pv 0)) (pg_name (i := 1) scLG.nd rfl (.inl rfl))
        (pss_cons (ps_if (PW.pt (pw_or (pt_not (pt_val (pe_callB call_isi (by rfl) mI (by decide +kernel) (pa_cons (pv 1) (pa_cons (pe_bltn (v := .ty "tuple") (by rfl) mt (by decide +kernel) rfl) pa_nil)))))
            (pw_or (pt_cmpR op_ne (pe_callB (r := rLenS K) call_lenS (by rfl) ml PySem.boot_len (pa_cons (pv 1) pa_nil)) pe_int (nomark _))
            (pw_or1 (pt_cmpR op_notIn_seq (pe_callB (r := rReprX K) (cr_reprX hgd un) (by rfl) mr (by decide +kernel) (pa_cons (pe_ix ix_tup (pv 1) pe_int (fun _ _ => rfl)) pa_nil)) (pe_tup (pa_cons pe_str (pa_cons pe_str pa_nil))) (by rfl)))))) (pss_one (ps_ret pe_bl)) pss_nil)
        (pss_cons (ps_if (PW.pt (pw_and (pt_cmpR (r := rEqD K) (op_eqD un) (pe_ix ix_tup (pv 1) pe_int (fun _ _ => rfl)) pe_str (nomark _)) (pw_and1 (pt_not (pt_val (pe_callG (E := C8.E0) GT hgd hr (by rfl) gt kt bt C8.pass0 (pa_cons (pe_ix ix_tup (pv 1) pe_int (fun _ _ => rfl)) pa_nil))))))) (pss_one (ps_ret pe_bl)) pss_nil)
        (pss_one (ps_if (pt_cmpR (r := rEqD K) (op_eqD un) (pe_ix ix_tup (pv 1) pe_int (fun _ _ => rfl)) pe_str (nomark _))
          (pss_cons (ps_if (PW.pt (pw_or (pt_not (pt_val (pe_callB call_isi (by rfl) mI (by decide +kernel) (pa_cons (pe_ix ix_tup (pv 1) pe_int (fun _ _ => rfl)) (pa_cons (pe_bltn (v := .ty "tuple") (by rfl) mt (by decide +kernel) rfl) pa_nil)))))
              (pw_or1 (pt_cmpR (r := rEqD K) (op_eqD un) (pe_ix ix_tup (pv 1) pe_int (fun _ _ => rfl)) (pe_tup pa_nil) (by rfl))))) (pss_one (ps_ret pe_bl)) pss_nil)
          (pss_one (ps_if (PW.pt (pw_or (pt_cmpR (r := rNeD K) (op_neD un) (pe_lc (own := [("_law_part", 2)]) (g := gName 2) (by rfl) scLG.nd (pi_tup (pe_ix ix_tup (pv 1) pe_int (fun _ _ => rfl))) (blkOk_by (own := [("_law_part", 2)]) (N := nLG) (sc := defScope (K18.topS 64)) (by decide +kernel)) (fun _ _ _ _ _ => pg_name (i := 2) scLG.nd rfl (.inl rfl))
                (tt := tNot (tTest (tCall (spOne K (LtOk n) treeB) [] C8.E0 (tCons (tVar 2) tNil))))
                (fun _ _ _ _ _ => pts_one (pt_not (pt_val (pe_callG (E := C8.E0) GT hgd hr (by rfl) gt kt bt C8.pass0 (pa_cons (pv 2) pa_nil)))))
                (te := tVar 2) (fun _ _ _ _ _ => pv 2)) (pe_lst pa_nil) (by rfl))
              (pw_or1 (pt_not (pt_val (C8.pe_c cS hr (by omega) (by rfl) (pa_cons (pe_ix ix_tup (pv 1) pe_int (fun _ _ => rfl)) pa_nil))))))) (pss_one (ps_ret pe_bl)) pss_nil))) pss_nil)))))
      (pss_one (ps_ret (pe_and (C8.pe_c cS hr (by omega) (by rfl) (pa_cons (pv 0) pa_nil)) (pe_one (pe_cmpR op_lt (pe_bm PySem.F.plainAttrs_list PySem.F.slot_list_count PySem.F.type_list_count mt_countS
          (pe_lc (own := [("_law_own", 1)]) (g := gName 1) (by rfl) scLG.nd (pi_tup (pv 0)) (blkOk_by (own := [("_law_own", 1)]) (N := nLG) (sc := defScope (K18.topS 64)) (by decide +kernel)) (fun _ _ _ _ _ => pg_name (i := 1) scLG.nd rfl (.inl rfl)) (fun _ _ _ _ _ => pts_nil)
            (te := tOp (rIxT K) (tVar 1) (tC (.int 0))) (fun _ _ _ _ _ => pe_ix (r := rIxT K) ix_tup (pv 1) pe_int (fun _ _ => rfl))) (pa_cons pe_str pa_nil)) pe_int (nomark _))))))), ?_⟩
    refine q_whenR (F := F0) (n := 0) (k := 0) (b := !isTupB d) (rt_not (rt_val (rv_isTup (σ := [some v, none, none]) rfl hv))) F0.g (Nat.le_refl _) (fun hb H1 e1 _ => ?_) fun hb H1 e1 _ => ?_
    · have : sightB d = false := by cases d <;> first | rfl | (exact absurd hb (by simp [isTupB]))
      rw [← this]
      exact q H1 (F0.ex e1)
    obtain ⟨ds, rfl⟩ : ∃ ds, d = .tuple ds := by cases d <;> first | exact ⟨_, rfl⟩ | (exact absurd hb (by simp [isTupB]))
    replace e1 := F0.ex e1
    have hv1 := dp_ex e1 _ _ hv
    have bad : ∀ {H2 : Hp}, ds.all pieceB = false → Ex H1 H2 → Q (.bl false) H2 := fun {H2} hp e => by
      have : sightB (.tuple ds) = false := by
        show (ds.all pieceB && _) = false
        rw [hp, Bool.false_and]
      rw [← this]
      exact q H2 (e1.trans e)
    cases hv1 with
    | @tup a xs _ ha hx =>
    have lx := dps_len hx
    have hv1 : Dp K H1 (.ref a) (.tuple ds) := .tup ha hx
    refine q_forTs (i := 0) (j := 1) (xs := xs) rfl (fun m σ' H' => ∃ x1, σ' = [some (.ref a), x1, none] ∧ Ex H1 H' ∧ (ds.take m).all pieceB = true) ⟨none, rfl, Ex.refl _, rfl⟩ (fun m σ' H' ⟨_, _, e, _⟩ => ex_t e ha) (fun m x σ' H' hxm ⟨x1, es, e, hm⟩ => ?_) fun σ' H' ⟨x1, es, e, hm⟩ => ?_
    · subst es
      obtain ⟨hlt, dx⟩ := dps_at (dps_ex e _ _ hx) hxm
      have hmem := List.getElem_mem hlt
      have od := ho.mem hmem
      have dd : PyData.depth ds[m] + 1 < n := by
        have := (wts_mem hmem).2
        rw [PyData.depth] at hdep
        omega
      have no : pieceB ds[m] = false → ds.all pieceB = false := fun h => by
        cases hc : ds.all pieceB with
        | false => rfl
        | true =>
          rw [List.all_eq_true] at hc
          rw [hc _ hmem] at h
          cases h
      have yes : pieceB ds[m] = true → (ds.take (m + 1)).all pieceB = true := fun h => by
        rw [List.take_succ_eq_append_getElem hlt, List.all_append, hm]
        simp [h]
      generalize ds[m] = dm at *
      show tSeq (tIfS (tPair K) _ _) _ _ [some (.ref a), some x, none] H'
      refine q_whenR (F := F0) (n := 0) (k := 0) (rt_pair (v := .ref a) dx od) F0.g (Nat.le_refl _) (fun hb H2 e2 _ => bad (no (pair0 _ (by simpa using hb))) (e.trans (F0.ex e2))) fun hb H2 e2 _ => ?_
      have hp : pairB dm = true := by simpa using hb
      obtain ⟨wd, hd, rfl⟩ : ∃ wd hd, dm = .tuple [wd, hd] := by
        unfold pairB at hp
        split at hp
        · exact ⟨_, _, rfl⟩
        · cases hp
      replace e2 := F0.ex e2
      have ow : Ok wd := od.mem (by simp)
      have oh : Ok hd := od.mem (by simp)
      have dh : PyData.depth hd < n := by
        simp only [PyData.depth, PyData.depthAll] at dd
        omega
      have at0 : ∀ (o : Option V) (H3 : Hp), Ex H2 H3 → EvR F0 (tOwn K 0) [some (.ref a), some x, o] H3 0 (IsD K wd) := fun o H3 e3 => rd_ix0 (rd_var0 rfl (dp_ex (e2.trans e3) _ _ dx)) rv_c 0 rfl rfl
      have at1 : ∀ (o : Option V) (H3 : Hp), Ex H2 H3 → EvR F0 (tOwn K 1) [some (.ref a), some x, o] H3 0 (IsD K hd) := fun o H3 e3 => rd_ix0 (rd_var0 rfl (dp_ex (e2.trans e3) _ _ dx)) rv_c 1 rfl rfl
      have shs : ∀ z : Str, PyData.strOk z = true → SeqAt.shaped (.str z) = true := fun z hz => by
        show ((PyData.str z).canLay0 && decide ((PyData.str z).depth ≤ 64)) = true
        simp [PyData.canLay0, PyData.depth, hz]
      have eqw : ∀ (z : Str) (o : Option V) (H3 : Hp), PyData.strOk z = true → Ex H2 H3 → EvR F0 (tOp (rEqD K) (tOwn K 0) (tC (.str z))) [some (.ref a), some x, o] H3 0 (fun u _ => u = .bl (PyData.eqv wd (.str z))) := fun z o H3 hz e3 => rb_eq0 (at0 o H3 e3) rd_str (ow.shaped (by decide)) (shs z hz)
      refine q_whenR (F := F0) (n := 0) (k := 0) (b := PyData.eqv wd (.str "top") && !treeB hd) (rt_and (ka := 0) (kb := 0) F0.ok (rt_val (eqw "top" none H2 (by decide +kernel) (Ex.refl _))) fun _ => rt_not (rt_val (cal_one (at1 none H2 (Ex.refl _)) ⟨oh, dh⟩))) F0.g (Nat.le_refl _) (fun hb H3 e3 _ => ?_) fun hb H3 e3 _ => ?_
      · rw [Bool.and_eq_true] at hb
        refine bad (no ?_) (e.trans (e2.trans (F0.ex e3)))
        rw [pieceB, if_pos hb.1]
        simpa using hb.2
      replace e3 := F0.ex e3
      refine rt_val (eqw "lost" none H3 (by decide +kernel) e3) 0 H3 (Nat.le_refl _) F0.g Kx.refl _ fun H4 e4 _ => ?_
      replace e4 := F0.ex e4
      cases hl : PyData.eqv wd (.str "lost") with
      | false =>
        have ht : PyData.eqv wd (.str "top") = true := by
          have : (PyData.eqv wd (.str "top") || PyData.eqv wd (.str "lost")) = true := hp
          rw [hl, Bool.or_false] at this
          exact this
        refine iteF ⟨_, rfl, e.trans (e2.trans (e3.trans e4)), yes ?_⟩
        rw [pieceB, if_pos ht]
        rw [ht, Bool.true_and] at hb
        simpa using hb
      | true =>
        have nt : PyData.eqv wd (.str "top") = false := by
          rw [eqv_word hl]
          decide +kernel
        have pc : pieceB (.tuple [wd, hd]) = callsB hd := by rw [pieceB, if_neg (by rw [nt]; simp), hl, Bool.true_and]
        rw [pc] at no yes
        refine iteT ?_
        have e34 := e3.trans e4
        have eall := e.trans (e2.trans e34)
        have c1 : EvRT F0 (tOr (tNot (tIs K (tOwn K 1))) (tTest (tOp (rEqD K) (tOwn K 1) (tTup tNil)))) [some (.ref a), some x, none] H4 0 (!isTupB hd || (match hd with | .tuple cs => cs.isEmpty | _ => false)) := by
          refine rt_or (ka := 0) (kb := 0) F0.ok (rt_not (rt_val (rv_isi (K := K) (T := "tuple") (at1 none H4 e34) kit_tup))) fun hb => ?_
          obtain ⟨cs, rfl⟩ : ∃ cs, hd = .tuple cs := by cases hd <;> first | exact ⟨_, rfl⟩ | (exact absurd hb (by simp [isTupB]))
          refine rt_is (rt_val (rb_eq0 (d' := .tuple []) (at1 none H4 e34) (rd_tup (ds := []) F0.ok ra_nil) (oh.shaped (by decide)) (by decide +kernel))) ?_
          cases cs <;> simp [PyData.eqv, PyData.eqvAll]
        refine q_whenR (F := F0) (n := 0) (k := 0) c1 F0.g (Nat.le_refl _) (fun hb H5 e5 _ => ?_) fun hb H5 e5 _ => ?_
        · refine bad (no ?_) (eall.trans (F0.ex e5))
          cases hd with
          | tuple cs =>
            have hb' : cs.isEmpty = true := by simpa [isTupB] using hb
            simp [callsB, hb']
          | _ => rfl
        obtain ⟨cs, rfl⟩ : ∃ cs, hd = .tuple cs := by cases hd <;> first | exact ⟨_, rfl⟩ | (exact absurd hb (by simp [isTupB]))
        have ne : cs.isEmpty = false := by simpa [isTupB] using hb
        have cb : callsB (.tuple cs) = (treesB cs && ascD cs) := by rw [callsB, ne, trees_all]; rfl
        rw [cb] at no yes
        replace e5 := F0.ex e5
        have c2 : EvRT F0 (tOr (tTest (tOp (rNeD K) (tLc (iTup K (tOwn K 1)) (gName 2) (tNot (tTest (tCall (spOne K (LtOk n) treeB) [] C8.E0 (tCons (tVar 2) tNil)))) (tVar 2) [2]) (tLst tNil))) (tNot (tTest (tCall (spLSorted K) [] C8.E0 (tCons (tOwn K 1) tNil))))) [some (.ref a), some x, none] H5 0 (!treesB cs || !ascD cs) := by
          refine rt_or (ka := 0) (kb := 0) F0.ok (rt_is (rt_val (rb_neNilD (r_lcFilt (fun d => !treeB d) (at1 none H5 (e34.trans e5)) oh.len (fun _ => rfl) (fun _ => rfl) fun x d' H' hd' dx e => rt_not (rt_val (cal_one (rd_var0 rfl dx) ⟨oh.mem hd', ?_⟩))) (sh_filter _ oh))) (by rw [filt_trees])) fun ht => ?_
          · have := (wts_mem hd').2
            rw [PyData.depth] at dh
            omega
          · have ht : treesB cs = true := by simpa using ht
            obtain ⟨ts, rfl⟩ := all_enc (by rw [← trees_all]; exact ht)
            exact rt_not (rt_val fun n0 H6 hn g e6 Q q6 => at1 none H5 (e34.trans e5) n0 H6 hn g e6 _ fun u H7 e7 _ du => ⟨u, _, rfl, du, sortOk_trees oh, fun H8 e8 => q6 _ H8 (e7.trans (Kx.ex e8)) F0.g rfl⟩)
        refine c2 0 H5 (Nat.le_refl _) F0.g Kx.refl _ fun H6 e6 _ => ?_
        replace e6 := F0.ex e6
        cases hc : (!treesB cs || !ascD cs) with
        | true =>
          refine iteT (bad (no ?_) (eall.trans (e5.trans e6)))
          cases h1 : treesB cs with
          | false => rw [Bool.false_and]
          | true =>
            rw [h1] at hc
            cases h2 : ascD cs with
            | false => rfl
            | true => rw [h2] at hc; cases hc
        | false =>
          refine iteF ⟨_, rfl, eall.trans (e5.trans e6), yes ?_⟩
          rw [← Bool.not_and] at hc
          simpa using hc
    · subst es
      rw [lx, List.take_length] at hm
      obtain ⟨ps, rfl⟩ := pieces_are hm
      have so := sortOk_pcs ho
      have e0 : sightB (.tuple (ps.map Pc.D)) = (ascD (ps.map Pc.D) && decide ((((ps.map wdP).countP (fun y => y == ("top" : Str)) : Nat) : Int) < 2)) := by
        show ((ps.map Pc.D).all pieceB && (decide (((ps.map Pc.D).filter isTopD).length ≤ 1) && ascD (ps.map Pc.D))) = _
        rw [hm, Bool.true_and, Bool.and_comm, count_tops]
        congr 1
        exact decide_eq_decide.mpr (by omega)
      have first : EvR F0 (tCall (spLSorted K) [] C8.E0 (tCons (tVar 0) tNil)) [some (.ref a), x1, none] H' 0 (fun z _ => z = .bl (ascD (ps.map Pc.D))) := fun n0 H3 hn g e3 Q q3 => ⟨.ref a, rfl, .ref a, _, rfl, dp_ex (e.trans (F0.ex e3)) _ _ hv1, so, fun H4 e4 => q3 _ H4 (Kx.ex e4) F0.g rfl⟩
      have hx0 : EvR F0 (tVar 0) [some (.ref a), x1, none] H' 0 (IsD K (.tuple (ps.map Pc.D))) := rd_var0 rfl (dp_ex e _ _ hv1)
      have words : EvR F0 (tLc (iTup K (tVar 0)) (gName 1) tYes (tOp (rIxT K) (tVar 1) (tC (.int 0))) [1]) [some (.ref a), x1, none] H' 0 (IsL F0 K ((ps.map wdP).map PyData.str)) := by
        have z := rl_mapT (K := K) (j := 1) (vs := [1]) (te := tOp (rIxT K) (tVar 1) (tC (.int 0))) headD hx0 (pcs_flat ps) (by have := so.len; omega) (fun d' hd' => by
          obtain ⟨p, _, rfl⟩ := List.mem_map.mp hd'
          cases p <;> rfl) (fun _ => rfl) fun x d' H2 hd' dx e2 => by
          obtain ⟨p, _, rfl⟩ := List.mem_map.mp hd'
          have hx2 : EvR F0 (tVar 1) [some (.ref a), some x, none] H2 0 (IsD K p.D) := rd_var0 rfl dx
          cases p with
          | top t => exact rd_ix0 hx2 rv_c 0 rfl rfl
          | lost ts => exact rd_ix0 hx2 rv_c 0 rfl rfl
        have em : (ps.map Pc.D).map headD = (ps.map wdP).map PyData.str := by
          rw [List.map_map, List.map_map]
          congr 1
          funext p
          cases p <;> rfl
        rw [em] at z
        exact z
      refine s_retR (F := F0) (n := 0) (k := 0) (rb_and (ka := 0) (kb := 0) F0.ok first fun _ => rv_lt (rv_count (k := "top") words) rv_c) F0.g (Nat.le_refl _) fun v' H3 e3 _ ev => ?_
      rw [ev, ← e0]
      exact q H3 (e1.trans (e.trans (F0.ex e3)))
end
end Q21
set_option maxHeartbeats 4000000
/-! ### k21: _law_kept_sight of several pieces -/
namespace Q21
open PySem PySem.Spec PyProof.Rows L2 Evl Fx Fr Dt Tr K18 So K17
def treeOf : Pc → T
  | .top t => t
  | .lost ts => .mk "" 0 ts
def rawAt (keep : List Nat → Bool) (p : Pc) (i : Nat) : List Pc := (seenT keep [i] (treeOf p)).2 ++ (seenT keep [i] (treeOf p)).1.toList.map Pc.top
def rawT (keep : List Nat → Bool) (ps : List Pc) (m : Nat) : List Pc := (List.range m).flatMap fun i => rawAt keep (ps.getD i (.lost [])) i
/-- what is kept of a sight -/
def keptS (keep : List Nat → Bool) (ps : List Pc) : List Pc := sortP (rawT keep ps ps.length)
theorem rawAt_bd (keep : List Nat → Bool) (p : Pc) (i : Nat) : (rawAt keep p i).length ≤ p.size + 2 ∧ ∀ q ∈ rawAt keep p i, q.size ≤ p.size + 1 := by
  have sT : size (treeOf p) ≤ p.size + 1 := by
    cases p with
    | top t => exact Nat.le_succ _
    | lost ts => exact Nat.le_refl _
  obtain ⟨y1, y2, _⟩ := seen_bd keep [i] (treeOf p)
  have l1 : (seenT keep [i] (treeOf p)).1.toList.length ≤ 1 := by cases (seenT keep [i] (treeOf p)).1 <;> simp
  refine ⟨?_, fun q hq => ?_⟩
  · unfold rawAt
    rw [List.length_append, List.length_map]
    omega
  · rcases List.mem_append.mp hq with hq | hq
    · have := psize_mem hq
      omega
    · obtain ⟨s, hs, rfl⟩ := List.mem_map.mp hq
      obtain ⟨k, hk, rfl⟩ := List.getElem_of_mem hs
      have := size_mem (List.getElem?_eq_getElem hk)
      show size _ ≤ _
      omega
theorem getP_size {ps : List Pc} (h : psizes ps ≤ 12) (i : Nat) : (ps.getD i (.lost [])).size ≤ 12 := by
  rw [List.getD_eq_getElem?_getD]
  cases hp : ps[i]? with
  | none => show sizes [] ≤ 12; rw [sizes]; decide
  | some p => exact Nat.le_trans (psize_mem (List.mem_of_getElem? hp)) h
theorem raw_len (hs : List (List Nat)) (ps : List Pc) (h : psizes ps ≤ 12) : ∀ m, m ≤ ps.length → (rawT (flagOf hs) ps m).length ≤ 14 * m
  | 0, _ => by simp [rawT]
  | m + 1, hm => by
    have ih := raw_len hs ps h m (by omega)
    have h1 := (rawAt_bd (flagOf hs) (ps.getD m (.lost [])) m).1
    have h2 := getP_size h m
    unfold rawT at ih ⊢
    rw [List.range_succ, List.flatMap_append, List.length_append, List.flatMap_cons, List.flatMap_nil, List.append_nil]
    omega
theorem raw_depth (hs : List (List Nat)) (ps : List Pc) (h : psizes ps ≤ 12) : ∀ d ∈ (rawT (flagOf hs) ps ps.length).map Pc.D, PyData.depth d ≤ 40 := fun d hd => by
  obtain ⟨q, hq, rfl⟩ := List.mem_map.mp hd
  obtain ⟨i, _, hq⟩ := List.mem_flatMap.mp hq
  have h1 := (rawAt_bd (flagOf hs) (ps.getD i (.lost [])) i).2 q hq
  have h2 := getP_size h i
  have h3 := Pc.depth q
  omega
section
variable {P : Program} {w : World} {K : PySem.W.Frag} {mg : Str → Option Value} {base : Heap} {f f2 f3 : Addr} {fd fd2 fd3 : FuncData} {te tl ta tb : TE} {σ σ2 : L2.St} {H : Hp} {k ka kb n : Nat} {d d0 : PyData} {ds es : List PyData} {g : TG} {vs : List Nat} {C : Addr}
def spKS2 (K : PySem.W.Frag) : Sp := fun vs H Q _ => ∃ (v1 v2 : V) (ps : List Pc) (hs : List (List Nat)), vs = [v1, v2] ∧ psizes ps ≤ 12 ∧ ps.length ≤ 15 ∧ hs.length ≤ 100 ∧ (∀ p ∈ ps, Lay (treeOf p)) ∧ Dp K H v1 (.tuple (ps.map Pc.D)) ∧ Dp K H v2 (.list (hs.map pathD)) ∧
  ∀ v H', Ex H H' → Dp K H' v (.tuple ((keptS (flagOf hs) ps).map Pc.D)) → Q v H'
theorem ok_ks2 (F : Fun K "_law_kept_sight" "_law_kept_sight" (K18.topS 55) f fd) (cS : C8.Cal P w K mg base 14 "_law_seen" (spSeen K 14) []) (m_en : mg "enumerate" = none) (m_tuple : mg "tuple" = none) (m_sorted : mg "sorted" = none) : FnOk P w K mg base CX0 15 f fd ["_law_seen_here", "_law_held"] (spKS2 K) := by
  refine F.ok scKS (fun vs H Q E h => ?_) (fun cdv A outer s H vs Q E hr h => ?_)
  · obtain ⟨v1, v2, ps, hs, rfl, _⟩ := h
    rfl
  · obtain ⟨v1, v2, ps, hs, rfl, hsz, hln, hh, hy, p1, p2, q⟩ := h
    refine ⟨_, pss_cons (ps_set (i := 2) scKS.nd rfl (.inl rfl) (pe_lst pa_nil))
      (pss_cons (ps_for PassesOwn.never rfl (DtE.pi_enumT (by rfl) m_en (pa_cons (pv 0) pa_nil)) (pg_tup (by rfl) (pgs_cons (pg_name (i := 3) scKS.nd rfl (.inl rfl)) (pgs_cons (pg_tup (by rfl) (pgs_cons (pg_name (i := 4) scKS.nd rfl (.inl rfl)) (pgs_cons (pg_name (i := 5) scKS.nd rfl (.inl rfl)) pgs_nil))) pgs_nil)))
        (pss_cons (ps_asg (C8.pe_c cS hr (by decide) (by rfl) (pa_cons (pe_ifExp (pt_cmpR op_eq (pv 4) pe_str (nomark _)) (pv 5) (pe_tup (pa_cons pe_str (pa_cons pe_int (pa_cons (pv 5) pa_nil))))) (pa_cons (pe_tup (pa_cons (pv 3) pa_nil)) (pa_cons (pv 1) pa_nil)))) (pg_tup (by rfl) (pgs_cons (pg_name (i := 6) scKS.nd rfl (.inl rfl)) (pgs_cons (pg_name (i := 7) scKS.nd rfl (.inl rfl)) pgs_nil))))
        (pss_cons (ps_expr (pe_bm PySem.F.plainAttrs_list PySem.F.slot_list_extend PySem.F.type_list_extend mt_extend (pv 2) (pa_cons (pv 7) pa_nil)))
        (pss_one (ps_if (pt_cmpR (r := rNot) op_notN (pv 6) pe_non (by rfl)) (pss_one (ps_expr (pe_bm PySem.F.plainAttrs_list PySem.F.slot_list_append PySem.F.type_list_append mt_append (pv 2) (pa_cons (pe_tup (pa_cons pe_str (pa_cons (pv 6) pa_nil))) pa_nil)))) pss_nil)))))
      (pss_one (ps_ret (pe_callTy (T := "tuple") (r := rTupOf K) call_tupleOf (by rfl) m_tuple (by decide +kernel) (pa_cons (pe_callB (r := rSortX K) (cr_sortedX hr.units) (by rfl) m_sorted (by decide +kernel) (pa_cons (pv 2) pa_nil)) pa_nil))))), ?_⟩
    refine q_asgR (F := F0) (n := 0) (k := 0) (P := IsN H F0 K []) (rn_lst (K := K) (ds := []) F0.ok ra_nil) F0.g (Nat.le_refl _) fun x2 H1 e1 _ ⟨L, ls, ex2, nL, _, hL, dL⟩ => ?_
    subst ex2
    cases dL
    replace e1 := F0.ex e1
    change tSeq (tFor _ _ _) _ _ [some v1, some v2, some (.ref L), none, none, none, none, none] H1
    refine q_forE (F := F0) (n := 0) (k := 0) (ds := ps.map Pc.D) F0.ok (rd_var0 rfl (dp_ex e1 _ _ p1)) F0.g (Nat.le_refl _) (pcs_flat ps) (fun H3 i σ' H' => i ≤ ps.length ∧ ∃ xs u3 u4 u5 u6 u7, σ' = [some v1, some v2, some (.ref L), u3, u4, u5, u6, u7] ∧ Ex H H' ∧ KT K H3 H' ∧ H' L = some (.lst xs) ∧ DpAll K H' xs ((rawT (flagOf hs) ps i).map Pc.D))
      (fun H3 e3 _ => ⟨Nat.zero_le _, [], none, none, none, none, none, rfl, e1.trans (F0.ex e3), fun _ _ h => h, F0.ex e3 _ _ hL, .nil⟩) (fun H3 i σ' H' ⟨_, _, _, _, _, _, _, _, _, k, _⟩ => k) (fun H3 i x T0 d σ' H' hi ⟨_, xs, u3, u4, u5, u6, u7, es, e, k, hx, dx⟩ hT hd => ?_) fun H3 σ' H' _ ⟨_, xs, u3, u4, u5, u6, u7, es, e, k, hx, dx⟩ => ?_
    · subst es
      rw [List.getElem?_map] at hi
      obtain ⟨p, hp, rfl⟩ := Option.map_eq_some_iff.mp hi
      have hil : i < ps.length := (List.getElem?_eq_some_iff.mp hp).1
      have hpm : p ∈ ps := by
        have := (List.getElem?_eq_some_iff.mp hp).2
        rw [← this]
        exact List.getElem_mem hil
      have sp : p.size ≤ 12 := Nat.le_trans (psize_mem hpm) hsz
      have sT : size (treeOf p) ≤ 13 := by
        cases p with
        | top t => exact Nat.le_trans sp (by decide)
        | lost ts =>
          have sp : sizes ts ≤ 12 := sp
          show sizes ts + 1 ≤ 13
          omega
      have lyT := hy p hpm
      obtain ⟨y1, y2, _⟩ := seen_bd (flagOf hs) [i] (treeOf p)
      have rs : rawT (flagOf hs) ps (i + 1) = rawT (flagOf hs) ps i ++ ((seenT (flagOf hs) [i] (treeOf p)).2 ++ (seenT (flagOf hs) [i] (treeOf p)).1.toList.map Pc.top) := by
        unfold rawT
        rw [List.range_succ, List.flatMap_append]
        congr 1
        rw [List.flatMap_cons, List.flatMap_nil, List.append_nil, List.getD_eq_getElem?_getD, hp]
        rfl
      have rl : (rawT (flagOf hs) ps i).length ≤ 14 * i := raw_len hs ps hsz i (by omega)
      have lxs := dps_len dx
      rw [List.length_map] at lxs
      have eT : Ex H' (upd H' T0 (.tup [.int (i : Nat), x])) := Ex.new hT
      have hx4 := eT _ _ hx
      have dx4 := dps_ex eT _ _ dx
      have e04 := e.trans eT
      have k4 : KT K H3 (upd H' T0 (.tup [.int (i : Nat), x])) := kt_trans k (kt_ex eT)
      have hT4 : SqT K (upd H' T0 (.tup [.int (i : Nat), x])) T0 [.int (i : Nat), x] := st_of upd_same
      generalize upd H' T0 (.tup [.int (i : Nat), x]) = H4 at hd hx4 dx4 e04 k4 hT4 ⊢
      rw [pcD_eq] at hd
      obtain ⟨a0, c1, c2, rfl, ha0, hc1, hc2⟩ := dp_two hd
      cases hc1
      refine ⟨T0, _, rfl, hT4, rfl, _, _, rfl, _, _, rfl, ⟨a0, _, rfl, ha0, rfl, _, _, rfl, _, _, rfl, rfl, rfl, ?_⟩⟩
      change tSeq (tAsg (tCall (spSeen K 14) [] C8.E0 (tCons (tIf (tTest (tOp rEq (tVar 4) (tC (.str "top")))) (tVar 5) (tTup (tCons (tC (.str "")) (tCons (tC (.int 0)) (tCons (tVar 5) tNil))))) (tCons (tTup (tCons (tVar 3) tNil)) (tCons (tVar 1) tNil)))) _) _ _ [some v1, some v2, some (.ref L), some (.int (i : Nat)), some (.str (wdP p)), some c2, u6, u7] H4
      have one : EvR F0 (tIf (tTest (tOp rEq (tVar 4) (tC (.str "top")))) (tVar 5) (tTup (tCons (tC (.str "")) (tCons (tC (.int 0)) (tCons (tVar 5) tNil))))) [some v1, some v2, some (.ref L), some (.int (i : Nat)), some (.str (wdP p)), some c2, u6, u7] H4 0 (IsD K (enc (treeOf p))) := by
        refine r_if (ka := 0) (kb := 0) (b := decide (wdP p = "top")) F0.ok (rt_val (rv_eqS (rv_var rfl) rv_c)) (fun hb => ?_) fun hb => ?_
        · cases p with
          | top t => exact rd_var0 rfl hc2
          | lost ts => exact absurd (of_decide_eq_true hb) words_ne.symm
        · cases p with
          | top t => exact absurd hb (by simp [wdP])
          | lost ts =>
            show EvR F0 _ _ H4 0 (IsD K (enc (.mk "" 0 ts)))
            rw [enc, encs_map]
            exact rd_tup (ds := [.str "", .int 0, .tuple (ts.map enc)]) F0.ok (ra_cons0 rd_str (ra_cons0 (rd_ofI rv_c) (ra_one (rd_var0 rfl hc2)))) (by rw [flats_cons, flats_cons, flats_cons, flat_tup]; exact ⟨rfl, rfl, maps_flat ts, rfl⟩)
      have args : EvRA F0 (tCons (tIf (tTest (tOp rEq (tVar 4) (tC (.str "top")))) (tVar 5) (tTup (tCons (tC (.str "")) (tCons (tC (.int 0)) (tCons (tVar 5) tNil))))) (tCons (tTup (tCons (tVar 3) tNil)) (tCons (tVar 1) tNil))) [some v1, some v2, some (.ref L), some (.int (i : Nat)), some (.str (wdP p)), some c2, u6, u7] H4 0 (fun vs H => DpAll K H vs [enc (treeOf p), pathD [i], .list (hs.map pathD)]) :=
        ra_cons0 one (ra_cons0 (rd_tup (ds := [.int (i : Nat)]) F0.ok (ra_one (rd_ofI (rv_var rfl)))) (ra_one (rd_var0 rfl (dp_ex e04 _ _ p2))))
      refine q_asgC args fun vs H5 e5 dv => ?_
      obtain ⟨w1, vs, rfl, d1, dv⟩ := dps_uncons dv
      obtain ⟨w2, vs, rfl, d2, dv⟩ := dps_uncons dv
      obtain ⟨w3, vs, rfl, d3, dv⟩ := dps_uncons dv
      obtain rfl := dps_none dv
      refine ⟨w1, w2, w3, treeOf p, [i], hs, rfl, by omega, by omega, by simp, hh, lyT, d1, d2, d3, fun a vo l xs2 H6 e6 hT6 nl hl6 dvo dxs => ?_⟩
      refine ⟨a, _, rfl, hT6, rfl, _, _, rfl, _, _, rfl, rfl, ?_⟩
      change tSeq (tDrop _) _ _ [some v1, some v2, some (.ref L), some (.int (i : Nat)), some (.str (wdP p)), some c2, some vo, some (.ref l)] H6
      have e46 := e5.trans e6
      have len2 : ((seenT (flagOf hs) [i] (treeOf p)).2.map Pc.D).length ≤ 13 := by rw [List.length_map]; omega
      refine q_extL (F := F0) (n := 0) (k := 0) (ds := (seenT (flagOf hs) [i] (treeOf p)).2.map Pc.D) rfl (e46 _ _ hx4) (fun z => z) (rl_var F0.ok (n := 0) F0.g rfl ⟨l, xs2, rfl, fun z => z, hl6, dxs⟩ (pcs_flat _)) F0.g (Nat.le_refl _) (by omega) fun zs H7 e7 _ dz hx7 => ?_
      replace e7 := F0.ex e7
      have e47 := e46.trans e7
      have k8 : KT K H7 (upd H7 L (.lst (xs ++ zs))) := kt_lst hx7
      have e08 : Ex H (upd H7 L (.lst (xs ++ zs))) := (e04.trans e47).mut nL
      have hx8 : upd H7 L (.lst (xs ++ zs)) L = some (.lst (xs ++ zs)) := upd_same
      have dx8 : DpAll K (upd H7 L (.lst (xs ++ zs))) (xs ++ zs) ((rawT (flagOf hs) ps i).map Pc.D ++ (seenT (flagOf hs) [i] (treeOf p)).2.map Pc.D) := dps_app (dps_kt k8 _ _ (pcs_flat _) (dps_ex e47 _ _ dx4)) (dps_kt k8 _ _ (pcs_flat _) dz)
      have do8 : Dp K (upd H7 L (.lst (xs ++ zs))) vo (optD (seenT (flagOf hs) [i] (treeOf p)).1) := dp_kt k8 _ _ (by cases (seenT (flagOf hs) [i] (treeOf p)).1 with | none => rfl | some s => exact enc_flat s) (dp_ex e7 _ _ dvo)
      have k38 : KT K H3 (upd H7 L (.lst (xs ++ zs))) := kt_trans k4 (kt_trans (kt_ex e47) k8)
      have lz := dps_len dz
      have lt : (xs ++ zs).length ≤ 300 := by rw [List.length_append]; omega
      have fa : ∀ qs : List Pc, flats ((rawT (flagOf hs) ps i).map Pc.D ++ qs.map Pc.D) = true := fun qs => by rw [← List.map_append]; exact pcs_flat _
      generalize xs ++ zs = zs' at e08 hx8 dx8 do8 k38 lt k8 ⊢
      generalize upd H7 L (.lst zs') = H8 at e08 hx8 dx8 do8 k38 ⊢
      change tIfS (tTest (tOp rNot (tVar 6) (tC .non))) _ _ _ [some v1, some v2, some (.ref L), some (.int (i : Nat)), some (.str (wdP p)), some c2, some vo, some (.ref l)] H8
      refine s_ifR (F := F0) (n := 0) (k := 0) (b := !decide (vo = V.non)) (rt_val fun n1 H9 _ g9 e9 Q q => ⟨vo, rfl, rfl, q _ H9 Kx.refl F0.g rfl⟩) F0.g (Nat.le_refl _) (fun hv H9 e9 _ => ?_) (fun hv H9 e9 _ => ?_)
      · replace e9 := F0.ex e9
        cases hso : (seenT (flagOf hs) [i] (treeOf p)).1 with
        | none =>
          rw [hso] at do8
          cases do8
          cases hv
        | some s =>
          rw [hso] at do8
          refine q_appR (F := F0) (n := 0) (k := 0) (P := IsD K (topD s)) rfl (e9 _ _ hx8) (fun z => z) (rd_tup (ds := [.str "top", enc s]) F0.ok (ra_cons0 rd_str (ra_one (rd_var0 rfl (dp_ex e9 _ _ do8)))) (by rw [flats_cons, flats_cons]; exact ⟨rfl, enc_flat s, rfl⟩)) F0.g (Nat.le_refl _) (by omega) fun v H10 e10 _ dvv hx10 => ?_
          have e8a := e9.trans (F0.ex e10)
          have ka : KT K H10 (upd H10 L (.lst (zs' ++ [v]))) := kt_lst hx10
          refine ⟨by omega, zs' ++ [v], _, _, _, _, _, rfl, (e08.trans e8a).mut nL, kt_trans k38 (kt_trans (kt_ex e8a) ka), upd_same, ?_⟩
          have er : (rawT (flagOf hs) ps (i + 1)).map Pc.D = ((rawT (flagOf hs) ps i).map Pc.D ++ (seenT (flagOf hs) [i] (treeOf p)).2.map Pc.D) ++ [topD s] := by
            rw [rs, hso, List.map_append, List.map_append, ← List.append_assoc]
            rfl
          rw [er]
          exact dps_kt ka _ _ (by rw [← er]; exact pcs_flat _) (dps_app (dps_ex e8a _ _ dx8) (.cons dvv .nil))
      · replace e9 := F0.ex e9
        cases hso : (seenT (flagOf hs) [i] (treeOf p)).1 with
        | none =>
          refine ⟨by omega, zs', _, _, _, _, _, rfl, e08.trans e9, kt_trans k38 (kt_ex e9), e9 _ _ hx8, ?_⟩
          have er : (rawT (flagOf hs) ps (i + 1)).map Pc.D = (rawT (flagOf hs) ps i).map Pc.D ++ (seenT (flagOf hs) [i] (treeOf p)).2.map Pc.D := by
            rw [rs, hso, List.map_append]
            simp
          rw [er]
          exact dps_ex e9 _ _ dx8
        | some s =>
          rw [hso] at do8
          have hvn : vo = V.non := by
            have := hv
            simpa using this
          subst hvn
          change Dp K H8 .non (enc s) at do8
          rw [enc_eq] at do8
          cases do8
    · subst es
      rw [List.length_map] at dx
      refine s_retR (F := F0) (n := 0) (k := 0) (P := IsD K (.tuple ((keptS (flagOf hs) ps).map Pc.D))) (EvR.cast (rd_tupOf F0.ok (rl_sortX (ds := (rawT (flagOf hs) ps ps.length).map Pc.D) F0.ok (rl_var F0.ok (n := 0) F0.g rfl ⟨L, xs, rfl, fun z => z, hx, dx⟩ (pcs_flat _)) (.inr (near_pcs _)) (raw_depth hs ps hsz))) (by rw [sortP_map]; rfl)) F0.g (Nat.le_refl _) fun v H5 e5 _ dv => q v H5 (e.trans (F0.ex e5)) dv
end
end Q21
set_option maxHeartbeats 4000000
/-! ### k21: _law_ids -/
namespace Q21
open PySem PySem.Spec PyProof.Rows L2 Evl Fx Fr Dt Tr K18 So K17
def nIds : List Str := ["_law_seen_here", "_law_found", "_law_i", "_law_word", "_law_part", "_law_k", "_law_own"]
theorem scIds : FnScope nIds ["_law_seen_here"] (defScope (K18.topS 60)) := ⟨rfl, rfl, rfl, by decide +kernel, rfl, by decide +kernel, by decide +kernel⟩
/-- the spans of a piece, by their ways -/
def idsAt (p : Pc) (i : Nat) : List (List Nat × T) := match p with
  | .top t => placed [i] t
  | .lost ts => placedA [i] 0 ts
def idsT (ps : List Pc) (m : Nat) : List (List Nat × T) := (List.range m).flatMap fun i => idsAt (ps.getD i (.lost [])) i
theorem idsAt_len (p : Pc) (i : Nat) : (idsAt p i).length = p.size := by
  cases p with
  | top t => exact placed_len _ _
  | lost ts => exact K17.placedA_len _ _ _
theorem idsT_len {ps : List Pc} (h : psizes ps ≤ 12) : ∀ m, (idsT ps m).length ≤ 12 * m
  | 0 => by simp [idsT]
  | m + 1 => by
    have ih := idsT_len h m
    have h1 := idsAt_len (ps.getD m (.lost [])) m
    have h2 := getP_size h m
    unfold idsT at ih ⊢
    rw [List.range_succ, List.flatMap_append, List.length_append, List.flatMap_cons, List.flatMap_nil, List.append_nil]
    omega
theorem placedA_snoc (w : List Nat) (t : T) : ∀ (ts : List T) (i : Nat), placedA w i (ts ++ [t]) = placedA w i ts ++ placed (w ++ [i + ts.length]) t
  | [], i => by rw [List.nil_append, placedA, placedA, placedA, List.append_nil]; rfl
  | x :: ts, i => by
    rw [List.cons_append, placedA, placedA, placedA_snoc w t ts (i + 1), List.append_assoc, List.length_cons, show i + 1 + ts.length = i + (ts.length + 1) by omega]
section
variable {P : Program} {w : World} {K : PySem.W.Frag} {mg : Str → Option Value} {base : Heap} {f f2 f3 : Addr} {fd fd2 fd3 : FuncData} {te tl ta tb : TE} {σ σ2 : L2.St} {H : Hp} {k ka kb n : Nat} {d d0 : PyData} {ds es : List PyData} {g : TG} {vs : List Nat} {C : Addr}
theorem s_forE {tl : TE} {Fd0 : Fd} {D : Ends} {tb : TS} (o : Fd0.Ok) (h : EvR Fd0 tl σ H k (IsD K (.tuple ds))) (g0 : Fd0.G n H) (hn : n + k ≤ Fd0.N) (fd : flats ds = true) (Pv : Hp → Nat → L2.St → Hp → Prop)
    (h0 : ∀ H1, Kx Fd0.S H H1 → Fd0.G (n + k) H1 → Pv H1 0 σ H1) (hk : ∀ H1 i σ' H', Pv H1 i σ' H' → KT K H1 H')
    (hs : ∀ H1 i x T d σ' H', ds[i]? = some d → Pv H1 i σ' H' → H' T = none → Dp K (upd H' T (.tup [.int (i : Nat), x])) x d → g (.ref T) σ' (upd H' T (.tup [.int (i : Nat), x])) fun σ2 H2 => tb { D with nx := Pv H1 (i + 1), ct := Pv H1 (i + 1), bk := tNext D } σ2 H2)
    (hd : ∀ H1 σ' H', Kx Fd0.S H H1 → Pv H1 ds.length σ' H' → D.nx σ' H') : tFor (DtE.iEnumT K (tCons tl tNil)) g tb D σ H := q_forE (tz := tNext) (D := D) o h g0 hn fd Pv h0 hk hs hd
def spIds (K : PySem.W.Frag) : Sp := spL K fun ds es => ∃ ps : List Pc, psizes ps ≤ 12 ∧ ps.length ≤ 15 ∧ ds = [.tuple (ps.map Pc.D)] ∧ es = (idsT ps ps.length).map Tr.spanD
theorem ok_ids (F : Fun K "_law_ids" "_law_ids" (K18.topS 60) f fd) (cS : C8.Cal P w K mg base 12 "_law_spans" (spLSpans K 12) []) (m_en : mg "enumerate" = none) : FnOk P w K mg base CX0 13 f fd ["_law_seen_here"] (spIds K) := by
  refine F.ok scIds (fun vs H Q E h => ?_) (fun cdv A outer s H vs Q E hr h => ?_)
  · obtain ⟨ds, es, hd, ⟨ps, _, _, rfl, _⟩, _⟩ := h
    exact dps_len hd
  · obtain ⟨ds, es, hd, ⟨ps, hsz, hln, rfl, rfl⟩, q⟩ := h
    obtain ⟨v1, vs, rfl, p1, hd⟩ := dps_uncons hd
    obtain rfl := dps_none hd
    refine ⟨_, pss_cons (ps_set (i := 1) scIds.nd rfl (.inl rfl) (pe_lst pa_nil))
      (pss_cons (ps_for PassesOwn.never rfl (DtE.pi_enumT (by rfl) m_en (pa_cons (pv 0) pa_nil)) (pg_tup (by rfl) (pgs_cons (pg_name (i := 2) scIds.nd rfl (.inl rfl)) (pgs_cons (pg_tup (by rfl) (pgs_cons (pg_name (i := 3) scIds.nd rfl (.inl rfl)) (pgs_cons (pg_name (i := 4) scIds.nd rfl (.inl rfl)) pgs_nil))) pgs_nil)))
        (pss_one (ps_if (pt_cmpR op_eq (pv 3) pe_str (nomark _))
          (pss_one (ps_expr (pe_bm PySem.F.plainAttrs_list PySem.F.slot_list_extend PySem.F.type_list_extend mt_extend (pv 1) (pa_cons (C8.pe_c cS hr (by decide) (by rfl) (pa_cons (pv 4) (pa_cons (pe_tup (pa_cons (pv 2) pa_nil)) pa_nil))) pa_nil))))
          (pss_one (ps_for PassesOwn.never rfl (DtE.pi_enumT (by rfl) m_en (pa_cons (pv 4) pa_nil)) (pg_tup (by rfl) (pgs_cons (pg_name (i := 5) scIds.nd rfl (.inl rfl)) (pgs_cons (pg_name (i := 6) scIds.nd rfl (.inl rfl)) pgs_nil)))
            (pss_one (ps_expr (pe_bm PySem.F.plainAttrs_list PySem.F.slot_list_extend PySem.F.type_list_extend mt_extend (pv 1) (pa_cons (C8.pe_c cS hr (by decide) (by rfl) (pa_cons (pv 6) (pa_cons (pe_tup (pa_cons (pv 2) (pa_cons (pv 5) pa_nil))) pa_nil))) pa_nil)))))))))
      (pss_one (ps_ret (pv 1)))), ?_⟩
    refine q_asgR (F := F0) (n := 0) (k := 0) (P := IsN H F0 K []) (rn_lst (K := K) (ds := []) F0.ok ra_nil) F0.g (Nat.le_refl _) fun x2 H1 e1 _ ⟨L, ls, ex2, nL, _, hL, dL⟩ => ?_
    subst ex2
    cases dL
    replace e1 := F0.ex e1
    change tSeq (tFor _ _ _) _ _ [some v1, some (.ref L), none, none, none, none, none] H1
    refine q_forE (F := F0) (n := 0) (k := 0) (ds := ps.map Pc.D) F0.ok (rd_var0 rfl (dp_ex e1 _ _ p1)) F0.g (Nat.le_refl _) (pcs_flat ps) (fun H3 i σ' H' => i ≤ ps.length ∧ ∃ xs u2 u3 u4 u5 u6, σ' = [some v1, some (.ref L), u2, u3, u4, u5, u6] ∧ Ex H H' ∧ KT K H3 H' ∧ H' L = some (.lst xs) ∧ DpAll K H' xs ((idsT ps i).map Tr.spanD))
      (fun H3 e3 _ => ⟨Nat.zero_le _, [], none, none, none, none, none, rfl, e1.trans (F0.ex e3), fun _ _ h => h, F0.ex e3 _ _ hL, .nil⟩) (fun H3 i σ' H' ⟨_, _, _, _, _, _, _, _, _, k, _⟩ => k) (fun H3 i x T0 d σ' H' hi ⟨_, xs, u2, u3, u4, u5, u6, es, e, k, hx, dx⟩ hT hd => ?_) fun H3 σ' H' _ ⟨_, xs, u2, u3, u4, u5, u6, es, e, k, hx, dx⟩ => ?_
    · subst es
      rw [List.getElem?_map] at hi
      obtain ⟨p, hp, rfl⟩ := Option.map_eq_some_iff.mp hi
      have hil : i < ps.length := (List.getElem?_eq_some_iff.mp hp).1
      have hpm : p ∈ ps := List.mem_of_getElem? hp
      have sp : p.size ≤ 12 := Nat.le_trans (psize_mem hpm) hsz
      have rs : idsT ps (i + 1) = idsT ps i ++ idsAt p i := by
        unfold idsT
        rw [List.range_succ, List.flatMap_append]
        congr 1
        rw [List.flatMap_cons, List.flatMap_nil, List.append_nil, List.getD_eq_getElem?_getD, hp]
        rfl
      have rl := idsT_len hsz i
      have lxs := dps_len dx
      rw [List.length_map] at lxs
      have eT : Ex H' (upd H' T0 (.tup [.int (i : Nat), x])) := Ex.new hT
      have hx4 := eT _ _ hx
      have dx4 := dps_ex eT _ _ dx
      have e04 := e.trans eT
      have k4 : KT K H3 (upd H' T0 (.tup [.int (i : Nat), x])) := kt_trans k (kt_ex eT)
      have hT4 : SqT K (upd H' T0 (.tup [.int (i : Nat), x])) T0 [.int (i : Nat), x] := st_of upd_same
      generalize upd H' T0 (.tup [.int (i : Nat), x]) = H4 at hd hx4 dx4 e04 k4 hT4 ⊢
      rw [pcD_eq] at hd
      obtain ⟨a0, c1, c2, rfl, ha0, hc1, hc2⟩ := dp_two hd
      cases hc1
      refine ⟨T0, _, rfl, hT4, rfl, _, _, rfl, _, _, rfl, ⟨a0, _, rfl, ha0, rfl, _, _, rfl, _, _, rfl, rfl, rfl, ?_⟩⟩
      change tIfS (tTest (tOp rEq (tVar 3) (tC (.str "top")))) _ _ _ [some v1, some (.ref L), some (.int (i : Nat)), some (.str (wdP p)), some c2, u5, u6] H4
      refine s_ifR (F := F0) (n := 0) (k := 0) (b := decide (wdP p = "top")) (rt_val (rv_eqS (rv_var rfl) rv_c)) F0.g (Nat.le_refl _) (fun hb H5 e5 _ => ?_) (fun hb H5 e5 _ => ?_)
      · cases p with
        | lost ts => exact absurd (of_decide_eq_true hb) words_ne.symm
        | top t =>
          replace e5 := F0.ex e5
          have st : size t ≤ 12 := sp
          refine q_extL (F := F0) (n := 0) (k := 0) (ds := (placed [i] t).map Tr.spanD) rfl (e5 _ _ hx4) (fun z => z) (rl_call F0.ok (ra_cons0 (rd_var0 rfl (dp_ex e5 _ _ hc2)) (ra_one (rd_tup (ds := [.int (i : Nat)]) F0.ok (ra_one (rd_ofI (rv_var rfl)))))) ⟨t, [i], st, by decide, by simp, rfl, rfl⟩) F0.g (Nat.le_refl _) (by rw [List.length_map, placed_len]; omega) fun zs H7 e7 _ dz hx7 => ?_
          replace e7 := F0.ex e7
          have e57 := e5.trans e7
          have k8 : KT K H7 (upd H7 L (.lst (xs ++ zs))) := kt_lst hx7
          refine ⟨by omega, xs ++ zs, _, _, _, _, _, rfl, (e04.trans e57).mut nL, kt_trans k4 (kt_trans (kt_ex e57) k8), upd_same, ?_⟩
          rw [rs, List.map_append]
          exact dps_app (dps_kt k8 _ _ (spans_flat _) (dps_ex e57 _ _ dx4)) (dps_kt k8 _ _ (spans_flat _) dz)
      · cases p with
        | top t => exact absurd hb (by simp [wdP])
        | lost ts =>
          replace e5 := F0.ex e5
          have st : sizes ts ≤ 12 := sp
          have ltl := len_sizes ts
          refine s_forE (Fd0 := F0) (n := 0) (k := 0) (ds := ts.map enc) F0.ok (rd_var0 rfl (dp_ex e5 _ _ hc2)) F0.g (Nat.le_refl _) (maps_flat ts) (fun H3' j σ' H' => j ≤ ts.length ∧ ∃ xs' w5 w6, σ' = [some v1, some (.ref L), some (.int (i : Nat)), some (.str "lost"), some c2, w5, w6] ∧ Ex H H' ∧ KT K H3 H' ∧ KT K H3' H' ∧ H' L = some (.lst xs') ∧ DpAll K H' xs' ((idsT ps i ++ placedA [i] 0 (ts.take j)).map Tr.spanD))
            (fun H3' e3 _ => ⟨Nat.zero_le _, xs, u5, u6, rfl, e04.trans (e5.trans (F0.ex e3)), kt_trans k4 (kt_ex (e5.trans (F0.ex e3))), fun _ _ h => h, F0.ex e3 _ _ (e5 _ _ hx4), by rw [List.take_zero, placedA, List.append_nil]; exact dps_ex (e5.trans (F0.ex e3)) _ _ dx4⟩) (fun H3' j σ' H' ⟨_, _, _, _, _, _, _, k, _⟩ => k) (fun H3' j x T1 d σ' H' hj ⟨_, xs', w5, w6, es, e', kk, k', hx', dx'⟩ hT' hd => ?_) fun H3' σ' H' _ ⟨_, xs', w5, w6, es, e', kk, k', hx', dx'⟩ => ?_
          · subst es
            rw [List.getElem?_map] at hj
            obtain ⟨t, ht, rfl⟩ := Option.map_eq_some_iff.mp hj
            have hjl : j < ts.length := (List.getElem?_eq_some_iff.mp ht).1
            have stt : size t ≤ 12 := Nat.le_trans (size_mem ht) st
            have lx' := dps_len dx'
            rw [List.length_map, List.length_append, K17.placedA_len] at lx'
            have stk : sizes (ts.take j) ≤ 12 := by
              have := sizes_app (ts.take j) (ts.drop j)
              rw [List.take_append_drop] at this
              omega
            have eT : Ex H' (upd H' T1 (.tup [.int (j : Nat), x])) := Ex.new hT'
            have hx6 := eT _ _ hx'
            have dx6 := dps_ex eT _ _ dx'
            have e06 := e'.trans eT
            have k6 : KT K H3 (upd H' T1 (.tup [.int (j : Nat), x])) := kt_trans kk (kt_ex eT)
            have k6' : KT K H3' (upd H' T1 (.tup [.int (j : Nat), x])) := kt_trans k' (kt_ex eT)
            have hT6 : SqT K (upd H' T1 (.tup [.int (j : Nat), x])) T1 [.int (j : Nat), x] := st_of upd_same
            generalize upd H' T1 (.tup [.int (j : Nat), x]) = H6 at hd hx6 dx6 e06 k6 k6' hT6 ⊢
            refine ⟨T1, _, rfl, hT6, rfl, _, _, rfl, _, _, rfl, rfl, ?_⟩
            change tDrop _ _ [some v1, some (.ref L), some (.int (i : Nat)), some (.str "lost"), some c2, some (.int (j : Nat)), some x] H6
            refine q_extL (F := F0) (n := 0) (k := 0) (ds := (placed [i, j] t).map Tr.spanD) rfl hx6 (fun z => z) (rl_call F0.ok (ra_cons0 (rd_var0 rfl hd) (ra_one (rd_tup (ds := [.int (i : Nat), .int (j : Nat)]) F0.ok (ra_cons0 (rd_ofI (rv_var rfl)) (ra_one (rd_ofI (rv_var rfl))))))) ⟨t, [i, j], stt, by decide, by simp, rfl, rfl⟩) F0.g (Nat.le_refl _) (by rw [List.length_map, placed_len]; omega) fun zs H7 e7 _ dz hx7 => ?_
            replace e7 := F0.ex e7
            have k8 : KT K H7 (upd H7 L (.lst (xs' ++ zs))) := kt_lst hx7
            refine ⟨by omega, xs' ++ zs, _, _, rfl, (e06.trans e7).mut nL, kt_trans k6 (kt_trans (kt_ex e7) k8), kt_trans k6' (kt_trans (kt_ex e7) k8), upd_same, ?_⟩
            have et : ts.take (j + 1) = ts.take j ++ [t] := by
              rw [List.take_succ_eq_append_getElem hjl, (List.getElem?_eq_some_iff.mp ht).2]
            have ep : placedA [i] 0 (ts.take (j + 1)) = placedA [i] 0 (ts.take j) ++ placed [i, j] t := by
              rw [et, placedA_snoc, Nat.zero_add, List.length_take, Nat.min_eq_left (by omega)]
              rfl
            rw [ep, ← List.append_assoc, List.map_append]
            exact dps_app (dps_kt k8 _ _ (spans_flat _) (dps_ex e7 _ _ dx6)) (dps_kt k8 _ _ (spans_flat _) dz)
          · subst es
            rw [List.length_map, List.take_length] at dx'
            refine ⟨by omega, xs', _, _, _, _, _, rfl, e', kk, hx', ?_⟩
            rw [rs]
            exact dx'
    · subst es
      rw [List.length_map] at dx
      refine ⟨.ref L, rfl, q L xs H' nL e hx dx⟩
end
end Q21
set_option maxHeartbeats 2000000
/-! ### k21: what the program leaves of a sight is what the law keeps of it -/
namespace Q21
open PySem PySem.Spec PyProof.Rows L2 Evl Fx Fr Dt Tr K18 So K17
/-- the subtree at the end of a way -/
def subAt : T → List Nat → Option T
  | t, [] => some t
  | t, i :: q => match t.calls[i]? with
    | some c => subAt c q
    | none => none
mutual
theorem placed_at : ∀ (w : List Nat) (t : T) (x : List Nat × T), x ∈ placed w t → ∃ q, x.1 = w ++ q ∧ subAt t q = some x.2
  | w, .mk s m cs, x, h => by
    rw [placed_cons, List.mem_cons] at h
    rcases h with rfl | h
    · exact ⟨[], by simp, by rw [subAt]⟩
    · obtain ⟨k, c, q, hk, e, hq⟩ := placedA_at w 0 cs x h
      refine ⟨k :: q, by rw [e, Nat.zero_add], ?_⟩
      rw [subAt]
      show (match cs[k]? with | some c => subAt c q | none => none) = some x.2
      rw [hk]
      exact hq
theorem placedA_at : ∀ (w : List Nat) (i : Nat) (ts : List T) (x : List Nat × T), x ∈ placedA w i ts → ∃ k c q, ts[k]? = some c ∧ x.1 = w ++ (i + k) :: q ∧ subAt c q = some x.2
  | w, i, [], x, h => by
    rw [placedA] at h
    cases h
  | w, i, t :: ts, x, h => by
    rw [placedA, List.mem_append] at h
    rcases h with h | h
    · obtain ⟨q, e, hq⟩ := placed_at (w ++ [i]) t x h
      exact ⟨0, t, q, rfl, by rw [e]; simp, hq⟩
    · obtain ⟨k, c, q, hk, e, hq⟩ := placedA_at w (i + 1) ts x h
      exact ⟨k + 1, c, q, hk, by rw [e, show i + 1 + k = i + (k + 1) by omega], hq⟩
end
theorem ids_at {p : Pc} {i : Nat} {x : List Nat × T} (h : x ∈ idsAt p i) : ∃ q, x.1 = i :: q ∧ subAt (treeOf p) q = some x.2 ∧ (∀ ts, p = .lost ts → q ≠ []) := by
  cases p with
  | top t =>
    obtain ⟨q, e, hq⟩ := placed_at [i] t x h
    exact ⟨q, e, hq, fun ts z => by cases z⟩
  | lost ts =>
    obtain ⟨k, c, q, hk, e, hq⟩ := placedA_at [i] 0 ts x h
    refine ⟨k :: q, by rw [e, Nat.zero_add]; rfl, ?_, fun _ _ => by simp⟩
    rw [subAt]
    show (match ts[k]? with | some c => subAt c q | none => none) = some x.2
    rw [hk]
    exact hq
/-- the ways that stay: of the spans whose service is in lot -/
def heldOf (lot : List Str) (ps : List Pc) : List (List Nat) := ((idsT ps ps.length).filter fun x => memB lot x.2.name).map (·.1)
theorem mem_ids {ps : List Pc} {m : Nat} {x : List Nat × T} : x ∈ idsT ps m ↔ ∃ i, i < m ∧ x ∈ idsAt (ps.getD i (.lost [])) i := by
  unfold idsT
  rw [List.mem_flatMap]
  exact ⟨fun ⟨i, hi, h⟩ => ⟨i, List.mem_range.mp hi, h⟩, fun ⟨i, hi, h⟩ => ⟨i, List.mem_range.mpr hi, h⟩⟩
theorem flag_mem (hs : List (List Nat)) (p : List Nat) : flagOf hs p = true ↔ p ∈ hs := by
  unfold flagOf
  rw [List.any_eq_true]
  constructor
  · rintro ⟨x, hx, e⟩
    rw [← beq_iff_eq.mp e]
    exact hx
  · exact fun h => ⟨p, h, beq_self_eq_true p⟩
theorem keep_name (lot : List Str) (ps : List Pc) {i : Nat} (hi : i < ps.length) {x : List Nat × T} (hx : x ∈ idsAt (ps.getD i (.lost [])) i) : flagOf (heldOf lot ps) x.1 = memB lot x.2.name := by
  rw [Bool.eq_iff_iff, flag_mem]
  constructor
  · intro h
    obtain ⟨y, hy, e⟩ := List.mem_map.mp h
    obtain ⟨hy, hm⟩ := List.mem_filter.mp hy
    obtain ⟨j, _, hy⟩ := mem_ids.mp hy
    obtain ⟨q, e1, s1, _⟩ := ids_at hx
    obtain ⟨r, e2, s2, _⟩ := ids_at hy
    have e : y.1 = x.1 := e
    rw [e1, e2] at e
    injection e with ej eq
    subst ej eq
    rw [s1] at s2
    injection s2 with s2
    rw [s2]
    exact hm
  · intro h
    exact List.mem_map.mpr ⟨x, List.mem_filter.mpr ⟨mem_ids.mpr ⟨i, hi, hx⟩, h⟩, rfl⟩
theorem keep_root (lot : List Str) (ps : List Pc) {i : Nat} {ts : List T} (h : ps.getD i (.lost []) = .lost ts) : flagOf (heldOf lot ps) [i] = false := by
  cases hf : flagOf (heldOf lot ps) [i] with
  | false => rfl
  | true =>
    obtain ⟨y, hy, e⟩ := List.mem_map.mp ((flag_mem _ _).mp hf)
    obtain ⟨hy, _⟩ := List.mem_filter.mp hy
    obtain ⟨j, _, hy⟩ := mem_ids.mp hy
    obtain ⟨r, e2, _, ne⟩ := ids_at hy
    have e : y.1 = [i] := e
    rw [e2] at e
    injection e with ej er
    subst ej
    exact absurd er (ne ts h)
theorem bits_placed (lot : List Str) (w : List Nat) (t : T) : bitsOf lot t = (placed w t).map fun x => memB lot x.2.name := by
  rw [bitsOf, ← placed_snd w t, List.map_map]
  rfl
theorem bits_placedA (lot : List Str) (w : List Nat) : ∀ (i : Nat) (ts : List T), ts.flatMap (bitsOf lot) = (placedA w i ts).map fun x => memB lot x.2.name
  | _, [] => by rw [placedA]; rfl
  | i, t :: ts => by rw [List.flatMap_cons, placedA, List.map_append, bits_placed lot (w ++ [i]) t, bits_placedA lot w (i + 1) ts]
theorem sortT_one (o : Option T) : sortT o.toList = o.toList := by
  cases o <;> simp [sortT]
theorem cat_one (r : K17.R2) : catR [r] = r := by
  obtain ⟨a, b⟩ := r
  simp [catR]
/-- piece by piece -/
theorem piece_raw (lot : List Str) (ps : List Pc) {i : Nat} (hi : i < ps.length) : (pieceR lot (ps.getD i (.lost []))).2.Perm (rawAt (flagOf (heldOf lot ps)) (ps.getD i (.lost [])) i) := by
  have kn : ∀ x ∈ idsAt (ps.getD i (.lost [])) i, memB lot x.2.name = flagOf (heldOf lot ps) x.1 := fun x hx => (keep_name lot ps hi hx).symm
  have kr : ∀ ts, ps.getD i (.lost []) = .lost ts → flagOf (heldOf lot ps) [i] = false := fun ts h => keep_root lot ps h
  generalize flagOf (heldOf lot ps) = keep at kn kr
  cases hp : ps.getD i (.lost []) with
  | top t =>
    rw [hp] at kn
    have eb : bitsOf lot t = (placed [i] t).map fun x => keep x.1 := by
      rw [bits_placed lot [i] t]
      exact List.map_congr_left fun x hx => kn x hx
    obtain ⟨h1, h2⟩ := res_seen keep [i] t
    rw [← eb] at h1 h2
    show (withP "top" (joinR [ρT lot t]).1 (joinR [ρT lot t]).2).Perm ((seenT keep [i] t).2 ++ (seenT keep [i] t).1.toList.map Pc.top)
    have j1 : (joinR [ρT lot t]).1 = (seenT keep [i] t).1.toList := by
      show sortT (catR [ρT lot t]).1 = _
      rw [cat_one]
      show sortT (resT t (bitsOf lot t)).1 = _
      rw [h1, sortT_one]
    have j2 : (joinR [ρT lot t]).2 = sortP (seenT keep [i] t).2 := by
      show sortP (catR [ρT lot t]).2 = _
      rw [cat_one]
      show sortP (resT t (bitsOf lot t)).2 = _
      rw [h2, sortP_idem]
    rw [j1, j2]
    cases (seenT keep [i] t).1 with
    | none =>
      show (sortP _).Perm (_ ++ [])
      rw [List.append_nil]
      exact sortP_mem _
    | some s =>
      show (sortP (sortP (seenT keep [i] t).2 ++ [pieceOf "top" [s]])).Perm ((seenT keep [i] t).2 ++ [Pc.top s])
      rw [piece_top]
      exact (sortP_mem _).trans ((sortP_mem _).append_right _)
  | lost ts =>
    rw [hp] at kn
    have eb : ts.flatMap (bitsOf lot) = (placedA [i] 0 ts).map fun x => keep x.1 := by
      rw [bits_placedA lot [i] 0 ts]
      exact List.map_congr_left fun x hx => kn x hx
    obtain ⟨h1, h2⟩ := ress_seen keep [i] 0 ts
    rw [← eb, resL_bits] at h1 h2
    show (withP "lost" (sortT (catR (ts.map (ρT lot))).1) (sortP (catR (ts.map (ρT lot))).2)).Perm ((seenT keep [i] (.mk "" 0 ts)).2 ++ (seenT keep [i] (.mk "" 0 ts)).1.toList.map Pc.top)
    rw [withP_lost, h1, seen_eq, kr ts hp]
    show (sortP _).Perm (((seenL keep [i] 0 ts).2 ++ pcLost (seenL keep [i] 0 ts).1) ++ [])
    rw [List.append_nil]
    exact (sortP_mem _).trans (h2.append_right _)
theorem perm_flat {α β : Type} {f g : α → List β} : ∀ {l : List α}, (∀ a ∈ l, (f a).Perm (g a)) → (l.flatMap f).Perm (l.flatMap g)
  | [], _ => .nil
  | a :: l, h => by
    rw [List.flatMap_cons, List.flatMap_cons]
    exact (h a (List.mem_cons_self ..)).append (perm_flat fun b hb => h b (List.mem_cons_of_mem _ hb))
theorem flat_range {β : Type} (f : Pc → List β) (ps : List Pc) : ps.flatMap f = (List.range ps.length).flatMap fun i => f (ps.getD i (.lost [])) := by
  have e : (List.range ps.length).map (fun i => ps.getD i (.lost [])) = ps := by
    apply List.ext_getElem
    · simp
    · intro i h1 h2
      rw [List.getElem_map, List.getElem_range, List.getD_eq_getElem?_getD, List.getElem?_eq_getElem h2]
      rfl
  conv => lhs; rw [← e]
  rw [List.flatMap_map]
/-- the program's rest of a sight is the law's -/
theorem left_kept (lot : List Str) (ps : List Pc) : leftP lot ps = keptS (flagOf (heldOf lot ps)) ps := by
  unfold leftP keptS
  show sortP (catR (ps.map (pieceR lot))).2 = _
  refine sortP_perm ?_
  show ((ps.map (pieceR lot)).flatMap Prod.snd).Perm _
  rw [List.flatMap_map, flat_range]
  exact perm_flat fun i hi => piece_raw lot ps (List.mem_range.mp hi)
end Q21
set_option maxHeartbeats 4000000
/-! ### k21: _law_due -/
namespace Q21
open PySem PySem.Spec PyProof.Rows L2 Evl Fx Fr Dt Tr K18 So K17 DtG
def nDue2 : List Str := ["_law_item", "_law_lot", "_law_way", "_law_name", "_law_mark"]
theorem scDue2 : FnScope nDue2 ["_law_item", "_law_lot"] (defScope (K18.topS 67)) := ⟨rfl, rfl, rfl, by decide +kernel, rfl, by decide +kernel, by decide +kernel⟩
theorem ids_len {ps : List Pc} : ∀ m, m ≤ ps.length → (idsT ps m).length = psizes (ps.take m)
  | 0, _ => by simp [idsT, psizes]
  | m + 1, hm => by
    have ih := ids_len (ps := ps) m (by omega)
    have h1 := idsAt_len (ps.getD m (.lost [])) m
    have e : ps.getD m (.lost []) = ps[m] := by rw [List.getD_eq_getElem?_getD, List.getElem?_eq_getElem (by omega)]; rfl
    rw [List.take_succ_eq_append_getElem (by omega), psizes_app, psizes_cons, ← ih, ← e, ← h1]
    unfold idsT
    rw [List.range_succ, List.flatMap_append, List.length_append, List.flatMap_cons, List.flatMap_nil, List.append_nil]
    simp [psizes]
section
variable {P : Program} {w : World} {K : PySem.W.Frag} {mg : Str → Option Value} {base : Heap} {f f2 f3 : Addr} {fd fd2 fd3 : FuncData} {te tl ta tb : TE} {σ σ2 : L2.St} {H : Hp} {k ka kb n : Nat} {d d0 : PyData} {ds es : List PyData} {g : TG} {vs : List Nat} {C : Addr}
/-- of a sight: few spans, and what may be laid -/
def Few2 (d : PyData) : Prop := ∀ ps : List Pc, d = .tuple (ps.map Pc.D) → psizes ps ≤ 12 ∧ ps.length ≤ 15 ∧ ∀ p ∈ ps, Lay (treeOf p)
def spLDue (K : PySem.W.Frag) (n : Nat) : Sp := fun vs H Q _ => ∃ (v1 v2 : V) (d : PyData) (lot : List Str), vs = [v1, v2] ∧ Dp K H v1 d ∧ LtOk n d ∧ Few2 d ∧ Dp K H v2 (.tuple (lot.map PyData.str)) ∧
  (sightB d = true → ∀ ps : List Pc, d = .tuple (ps.map Pc.D) → ∀ v H', Ex H H' → Dp K H' v (.tuple [.str "told", .tuple ((leftP lot ps).map Pc.D)]) → Q v H') ∧
  (sightB d = false → ∀ v H', Ex H H' → Dp K H' v (.tuple [.str "usable", .str "sight", .int (-1)]) → Q v H')
theorem ok_ldue {m : Nat} (hm : n + 2 ≤ m) (hm2 : 15 ≤ m) (F : Fun K "_law_due" "_law_due" (K18.topS 67) f fd) (GS : FnG P w K mg base CX0 (n + 2) f2 fd2 ["_law_item"] (spOne K (LtOk n) sightB)) (gs : mg "_law_is_sight" = some (.ref f2)) (ks : PySem.W.keepIn K (.ref f2) = true) (bs : L2.Binds K fd2 ["_law_item"] [])
    (cI : C8.Cal P w K mg base 13 "_law_ids" (spIds K) []) (cK : C8.Cal P w K mg base 15 "_law_kept_sight" (spKS2 K) []) : FnG P w K mg base CX0 (m + 1) f fd ["_law_item", "_law_lot"] (spLDue K n) := by
  refine okG F scDue2 (fun vs H Q E h => ?_) (fun cdv A outer s H vs Q E hgd hr h => ?_)
  · obtain ⟨v1, v2, d, lot, rfl, _⟩ := h
    rfl
  · obtain ⟨v1, v2, d, lot, rfl, p1, lo, few, p2, q1, q2⟩ := h
    refine ⟨_, pss_cons (ps_if (pt_not (pt_val (pe_callG (E := C8.E0) GS hgd (hr.mono hm) (by rfl) gs ks bs C8.pass0 (pa_cons (pv 0) pa_nil)))) (pss_one (ps_ret (pe_tup (pa_cons pe_str (pa_cons pe_str (pa_cons (pe_un un_neg pe_int) pa_nil)))))) pss_nil)
      (pss_one (ps_ret (pe_tup (pa_cons pe_str (pa_cons (C8.pe_c cK hr hm2 (by rfl) (pa_cons (pv 0) (pa_cons (pe_lc (own := [("_law_way", 2), ("_law_name", 3), ("_law_mark", 4)]) (g := gTup K 3 (gCons (gName 2) (gCons (gName 3) (gCons (gName 4) gNil)))) (by rfl) scDue2.nd (pi_list (C8.pe_c cI hr (by omega) (by rfl) (pa_cons (pv 0) pa_nil)))
          (blkOk_by (own := [("_law_way", 2), ("_law_name", 3), ("_law_mark", 4)]) (N := nDue2) (sc := defScope (K18.topS 67)) (by decide +kernel))
          (fun _ _ _ _ _ => pg_tup (by rfl) (pgs_cons (pg_name (i := 2) scDue2.nd rfl (.inl rfl)) (pgs_cons (pg_name (i := 3) scDue2.nd rfl (.inl rfl)) (pgs_cons (pg_name (i := 4) scDue2.nd rfl (.inl rfl)) pgs_nil))))
          (tt := tTest (tOp (rIn K false) (tVar 3) (tVar 1)))
          (fun _ _ _ _ _ => pts_one (pt_cmpR (r := rIn K false) op_in_seq (pv 3) (pv 1) (by rfl)))
          (te := tVar 2) (fun _ _ _ _ _ => pv 2)) pa_nil))) pa_nil))))), ?_⟩
    refine q_whenR (F := F0) (n := 0) (k := 0) (b := !sightB d) (rt_not (rt_val (cal_one (rd_var0 (σ := [some v1, some v2, none, none, none]) rfl p1) lo))) F0.g (Nat.le_refl _) (fun hb H1 e1 _ => ?_) fun hb H1 e1 _ => ?_
    · refine s_retR (F := F0) (n := 0) (k := 0) (P := IsD K (.tuple [.str "usable", .str "sight", .int (-1)])) (rd_tup (ds := [.str "usable", .str "sight", .int (-1)]) F0.ok (ra_cons0 rd_str (ra_cons0 rd_str (ra_one (rd_ofI rv_neg1))))) F0.g (Nat.le_refl _) fun v H2 e2 _ dv => q2 (by simpa using hb) v H2 ((F0.ex e1).trans (F0.ex e2)) dv
    have hs : sightB d = true := by simpa using hb
    replace e1 := F0.ex e1
    obtain ⟨ds, rfl⟩ : ∃ ds, d = .tuple ds := by cases d <;> first | exact ⟨_, rfl⟩ | (exact absurd hs (by simp [sightB]))
    have ha : ds.all pieceB = true := by
      rw [sightB, Bool.and_eq_true] at hs
      exact hs.1
    obtain ⟨ps, rfl⟩ := pieces_are ha
    obtain ⟨z1, z2, z3⟩ := few ps rfl
    have r1 := dp_ex e1 _ _ p1
    have r2 := dp_ex e1 _ _ p2
    have il := ids_len (ps := ps) ps.length (Nat.le_refl _)
    rw [List.take_length] at il
    have lc := r_lcL (F := F0) (K := K) (k := 0) (kt := 0) (ke := 0) (H := H1) (σ := [some v1, some v2, none, none, none]) (g := gTup K 3 (gCons (gName 2) (gCons (gName 3) (gCons (gName 4) gNil)))) (tt := tTest (tOp (rIn K false) (tVar 3) (tVar 1))) (te := tVar 2)
      (tl := tCall (spIds K) [] C8.E0 (tCons (tVar 0) tNil)) (vs := [2, 3, 4]) (ds := (idsT ps ps.length).map Tr.spanD) F0.ok (fun i => memB lot ((idsT ps ps.length).getD i ([], .mk "" 0 [])).2.name) (fun i => pathD ((idsT ps ps.length).getD i ([], .mk "" 0 [])).1)
      (rl_call F0.ok (ra_one (rd_var0 rfl r1)) ⟨ps, z1, z2, rfl, rfl⟩) (spans_flat _) (by rw [List.length_map]; omega) (fun _ _ _ => path_flat _) (fun i x d' n H' hi hx _ e => by
        rw [List.getElem?_map] at hi
        obtain ⟨y, hy, rfl⟩ := Option.map_eq_some_iff.mp hi
        have ey : (idsT ps ps.length).getD i ([], .mk "" 0 []) = y := by rw [List.getD_eq_getElem?_getD, hy]; rfl
        obtain ⟨u1, u2, u3, hg, h1, h2, h3⟩ := gv_three (K := K) (i := 2) (j := 3) (l := 4) (σ0 := [some v1, some v2, none, none, none]) (d1 := pathD y.1) (d2 := .str y.2.name) (d3 := .int y.2.mark) (x := x) (H' := H') hx
        refine ⟨_, hg, rfl, ?_, fun _ => ?_⟩
        · simp only [ey]
          exact rt_val (rb_inT (ka := 0) (kb := 0) F0.ok (rv_str (rd_var0 rfl h2)) (rd_var0 rfl (dp_ex (F0.ex e) _ _ r2)))
        · simp only [ey]
          exact rd_var0 rfl h1)
    have eo : outs (fun i => memB lot ((idsT ps ps.length).getD i ([], .mk "" 0 [])).2.name) (fun i => pathD ((idsT ps ps.length).getD i ([], .mk "" 0 [])).1) ((idsT ps ps.length).map Tr.spanD).length = (heldOf lot ps).map pathD := by
      unfold outs heldOf
      rw [List.length_map]
      have er : (List.range (idsT ps ps.length).length).map (fun i => (idsT ps ps.length).getD i ([], .mk "" 0 [])) = idsT ps ps.length := by
        apply List.ext_getElem
        · simp
        · intro i h1 h2
          rw [List.getElem_map, List.getElem_range, List.getD_eq_getElem?_getD, List.getElem?_eq_getElem h2]
          rfl
      conv => rhs; rw [← er]
      rw [List.filter_map, List.map_map, List.map_map]
      rfl
    rw [eo, show 0 + ((idsT ps ps.length).map Tr.spanD).length * (0 + 0) = 0 by omega] at lc
    have hl : (heldOf lot ps).length ≤ 100 := by
      unfold heldOf
      rw [List.length_map]
      have := List.length_filter_le (fun x => memB lot x.2.name) (idsT ps ps.length)
      omega
    have kept : EvR F0 (tCall (spKS2 K) [] C8.E0 (tCons (tVar 0) (tCons (tLc (iList K (tCall (spIds K) [] C8.E0 (tCons (tVar 0) tNil))) (gTup K 3 (gCons (gName 2) (gCons (gName 3) (gCons (gName 4) gNil)))) (tTest (tOp (rIn K false) (tVar 3) (tVar 1))) (tVar 2) [2, 3, 4]) tNil))) [some v1, some v2, none, none, none] H1 0 (IsD K (.tuple ((leftP lot ps).map Pc.D))) := fun n0 H3 hn g e3 Q' q3 =>
      ⟨v1, rfl, lc n0 H3 hn g e3 _ fun u H4 e4 _ du => ⟨v1, u, ps, heldOf lot ps, rfl, z1, z2, hl, z3, dp_ex ((F0.ex e3).trans (F0.ex e4)) _ _ r1, du.dp, fun v H5 e5 dv => q3 v H5 (e4.trans (Kx.ex e5)) F0.g (by rw [left_kept]; exact dv)⟩⟩
    exact s_retR (F := F0) (n := 0) (k := 0) (P := IsD K (.tuple [.str "told", .tuple ((leftP lot ps).map Pc.D)])) (rd_tup (ds := [.str "told", .tuple ((leftP lot ps).map Pc.D)]) F0.ok (ra_cons0 rd_str (ra_one kept)) (by rw [flats_cons, flats_cons, flat_tup]; exact ⟨rfl, pcs_flat _, rfl⟩)) F0.g (Nat.le_refl _) fun v H2 e2 _ dv => q1 hs ps rfl v H2 (e1.trans (F0.ex e2)) dv
end
end Q21
set_option maxHeartbeats 4000000
/-! ### k21: some of a list, by draws; _law_some_sight -/
namespace Q21
open PySem PySem.Spec PyProof.Rows L2 Evl Fx Fr Dt Tr K18 So K17
/-- a test that may go either way -/
def EvRQ (F : Fd) (tt : TT) (σ : L2.St) (H : Hp) (k : Nat) : Prop := ∀ n H1, n + k ≤ F.N → F.G n H1 → Kx F.S H H1 → ∀ Q : Bool → Hp → Prop, (∀ b H2, Kx F.S H1 H2 → F.G (n + k) H2 → Q b H2) → tt σ H1 Q
section
variable {F : Fd} {K : PySem.W.Frag} {te tl : TE} {tt : TT} {σ : L2.St} {H : Hp} {ds : List PyData} {k kt : Nat}
/-- [x for x in xs if ..], what is left out told by draws -/
theorem r_lcSome (o : F.Ok) {j : Nat} {vs : List Nat} (h : EvR F tl σ H k (IsL F K ds)) (fd : flats ds = true) (hm : ds.length ≤ 40000) (hw : ∀ x : V, wipe ((wipe σ vs).set j (some x)) vs = wipe σ vs) (hj : ∀ x : V, ((wipe σ vs).set j (some x))[j]? = some (some x))
    (ht : ∀ (x : V) (n : Nat) (H' : Hp), F.G n H' → Kx F.S H H' → EvRQ F tt ((wipe σ vs).set j (some x)) H' kt) :
    EvR F (tLc (iList K tl) (gName j) tt (tVar j) vs) σ H (k + ds.length * kt) (fun v H' => ∃ es, es.length ≤ ds.length ∧ (∀ x ∈ es, x ∈ ds) ∧ IsL F K es v H') := fun n H0 hn g0 e0 Q q => h n H0 (by omega) g0 e0 _ fun v H1 e1 g1 ⟨a, xs, ev, hT, ha, hx⟩ => by
  subst ev
  have hl := dps_len hx
  have nS : ¬ F.S a := fun s => hT (o.sub s)
  refine ⟨a, rfl, ⟨xs, sq_of ha⟩, fun Dl hD => ?_⟩
  have nD : ¬ F.S Dl := fun s => o.new g1 hD (o.sub s)
  refine lc_list (xs := xs) (fun i H' => Kx F.S H1 H' ∧ F.G (n + k + i * kt) H' ∧ ∃ ys es, H' Dl = some (.lst ys) ∧ DpAll K H' ys es ∧ es.length ≤ i ∧ ∀ x ∈ es, x ∈ ds) ?_ (fun i H' _ p => sq_of (p.1 a _ ha nS)) (fun i x H' hi p => ?_) fun H' p => ?_
  · exact ⟨Kx.ex (Ex.new hD), by rw [Nat.zero_mul]; exact o.put g1 hD g1, [], [], upd_same, .nil, Nat.le_refl _, fun x hx => by cases hx⟩
  · obtain ⟨p1, p2, ys, es, p3, p4, p5, p6⟩ := p
    have hlt := (List.getElem?_eq_some_iff.mp hi).1
    have hil : i < ds.length := by omega
    obtain ⟨u, hu, hdu⟩ := dps_get (mono_ds o fd _ _ _ _ g1 p1 hx) (List.getElem?_eq_getElem hil)
    rw [hi] at hu
    cases hu
    have hb : n + k + i * kt + kt ≤ F.N := by
      have : (i + 1) * kt ≤ ds.length * kt := Nat.mul_le_mul_right _ hil
      rw [Nat.succ_mul] at this
      omega
    have hk : n + k + (i + 1) * kt = n + k + i * kt + kt := by rw [Nat.succ_mul]; omega
    have fo : flats es = true := flats_all.mpr fun x hx => flats_all.mp fd x (p6 x hx)
    have fx := flats_all.mp fd _ (List.getElem_mem hil)
    refine ⟨hw x, ht x _ H' p2 (e0.trans (e1.trans p1)) _ H' hb p2 Kx.refl _ fun b H2 e2 g2 => ?_⟩
    have h2D : H2 Dl = some (.lst ys) := e2 _ _ p3 nD
    have d2 := mono_ds o fo _ _ _ _ p2 e2 p4
    have x2 : Dp K H2 x ds[i] := mono_d o fx _ _ _ _ p2 e2 hdu
    have ly := dps_len d2
    cases b with
    | false => exact iteF ⟨p1.trans e2, by rw [hk]; exact g2, ys, es, h2D, d2, by omega, p6⟩
    | true =>
      have kl : KT K H2 (upd H2 Dl (.lst (ys ++ [x]))) := kt_lst h2D
      refine iteT ⟨x, hj x, ys, h2D, sz_lt (by omega), (p1.trans e2).mut hD, by rw [hk]; exact o.put g1 hD g2, ys ++ [x], es ++ [ds[i]], upd_same, dps_snoc (dps_kt kl _ _ fo d2) (dp_kt kl _ _ fx x2), by rw [List.length_append, List.length_singleton]; omega, fun z hz => ?_⟩
      rcases List.mem_append.mp hz with hz | hz
      · exact p6 z hz
      · rw [List.mem_singleton.mp hz]
        exact List.getElem_mem hil
  · obtain ⟨p1, p2, ys, es, p3, p4, p5, p6⟩ := p
    rw [hl] at p2 p5
    exact q (.ref Dl) H' (e1.trans p1) (by rw [← Nat.add_assoc]; exact p2) ⟨es, p5, p6, Dl, ys, rfl, o.new g1 hD, p3, p4⟩
end
end Q21
set_option maxHeartbeats 4000000
/-! ### k21: _law_some_sight -/
namespace Q21
open PySem PySem.Spec PyProof.Rows L2 Evl Fx Fr Dt Tr K18 So K17
def nSS : List Str := ["_law_feed_here", "_law_root", "_law_ways", "_law_span", "_law_way"]
theorem scSS : FnScope nSS ["_law_feed_here", "_law_root"] (defScope (K18.topS 59)) := ⟨rfl, rfl, rfl, by decide +kernel, rfl, by decide +kernel, by decide +kernel⟩
theorem sub_len : ∀ (q : List Nat) (t c : T), subAt t q = some c → q.length < size t
  | [], t, c, _ => by rw [size_eq]; simp
  | i :: q, t, c, h => by
    rw [subAt] at h
    split at h
    · rename_i c' hc
      have h1 := sub_len q c' c h
      have h2 := size_mem hc
      rw [size_eq t, List.length_cons]
      omega
    · cases h
theorem map_part {α β : Type} {f : α → β} {ws : List α} : ∀ {es : List β}, (∀ x ∈ es, x ∈ ws.map f) → ∃ ks : List α, es = ks.map f ∧ ∀ k ∈ ks, k ∈ ws
  | [], _ => ⟨[], rfl, fun _ h => by cases h⟩
  | e :: es, h => by
    obtain ⟨k, hk, e1⟩ := List.mem_map.mp (h e (List.mem_cons_self ..))
    obtain ⟨ks, e2, hks⟩ := map_part fun x hx => h x (List.mem_cons_of_mem _ hx)
    exact ⟨k :: ks, by rw [List.map_cons, e1, ← e2], fun z hz => by
      rcases List.mem_cons.mp hz with rfl | hz
      · exact hk
      · exact hks z hz⟩
section
variable {P : Program} {w : World} {K : PySem.W.Frag} {mg : Str → Option Value} {base : Heap} {f f2 f3 : Addr} {fd fd2 fd3 : FuncData} {te tl ta tb : TE} {σ σ2 : L2.St} {H : Hp} {k ka kb n : Nat} {ds es : List PyData} {g : TG} {vs : List Nat} {d l : Addr}
def spSS (K : PySem.W.Frag) : Sp := fun vs H Q _ => ∃ (d l : Addr) (n : Nat) (v2 : V) (t : T), vs = [.ref d, v2] ∧ FeedAt H d l n ∧ n + 6 ≤ 1000000 ∧ size t ≤ 6 ∧ Lay t ∧ Dp K H v2 (enc t) ∧
  ∀ v H' keep, Kx (FeedF d l).S H H' → FeedAt H' d l (n + 6) → Dp K H' v (.tuple ((ownS keep t).map Pc.D)) → Q v H'
theorem ok_ss (F : Fun K "_law_some_sight" "_law_some_sight" (K18.topS 59) f fd) (cSp : C8.Cal P w K mg base 6 "_law_spans" (spLSpans K 6) []) (cD : C8.Cal P w K mg base 1 "_law_draw" K18.spDraw []) (cO : C8.Cal P w K mg base 8 "_law_own_sight" (spOwn K) []) : FnOk P w K mg base CX0 9 f fd ["_law_feed_here", "_law_root"] (spSS K) := by
  refine F.ok scSS (fun vs H Q E h => ?_) (fun cdv A outer s H vs Q E hr h => ?_)
  · obtain ⟨d, l, n, v2, t, rfl, _⟩ := h
    rfl
  · obtain ⟨d, l, n, v2, t, rfl, hf, hn, hs, ly, p2, q⟩ := h
    refine ⟨_, pss_cons (ps_setLc (i := 2) (own := [("_law_span", 3)]) (g := gName 3) (by rfl) scSS.nd rfl rfl (sw_true rfl rfl rfl (by kernel_rfl)) (pi_list (C8.pe_c cSp hr (by decide) (by rfl) (pa_cons (pv 1) (pa_cons (pe_tup pa_nil) pa_nil)))) (blkOk_by (own := [("_law_span", 3)]) (N := nSS) (sc := defScope (K18.topS 59)) (by decide +kernel)) (fun _ _ _ _ _ => pg_name (i := 3) scSS.nd rfl (.inl rfl)) (fun _ _ _ _ _ => pts_nil)
        (te := tOp (rIxT K) (tVar 3) (tC (.int 0))) (fun _ _ _ _ _ => pe_ix (r := rIxT K) ix_tup (pv 3) pe_int (fun _ _ => rfl)))
      (pss_one (ps_ret (C8.pe_c cO hr (by decide) (by rfl) (pa_cons (pv 1) (pa_cons (pe_lc (own := [("_law_way", 4)]) (g := gName 4) (by rfl) scSS.nd (pi_list (pv 2)) (blkOk_by (own := [("_law_way", 4)]) (N := nSS) (sc := defScope (K18.topS 59)) (by decide +kernel)) (fun _ _ _ _ _ => pg_name (i := 4) scSS.nd rfl (.inl rfl))
        (tt := tTest (tOp rEq (tCall K18.spDraw [] C8.E0 (tCons (tVar 0) (tCons (tC (.int 2)) tNil))) (tC (.int 0))))
        (fun _ _ _ _ _ => pts_one (pt_cmpR op_eq (C8.pe_c cD hr (by decide) (by rfl) (pa_cons (pv 0) (pa_cons pe_int pa_nil))) pe_int (nomark _)))
        (te := tVar 4) (fun _ _ _ _ _ => pv 4)) pa_nil))))), ?_⟩
    have N0 : (FeedF d l).N = 1000000 := rfl
    have pl : ((placed [] t).map Tr.spanD).length ≤ 6 := by rw [List.length_map, placed_len]; exact hs
    have lc := r_lcL (F := FeedF d l) (K := K) (k := 0) (kt := 0) (ke := 0) (H := H) (σ := [some (.ref d), some v2, none, none, none]) (g := gName 3) (tt := tYes) (te := tOp (rIxT K) (tVar 3) (tC (.int 0)))
      (tl := tCall (spLSpans K 6) [] C8.E0 (tCons (tVar 1) (tCons (tTup tNil) tNil))) (vs := [3]) (ds := (placed [] t).map Tr.spanD) FeedF.ok (fun _ => true) (fun i => pathD ((placed [] t).getD i ([], t)).1)
      (rl_call FeedF.ok (ra_cons (ka := 0) (kb := 0) FeedF.ok (rd_var FeedF.ok (n := n) hf rfl p2 (enc_flat t)) (ra_cons (ka := 0) (kb := 0) FeedF.ok (rd_tup (ds := []) FeedF.ok ra_nil) ra_nil) (enc_flat t)) ⟨t, [], hs, by decide, by simp, rfl, rfl⟩) (spans_flat _) (by omega) (fun _ _ _ => path_flat _) (fun i x d' n' H' hi hx g' e => by
        rw [List.getElem?_map] at hi
        obtain ⟨y, hy, rfl⟩ := Option.map_eq_some_iff.mp hi
        have ey : (placed [] t).getD i ([], t) = y := by rw [List.getD_eq_getElem?_getD, hy]; rfl
        refine ⟨_, gv_name, rfl, fun n H1 hn g e Q q => q H1 Kx.refl g, fun _ => ?_⟩
        simp only [ey]
        exact rd_ix (ka := 0) (kb := 0) FeedF.ok (rd_var FeedF.ok (n := n') g' rfl hx (span_flat y)) rv_c 0 rfl rfl (span_flat y))
    have eo : outs (fun _ => true) (fun i => pathD ((placed [] t).getD i ([], t)).1) ((placed [] t).map Tr.spanD).length = (waysOf t).map pathD := by
      unfold outs waysOf
      rw [List.filter_eq_self.mpr fun _ _ => rfl, List.length_map, List.map_map]
      apply List.ext_getElem
      · simp
      · intro i h1 h2
        have hi : i < (placed [] t).length := by simpa using h2
        rw [List.getElem_map, List.getElem_range, List.getElem_map, List.getD_eq_getElem?_getD, List.getElem?_eq_getElem hi]
        rfl
    rw [eo, show 0 + ((placed [] t).map Tr.spanD).length * (0 + 0) = 0 by omega] at lc
    refine q_asgR (F := FeedF d l) (n := n) (k := 0) (P := IsL (FeedF d l) K ((waysOf t).map pathD)) lc hf (by omega) fun vw H1 e1 g1 pw => ?_
    have wl : ((waysOf t).map pathD).length ≤ 6 := by rw [List.length_map, waysOf, List.length_map, placed_len]; exact hs
    have some_ := r_lcSome (F := FeedF d l) (K := K) (σ := [some (.ref d), some v2, some vw, none, none]) (H := H1) (j := 4) (vs := [4]) (k := 0) (kt := 1) (tl := tVar 2) (tt := tTest (tOp rEq (tCall K18.spDraw [] C8.E0 (tCons (tVar 0) (tCons (tC (.int 2)) tNil))) (tC (.int 0)))) FeedF.ok (rl_var FeedF.ok (n := n) g1 rfl pw (paths_flats _)) (paths_flats _) (by omega) (fun _ => rfl) (fun _ => rfl) (fun x n' H' g' e n2 H2 hn2 g2 e2 Q' q' =>
      r_draw (d := d) (l := l) (many := 2) (i := 0) rfl rv_c (by decide) (by decide) n2 H2 (by omega) g2 e2 _ fun u H3 e3 g3 ⟨r, er, _, _⟩ => ⟨by rw [er]; rfl, _, rfl, q' _ H3 e3 g3⟩)
    refine ⟨v2, rfl, some_ n H1 (by omega) g1 Kx.refl _ fun u H2 k2 g2 ⟨es, hl, hm, du⟩ => ?_⟩
    obtain ⟨ks, rfl, hks⟩ := map_part hm
    rw [List.length_map] at hl
    have kl : ∀ p ∈ ks, p.length ≤ 100 := fun p hp => by
      obtain ⟨x, hx, rfl⟩ := List.mem_map.mp (hks p hp)
      obtain ⟨r, e, hr⟩ := placed_at [] t x hx
      have := sub_len r t _ hr
      rw [e, List.nil_append]
      omega
    obtain ⟨a, xs, eu, _, ha, hx⟩ := du
    have dv2 : Dp K H2 v2 (enc t) := mono_d FeedF.ok (enc_flat t) _ _ _ _ hf (e1.trans k2) p2
    refine ⟨v2, u, t, ks, rfl, hs, by omega, kl, ly, dv2, ⟨a, xs, eu, fun z => z, ha, hx⟩, fun v H3 e3 dv => q v H3 _ (e1.trans (k2.trans (Kx.ex e3))) ?_ dv⟩
    exact FeedF.ok.up (n := n + 0 + (0 + ((waysOf t).map pathD).length * 1)) (FeedF.ok.ex g2 e3) (by omega)
end
end Q21
set_option maxHeartbeats 2000000
/-! ### k21: a datum bent at one place -/
namespace Q21
open PySem PySem.Spec PyProof.Rows L2 Evl Fx Fr Dt Tr K18 So K17
def lastOf (ds : List PyData) : List PyData := ds.drop (ds.length - 1)
def bentT (ds : List PyData) : List PyData := [.tuple (ds ++ lastOf ds), .tuple (ds.drop 1), .list ds, .tuple ds.reverse, .none, .tuple [], .int 0, .tuple [.tuple ds]]
def bentS : List PyData := [.str "top", .str "lost", .str "pay", .str "Pay", .str "", .int 0, .none, .str "front"]
def bentO : List PyData := [.int 0, .int 1, .int 2, .int (-1), .bool true, .none, .str "1", .tuple [.int 0, .int 1]]
inductive Bn : PyData → PyData → Prop where
  | at_ {ds : List PyData} {x : PyData} (i : Nat) (h : i < ds.length) (b : Bn ds[i] x) : Bn (.tuple ds) (.tuple (ds.take i ++ [x] ++ ds.drop (i + 1)))
  | tup {ds : List PyData} {x : PyData} (h : x ∈ bentT ds) : Bn (.tuple ds) x
  | str {s : Str} {x : PyData} (h : x ∈ bentS) : Bn (.str s) x
  | oth {d x : PyData} (h : x ∈ bentO) : Bn d x
/-- lay, show and write -/
def okB (d : PyData) : Bool := PyData.canLay0 d && (PyData.intsShort 13 d && (PyData.showable d && !PyData.hasDict d))
theorem ok_lst (ds : List PyData) : okB (.tuple ds) = ds.all okB ∧ okB (.list ds) = ds.all okB := by
  have key : (PyData.canLayAll0 ds && (PyData.intsShortAll 13 ds && (PyData.showableAll ds && !PyData.hasDictAll ds))) = ds.all okB := by
    induction ds with
    | nil => simp [PyData.canLayAll0, PyData.intsShortAll, PyData.showableAll, PyData.hasDictAll]
    | cons d ds ih =>
      rw [List.all_cons, ← ih, PyData.canLayAll0, PyData.intsShortAll, PyData.showableAll, PyData.hasDictAll]
      unfold okB
      cases PyData.canLay0 d <;> cases PyData.intsShort 13 d <;> cases PyData.showable d <;> cases PyData.hasDict d <;> cases PyData.canLayAll0 ds <;> cases PyData.intsShortAll 13 ds <;> cases PyData.showableAll ds <;> rfl
  constructor
  · rw [← key]
    unfold okB
    rw [PyData.canLay0, PyData.intsShort, PyData.showable, PyData.hasDict]
  · rw [← key]
    unfold okB
    rw [PyData.canLay0, PyData.intsShort, PyData.showable, PyData.hasDict]
theorem sh_ok {n w : Nat} {d : PyData} (h : Sh n w d) : okB d = true := by
  unfold okB
  rw [h.lay, h.nums, h.shows, h.nod]
  rfl
theorem ok_sh {n w : Nat} {d : PyData} (h : okB d = true) (h1 : PyData.depth d ≤ n) (h2 : PyData.weight d ≤ w) : Sh n w d := by
  unfold okB at h
  rw [Bool.and_eq_true, Bool.and_eq_true, Bool.and_eq_true] at h
  exact ⟨h.1, h.2.1, h.2.2.1, by simpa using h.2.2.2, h1, h2⟩
mutual
/-- how many whole numbers -/
def nI : PyData → Nat
  | .tuple ds => nIs ds
  | .list ds => nIs ds
  | .int _ => 1
  | _ => 0
def nIs : List PyData → Nat
  | [] => 0
  | d :: ds => nI d + nIs ds
end
theorem nIs_app : ∀ xs ys : List PyData, nIs (xs ++ ys) = nIs xs + nIs ys
  | [], ys => by rw [List.nil_append, nIs]; omega
  | x :: xs, ys => by rw [List.cons_append, nIs, nIs, nIs_app xs ys]; omega
theorem wts_app : ∀ xs ys : List PyData, PyData.weightAll (xs ++ ys) = PyData.weightAll xs + PyData.weightAll ys
  | [], ys => by rw [List.nil_append, PyData.weightAll]; omega
  | x :: xs, ys => by rw [List.cons_append, PyData.weightAll, PyData.weightAll, wts_app xs ys]; omega
theorem dep_app : ∀ xs ys : List PyData, PyData.depthAll (xs ++ ys) = max (PyData.depthAll xs) (PyData.depthAll ys)
  | [], ys => by rw [List.nil_append, PyData.depthAll]; omega
  | x :: xs, ys => by rw [List.cons_append, PyData.depthAll, PyData.depthAll, dep_app xs ys]; omega
theorem three_rev : ∀ ds : List PyData, nIs ds.reverse = nIs ds ∧ PyData.weightAll ds.reverse = PyData.weightAll ds ∧ PyData.depthAll ds.reverse = PyData.depthAll ds
  | [] => ⟨rfl, rfl, rfl⟩
  | d :: ds => by
    obtain ⟨a, b, c⟩ := three_rev ds
    rw [List.reverse_cons, nIs_app, wts_app, dep_app, a, b, c]
    simp only [nIs, PyData.weightAll, PyData.depthAll]
    omega
/-- the numbers of a part -/
theorem cut_le (i : Nat) (ds : List PyData) : nIs ds = nIs (ds.take i) + nIs (ds.drop i) ∧ PyData.weightAll ds = PyData.weightAll (ds.take i) + PyData.weightAll (ds.drop i) ∧ PyData.depthAll ds = max (PyData.depthAll (ds.take i)) (PyData.depthAll (ds.drop i)) := by
  have e := List.take_append_drop i ds
  exact ⟨by rw [← nIs_app, e], by rw [← wts_app, e], by rw [← dep_app, e]⟩
theorem bent_small {d x : PyData} (h : Bn d x) : okB d = true → okB x = true ∧ PyData.depth x ≤ PyData.depth d + 2 ∧ PyData.weight x ≤ 2 * PyData.weight d + 20 ∧ nI x ≤ 2 * nI d + 2 := by
  induction h with
  | @at_ ds x i hi b ih =>
    intro ho
    rw [(ok_lst ds).1, List.all_eq_true] at ho
    obtain ⟨a1, a2, a3, a4⟩ := ih (ho _ (List.getElem_mem hi))
    obtain ⟨c1, c2, c3⟩ := cut_le i ds
    have ed : ds.drop i = ds[i] :: ds.drop (i + 1) := List.drop_eq_getElem_cons hi
    rw [ed, nIs] at c1
    rw [ed, PyData.weightAll] at c2
    rw [ed, PyData.depthAll] at c3
    refine ⟨?_, ?_, ?_, ?_⟩
    · rw [(ok_lst _).1, List.all_eq_true]
      intro y hy
      rcases List.mem_append.mp hy with hy | hy
      · rcases List.mem_append.mp hy with hy | hy
        · exact ho _ (List.mem_of_mem_take hy)
        · rw [List.mem_singleton.mp hy]; exact a1
      · exact ho _ (List.mem_of_mem_drop hy)
    · rw [PyData.depth, PyData.depth, dep_app, dep_app, PyData.depthAll, PyData.depthAll]
      omega
    · rw [PyData.weight, PyData.weight, wts_app, wts_app, PyData.weightAll, PyData.weightAll]
      omega
    · rw [nI, nI, nIs_app, nIs_app, nIs, nIs]
      omega
  | @tup ds x h =>
    intro ho
    have ho' := ho
    rw [(ok_lst ds).1, List.all_eq_true] at ho'
    obtain ⟨l1, l2, l3⟩ := cut_le (ds.length - 1) ds
    obtain ⟨t1, t2, t3⟩ := cut_le 1 ds
    obtain ⟨r1, r2, r3⟩ := three_rev ds
    simp only [bentT, List.mem_cons, List.not_mem_nil, or_false] at h
    rcases h with rfl | rfl | rfl | rfl | rfl | rfl | rfl | rfl
    · refine ⟨?_, ?_, ?_, ?_⟩
      · rw [(ok_lst _).1, List.all_eq_true]
        intro y hy
        rcases List.mem_append.mp hy with hy | hy
        · exact ho' _ hy
        · exact ho' _ (List.mem_of_mem_drop hy)
      · rw [PyData.depth, PyData.depth, dep_app, lastOf]; omega
      · rw [PyData.weight, PyData.weight, wts_app, lastOf]; omega
      · rw [nI, nI, nIs_app, lastOf]; omega
    · refine ⟨?_, ?_, ?_, ?_⟩
      · rw [(ok_lst _).1, List.all_eq_true]
        exact fun y hy => ho' _ (List.mem_of_mem_drop hy)
      · rw [PyData.depth, PyData.depth]; omega
      · rw [PyData.weight, PyData.weight]; omega
      · rw [nI, nI]; omega
    · refine ⟨?_, ?_, ?_, ?_⟩
      · rw [(ok_lst _).2, List.all_eq_true]
        exact ho'
      · rw [PyData.depth, PyData.depth]; omega
      · rw [PyData.weight, PyData.weight]; omega
      · rw [nI, nI]; omega
    · refine ⟨?_, ?_, ?_, ?_⟩
      · rw [(ok_lst _).1, List.all_eq_true]
        exact fun y hy => ho' _ (List.mem_reverse.mp hy)
      · rw [PyData.depth, PyData.depth]; omega
      · rw [PyData.weight, PyData.weight]; omega
      · rw [nI, nI]; omega
    · exact ⟨by decide +kernel, by simp [PyData.depth], by simp [PyData.weight], by simp [nI]⟩
    · exact ⟨by decide +kernel, by simp [PyData.depth, PyData.depthAll], by simp [PyData.weight, PyData.weightAll], by simp [nI, nIs]⟩
    · exact ⟨by decide +kernel, by simp [PyData.depth], by simp [PyData.weight], by simp [nI]⟩
    · refine ⟨?_, ?_, ?_, ?_⟩
      · rw [(ok_lst _).1, List.all_cons, ho]
        rfl
      · simp only [PyData.depth, PyData.depthAll]; omega
      · simp only [PyData.weight, PyData.weightAll]; omega
      · simp only [nI, nIs]; omega
  | @str s x h =>
    intro _
    simp only [bentS, List.mem_cons, List.not_mem_nil, or_false] at h
    have zero : ∀ y : PyData, okB y = true → PyData.depth y ≤ 2 → PyData.weight y ≤ 20 → nI y ≤ 2 → okB y = true ∧ PyData.depth y ≤ PyData.depth (.str s) + 2 ∧ PyData.weight y ≤ 2 * PyData.weight (.str s) + 20 ∧ nI y ≤ 2 * nI (.str s) + 2 := fun y a b c e => ⟨a, by omega, by omega, by omega⟩
    rcases h with rfl | rfl | rfl | rfl | rfl | rfl | rfl | rfl <;> exact zero _ (by decide +kernel) (by decide +kernel) (by decide +kernel) (by decide +kernel)
  | @oth d x h =>
    intro _
    simp only [bentO, List.mem_cons, List.not_mem_nil, or_false] at h
    have zero : ∀ y : PyData, okB y = true → PyData.depth y ≤ 2 → PyData.weight y ≤ 20 → nI y ≤ 2 → okB y = true ∧ PyData.depth y ≤ PyData.depth d + 2 ∧ PyData.weight y ≤ 2 * PyData.weight d + 20 ∧ nI y ≤ 2 * nI d + 2 := fun y a b c e => ⟨a, by omega, by omega, by omega⟩
    rcases h with rfl | rfl | rfl | rfl | rfl | rfl | rfl | rfl <;> exact zero _ (by decide +kernel) (by decide +kernel) (by decide +kernel) (by decide +kernel)
def topLen : PyData → Nat
  | .tuple ds => ds.length
  | _ => 0
theorem bent_len {d x : PyData} (h : Bn d x) : topLen x ≤ topLen d + 2 := by
  cases h with
  | @at_ ds x i hi b =>
    show (ds.take i ++ [x] ++ ds.drop (i + 1)).length ≤ ds.length + 2
    simp
    omega
  | @tup ds x h =>
    simp only [bentT, List.mem_cons, List.not_mem_nil, or_false] at h
    rcases h with rfl | rfl | rfl | rfl | rfl | rfl | rfl | rfl <;> simp [topLen, lastOf] <;> omega
  | @str s x h =>
    simp only [bentS, List.mem_cons, List.not_mem_nil, or_false] at h
    rcases h with rfl | rfl | rfl | rfl | rfl | rfl | rfl | rfl <;> simp [topLen]
  | @oth d x h =>
    simp only [bentO, List.mem_cons, List.not_mem_nil, or_false] at h
    rcases h with rfl | rfl | rfl | rfl | rfl | rfl | rfl | rfl <;> simp [topLen]
mutual
theorem nI_enc : ∀ t : T, nI (enc t) = size t
  | .mk s m cs => by
    rw [enc, size]
    simp only [nI, nIs]
    rw [nI_encs cs]
    omega
theorem nI_encs : ∀ ts : List T, nIs (encs ts) = sizes ts
  | [] => by rw [encs, nIs, sizes]
  | t :: ts => by rw [encs, nIs, sizes, nI_enc t, nI_encs ts]
end
theorem nI_pc (p : Pc) : nI p.D = p.size := by
  cases p with
  | top t => simp only [Pc.D, nI, nIs, Pc.size, nI_enc]; omega
  | lost ts =>
    have := nI_encs ts
    rw [encs_map] at this
    simp only [Pc.D, nI, nIs, Pc.size, this]
    omega
theorem nI_pcs : ∀ ps : List Pc, nIs (ps.map Pc.D) = psizes ps
  | [] => rfl
  | p :: ps => by rw [List.map_cons, nIs, nI_pc, nI_pcs ps, psizes_cons]
theorem lay_pc {p : Pc} (h : okB p.D = true) : Lay (treeOf p) := by
  have h1 : PyData.canLay0 p.D = true := by
    unfold okB at h
    rw [Bool.and_eq_true] at h
    exact h.1
  cases p with
  | top t =>
    simp only [Pc.D, PyData.canLay0, PyData.canLayAll0, Bool.and_true, Bool.and_eq_true] at h1
    exact h1.2
  | lost ts =>
    simp only [Pc.D, PyData.canLay0, PyData.canLayAll0, Bool.and_true, Bool.and_eq_true] at h1
    have : enc (treeOf (.lost ts)) = .tuple [.str "", .int 0, .tuple (ts.map enc)] := by rw [enc_eq]; rfl
    show PyData.canLay0 (enc (treeOf (.lost ts))) = true
    rw [this]
    simp only [PyData.canLay0, PyData.canLayAll0, h1.2, Bool.and_true, Bool.true_and]
    decide +kernel
/-- few enough, of data that are few -/
theorem few_of {d : PyData} (h : okB d = true) (h1 : nI d ≤ 12) (h2 : topLen d ≤ 15) : Few2 d := fun ps e => by
  subst e
  rw [nI, nI_pcs] at h1
  refine ⟨h1, by simpa [topLen] using h2, fun p hp => lay_pc ?_⟩
  rw [(ok_lst _).1, List.all_eq_true] at h
  exact h _ (List.mem_map.mpr ⟨p, hp, rfl⟩)
/-- what the law asks about -/
def Itm (d : PyData) : Prop := LtOk 30 d ∧ Few2 d
theorem itm_of {d : PyData} (h : okB d = true) (h1 : nI d ≤ 12) (h2 : topLen d ≤ 15) (h3 : PyData.depth d ≤ 20) (h4 : PyData.weight d ≤ 500) : Itm d := ⟨⟨ok_sh h (by omega) h4, by omega⟩, few_of h h1 h2⟩
/-- a drawn sight: as the law's items are -/
structure Drawn (d : PyData) : Prop where
  ok : okB d = true
  n : nI d ≤ 5
  len : topLen d ≤ 6
  dep : PyData.depth d ≤ 14
  wt : PyData.weight d ≤ 120
theorem Drawn.itm {d : PyData} (h : Drawn d) : Itm d := itm_of h.ok (by have := h.n; omega) (by have := h.len; omega) (by have := h.dep; omega) (by have := h.wt; omega)
theorem Drawn.bent {d x : PyData} (h : Drawn d) (b : Bn d x) : Itm x := by
  obtain ⟨a1, a2, a3, a4⟩ := bent_small b h.ok
  have a5 := bent_len b
  exact itm_of a1 (by have := h.n; omega) (by have := h.len; omega) (by have := h.dep; omega) (by have := h.wt; omega)
theorem wt_pc {p : Pc} (h : NiceP p) : okB p.D = true ∧ PyData.weight p.D ≤ 10 * p.size + 6 := by
  cases p with
  | top t =>
    have h2 := sh_tree t h
    have h3 := h2.wt
    have h4 := size_eq t
    refine ⟨?_, ?_⟩
    · simp only [Pc.D, (ok_lst _).1, List.all_cons, List.all_nil, sh_ok h2]
      decide +kernel
    · have : PyData.weight (Pc.top t).D = 3 + 1 + (PyData.weight (enc t) + 1 + 0) := by
        simp only [Pc.D, PyData.weight, PyData.weightAll]
        rfl
      rw [this, Pc.size]
      omega
  | lost ts =>
    have h1 : ∀ t ∈ ts, NiceM t := h
    have hs : ts.all (fun t => okB (enc t)) = true := List.all_eq_true.mpr fun t ht => sh_ok (sh_tree t (h1 t ht))
    have hw : PyData.weightAll (ts.map enc) ≤ 10 * sizes ts := by
      clear hs h
      induction ts with
      | nil => simp [PyData.weightAll]
      | cons t ts ih =>
        have a := (sh_tree t (h1 t (List.mem_cons_self ..))).wt
        have b := ih fun x hx => h1 x (List.mem_cons_of_mem _ hx)
        have c := size_eq t
        rw [List.map_cons, PyData.weightAll, sizes]
        omega
    refine ⟨?_, ?_⟩
    · have e : okB (.tuple (ts.map enc)) = true := by rw [(ok_lst _).1, List.all_map]; exact hs
      simp only [Pc.D, (ok_lst (_ :: _)).1, List.all_cons, List.all_nil, e]
      decide +kernel
    · have : PyData.weight (Pc.lost ts).D = 4 + 1 + (PyData.weightAll (ts.map enc) + 1 + 0) := by
        simp only [Pc.D, PyData.weight, PyData.weightAll]
        rfl
      rw [this, Pc.size]
      omega
theorem own_drawn (keep : List Nat → Bool) {t : T} (hN : NiceM t) (hs : size t ≤ 5) : Drawn (.tuple ((ownS keep t).map Pc.D)) := by
  obtain ⟨z1, z2⟩ := raw_sizes keep t
  obtain ⟨n1, n2⟩ := seen_nice keep [0] t hN
  have pm : psizes (ownS keep t) = psizes (rawS keep t) := psizes_perm (sortP_mem _)
  have hp : ∀ p ∈ ownS keep t, NiceP p := fun p h => by
    have h := (sortP_mem _).mem_iff.mp h
    unfold rawS at h
    rcases List.mem_append.mp h with h | h
    · exact n2 p h
    · obtain ⟨s, hs, rfl⟩ := List.mem_map.mp h
      exact n1 s hs
  have hl : (ownS keep t).length ≤ 6 := by
    rw [ownS, (sortP_mem _).length_eq]
    omega
  have hps : psizes (ownS keep t) ≤ 5 := by omega
  generalize ownS keep t = ps at *
  refine ⟨?_, ?_, by simpa [topLen] using hl, ?_, ?_⟩
  · rw [(ok_lst _).1, List.all_eq_true]
    intro y hy
    obtain ⟨p, hm, rfl⟩ := List.mem_map.mp hy
    exact (wt_pc (hp p hm)).1
  · rw [nI, nI_pcs]
    exact hps
  · have key : ∀ qs : List Pc, psizes qs ≤ 5 → PyData.depthAll (qs.map Pc.D) ≤ 12 := fun qs => by
      induction qs with
      | nil => intro _; simp [PyData.depthAll]
      | cons q qs ih =>
        intro h
        rw [psizes_cons] at h
        have a := ih (by omega)
        have b := q.depth
        rw [List.map_cons, PyData.depthAll]
        omega
    have := key ps hps
    rw [PyData.depth]
    omega
  · have key : ∀ qs : List Pc, (∀ q ∈ qs, NiceP q) → PyData.weightAll (qs.map Pc.D) ≤ 10 * psizes qs + 7 * qs.length := fun qs => by
      induction qs with
      | nil => intro _; simp [PyData.weightAll]
      | cons q qs ih =>
        intro h
        have a := ih fun x hx => h x (List.mem_cons_of_mem _ hx)
        have b := (wt_pc (h q (List.mem_cons_self ..))).2
        rw [List.map_cons, PyData.weightAll, psizes_cons, List.length_cons]
        omega
    have := key ps hp
    rw [PyData.weight]
    omega
theorem drawn_list {ds : List PyData} (h : Drawn (.tuple ds)) : Itm (.list ds) := by
  have a := h.ok
  rw [(ok_lst _).1, ← (ok_lst _).2] at a
  have b1 := h.n
  have b2 := h.dep
  have b3 := h.wt
  rw [nI] at b1
  rw [PyData.depth] at b2
  rw [PyData.weight] at b3
  exact itm_of a (by rw [nI]; omega) (by simp [topLen]) (by rw [PyData.depth]; omega) (by rw [PyData.weight]; omega)
end Q21
set_option maxHeartbeats 2000000
/-! ### law -/
namespace K17
open PySem PySem.Spec PyProof.Rows L2 Evl Fx Fr Dt Tr K18 So DtG
theorem pe_c0 {X : Cx} {j k : Nat} {x : Str} {sp : Sp} {p pos : Pos} (c : C8.Cal X.prog X.w X.K X.mg X.base k x sp []) (hr : Room j X.A) (hk : k ≤ j) (hg : Gl X x) (hdb : (x == ("__debug__" : Str)) = false := by decide) : PE X (.Call (.Name x p) [] [] pos) (tCall sp [] C8.E0 tNil) := by
  obtain ⟨f, fd, ps, ds, F, hm, kp, b, d⟩ := c.ex
  cases d
  exact pe_call0 F (hr.mono hk) hg hm kp b .nil C8.pass0 hdb
def nLawT : List Str := ["_law_script", "_law_feed_here", "_law_root", "_law_k"]
section
variable {P : Program} {w : World} {K : PySem.W.Frag} {mg : Str → Option Value} {base : Heap} {f f2 f3 : Addr} {fd fd2 fd3 : FuncData} {te tl ta tb : TE} {σ σ2 : L2.St} {H H' : Hp} {k ka kb n : Nat} {d l : Addr} {ds es : List PyData} {g : TG} {vs : List Nat} {C : Addr} {xs ys : List V}
def GoodT (x : PyData) : Prop := ∃ t, x = enc t ∧ size t ≤ 6 ∧ NiceM t
theorem goodT_flat (x : PyData) (h : GoodT x) : flat x = true := by
  obtain ⟨t, rfl, _⟩ := h
  exact enc_flat t
theorem r_treeT {E : XK} {i : Nat} (hd : σ[i]? = some (some (.ref d))) : EvR (FeedF d l) (tCall (spTree K 4) [] E (tCons (tVar i) (tCons (tLst (tCons (tC (.int 3)) tNil)) (tCons (tC (.int 3)) tNil)))) σ H 12 (SomeD K GoodT) :=
  fun n H1 hn g e Q q => ⟨.ref d, hd, by show 1 ≤ sizeLine; decide, fun a ha => by
    have e1 := Ex.new (o := HO.lst [.int 3]) ha
    have g1 : FeedAt (upd H1 a (.lst [.int 3])) d l n := FeedF.ok.ex g e1
    have na : ¬ (a = d ∨ a = l) := FeedF.ok.new g ha
    refine ⟨d, l, a, 3, n, 3, rfl, by decide, g1, fun z => na (.inl z), fun z => na (.inr z), upd_same, by decide, by have : (FeedF d l).N = 1000000 := rfl; omega, fun H3 v t k' k3 hs g3 _ nt dt => ?_⟩
    refine q v H3 (fun b o hb hne => k3 b o (e1 b o hb) fun z => z.elim hne fun z => ?_) (FeedAt.up g3 (by omega)) ⟨enc t, ⟨t, rfl, by omega, nt⟩, dt⟩
    subst z
    rw [ha] at hb
    cases hb⟩
theorem r_listOf {F : Fd} (o : F.Ok) (h : EvR F te σ H k (IsD K (.tuple ds))) : EvR F (tCB (rTupListOf K) (tCons te tNil)) σ H k (IsL F K ds) := fun n H1 hn g e Q q => h n H1 hn g e _ fun v H2 e2 g2 hd => by
  cases hd with
  | @tup a xs _ ha hx => exact ⟨a, xs, rfl, .inr ha, fun l hl => q (.ref l) _ (e2.trans (Kx.ex (Ex.new hl))) (o.ex g2 (Ex.new hl)) ⟨l, xs, rfl, o.new g2 hl, upd_same, dps_ex (Ex.new hl) _ _ hx⟩⟩
theorem r_cat {F : Fd} {Pe : PyData → Prop} {m : Nat} (o : F.Ok) (ha : EvR F ta σ H ka (IsL F K ds)) (hb : EvR F tb σ H kb (IsLP F K Pe m)) (fd : flats ds = true) (hl : ds.length + m ≤ 100000) : EvR F (tOp rCat ta tb) σ H (ka + kb) (fun v H' => ∃ es, es.length = m ∧ (∀ x ∈ es, Pe x) ∧ IsL F K (ds ++ es) v H') :=
  fun n H1 hn g e Q q => ha n H1 (by omega) g e _ fun x H2 e2 g2 p => hb (n + ka) H2 (by omega) g2 (e.trans e2) _ fun y H3 e3 g3 ⟨es, el, ep, p'⟩ => by
    obtain ⟨a, xs, rfl, hT, ha, hx⟩ := mono_l o fd _ _ _ _ g2 e3 p
    obtain ⟨b, ys, rfl, hT', hb, hy⟩ := p'
    have l1 := dps_len hx
    have l2 := dps_len hy
    refine ⟨a, b, xs, ys, rfl, rfl, ha, hb, sz_of (by omega), fun c hc => ?_⟩
    have ec := Ex.new (o := HO.lst (xs ++ ys)) hc
    exact q (.ref c) _ (e2.trans (e3.trans (Kx.ex ec))) (by rw [← Nat.add_assoc]; exact o.ex g3 ec) ⟨es, el, ep, c, _, rfl, o.new g3 hc, upd_same, dps_ex ec _ _ (dps_app hx hy)⟩
theorem r_catL {F : Fd} (o : F.Ok) (ha : EvR F ta σ H ka (IsL F K ds)) (hb : EvR F tb σ H kb (IsL F K es)) (fd : flats ds = true) (hl : ds.length + es.length ≤ 100000) : EvR F (tOp rCat ta tb) σ H (ka + kb) (IsL F K (ds ++ es)) :=
  fun n H1 hn g e Q q => ha n H1 (by omega) g e _ fun x H2 e2 g2 p => hb (n + ka) H2 (by omega) g2 (e.trans e2) _ fun y H3 e3 g3 p' => by
    obtain ⟨a, xs, rfl, hT, ha, hx⟩ := mono_l o fd _ _ _ _ g2 e3 p
    obtain ⟨b, ys, rfl, hT', hb, hy⟩ := p'
    have l1 := dps_len hx
    have l2 := dps_len hy
    refine ⟨a, b, xs, ys, rfl, rfl, ha, hb, sz_of (by omega), fun c hc => ?_⟩
    have ec := Ex.new (o := HO.lst (xs ++ ys)) hc
    exact q (.ref c) _ (e2.trans (e3.trans (Kx.ex ec))) (by rw [← Nat.add_assoc]; exact o.ex g3 ec) ⟨c, _, rfl, o.new g3 hc, upd_same, dps_ex ec _ _ (dps_app hx hy)⟩
theorem doc_sizes : ∀ t ∈ docT, size t ≤ 6 := by
  intro t ht
  simp only [docT, List.mem_cons, List.not_mem_nil, or_false] at ht
  rcases ht with rfl | rfl | rfl <;> simp only [leaf, size, sizes] <;> decide
theorem six_sizes : ∀ t ∈ sixT, size t ≤ 6 := by
  intro t ht
  simp only [sixT, List.mem_cons, List.not_mem_nil, or_false] at ht
  rcases ht with rfl | rfl <;> simp only [leaf, size, sizes] <;> decide
theorem nice_of {s : Str} {m : Int} {cs : List T} (h1 : Nm s) (h2 : m = 0 ∨ m = 1) (h : ∀ c ∈ cs, NiceM c) : NiceM (.mk s m cs) := nice_mk.mpr ⟨⟨h1, h2⟩, h⟩
theorem doc_nice : ∀ t ∈ docT, NiceM t := by
  have no : ∀ c ∈ ([] : List T), NiceM c := fun c hc => by cases hc
  have one : ∀ {t : T}, NiceM t → ∀ c ∈ [t], NiceM c := fun h c hc => (List.mem_singleton.mp hc) ▸ h
  intro t ht
  simp only [docT, List.mem_cons, List.not_mem_nil, or_false] at ht
  rcases ht with rfl | rfl | rfl
  · exact nice_of (.inr (.inl rfl)) (.inl rfl) no
  · exact nice_of (.inr (.inl rfl)) (.inl rfl) (one (nice_of (.inr (.inr rfl)) (.inl rfl) no))
  · exact nice_of (.inr (.inl rfl)) (.inl rfl) (one (nice_of (.inr (.inr rfl)) (.inr rfl) no))
theorem six_names : ∀ t ∈ sixT, NiceM t := by
  have no : ∀ c ∈ ([] : List T), NiceM c := fun c hc => by cases hc
  have cn : ∀ {t : T} {ts : List T}, NiceM t → (∀ c ∈ ts, NiceM c) → ∀ c ∈ t :: ts, NiceM c := fun h hs c hc => (List.mem_cons.mp hc).elim (fun e => e ▸ h) (hs c)
  have p0 : NiceM (leaf "pay" 0) := nice_of (.inr (.inr rfl)) (.inl rfl) no
  have p1 : NiceM (leaf "pay" 1) := nice_of (.inr (.inr rfl)) (.inr rfl) no
  have d0 : NiceM (leaf "db" 0) := nice_of (.inl rfl) (.inl rfl) no
  intro t ht
  simp only [sixT, List.mem_cons, List.not_mem_nil, or_false] at ht
  rcases ht with rfl | rfl
  · exact nice_of (.inr (.inl rfl)) (.inl rfl) (cn (nice_of (.inl rfl) (.inl rfl) (cn p0 no)) (cn (nice_of (.inl rfl) (.inl rfl) (cn p0 (cn p1 no))) no))
  · exact nice_of (.inr (.inl rfl)) (.inl rfl) (cn d0 (cn d0 (cn d0 (cn p0 (cn p1 no)))))
theorem giv_all : ∀ x ∈ docT.map enc ++ sixT.map enc, GoodT x := fun x hx => by
  rcases List.mem_append.mp hx with hx | hx
  · obtain ⟨t, ht, rfl⟩ := List.mem_map.mp hx
    exact ⟨t, rfl, doc_sizes t ht, doc_nice t ht⟩
  · obtain ⟨t, ht, rfl⟩ := List.mem_map.mp hx
    exact ⟨t, rfl, six_sizes t ht, six_names t ht⟩
def spLawT (K : PySem.W.Frag) (PT : Addr) : Sp := fun vs H Q _ => ∃ (a : Addr) (ns : List Int), vs = [.ref a] ∧ SqL K H a (ns.map V.int) ∧ LamX.Tabs [(PT, lamQ)] H ∧ ∀ H', Q (.bl true) H'
end
end K17
set_option maxHeartbeats 4000000
/-! ### k21: a choice of any data; _law_bent -/
namespace Q21
open PySem PySem.Spec PyProof.Rows L2 Evl Fx Fr Dt Tr K18 So K17
section
variable {P : Program} {w : World} {K : PySem.W.Frag} {mg : Str → Option Value} {base : Heap} {f f2 f3 : Addr} {fd fd2 fd3 : FuncData} {te tl ta tb : TE} {tt tu : TT} {tr : TA} {σ σ2 : L2.St} {H : Hp} {k ka kb n : Nat} {d0 y : PyData} {ds es : List PyData} {g : TG} {vs : List Nat} {d l : Addr} {F : Fd}
/-- a datum that stays: flat, or a list of one's own of flat data -/
def Keep (F : Fd) (K : PySem.W.Frag) (y : PyData) : VP := fun v H => (flat y = true ∧ Dp K H v y) ∨ ∃ es, y = .list es ∧ flats es = true ∧ IsL F K es v H
def KAll (F : Fd) (K : PySem.W.Frag) : List PyData → List V → Hp → Prop
  | [], vs, _ => vs = []
  | y :: ys, vs, H => ∃ v us, vs = v :: us ∧ Keep F K y v H ∧ KAll F K ys us H
theorem mono_keep (o : F.Ok) : MonoF F (Keep F K y) := fun n v H H' g e h => h.elim (fun ⟨f, p⟩ => .inl ⟨f, mono_d o f n v H H' g e p⟩) fun ⟨es, e1, f, p⟩ => .inr ⟨es, e1, f, mono_l o f n v H H' g e p⟩
theorem Keep.dp {v : V} (h : Keep F K y v H) : Dp K H v y := by
  rcases h with ⟨_, p⟩ | ⟨es, rfl, _, p⟩
  · exact p
  · exact p.dp
theorem keepD (h : EvR F te σ H k (IsD K y)) (f : flat y = true := by rfl) : EvR F te σ H k (Keep F K y) := h.imp fun _ _ _ _ _ p => .inl ⟨f, p⟩
theorem keepL (h : EvR F te σ H k (IsL F K es)) (f : flats es = true) : EvR F te σ H k (Keep F K (.list es)) := h.imp fun _ _ _ _ _ p => .inr ⟨es, rfl, f, p⟩
theorem mono_kall (o : F.Ok) : ∀ ys : List PyData, MonoA F (KAll F K ys)
  | [] => fun _ _ _ _ _ _ h => h
  | y :: ys => fun n v H H' g e ⟨u, us, e1, h1, h2⟩ => ⟨u, us, e1, mono_keep o n u H H' g e h1, mono_kall o ys n us H H' g e h2⟩
theorem ka_nil : EvRA F tNil σ H 0 (KAll F K []) := fun n1 H1 hn g e Q q => q _ H1 Kx.refl g rfl
theorem ka_cons {ys : List PyData} (o : F.Ok) (h : EvR F te σ H 0 (Keep F K y)) (hr : EvRA F tr σ H 0 (KAll F K ys)) : EvRA F (tCons te tr) σ H 0 (KAll F K (y :: ys)) :=
  fun n H1 hn g e Q q => h n H1 (by omega) g e _ fun x H2 e2 g2 p => hr n H2 (by omega) g2 (e.trans e2) _ fun vs H3 e3 g3 p' => q (x :: vs) H3 (e2.trans e3) g3 ⟨x, vs, rfl, mono_keep o _ _ _ _ g2 e3 p, p'⟩
theorem kall_len : ∀ (ys : List PyData) (us : List V) (H : Hp), KAll F K ys us H → us.length = ys.length
  | [], _, _, h => by rw [show _ = _ from h]; rfl
  | y :: ys, _, H, ⟨v, us, e, _, h⟩ => by rw [e, List.length_cons, List.length_cons, kall_len ys us H h]
theorem kall_get : ∀ (ys : List PyData) (us : List V) (H : Hp), KAll F K ys us H → ∀ {i : Nat} {v : V}, us[i]? = some v → ∃ y ∈ ys, Keep F K y v H
  | [], _, _, h, i, v, hv => by rw [show _ = _ from h] at hv; cases hv
  | y :: ys, _, H, ⟨u, us, e, h1, h⟩, i, v, hv => by
    subst e
    cases i with
    | zero => cases hv; exact ⟨y, List.mem_cons_self .., h1⟩
    | succ i =>
      obtain ⟨z, hz, hk⟩ := kall_get ys us H h hv
      exact ⟨z, List.mem_cons_of_mem _ hz, hk⟩
/-- one of the values of a list -/
def spChoiceV (K : PySem.W.Frag) : Sp := fun vs H Q _ => ∃ (d l a : Addr) (xs : List V) (n : Nat), vs = [.ref d, .ref a] ∧ FeedAt H d l n ∧ n + 1 ≤ 1000000 ∧ a ≠ d ∧ H a = some (.lst xs) ∧ xs ≠ [] ∧ xs.length ≤ 1000 ∧
  ∀ (H' : Hp) (v : V) (i : Nat), Kp d H H' → FeedAt H' d l (n + 1) → xs[i]? = some v → Q v H'
theorem scChoiceV : FnScope ["_law_feed_here", "_law_some"] ["_law_feed_here", "_law_some"] (defScope (K18.topS 52)) := ⟨rfl, rfl, rfl, by decide +kernel, rfl, by decide +kernel, by decide +kernel⟩
theorem ok_choiceV (F : Fun K "_law_choice" "_law_choice" (K18.topS 52) f fd) (cD : C8.Cal P w K mg base 1 "_law_draw" K18.spDraw []) (m_len : mg "len" = none) : FnOk P w K mg base CX0 2 f fd ["_law_feed_here", "_law_some"] (spChoiceV K) := by
  refine F.ok scChoiceV (fun vs H Q E h => ?_) (fun cdv A outer s H vs Q E hr h => ?_)
  · obtain ⟨d, l, a, xs, n, rfl, _⟩ := h
    rfl
  · obtain ⟨d, l, a, xs, n, rfl, hF, hn, had, ha, hne, hl, q⟩ := h
    refine ⟨_, pss_one (ps_ret (pe_ix ix_list (pv 1) (C8.pe_c cD hr (by decide) (by rfl) (pa_cons (pv 0) (pa_cons (pe_callB (r := rLenS K) call_lenS (by rfl) m_len PySem.boot_len (pa_cons (pv 1) pa_nil)) pa_nil))) (fun _ _ => rfl))), ?_⟩
    have hpos : 0 < xs.length := List.length_pos_iff.mpr hne
    refine ⟨.ref a, rfl, .ref d, rfl, .ref a, rfl, a, xs, rfl, .inl (sq_of ha), d, l, (xs.length : Int), n, rfl, hF, by omega, by omega, by omega, fun H' r k g a1 a2 => ?_⟩
    have hj : r.toNat < xs.length := by omega
    exact ⟨a, xs, r, xs[r.toNat], rfl, rfl, sq_of (k _ _ ha had), at_of (j := r.toNat) (by omega) (List.getElem?_eq_getElem hj), q H' _ r.toNat k g (List.getElem?_eq_getElem hj)⟩
theorem r_choiceK {E : XK} {i : Nat} (hd : σ[i]? = some (some (.ref d))) (hb : EvRA (FeedF d l) tr σ H 0 (KAll (FeedF d l) K ds)) (hne : ds ≠ []) (hl : ds.length ≤ 1000) : EvR (FeedF d l) (tCall (spChoiceV K) [] E (tCons (tVar i) (tCons (tLst tr) tNil))) σ H 1 (fun v H' => ∃ y ∈ ds, Dp K H' v y) :=
  fun n H1 hn g e Q q => ⟨.ref d, hd, hb n H1 (by omega) g e _ fun us H2 e2 g2 p => by
    have lu := kall_len _ _ _ p
    refine ⟨sz_of (by omega), fun a ha => ?_⟩
    have ea := Ex.new (o := HO.lst us) ha
    have g3 := FeedF.ok.ex g2 ea
    have N0 : (FeedF d l).N = 1000000 := rfl
    have had : a ≠ d := fun z => FeedF.ok.new (n := n + 0) g2 ha (.inl z)
    have p3 := mono_kall FeedF.ok ds _ _ _ _ g2 (Kx.ex ea) p
    refine ⟨d, l, a, us, n, rfl, g3, by omega, had, upd_same, fun z => hne (by rw [z] at lu; exact List.eq_nil_of_length_eq_zero lu.symm), by omega, fun H' v i k4 g4 hv => ?_⟩
    obtain ⟨y, hy, hk⟩ := kall_get _ _ _ p3 hv
    exact q v H' ((e2.trans (Kx.ex ea)).trans (kp_kx k4)) g4 ⟨y, hy, (mono_keep FeedF.ok _ _ _ _ g3 (kp_kx k4) hk).dp⟩⟩
theorem rb_ne0 {d d' : PyData} (ha : EvR F0 ta σ H 0 (IsD K d)) (hb : EvR F0 tb σ H 0 (IsD K d')) (sd : SeqAt.shaped d = true) (sd' : SeqAt.shaped d' = true) : EvR F0 (tOp (rNeD K) ta tb) σ H 0 (fun x _ => x = .bl (!PyData.eqv d d')) := fun n H1 hn g e Q q =>
  ha n H1 hn g e _ fun x H2 e2 g2 px => hb n H2 hn F0.g (e.trans e2) _ fun y H3 e3 g3 py => ⟨d, d', dp_ex (F0.ex e3) _ _ px, py, sd, sd', q _ H3 (e2.trans e3) F0.g rfl⟩
/-- a test, then another that draws -/
theorem t_first {b : Bool} {Q : Bool → Hp → Prop} (h : EvRT F0 tt σ H 0 b) (h1 : b = true → ∀ H1, Ex H H1 → tu σ H1 Q) (h2 : b = false → ∀ H1, Ex H H1 → Q false H1) : tAnd tt tu σ H Q := h 0 H (Nat.le_refl _) F0.g Kx.refl _ fun H2 e2 g2 => by
  cases b with
  | false => exact h2 rfl H2 (F0.ex e2)
  | true => exact h1 rfl H2 (F0.ex e2)
end
end Q21
set_option maxHeartbeats 4000000
/-! ### k21: _law_bent -/
namespace Q21
open PySem PySem.Spec PyProof.Rows L2 Evl Fx Fr Dt Tr K18 So K17
def nBent : List Str := ["_law_feed_here", "_law_item", "_law_at"]
theorem scBent : FnScope nBent ["_law_feed_here", "_law_item"] (defScope (K18.topS 65)) := ⟨rfl, rfl, rfl, by decide +kernel, rfl, by decide +kernel, by decide +kernel⟩
section
variable {P : Program} {w : World} {K : PySem.W.Frag} {mg : Str → Option Value} {base : Heap} {f f2 f3 : Addr} {fd fd2 fd3 : FuncData} {te tl ta tb : TE} {tt tu : TT} {tr : TA} {σ σ2 : L2.St} {H : Hp} {k ka kb n : Nat} {d0 y : PyData} {ds es : List PyData} {g : TG} {vs : List Nat} {d l : Addr} {F : Fd}
def spBent (K : PySem.W.Frag) (n : Nat) : Sp := fun vs H Q _ => ∃ (d l : Addr) (m : Nat) (v2 : V) (x : PyData), vs = [.ref d, v2] ∧ FeedAt H d l m ∧ m + 2 * n ≤ 1000000 ∧ Dp K H v2 x ∧ flat x = true ∧ Ok x ∧ PyData.depth x < n ∧
  ∀ v H' y, Kx (FeedF d l).S H H' → FeedAt H' d l (m + 2 * n) → Bn x y → Dp K H' v y → Q v H'
theorem sl_last {ds : List PyData} : (ds.drop (HT.sIx ds.length 0 (some (-1)))).take (HT.sIx ds.length ds.length none - HT.sIx ds.length 0 (some (-1))) = lastOf ds := by
  have a : HT.sIx ds.length 0 (some (-1)) = ds.length - 1 := by
    unfold HT.sIx
    simp
    omega
  rw [a, HT.sIx_none, List.take_of_length_le (by rw [List.length_drop]; omega)]
  rfl
theorem sl_from {ds : List PyData} {k : Nat} (hk : k ≤ ds.length) : (ds.drop (HT.sIx ds.length 0 (some (k : Int)))).take (HT.sIx ds.length ds.length none - HT.sIx ds.length 0 (some (k : Int))) = ds.drop k := by
  have a : HT.sIx ds.length 0 (some (k : Int)) = min k ds.length := HT.sIx_nat _ _ k
  rw [a, HT.sIx_none, Nat.min_eq_left hk, List.take_of_length_le (by rw [List.length_drop]; omega)]
theorem sl_one {ds : List PyData} : (ds.drop (HT.sIx ds.length 0 (some 1))).take (HT.sIx ds.length ds.length none - HT.sIx ds.length 0 (some 1)) = ds.drop 1 := by
  have a : HT.sIx ds.length 0 (some 1) = min 1 ds.length := HT.sIx_nat _ _ 1
  rw [a, HT.sIx_none]
  cases ds with
  | nil => simp
  | cons x xs => simp [Nat.min_eq_left (show 1 ≤ xs.length + 1 by omega)]
theorem sl_to {ds : List PyData} {k : Nat} (hk : k ≤ ds.length) : (ds.drop (HT.sIx ds.length 0 none)).take (HT.sIx ds.length ds.length (some (k : Int)) - HT.sIx ds.length 0 none) = ds.take k := by
  have a : HT.sIx ds.length ds.length (some (k : Int)) = min k ds.length := HT.sIx_nat _ _ k
  rw [a, HT.sIx_none, Nat.min_eq_left hk, List.drop_zero, Nat.sub_zero]
theorem cat_vals {x z : V} {Q : VK} (px : Dp K H x (.tuple ds)) (py : Dp K H z (.tuple es)) (hl : ds.length + es.length ≤ 100000) (q : ∀ u H', Ex H H' → Dp K H' u (.tuple (ds ++ es)) → Q u H') : rCatA K x z H Q := by
  cases px with
  | @tup a xs _ ha hx =>
  cases py with
  | @tup b ys _ hb hy =>
  have lx := dps_len hx
  have ly := dps_len hy
  refine ⟨a, b, xs, ys, rfl, rfl, ha, hb, sz_of (by omega), fun ex => ?_, fun _ ey => ?_, fun _ _ p hp => q _ _ (Ex.new hp) (.tup (st_of upd_same) (dps_ex (Ex.new hp) _ _ (dps_app hx hy)))⟩
  · subst ex
    cases ds with
    | nil => exact q _ H (Ex.refl _) (.tup hb hy)
    | cons _ _ => simp at lx
  · subst ey
    cases es with
    | nil =>
      refine q _ H (Ex.refl _) ?_
      rw [List.append_nil]
      exact .tup ha hx
    | cons _ _ => simp at ly
theorem q_whenP {tz : TS} {ttu : TS} {D : Ends} {R : Bool → Hp → Prop} (h : ∀ Q : Bool → Hp → Prop, (∀ b H1, R b H1 → Q b H1) → tt σ H Q) (h1 : ∀ H1, R true H1 → ttu { D with nx := tz D } σ H1) (h2 : ∀ H1, R false H1 → tz D σ H1) : tSeq (tIfS tt ttu tNext) tz D σ H := h _ fun b H1 r => by
  cases b with
  | true => exact h1 H1 r
  | false => exact h2 H1 r
theorem str_flat (s : Str) : flat (.str s) = true := rfl
theorem ok_bent (F : Fun K "_law_bent" "_law_bent" (K18.topS 65) f fd) (gl : mg "_law_bent" = some (.ref f)) (B : Binds K fd ["_law_feed_here", "_law_item"] []) (cD : C8.Cal P w K mg base 1 "_law_draw" K18.spDraw []) (cC : C8.Cal P w K mg base 2 "_law_choice" (spChoiceV K) [])
    (mI : mg "isinstance" = none) (mt : mg "tuple" = none) (ms : mg "str" = none) (ml : mg "len" = none) (m_list : mg "list" = none) : ∀ n, FnOk P w K mg base CX0 (n + 2) f fd ["_law_feed_here", "_law_item"] (spBent K n)
  | 0 => by
    refine ⟨fun vs H Q E h => ?_, fun A outer s H args us vs Q E hr he hb hv h => ?_⟩
    · obtain ⟨d, l, m, v2, x, _, _, _, _, _, _, h, _⟩ := h
      omega
    · obtain ⟨d, l, m, v2, x, _, _, _, _, _, _, h, _⟩ := h
      omega
  | n + 1 => by
    have cB := cal F (ok_bent F gl B cD cC mI mt ms ml m_list n) gl B
    refine F.ok scBent (fun vs H Q E h => ?_) (fun cdv A outer s H vs Q E hr h => ?_)
    · obtain ⟨d, l, m, v2, x, rfl, _⟩ := h
      rfl
    · obtain ⟨d, l, m, v2, x, rfl, hF, hm, p2, hfl, ho, hdep, q⟩ := h
      refine ⟨_, pss_cons (ps_if (PW.pt (pw_and (pt_val (pe_callB call_isi (by rfl) mI (by decide +kernel) (pa_cons (pv 1) (pa_cons (pe_bltn (v := .ty "tuple") (by rfl) mt (by decide +kernel) rfl) pa_nil))))
          (pw_and (pt_cmpR (r := rNeD K) (op_neD hr.units) (pv 1) (pe_tup pa_nil) (by rfl))
          (pw_and1 (pt_cmpR op_gt (C8.pe_c cD hr (by omega) (by rfl) (pa_cons (pv 0) (pa_cons pe_int pa_nil))) pe_int (nomark _))))))
          (pss_cons (ps_set (i := 2) scBent.nd rfl (.inl rfl) (C8.pe_c cD hr (by omega) (by rfl) (pa_cons (pv 0) (pa_cons (pe_callB (r := rLenS K) call_lenS (by rfl) ml PySem.boot_len (pa_cons (pv 1) pa_nil)) pa_nil))))
          (pss_one (ps_ret (pe_op op_catA (pe_op op_catA (pe_slice sl_tupA (pv 1) po_none (po_some (pv 2))) (pe_tup (pa_cons (C8.pe_c cB hr (Nat.le_refl _) (by rfl) (pa_cons (pv 0) (pa_cons (pe_ix ix_tup (pv 1) (pv 2) (fun _ _ => rfl)) pa_nil))) pa_nil))) (pe_slice sl_tupA (pv 1) (po_some (pe_op op_add (pv 2) pe_int)) po_none))))) pss_nil)
        (pss_cons (ps_if (pt_val (pe_callB call_isi (by rfl) mI (by decide +kernel) (pa_cons (pv 1) (pa_cons (pe_bltn (v := .ty "tuple") (by rfl) mt (by decide +kernel) rfl) pa_nil))))
          (pss_one (ps_ret (C8.pe_c cC hr (by omega) (by rfl) (pa_cons (pv 0) (pa_cons (pe_lst (pa_cons (pe_op op_catA (pv 1) (pe_slice sl_tupA (pv 1) (po_some (pe_un un_neg pe_int)) po_none)) (pa_cons (pe_slice sl_tupA (pv 1) (po_some pe_int) po_none) (pa_cons (pe_callTy (T := "list") (r := rTupListOf K) call_list_of (by rfl) m_list (by decide +kernel) (pa_cons (pv 1) pa_nil)) (pa_cons (pe_revT (pv 1))
            (pa_cons pe_non (pa_cons (pe_tup pa_nil) (pa_cons pe_int (pa_cons (pe_tup (pa_cons (pv 1) pa_nil)) pa_nil))))))))) pa_nil))))) pss_nil)
        (pss_cons (ps_if (pt_val (pe_callB call_isi (by rfl) mI (by decide +kernel) (pa_cons (pv 1) (pa_cons (pe_bltn (v := .ty "str") (by rfl) ms (by decide +kernel) rfl) pa_nil))))
          (pss_one (ps_ret (C8.pe_c cC hr (by omega) (by rfl) (pa_cons (pv 0) (pa_cons (pe_lst (pa_cons pe_str (pa_cons pe_str (pa_cons pe_str (pa_cons pe_str (pa_cons pe_str (pa_cons pe_int (pa_cons pe_non (pa_cons pe_str pa_nil))))))))) pa_nil))))) pss_nil)
        (pss_one (ps_ret (C8.pe_c cC hr (by omega) (by rfl) (pa_cons (pv 0) (pa_cons (pe_lst (pa_cons pe_int (pa_cons pe_int (pa_cons pe_int (pa_cons (pe_un un_neg pe_int) (pa_cons pe_bl (pa_cons pe_non (pa_cons pe_str (pa_cons (pe_tup (pa_cons pe_int (pa_cons pe_int pa_nil))) pa_nil))))))))) pa_nil))))))), ?_⟩
      have N0 : (FeedF d l).N = 1000000 := rfl
      have hx0 : ∀ {H' : Hp} {o : Option V}, Ex H H' → EvR F0 (tVar 1) [some (.ref d), some v2, o] H' 0 (IsD K x) := fun e => rd_var0 rfl (dp_ex e _ _ p2)
      refine q_whenP (R := fun b H1 => Kx (FeedF d l).S H H1 ∧ FeedAt H1 d l (m + 1) ∧ (b = true → ∃ ds, x = .tuple ds ∧ ds ≠ [])) (fun Q q => ?_) (fun H1 ⟨k1, g1, hx⟩ => ?_) fun H1 ⟨k1, g1, _⟩ => ?_
      · refine t_first (rt_val (rv_isTup (σ := [some (.ref d), some v2, none]) rfl p2)) (fun hb H1 e1 => ?_) fun _ H1 e1 => q false H1 ⟨Kx.ex e1, (FeedF.ok.ex hF e1 : FeedAt H1 d l m).up (by omega), fun z => by cases z⟩
        obtain ⟨ds, rfl⟩ : ∃ ds, x = .tuple ds := by cases x <;> first | exact ⟨_, rfl⟩ | (exact absurd hb (by simp [isTupB]))
        refine t_first (rt_val (rb_ne0 (d' := .tuple []) (hx0 e1) (rd_tup (ds := []) F0.ok ra_nil) (ho.shaped (by decide)) (by decide +kernel))) (fun hc H2 e2 => ?_) fun _ H2 e2 => q false H2 ⟨Kx.ex (e1.trans e2), (FeedF.ok.ex hF (e1.trans e2) : FeedAt H2 d l m).up (by omega), fun z => by cases z⟩
        have e12 := e1.trans e2
        refine r_draw (d := d) (l := l) (many := 5) (i := 0) (σ := [some (.ref d), some v2, none]) (H := H2) rfl rv_c (by decide) (by decide) m H2 (by omega) (FeedF.ok.ex hF e12) Kx.refl _ fun u H3 k3 g3 ⟨r, er, _, _⟩ => ?_
        subst er
        refine ⟨_, _, rfl, rfl, _, rfl, q _ H3 ⟨(Kx.ex e12).trans k3, g3, fun _ => ⟨ds, rfl, ?_⟩⟩⟩
        rintro rfl
        exact absurd hc (by decide +kernel)
      · obtain ⟨ds, rfl, hne⟩ := hx rfl
        have fds : flats ds = true := by rw [flat_tup] at hfl; exact hfl
        have hlen := ho.len
        have hpos : 0 < ds.length := List.length_pos_iff.mpr hne
        have p21 : Dp K H1 v2 (.tuple ds) := mono_d FeedF.ok hfl _ _ _ _ hF k1 p2
        have rd : EvR (FeedF d l) (tCall K18.spDraw [] C8.E0 (tCons (tVar 0) (tCons (tCB (rLenS K) (tCons (tVar 1) tNil)) tNil))) [some (.ref d), some v2, none] H1 (0 + 1) (Below (ds.length : Int)) := r_draw (kb := 0) rfl (rv_lenT (rd_var FeedF.ok (n := m + 1) g1 rfl p21 hfl)) (by omega) (by omega)
        refine q_asgR (F := FeedF d l) (n := m + 1) (k := 0 + 1) rd g1 (by omega) fun va H2 k2 g2 ⟨r, er, r0, r1⟩ => ?_
        subst er
        obtain ⟨i, rfl⟩ : ∃ i : Nat, r = (i : Int) := ⟨r.toNat, by omega⟩
        have hi : i < ds.length := by omega
        have p22 : Dp K H2 v2 (.tuple ds) := mono_d FeedF.ok hfl _ _ _ _ g1 k2 p21
        have sl1 : EvR (FeedF d l) (tSl (rSlA K) (tVar 1) tNoPart (tPart (tVar 2))) [some (.ref d), some v2, some (.int (i : Int))] H2 0 (IsD K (.tuple (ds.take i))) := by
          rw [← sl_to (by omega : i ≤ ds.length)]
          exact rd_slT FeedF.ok (rd_var FeedF.ok (n := m + 2) g2 rfl p22 hfl) (fun _ => eo_none) fun _ => eo_some (ev_var rfl)
        have ix : ∀ {H3 : Hp}, FeedAt H3 d l (m + 2) → Dp K H3 v2 (.tuple ds) → EvR (FeedF d l) (tOp (rIxT K) (tVar 1) (tVar 2)) [some (.ref d), some v2, some (.int (i : Int))] H3 (0 + 0) (IsD K ds[i]) := fun {H3} g3 p3 =>
          rd_ix FeedF.ok (rd_var FeedF.ok (n := m + 2) g3 rfl p3 hfl) (rv_var rfl) i (by unfold ixN; rw [if_pos (by omega), if_pos (by omega)]; rfl) (List.getElem?_eq_getElem hi) hfl
        change tOp (rCatA K) (tOp (rCatA K) (tSl (rSlA K) (tVar 1) tNoPart (tPart (tVar 2))) (tTup (tCons (tCall (spBent K n) [] C8.E0 (tCons (tVar 0) (tCons (tOp (rIxT K) (tVar 1) (tVar 2)) tNil))) tNil))) (tSl (rSlA K) (tVar 1) (tPart (tOp (rI0 fun i j => .int (i + j)) (tVar 2) (tC (.int 1)))) tNoPart) [some (.ref d), some v2, some (.int (i : Int))] H2 _
        refine sl1 (m + 2) H2 (by omega) g2 Kx.refl _ fun vA H3 k3 g3 dA => ?_
        have p23 : Dp K H3 v2 (.tuple ds) := mono_d FeedF.ok hfl _ _ _ _ g2 k3 p22
        refine ⟨.ref d, rfl, ix g3 p23 (m + 2) H3 (by omega) g3 Kx.refl _ fun vi H4 k4 g4 di => ?_⟩
        have p24 : Dp K H4 v2 (.tuple ds) := mono_d FeedF.ok hfl _ _ _ _ g3 k4 p23
        have hmem := List.getElem_mem hi
        have dd := (wts_mem hmem).2
        refine ⟨d, l, m + 2, vi, ds[i], rfl, g4, by omega, di, flats_all.mp fds _ hmem, ho.mem hmem, by rw [PyData.depth] at hdep; omega, fun vb H5 y k5 g5 bn db => ⟨sz_of (by simp), fun a ha => ?_⟩⟩
        have fA : flat (.tuple (ds.take i)) = true := by rw [flat_tup]; exact flats_all.mpr fun z hz => flats_all.mp fds z (List.mem_of_mem_take hz)
        have dA5 : Dp K H5 vA (.tuple (ds.take i)) := mono_d FeedF.ok fA _ _ _ _ g4 k5 (mono_d FeedF.ok fA _ _ _ _ g3 k4 dA)
        have p25 : Dp K H5 v2 (.tuple ds) := mono_d FeedF.ok hfl _ _ _ _ g4 k5 p24
        have ea := Ex.new (o := HO.tup [vb]) ha
        refine cat_vals (ds := ds.take i) (es := [y]) (dp_ex ea _ _ dA5) (.tup (st_of upd_same) (.cons (dp_ex ea _ _ db) .nil)) (by rw [List.length_take]; simp; omega) fun u H6 e6 du => ?_
        have e56 := ea.trans e6
        have sl2 : EvR F0 (tSl (rSlA K) (tVar 1) (tPart (tOp (rI0 fun i j => .int (i + j)) (tVar 2) (tC (.int 1)))) tNoPart) [some (.ref d), some v2, some (.int (i : Int))] H6 0 (IsD K (.tuple (ds.drop (i + 1)))) := by
          rw [← sl_from (by omega : i + 1 ≤ ds.length)]
          exact rd_slT F0.ok (rd_var0 rfl (dp_ex e56 _ _ p25)) (fun _ => eo_some (ev_op (ev_var rfl) ev_c rv_I0)) fun _ => eo_none
        refine sl2 0 H6 (Nat.le_refl _) F0.g Kx.refl _ fun vC H7 e7 _ dC => ?_
        replace e7 := F0.ex e7
        refine cat_vals (dp_ex e7 _ _ du) dC (by rw [List.length_append, List.length_take, List.length_drop]; simp; omega) fun u2 H8 e8 du2 => ?_
        have eall := (e56.trans e7).trans e8
        refine q u2 H8 _ ((((k1.trans k2).trans k3).trans k4).trans (k5.trans (Kx.ex eall))) ?_ (.at_ i hi bn) du2
        have g8 : FeedAt H8 d l (m + 2 + 2 * n) := FeedF.ok.ex g5 eall
        exact g8.up (by omega)
      have p21 : Dp K H1 v2 x := mono_d FeedF.ok hfl _ _ _ _ hF k1 p2
      have fin : ∀ {tr : TA} {ds : List PyData} {H2 : Hp}, Ex H1 H2 → EvRA (FeedF d l) tr [some (.ref d), some v2, none] H2 0 (KAll (FeedF d l) K ds) → ds ≠ [] → ds.length ≤ 1000 → (∀ y ∈ ds, Bn x y) → tRet (tCall (spChoiceV K) [] C8.E0 (tCons (tVar 0) (tCons (tLst tr) tNil))) { nx := fun _ H' => Q .non H', rt := Q } [some (.ref d), some v2, none] H2 := fun {tr ds H2} e2 h hne hl hb => by
        have g2 : FeedAt H2 d l (m + 1) := FeedF.ok.ex g1 e2
        refine s_retR (F := FeedF d l) (n := m + 1) (k := 1) (r_choiceK rfl h hne hl) g2 (by omega) fun v H3 k3 g3 ⟨y, hy, dy⟩ => ?_
        exact q v H3 y ((k1.trans (Kx.ex e2)).trans k3) (FeedAt.up g3 (by omega)) (hb y hy) dy
      have nonF : ∀ {σ : L2.St} {H : Hp}, EvR (FeedF d l) (tC .non) σ H 0 (IsD K .none) := fun n H1 hn g e Q q => q _ H1 Kx.refl g .non
      have negF : ∀ {σ : L2.St} {H : Hp}, EvR (FeedF d l) (tUn (rU fun i => .int (-i)) (tC (.int 1))) σ H 0 (IsD K (.int (-1))) := fun n H1 hn g e Q q => ⟨1, rfl, q _ H1 Kx.refl g (.int _)⟩
      refine q_whenR (F := F0) (n := 0) (k := 0) (b := isTupB x) (rt_val (rv_isTup (σ := [some (.ref d), some v2, none]) rfl p21)) F0.g (Nat.le_refl _) (fun hb H2 e2 _ => ?_) fun hb H2 e2 _ => ?_
      · replace e2 := F0.ex e2
        obtain ⟨ds, rfl⟩ : ∃ ds, x = .tuple ds := by cases x <;> first | exact ⟨_, rfl⟩ | (exact absurd hb (by simp [isTupB]))
        have fds : flats ds = true := by rw [flat_tup] at hfl; exact hfl
        have hlen := ho.len
        have g2 : FeedAt H2 d l (m + 1) := FeedF.ok.ex g1 e2
        have rdx : EvR (FeedF d l) (tVar 1) [some (.ref d), some v2, none] H2 0 (IsD K (.tuple ds)) := rd_var FeedF.ok (n := m + 1) g2 rfl (dp_ex e2 _ _ p21) hfl
        have fpart : ∀ {es : List PyData}, (∀ z ∈ es, z ∈ ds) → flat (.tuple es) = true := fun h => by rw [flat_tup]; exact flats_all.mpr fun z hz => flats_all.mp fds z (h z hz)
        have s1 : EvR (FeedF d l) (tSl (rSlA K) (tVar 1) (tPart (tUn (rU fun i => .int (-i)) (tC (.int 1)))) tNoPart) [some (.ref d), some v2, none] H2 0 (IsD K (.tuple (lastOf ds))) := by
          rw [← sl_last]
          exact rd_slT FeedF.ok rdx (fun _ => eo_some (ev_un ev_c ru_neg)) fun _ => eo_none
        have s2 : EvR (FeedF d l) (tSl (rSlA K) (tVar 1) (tPart (tC (.int 1))) tNoPart) [some (.ref d), some v2, none] H2 0 (IsD K (.tuple (ds.drop 1))) := by
          rw [← sl_one]
          exact rd_slT FeedF.ok rdx (fun _ => eo_some ev_c) fun _ => eo_none
        have i1 := rd_cat (ka := 0) (kb := 0) FeedF.ok rdx s1 fds (by rw [lastOf, List.length_drop]; omega)
        exact fin (ds := bentT ds) e2 (ka_cons FeedF.ok (keepD i1 (fpart fun z hz => (List.mem_append.mp hz).elim id List.mem_of_mem_drop)) (ka_cons FeedF.ok (keepD s2 (fpart fun z hz => List.mem_of_mem_drop hz)) (ka_cons FeedF.ok (keepL (r_listOf FeedF.ok rdx) fds) (ka_cons FeedF.ok (keepD (rd_revT FeedF.ok rdx) (fpart fun z hz => List.mem_reverse.mp hz))
          (ka_cons FeedF.ok (keepD nonF) (ka_cons FeedF.ok (keepD (rd_tup (ds := []) FeedF.ok ra_nil)) (ka_cons FeedF.ok (keepD rd_int) (ka_cons FeedF.ok (keepD (rd_tup (ds := [.tuple ds]) FeedF.ok (ra_cons (ka := 0) (kb := 0) FeedF.ok rdx ra_nil hfl) (by rw [flats_cons]; exact ⟨hfl, rfl⟩)) (by rw [flat_tup, flats_cons]; exact ⟨hfl, rfl⟩)) ka_nil)))))))) (by simp [bentT]) (by simp [bentT]) fun y hy => .tup hy
      replace e2 := F0.ex e2
      have p22 := dp_ex e2 _ _ p21
      refine q_whenR (F := F0) (n := 0) (k := 0) (b := isStrB x) (rt_val (rv_isi (K := K) (T := "str") (rd_var0 (σ := [some (.ref d), some v2, none]) rfl p22) kit_str)) F0.g (Nat.le_refl _) (fun hb H3 e3 _ => ?_) fun hb H3 e3 _ => ?_
      · obtain ⟨s', rfl⟩ : ∃ s', x = .str s' := by cases x <;> first | exact ⟨_, rfl⟩ | (exact absurd hb (by simp [isStrB]))
        exact fin (ds := bentS) (e2.trans (F0.ex e3)) (ka_cons FeedF.ok (keepD rd_str) (ka_cons FeedF.ok (keepD rd_str) (ka_cons FeedF.ok (keepD rd_str) (ka_cons FeedF.ok (keepD rd_str) (ka_cons FeedF.ok (keepD rd_str) (ka_cons FeedF.ok (keepD rd_int) (ka_cons FeedF.ok (keepD nonF) (ka_cons FeedF.ok (keepD rd_str) ka_nil)))))))) (by simp [bentS]) (by simp [bentS]) fun y hy => .str hy
      · exact fin (ds := bentO) (e2.trans (F0.ex e3)) (ka_cons FeedF.ok (keepD rd_int) (ka_cons FeedF.ok (keepD rd_int) (ka_cons FeedF.ok (keepD rd_int) (ka_cons FeedF.ok (keepD negF) (ka_cons FeedF.ok (keepD rd_bl) (ka_cons FeedF.ok (keepD nonF) (ka_cons FeedF.ok (keepD rd_str) (ka_cons FeedF.ok (keepD (rd_tup (ds := [.int 0, .int 1]) FeedF.ok (ra_cons (ka := 0) (kb := 0) FeedF.ok rd_int (ra_cons (ka := 0) (kb := 0) FeedF.ok rd_int ra_nil)))) ka_nil)))))))) (by simp [bentO]) (by simp [bentO]) fun y hy => .oth hy
end
end Q21
set_option maxHeartbeats 2000000
/-! ### k21: all lots of a list of data -/
namespace Q21
open PySem PySem.Spec PyProof.Rows L2 Evl Fx Fr Dt Tr K18 So K17
section
variable {P : Program} {w : World} {K : PySem.W.Frag} {mg : Str → Option Value} {base : Heap} {f f2 f3 : Addr} {fd fd2 fd3 : FuncData} {te tl ta tb : TE} {σ σ2 : L2.St} {H H' : Hp} {k ka kb n : Nat} {d d0 : PyData} {ds es : List PyData} {g : TG} {vs : List Nat} {C : Addr} {xs ys : List V} {ss zz : List (List PyData)}
def spSetsG (K : PySem.W.Frag) : Sp := fun vs H Q _ => ∃ (v1 : V) (ws : List PyData), vs = [v1] ∧ ws.length ≤ 6 ∧ flats ws = true ∧ Dp K H v1 (.list ws) ∧ ∀ a xs H', H a = none → Ex H H' → H' a = some (.lst xs) → LsAll K H' xs (setsF ws) → Q (.ref a) H'
theorem ok_setsG (F : Fun K "_law_sets" "_law_sets" (K18.topS 57) f fd) : FnOk P w K mg base CX0 1 f fd ["_law_some"] (spSetsG K) := by
  refine F.ok scSets (fun vs H Q E h => ?_) (fun cdv A outer s H vs Q E hr h => ?_)
  · obtain ⟨v1, ws, rfl, _⟩ := h
    rfl
  · obtain ⟨v1, ws, rfl, hz, fws, p1, q⟩ := h
    refine ⟨_, pss_cons (ps_set (i := 1) scSets.nd rfl (.inl rfl) (pe_lst (pa_cons (pe_lst pa_nil) pa_nil)))
      (pss_cons (ps_for PassesOwn.never rfl (pi_list (pv 0)) (pg_name (i := 2) scSets.nd rfl (.inr rfl))
        (pss_one (ps_set (i := 1) scSets.nd rfl (.inl rfl) (pe_op op_cat (pv 1) (pe_lc (own := [("_law_lot", 3)]) (g := gName 3) (by rfl) scSets.nd (pi_list (pv 1)) (blkOk_by (own := [("_law_lot", 3)]) (N := nSets) (sc := defScope (K18.topS 57)) (by decide +kernel)) (fun _ _ _ _ _ => pg_name (i := 3) scSets.nd rfl (.inl rfl)) (fun _ _ _ _ _ => pts_nil)
          (te := tOp rCat (tVar 3) (tLst (tCons (tVar 2) tNil))) (fun _ _ _ _ _ => pe_op op_cat (pv 3) (pe_lst (pa_cons (pv 2) pa_nil))))))))
      (pss_one (ps_ret (pv 1)))), ?_⟩
    cases p1 with
    | @lst a0 xs0 _ ha0 hx0 =>
    have lx0 := dps_len hx0
    have small : ∀ m, (setsF (ws.take m)).length ≤ 64 := fun m => by
      rw [sets_len]
      refine Nat.le_trans (Nat.pow_le_pow_right (by decide) (show (ws.take m).length ≤ 6 by rw [List.length_take]; omega)) (by decide)
    have fine : ∀ m, ∀ s ∈ setsF (ws.take m), s.length ≤ 100 ∧ flats s = true := fun m s h => by
      obtain ⟨h1, h2⟩ := sets_mem _ s h
      rw [List.length_take] at h1
      exact ⟨by omega, flats_all.mpr fun z hz => flats_all.mp fws z (List.mem_of_mem_take (h2 z hz))⟩
    refine q_asgX ⟨sz_of (by simp), fun b hb => ⟨sz_of (by simp), fun A hA => ?_⟩⟩
    have eb := Ex.new (o := HO.lst []) hb
    have eA := Ex.new (o := HO.lst [V.ref b]) hA
    have nA : H A = none := by
      cases z : H A with
      | none => rfl
      | some o => rw [eb _ _ z] at hA; cases hA
    have h1 : upd (upd H b (.lst [])) A (.lst [.ref b]) A = some (.lst [.ref b]) := upd_same
    have l1 : LsAll K (upd (upd H b (.lst [])) A (.lst [.ref b])) [.ref b] (setsF (ws.take 0)) := .cons (eA _ _ upd_same) .nil .nil
    have e1 := eb.trans eA
    generalize upd (upd H b (.lst [])) A (.lst [.ref b]) = H1 at h1 l1 e1
    change tSeq (tFor (iList K (tVar 0)) (gName 2) _) _ _ [some (.ref a0), some (.ref A), none, none] H1
    refine q_forLs (a := a0) (xs := xs0) rfl (fun m σ' H' => ∃ A xs u2, σ' = [some (.ref a0), some (.ref A), u2, none] ∧ Ex H H' ∧ H A = none ∧ H' A = some (.lst xs) ∧ LsAll K H' xs (setsF (ws.take m))) ⟨A, _, none, rfl, e1, nA, h1, l1⟩ (fun m σ' H' ⟨_, _, _, _, e, _⟩ => ex_l e ha0) (fun m x σ' H' hxm ⟨A, xs, u2, es, e, nA, hA, hl⟩ => ?_) fun σ' H' ⟨A, xs, u2, es, e, nA, hA, hl⟩ => ?_
    · subst es
      have hm : m < ws.length := by
        have := (List.getElem?_eq_some_iff.mp hxm).1
        omega
      have hdm : ws[m]? = some ws[m] := List.getElem?_eq_getElem hm
      have dx : Dp K H' x ws[m] := by
        obtain ⟨u', hu, du⟩ := dps_get (dps_ex e _ _ hx0) hdm
        rw [hxm] at hu
        cases hu
        exact du
      have fx : flat ws[m] = true := flats_all.mp fws _ (List.getElem_mem hm)
      have htk : ws.take (m + 1) = ws.take m ++ [ws[m]] := by rw [List.take_add_one, hdm]; rfl
      have s1 := small m
      have f1 := fine m
      generalize ws[m] = d at dx fx htk
      have lxs := ls_len hl
      refine ⟨.ref A, rfl, r_lcSet (i := 1) (j := 3) (m := 2) (vs := [3]) (σ := [some (.ref a0), some (.ref A), some x, none]) rfl hA hl (by omega) f1 dx fx (fun _ => rfl) (fun _ => rfl) (fun _ => rfl) 0 H' (Nat.le_refl _) F0.g Kx.refl _ fun v H2 e2 _ ⟨D, us, ev, hD, hls⟩ => ?_⟩
      replace e2 := F0.ex e2
      have lus := ls_len hls
      rw [List.length_map] at lus
      refine ⟨A, D, xs, us, rfl, ev, e2 _ _ hA, hD, sz_of (by omega), fun p hp => ?_⟩
      have ep := Ex.new (o := HO.lst (xs ++ us)) hp
      refine ⟨p, xs ++ us, some x, rfl, e.trans (e2.trans ep), ?_, upd_same, ?_⟩
      · cases z : H p with
        | none => rfl
        | some o => rw [e2 _ _ (e _ _ z)] at hp; cases hp
      · rw [htk, sets_snoc]
        exact ls_ex ep (ls_app (ls_ex e2 hl) hls)
    · subst es
      rw [lx0, List.take_length] at hl
      exact ⟨.ref A, rfl, q A xs H' nA e hA hl⟩
end
end Q21
set_option maxHeartbeats 2000000
/-! ### k21: what is due is short -/
namespace Q21
open PySem PySem.Spec PyProof.Rows L2 Evl Fx Fr Dt Tr K18 So K17
def spanR (s : Str) (m : Int) : Prop := PyData.strOk s = true ∧ s.cps.size ≤ 8 ∧ (m = 0 ∨ m = 1)
def NR (t : T) : Prop := ∀ s ∈ subs t, spanR s.name s.mark
def NRP : Pc → Prop
  | .top t => NR t
  | .lost ts => ∀ t ∈ ts, NR t
theorem nr_mk {t : T} : NR t ↔ spanR t.name t.mark ∧ ∀ c ∈ t.calls, NR c := by
  have mem : ∀ {ts : List T} {s : T}, s ∈ subsA ts ↔ ∃ c ∈ ts, s ∈ subs c := fun {ts s} => by
    induction ts with
    | nil => rw [subsA]; simp
    | cons t ts ih => rw [subsA, List.mem_append, ih]; simp
  unfold NR
  rw [subs_eq]
  constructor
  · intro h
    exact ⟨h t (List.mem_cons_self ..), fun c hc s hs => h s (List.mem_cons_of_mem _ (mem.mpr ⟨c, hc, hs⟩))⟩
  · rintro ⟨h1, h2⟩ s hs
    rcases List.mem_cons.mp hs with rfl | hs
    · exact h1
    · obtain ⟨c, hc, hs⟩ := mem.mp hs
      exact h2 c hc s hs
mutual
theorem seen_nr (keep : List Nat → Bool) : ∀ (w : List Nat) (t : T), NR t → (∀ s ∈ (seenT keep w t).1.toList, NR s) ∧ ∀ p ∈ (seenT keep w t).2, NRP p
  | w, .mk s m cs, h => by
    obtain ⟨h1, h2⟩ := nr_mk.mp h
    obtain ⟨a, b⟩ := seens_nr keep w 0 cs h2
    rw [seenT]
    by_cases hk : keep w = true
    · rw [if_pos hk]
      refine ⟨fun x hx => ?_, b⟩
      simp only [Option.toList_some, List.mem_singleton] at hx
      subst hx
      exact nr_mk.mpr ⟨h1, fun c hc => a c ((sort_perm _).mem_iff.mp hc)⟩
    · rw [if_neg hk]
      refine ⟨fun x hx => by simp at hx, fun p hp => ?_⟩
      rcases List.mem_append.mp hp with hp | hp
      · exact b p hp
      · unfold pcLost at hp
        split at hp
        · cases hp
        · rw [List.mem_singleton.mp hp]
          exact fun t ht => a t ((sort_perm _).mem_iff.mp ht)
theorem seens_nr (keep : List Nat → Bool) : ∀ (w : List Nat) (i : Nat) (ts : List T), (∀ t ∈ ts, NR t) → (∀ s ∈ (seenL keep w i ts).1, NR s) ∧ ∀ p ∈ (seenL keep w i ts).2, NRP p
  | w, i, [], _ => by
    rw [seenL]
    exact ⟨fun s h => (by cases h), fun p h => (by cases h)⟩
  | w, i, t :: ts, h => by
    obtain ⟨a1, a2⟩ := seen_nr keep (w ++ [i]) t (h t (List.mem_cons_self ..))
    obtain ⟨b1, b2⟩ := seens_nr keep w (i + 1) ts fun x hx => h x (List.mem_cons_of_mem _ hx)
    rw [seenL]
    refine ⟨fun s hs => ?_, fun p hp => ?_⟩
    · rcases List.mem_append.mp hs with hs | hs
      · exact a1 s hs
      · exact b1 s hs
    · rcases List.mem_append.mp hp with hp | hp
      · exact a2 p hp
      · exact b2 p hp
end
theorem name_ok {s : Str} (h : nameB s = true) : PyData.strOk s = true ∧ s.cps.size ≤ 8 := by
  unfold nameB at h
  rw [Bool.and_eq_true, Bool.and_eq_true] at h
  obtain ⟨⟨_, h2⟩, h3⟩ := h
  refine ⟨?_, ?_⟩
  · unfold PyData.strOk
    rw [← Array.all_toList, List.all_eq_true]
    intro c hc
    have := List.all_eq_true.mp h3 c hc
    rw [letter_is, Bool.and_eq_true, decide_eq_true_iff, decide_eq_true_iff] at this
    exact decide_eq_true (by omega)
  · exact of_decide_eq_true h2
theorem nr_tree {t : T} (h : treeB (enc t) = true) : NR t := fun s hs => by
  rw [tree_subs, List.all_eq_true] at h
  have := h s hs
  unfold spanOk at this
  rw [Bool.and_eq_true, Bool.and_eq_true] at this
  obtain ⟨a, b⟩ := name_ok this.1
  refine ⟨a, b, ?_⟩
  have m := this.2.1
  unfold markB at m
  rw [Bool.or_eq_true, beq_iff_eq, beq_iff_eq] at m
  exact m
mutual
theorem sh_nr : ∀ t : T, NR t → okB (enc t) = true ∧ PyData.weight (enc t) + 1 ≤ 13 * size t
  | .mk s m cs, h => by
    obtain ⟨⟨h1, h2, h3⟩, h4⟩ := nr_mk.mp h
    obtain ⟨a, b⟩ := sh_nrs cs h4
    have hi := sh_int' (i := m) (by rcases h3 with e | e <;> (have e : m = _ := e; subst e; decide))
    have wi := w_int (i := m) h3
    have hs : Sh 0 8 (.str s) := sh_str' h1 h2
    have ws : PyData.weight (.str s) ≤ 8 := hs.wt
    rw [enc, size]
    refine ⟨?_, ?_⟩
    · rw [(ok_lst _).1]
      simp only [List.all_cons, List.all_nil, sh_ok hs, sh_ok hi, a, Bool.true_and, Bool.and_true]
    · have : PyData.weight (.tuple [.str s, .int m, .tuple (encs cs)]) = PyData.weight (.str s) + 1 + (PyData.weight (.int m) + 1 + (PyData.weightAll (encs cs) + 1 + 0)) := by
        simp only [PyData.weight, PyData.weightAll]
      rw [this]
      omega
theorem sh_nrs : ∀ ts : List T, (∀ t ∈ ts, NR t) → okB (.tuple (encs ts)) = true ∧ PyData.weightAll (encs ts) ≤ 13 * sizes ts
  | [], _ => by rw [encs, (ok_lst _).1]; simp [PyData.weightAll]
  | t :: ts, h => by
    obtain ⟨a1, a2⟩ := sh_nr t (h t (List.mem_cons_self ..))
    obtain ⟨b1, b2⟩ := sh_nrs ts fun x hx => h x (List.mem_cons_of_mem _ hx)
    have c := size_eq t
    rw [encs, sizes, PyData.weightAll]
    rw [(ok_lst _).1] at b1 ⊢
    rw [List.all_cons, a1, b1]
    exact ⟨rfl, by omega⟩
end
theorem wt_nrp {p : Pc} (h : NRP p) : okB p.D = true ∧ PyData.weight p.D ≤ 13 * p.size + 6 := by
  cases p with
  | top t =>
    obtain ⟨a, b⟩ := sh_nr t h
    refine ⟨?_, ?_⟩
    · simp only [Pc.D, (ok_lst _).1, List.all_cons, List.all_nil, a]
      decide +kernel
    · have : PyData.weight (Pc.top t).D = 3 + 1 + (PyData.weight (enc t) + 1 + 0) := by
        simp only [Pc.D, PyData.weight, PyData.weightAll]
        rfl
      rw [this, Pc.size]
      omega
  | lost ts =>
    obtain ⟨a, b⟩ := sh_nrs ts h
    rw [encs_map] at a b
    refine ⟨?_, ?_⟩
    · simp only [Pc.D, (ok_lst (_ :: _)).1, List.all_cons, List.all_nil, a]
      decide +kernel
    · have : PyData.weight (Pc.lost ts).D = 4 + 1 + (PyData.weightAll (ts.map enc) + 1 + 0) := by
        simp only [Pc.D, PyData.weight, PyData.weightAll]
        rfl
      rw [this, Pc.size]
      omega
theorem nrp_of {p : Pc} (h : pieceB p.D = true) : NRP p ∧ NR (treeOf p) := by
  cases p with
  | top t =>
    have : treeB (enc t) = true := by
      have e : PyData.eqv (.str "top") (.str "top") = true := by decide +kernel
      simpa only [Pc.D, pieceB, e, if_true] using h
    exact ⟨nr_tree this, nr_tree this⟩
  | lost ts =>
    have hc : callsB (.tuple (ts.map enc)) = true := by
      have e : PyData.eqv (.str "lost") (.str "top") = false := by decide +kernel
      rw [Pc.D, pieceB, if_neg (by rw [e]; decide), Bool.and_eq_true] at h
      exact h.2
    rw [callsB, Bool.and_eq_true, Bool.and_eq_true, List.all_eq_true] at hc
    have hn : ∀ t ∈ ts, NR t := fun t ht => nr_tree (hc.2.1 _ (List.mem_map.mpr ⟨t, ht, rfl⟩))
    have h0 : PyData.strOk "" = true ∧ ("" : Str).cps.size ≤ 8 := ⟨by decide +kernel, by decide +kernel⟩
    exact ⟨hn, nr_mk.mpr ⟨⟨h0.1, h0.2, .inl rfl⟩, hn⟩⟩
theorem pc_inj : ∀ {ps qs : List Pc}, ps.map Pc.D = qs.map Pc.D → ps = qs
  | [], [], _ => rfl
  | [], _ :: _, h => by simp at h
  | _ :: _, [], h => by simp at h
  | p :: ps, q :: qs, h => by
    rw [List.map_cons, List.map_cons, List.cons.injEq] at h
    rw [toks_piece p q (by rw [h.1]), pc_inj h.2]
def oddS : PyData := .tuple [.str "usable", .str "sight", .int (-1)]
theorem left_sh {lot : List Str} {ps : List Pc} (h : ∀ p ∈ ps, NR (treeOf p)) (h1 : psizes ps ≤ 12) (h2 : ps.length ≤ 15) : Sh 45 90000 (toldD (leftP lot ps)) := by
  rw [left_kept]
  have hm : ∀ q, q ∈ keptS (flagOf (heldOf lot ps)) ps → NRP q ∧ q.size ≤ 13 := fun q hq => by
    have hq := (sortP_mem _).mem_iff.mp hq
    unfold rawT at hq
    obtain ⟨i, hi, hq⟩ := List.mem_flatMap.mp hq
    have hi := List.mem_range.mp hi
    have e : ps.getD i (.lost []) = ps[i] := by rw [List.getD_eq_getElem?_getD, List.getElem?_eq_getElem hi]; rfl
    have hsz := (rawAt_bd (flagOf (heldOf lot ps)) (ps.getD i (.lost [])) i).2 q hq
    have hg := getP_size h1 i
    refine ⟨?_, by omega⟩
    have hn := h ps[i] (List.getElem_mem hi)
    rw [← e] at hn
    obtain ⟨n1, n2⟩ := seen_nr (flagOf (heldOf lot ps)) [i] _ hn
    unfold rawAt at hq
    rcases List.mem_append.mp hq with hq | hq
    · exact n2 q hq
    · obtain ⟨s, hs, rfl⟩ := List.mem_map.mp hq
      exact n1 s hs
  have hl : (keptS (flagOf (heldOf lot ps)) ps).length ≤ 210 := by
    have := raw_len (heldOf lot ps) ps h1 ps.length (Nat.le_refl _)
    rw [keptS, (sortP_mem _).length_eq]
    omega
  generalize keptS (flagOf (heldOf lot ps)) ps = qs at hm hl
  have key : Sh (41 + 1) (2 * (210 * 201 + 1)) (toldD qs) := sh_tup (n := 41) (w := 210 * 201) (m := 2) (fun d hd => by
    rcases List.mem_cons.mp hd with rfl | hd
    · exact (str_sh (by decide +kernel) (by decide +kernel)).mono (by decide) (by decide)
    · rw [List.mem_singleton.mp hd]
      refine (sh_tup (n := 40) (w := 200) (m := 210) (fun d hd => ?_) (by rw [List.length_map]; exact hl))
      obtain ⟨p, hp', rfl⟩ := List.mem_map.mp hd
      obtain ⟨a, b⟩ := hm p hp'
      obtain ⟨c1, c2⟩ := wt_nrp a
      have := p.depth
      exact ok_sh c1 (by omega) (by omega)) (by simp)
  exact key.mono (by decide) (by decide)
/-- what is due -/
theorem due_is {lot : List Str} {d : PyData} (h : Itm d) : ∃ r, flat r = true ∧ Sh 45 90000 r ∧ (∃ es, r = .tuple es) ∧ (sightB d = true → ∀ ps : List Pc, d = .tuple (ps.map Pc.D) → r = toldD (leftP lot ps)) ∧ (sightB d = false → r = oddS) := by
  cases hs : sightB d with
  | false => exact ⟨oddS, rfl, ⟨by decide +kernel, by decide +kernel, by decide +kernel, by decide +kernel, by decide +kernel, by decide +kernel⟩, ⟨_, rfl⟩, (fun z => by cases z), fun _ => rfl⟩
  | true =>
    obtain ⟨ds, rfl⟩ : ∃ ds, d = .tuple ds := by cases d <;> first | exact ⟨_, rfl⟩ | (exact absurd hs (by simp [sightB]))
    have ha : ds.all pieceB = true := by
      rw [sightB, Bool.and_eq_true] at hs
      exact hs.1
    obtain ⟨ps, rfl⟩ := pieces_are ha
    obtain ⟨z1, z2, _⟩ := h.2 ps rfl
    refine ⟨toldD (leftP lot ps), told_flat _, (left_sh (fun p hp => ?_) z1 z2).mono (by decide) (by decide), ⟨_, rfl⟩, fun _ qs e => ?_, (fun z => by cases z)⟩
    · exact (nrp_of (List.all_eq_true.mp ha _ (List.mem_map.mpr ⟨p, hp, rfl⟩))).2
    · rw [PyData.tuple.injEq] at e
      rw [pc_inj e]
end Q21
set_option maxHeartbeats 4000000
/-! ### k21: _law_agrees -/
namespace Q21
open PySem PySem.Spec PyProof.Rows L2 Evl Fx Fr Dt Tr K18 So K17 DtG
def nAgr2 : List Str := ["_law_item", "_law_lots", "_law_lot", "_law_kept", "_law_due_here", "_law_told", "_law_own"]
theorem scAgr2 : FnScope nAgr2 ["_law_item", "_law_lots"] (defScope (K18.topS 68)) := ⟨rfl, rfl, rfl, by decide +kernel, rfl, by decide +kernel, by decide +kernel⟩
def lotD (lot : List Str) : PyData := .tuple (lot.map PyData.str)
def LotOk (lot : List Str) : Prop := lot.length ≤ 4 ∧ ∀ s ∈ lot, PyData.strOk s = true ∧ s.cps.size ≤ 5
theorem lot_sh {lot : List Str} (h : LotOk lot) : Sh 38 500 (lotD lot) := (sh_tup (n := 0) (w := 5) (m := 4) (fun d hd => by
  obtain ⟨s, hs, rfl⟩ := List.mem_map.mp hd
  exact sh_str' (h.2 s hs).1 (h.2 s hs).2) (by rw [List.length_map]; exact h.1)).mono (by decide) (by decide)
theorem lot_flat (lot : List Str) : flat (lotD lot) = true := by
  rw [lotD, flat_tup]
  exact flats_all.mpr fun d hd => by
    obtain ⟨s, _, rfl⟩ := List.mem_map.mp hd
    rfl
section
variable {P : Program} {w : World} {K : PySem.W.Frag} {mg : Str → Option Value} {base : Heap} {f f2 f3 : Addr} {fd fd2 fd3 : FuncData} {te tl ta tb : TE} {σ σ2 : L2.St} {H H' : Hp} {k ka kb n : Nat} {d d0 r : PyData} {ds es : List PyData} {g : TG} {vs : List Nat} {C : Addr} {xs ys : List V} {TS : List (Addr × Str)} {lot : List Str}
def spAgr2 (K : PySem.W.Frag) (P : Addr) : Sp := fun vs H Q _ => ∃ (v1 v2 : V) (d : PyData) (lots : List (List Str)), vs = [v1, v2] ∧ Dp K H v1 d ∧ Itm d ∧ Dp K H v2 (.list (lots.map lotD)) ∧ (∀ lot ∈ lots, LotOk lot) ∧ LamX.Tabs [(P, lamQ)] H ∧ ∀ H', LamX.ExtN H H' → LamX.Tabs [(P, lamQ)] H' → Q (.bl true) H'
/-- what is due, r: as the item's sight is -/
structure IsDue (lot : List Str) (d r : PyData) : Prop where
  fl : flat r = true
  sh : Sh 45 90000 r
  yes : sightB d = true → ∀ ps : List Pc, d = .tuple (ps.map Pc.D) → r = toldD (leftP lot ps)
  no : sightB d = false → r = oddS
theorem left_told {v x : V} {Q : VK} (ok : Itm d) (hl : LotOk lot) (p1 : Dp K H v d) (p2 : Dp K H x (lotD lot)) (D : IsDue lot d r) (q : ∀ p H', Ex H H' → Dp K H' (.ref p) r → Q (.ref p) H') :
    spLeft K C [v, x] H (fun u H2 => ∀ p, H2 p = none → Q (.ref p) (upd H2 p (.tup [.str "told", u]))) (exOut C Q) := by
  refine ⟨v, x, d, lot, rfl, p1, ok.1.1, p2, by have := hl.1; omega, fun hb ps e => ?_, fun hb H2 dd fs e2 hd lw la => ⟨rfl, dd, fs, _, _, rfl, hd, lw, la, fun H3 p e3 hp => ?_⟩⟩
  · obtain ⟨z1, z2, _⟩ := ok.2 ps e
    refine ⟨z1, z2, fun u H2 e2 du p hp => ?_⟩
    have ep := Ex.new (o := HO.tup [V.str "told", u]) hp
    refine q p _ (e2.trans ep) ?_
    rw [D.yes hb ps e, toldD]
    exact .tup (st_of upd_same) (.cons (.str _) (.cons (dp_ex ep _ _ du) .nil))
  · refine q p H3 (e2.trans e3) ?_
    rw [D.no hb]
    exact .tup (st_of hp) (.cons (.str _) (.cons (.str _) (.cons (.int _) .nil)))
theorem lam1 {PT : Addr} {i j : Nat} {v x : V} {Q : VK} (hi : σ[i]? = some (some v)) (hj : σ[j]? = some (some x)) (hT : LamX.Tabs [(PT, lamQ)] H) (ok : Itm d) (hl : LotOk lot) (p1 : Dp K H v d) (p2 : Dp K H x (lotD lot)) (D : IsDue lot d r)
    (q : ∀ p H', LamX.ExtN H H' → LamX.Tabs [(PT, lamQ)] H' → Dp K H' (.ref p) r → Q (.ref p) H') : LamX.tLam [(PT, lamQ)] (TOut C) (fun E => tCall (spLeft K C) [] E (tCons (tVar i) (tCons (tVar j) tNil))) σ H Q :=
  ⟨hT, fun H1 e1 T1 H2 e2 => ⟨v, hi, x, hj, left_told ok hl (dp_ex e2 _ _ (dp_n e1 _ _ p1)) (dp_ex e2 _ _ (dp_n e1 _ _ p2)) D fun p H3 e3 dp => q p H3 (e1.trans (ex_n (e2.trans e3))) (T1.ext fun b o h => (e2.trans e3) b o h) dp⟩⟩
theorem lam2 {PT : Addr} {i j : Nat} {v x : V} {Q : VK} (hi : σ[i]? = some (some v)) (hj : σ[j]? = some (some x)) (hT : LamX.Tabs [(PT, lamQ)] H) (ok : Itm d) (hl : LotOk lot) (p1 : Dp K H v d) (p2 : Dp K H x (lotD lot)) (D : IsDue lot d r)
    (q : ∀ p H', LamX.ExtN H H' → LamX.Tabs [(PT, lamQ)] H' → Dp K H' (.ref p) r → Q (.ref p) H') : LamX.tLam [(PT, lamQ)] (TOut C) (fun E => tCallN 0 (["services", "sight"] : List Str).length (spLeft K C) (fun _ zs => zs.reverse) E tNil (tCons (tVar j) (tCons (tVar i) tNil))) σ H Q :=
  ⟨hT, fun H1 e1 T1 H2 e2 => ⟨x, hj, v, hi, rfl, rfl, left_told ok hl (dp_ex e2 _ _ (dp_n e1 _ _ p1)) (dp_ex e2 _ _ (dp_n e1 _ _ p2)) D fun p H3 e3 dp => q p H3 (e1.trans (ex_n (e2.trans e3))) (T1.ext fun b o h => (e2.trans e3) b o h) dp⟩⟩
theorem r_due2 {i j : Nat} {v x : V} {E : XK} (hi : σ[i]? = some (some v)) (hj : σ[j]? = some (some x)) (ok : Itm d) (p1 : Dp K H v d) (p2 : Dp K H x (lotD lot)) (D : IsDue lot d r) : EvR F0 (tCall (spLDue K 30) [] E (tCons (tVar i) (tCons (tVar j) tNil))) σ H 0 (IsD K r) := fun n H1 hn g e Q q => by
  refine ⟨v, hi, x, hj, v, x, d, lot, rfl, dp_ex (F0.ex e) _ _ p1, ok.1, ok.2, dp_ex (F0.ex e) _ _ p2, fun hb ps ed v' H' ex dv => ?_, fun hb v' H' ex dv => ?_⟩
  · refine q v' H' (Kx.ex ex) F0.g ?_
    rw [D.yes hb ps ed]
    exact dv
  · refine q v' H' (Kx.ex ex) F0.g ?_
    rw [D.no hb]
    exact dv
theorem ok_agr2 {c PT fs fo fdu : Addr} {fds fdo fdd : FuncData} {C CT CI CP CR CB CX CN : Addr} (F : FunC K "_law_agrees" "_law_agrees" (K18.topS 68) f fd c) (TB : LamX.TabB base mg c PT)
    (Fs : FnOk P w K mg base (L2.CX P w) 9 fs fds ["sight", "services"] (spLeft K C)) (gs : mg "left_of" = some (.ref fs)) (ks : PySem.W.keepIn K (.ref fs) = true) (bs : L2.Binds K fds ["sight", "services"] []) (bk : KBn K fds ["sight", "services"] 0 ["services", "sight"] (fun _ ws => ws.reverse) (fun _ zs => zs.reverse))
    (Fo : Fun K "_law_outcome" "_law_outcome" (K18.topS 66) fo fdo) (go : mg "_law_outcome" = some (.ref fo)) (bo : L2.Binds K fdo ["_law_ask"] []) (T : OutK K mg C CT CI CP CR CB CX CN)
    (Fd : FnG P w K mg base CX0 33 fdu fdd ["_law_item", "_law_lot"] (spLDue K 30)) (gd : mg "_law_due" = some (.ref fdu)) (kd : PySem.W.keepIn K (.ref fdu) = true) (bd : L2.Binds K fdd ["_law_item", "_law_lot"] [])
    (m_repr : mg "repr" = none) : FnG P w K mg base CX0 34 f fd ["_law_item", "_law_lots"] (spAgr2 K PT) := by
  refine okGC F scAgr2 (fun vs H Q E h => ?_) (fun A outer s H vs Q E hgd hr h => ?_)
  · obtain ⟨v1, v2, d, lots, rfl, _⟩ := h
    rfl
  · obtain ⟨v1, v2, d, lots, rfl, p1, hI, p2, hL, hT, q⟩ := h
    have hko := Fo.kp
    obtain ⟨oc, od, kV, doc, pm, an, cdv, ct, osl, rfl, lk, hcd⟩ := Fo.ex
    have hu65 : (A.deeper (envOfC "_law_agrees" (defScope (K18.topS 68)) s.heap.objs.size f (.ref c))).units + 300 < cLine := by
      have := hr.un
      omega
    refine ⟨_, pss_cons (ps_for PassesOwn.never rfl (pi_list (pv 1)) (pg_name (i := 2) scAgr2.nd rfl (.inr rfl))
        (pss_cons (ps_par (i := 3) (j := 4) rfl scAgr2.nd rfl rfl (by decide) rfl rfl (pa_cons (pe_callB (r := rReprX K) (cr_reprX hgd hr.units) (by rfl) m_repr (by decide +kernel) (pa_cons (pe_tup (pa_cons (pv 0) (pa_cons (pv 2) pa_nil))) pa_nil)) (pa_cons (pe_callB (r := rReprX K) (cr_reprX hgd hr.units) (by rfl) m_repr (by decide +kernel) (pa_cons (pe_callG (E := C8.E0) Fd hgd hr (by rfl) gd kd bd C8.pass0 (pa_cons (pv 0) (pa_cons (pv 2) pa_nil))) pa_nil)) pa_nil)) (by rfl))
        (pss_cons (ps_set (i := 5) scAgr2.nd rfl (.inl rfl) (pe_lst (pa_cons (LamX.pe_lamcall (T := [(PT, lamQ)]) (TT := TOut C) (Ng := nOut) (t := fun E => tCall (spLeft K C) [] E (tCons (tVar 0) (tCons (tVar 2) tNil))) (k := 9) (by rfl) go hko lk hcd bo scOut rfl (.inl rfl) (out_gives T hu65) TB rfl (List.mem_singleton.mpr rfl) (fun p hp _ => by rw [List.mem_singleton.mp hp]; rfl) (hr.mono (by decide)) (LamX.lamS_by (by kernel_rfl)) rfl (fun _ _ _ _ _ => rfl)
            (fun A' outer' s' H' E' f' c' hr' => pe_call Fs hr' (by rfl) gs ks bs .nil (passes_call (takes_of rfl rfl rfl rfl) fun _ _ _ _ h => h) (pa_cons (pv 0) (pa_cons (pv 2) pa_nil)))) pa_nil)))
        (pss_cons (ps_expr (pe_bm PySem.F.plainAttrs_list PySem.F.slot_list_append PySem.F.type_list_append mt_append (pv 5) (pa_cons (LamX.pe_lamcall (T := [(PT, lamQ)]) (TT := TOut C) (Ng := nOut) (t := fun E => tCallN 0 (["services", "sight"] : List Str).length (spLeft K C) (fun _ zs => zs.reverse) E tNil (tCons (tVar 2) (tCons (tVar 0) tNil))) (k := 9) (by rfl) go hko lk hcd bo scOut rfl (.inl rfl) (out_gives T hu65) TB rfl (List.mem_singleton.mpr rfl) (fun p hp _ => by rw [List.mem_singleton.mp hp]; rfl) (hr.mono (by decide)) (LamX.lamS_by (by kernel_rfl)) rfl (fun _ _ _ _ _ => rfl)
            (fun A' outer' s' H' E' f' c' hr' => pe_callW0 Fs hr' (by rfl) gs ks bk (passes_call (takes_of rfl rfl rfl rfl) fun _ _ _ _ h => h) (pk_cons (pv 2) (pk_cons (pv 0) pk_nil)))) pa_nil)))
        (pss_one (ps_if (PW.pt (pw_or (pt_cmpR (op_neL hr.units) (pe_lc (own := [("_law_own", 6)]) (g := gName 6) (by rfl) scAgr2.nd (pi_list (pv 5)) (blkOk_by (own := [("_law_own", 6)]) (N := nAgr2) (sc := defScope (K18.topS 68)) (by decide +kernel)) (fun _ _ _ _ _ => pg_name (i := 6) scAgr2.nd rfl (.inl rfl)) (fun _ _ _ _ _ => pts_nil)
              (te := tCB (rReprX K) (tCons (tVar 6) tNil)) (fun _ _ _ _ _ => pe_callB (r := rReprX K) (cr_reprX hgd hr.units) (by rfl) m_repr (by decide +kernel) (pa_cons (pv 6) pa_nil))) (pe_lst (pa_cons (pv 4) (pa_cons (pv 4) pa_nil))) (nomark _))
            (pw_or1 (pt_cmpR op_ne (pe_callB (r := rReprX K) (cr_reprX hgd hr.units) (by rfl) m_repr (by decide +kernel) (pa_cons (pe_tup (pa_cons (pv 0) (pa_cons (pv 2) pa_nil))) pa_nil)) (pv 3) (nomark _))))) (pss_one (ps_ret pe_bl)) pss_nil))))))
      (pss_one (ps_ret pe_bl)), ?_⟩
    cases p2 with
    | @lst LA xs _ hLA dLA =>
    have lLA := dps_len dLA
    rw [List.length_map] at lLA
    change tSeq (tFor (iList K (tVar 1)) (gName 2) _) _ _ [some v1, some (.ref LA), none, none, none, none, none] H
    refine ⟨.ref LA, rfl, LA, rfl, ⟨xs, hLA⟩, for_list (xs := xs) (fun m σ' H' => ∃ u2 u3 u4 u5, σ' = [some v1, some (.ref LA), u2, u3, u4, u5, none] ∧ LamX.ExtN H H' ∧ LamX.Tabs [(PT, lamQ)] H') ⟨none, none, none, none, rfl, LamX.ExtN.refl _, hT⟩ (fun m σ' H' _ ⟨_, _, _, _, _, e, _⟩ => sqL_n e hLA) (fun m x σ' H' hxm ⟨u2, u3, u4, u5, es, e, TH⟩ => ?_) fun σ' H' ⟨u2, u3, u4, u5, es, e, TH⟩ => ?_⟩
    · subst es
      have hm : m < lots.length := by
        have := (List.getElem?_eq_some_iff.mp hxm).1
        omega
      have hok := hL _ (List.getElem_mem hm)
      have dx : Dp K H' x (lotD lots[m]) := by
        obtain ⟨u', hu, du⟩ := dps_get dLA (show (lots.map lotD)[m]? = some (lotD lots[m]) by rw [List.getElem?_map, List.getElem?_eq_getElem hm]; rfl)
        rw [hxm] at hu
        cases hu
        exact dp_n e _ _ du
      generalize lots[m] = lot at hok dx
      have pt := dp_n e _ _ p1
      obtain ⟨r, r1, r2, _, r3, r4⟩ := due_is (lot := lot) hI
      have D : IsDue lot d r := ⟨r1, r2, r3, r4⟩
      have pairSh : Sh 39 1100 (.tuple [d, lotD lot]) := (sh_tup (n := 38) (w := 500) (m := 2) (fun y hy => by
        rcases List.mem_cons.mp hy with rfl | hy
        · exact hI.1.1
        · rw [List.mem_singleton.mp hy]
          exact lot_sh hok) (by simp)).mono (by decide) (by decide)
      have dueSh := D.sh
      have rep : ∀ {σ2 : L2.St} {H2 : Hp}, σ2[0]? = some (some v1) → σ2[2]? = some (some x) → Dp K H2 v1 d → Dp K H2 x (lotD lot) → EvR F0 (tCB (rReprX K) (tCons (tTup (tCons (tVar 0) (tCons (tVar 2) tNil))) tNil)) σ2 H2 0 (fun y _ => y = .str (PyData.shown (.tuple [d, lotD lot]))) := fun h0 h6 d1 d2 =>
        rv_reprX (rd_tup0 (ra_cons0 (rd_var0 h0 d1) (ra_one (rd_var0 h6 d2)))) pairSh (by decide) (by decide)
      have due : ∀ {σ2 : L2.St} {H2 : Hp}, σ2[0]? = some (some v1) → σ2[2]? = some (some x) → Dp K H2 v1 d → Dp K H2 x (lotD lot) → EvR F0 (tCB (rReprX K) (tCons (tCall (spLDue K 30) [] C8.E0 (tCons (tVar 0) (tCons (tVar 2) tNil))) tNil)) σ2 H2 0 (fun y _ => y = .str (PyData.shown r)) := fun h0 h6 d1 d2 =>
        rv_reprX (r_due2 h0 h6 hI d1 d2 D) dueSh (by decide) (by decide)
      refine q_par2 (q_cons (rep rfl rfl pt dx 0 H' (Nat.le_refl _) F0.g Kx.refl _ fun x7 H7 e7 _ ex7 => q_cons (due rfl rfl (dp_ex (F0.ex e7) _ _ pt) (dp_ex (F0.ex e7) _ _ dx) 0 H7 (Nat.le_refl _) F0.g Kx.refl _ fun x8 H8 e8 _ ex8 => ⟨x7, x8, rfl, ?_⟩)))
      subst ex7 ex8
      have e78 := (F0.ex e7).trans (F0.ex e8)
      have pt8 := dp_ex e78 _ _ pt
      have dx8 := dp_ex e78 _ _ dx
      have T8 := TH.ext fun b o h => e78 b o h
      have n8 := e.trans (ex_n e78)
      change tSeq (tAsg (tLst (tCons (LamX.tLam [(PT, lamQ)] (TOut C) (fun E => tCall (spLeft K C) [] E (tCons (tVar 0) (tCons (tVar 2) tNil)))) tNil)) (gName 5)) _ _ [some v1, some (.ref LA), some x, some (.str (PyData.shown (.tuple [d, lotD lot]))), some (.str (PyData.shown r)), u5, none] H8
      refine q_asgX (lam1 (i := 0) (j := 2) rfl rfl T8 hI hok pt8 dx8 D fun r1' H9 n9 T9 dr => ⟨sz_of (by simp), fun l hl => ?_⟩)
      have el := Ex.new (o := HO.lst [V.ref r1']) hl
      have n8l : ∀ b u, H8 b = some u → (∀ ps, u ≠ .tbl ps) → b ≠ l := fun b u hb hn z => by
        have := n9 b u hb hn
        rw [z, hl] at this
        cases this
      have T10 := T9.ext fun b o h => el b o h
      have hl10 : upd H9 l (.lst [.ref r1']) l = some (.lst [.ref r1']) := upd_same
      have n10 : LamX.ExtN H8 (upd H9 l (.lst [.ref r1'])) := n9.trans (ex_n el)
      have dr10 := dp_ex el _ _ dr
      generalize upd H9 l (.lst [.ref r1']) = H10 at T10 hl10 n10 dr10
      change tSeq (tDrop (tBM K "list" rAppend (tVar 5) (tCons (LamX.tLam [(PT, lamQ)] (TOut C) (fun E => tCallN 0 (["services", "sight"] : List Str).length (spLeft K C) (fun _ zs => zs.reverse) E tNil (tCons (tVar 2) (tCons (tVar 0) tNil)))) tNil))) _ _ [some v1, some (.ref LA), some x, some (.str (PyData.shown (.tuple [d, lotD lot]))), some (.str (PyData.shown r)), some (.ref l), none] H10
      refine ⟨.ref l, rfl, .inl ⟨rfl, [.ref r1'], sq_of hl10⟩, lam2 (i := 0) (j := 2) rfl rfl T10 hI hok (dp_n n10 _ _ pt8) (dp_n n10 _ _ dx8) D fun r2' H11 n11 T11 dr2 => ⟨l, [.ref r1'], .ref r2', rfl, rfl, n11 _ _ hl10 (fun ps z => by cases z), sz_lt (by simp), ?_⟩⟩
      have hl11 : H11 l = some (.lst [.ref r1']) := n11 _ _ hl10 (fun ps z => by cases z)
      have k12 : KT K H11 (upd H11 l (.lst ([.ref r1'] ++ [.ref r2']))) := kt_lst hl11
      have T12 := tabs_lst (o := .lst ([.ref r1'] ++ [.ref r2'])) T11 hl11
      have n12 : LamX.ExtN H8 (upd H11 l (.lst ([.ref r1'] ++ [.ref r2']))) := extN_mut (n10.trans n11) n8l
      have d12 : DpAll K (upd H11 l (.lst ([.ref r1'] ++ [.ref r2']))) [.ref r1', .ref r2'] [r, r] := .cons (dp_kt k12 _ _ D.fl (dp_n n11 _ _ dr10)) (.cons (dp_kt k12 _ _ D.fl dr2) .nil)
      have hl12 : upd H11 l (.lst ([.ref r1'] ++ [.ref r2'])) l = some (.lst [.ref r1', .ref r2']) := upd_same
      generalize upd H11 l (.lst ([.ref r1'] ++ [.ref r2'])) = H12 at T12 n12 d12 hl12 ⊢
      have pt12 := dp_n n12 _ _ pt8
      have dx12 := dp_n n12 _ _ dx8
      have f2 : flats [r, r] = true := by rw [flats_cons, flats_cons]; exact ⟨D.fl, D.fl, rfl⟩
      change tIfS (tOr (tTest (tOp (rNeL K) (tLc (iList K (tVar 5)) (gName 6) tYes (tCB (rReprX K) (tCons (tVar 6) tNil)) [6]) (tLst (tCons (tVar 4) (tCons (tVar 4) tNil))))) (tTest (tOp rNe (tCB (rReprX K) (tCons (tTup (tCons (tVar 0) (tCons (tVar 2) tNil))) tNil)) (tVar 3)))) (tRet (tC (.bl false))) tNext _ [some v1, some (.ref LA), some x, some (.str (PyData.shown (.tuple [d, lotD lot]))), some (.str (PyData.shown r)), some (.ref l), none] H12
      have hcr := r_lcL (F := F0) (K := K) (k := 0) (kt := 0) (ke := 0) (H := H12) (σ := [some v1, some (.ref LA), some x, some (.str (PyData.shown (.tuple [d, lotD lot]))), some (.str (PyData.shown r)), some (.ref l), none]) (g := gName 6) (tt := tYes) (te := tCB (rReprX K) (tCons (tVar 6) tNil)) (tl := tVar 5) (vs := [6]) (ds := [r, r]) F0.ok (fun _ => true) (fun _ => .str (PyData.shown r))
        (rl_varX rfl ⟨l, _, rfl, fun z => z, hl12, d12⟩) f2 (by simp) (fun _ _ _ => rfl) fun j y dd n9 H9 hd hy9 _ e9 => by
          refine ⟨_, gv_name, rfl, rt_yes rfl, fun _ => ?_⟩
          have hdd : dd = r := by
            match j, hd with
            | 0, hd => cases hd; rfl
            | 1, hd => cases hd; rfl
          rw [hdd] at hy9
          exact rd_ofS (rv_reprX (rd_var0 rfl hy9) dueSh (by decide) (by decide))
      have ho : outs (fun _ => true) (fun _ => PyData.str (PyData.shown r)) [r, r].length = [PyData.shown r, PyData.shown r].map PyData.str := rfl
      rw [ho] at hcr
      have lit : EvR F0 (tLst (tCons (tVar 4) (tCons (tVar 4) tNil))) [some v1, some (.ref LA), some x, some (.str (PyData.shown (.tuple [d, lotD lot]))), some (.str (PyData.shown r)), some (.ref l), none] H12 0 (IsL F0 K ([PyData.shown r, PyData.shown r].map PyData.str)) := rl_lst F0.ok (ra_cons0 (rd_ofS (rv_var rfl)) (ra_one (rd_ofS (rv_var rfl))))
      refine s_ifR (F := F0) (n := 0) (k := _) (b := false || false) (rt_or F0.ok (rt_val (rb_neTxt F0.ok hcr lit)) fun _ => rt_val (rb_neOne F0.ok (rep rfl rfl pt12 dx12) (rv_var rfl))) F0.g (by simp) (fun z => by cases z) fun _ H13 e13 _ => ?_
      exact ⟨_, _, _, _, rfl, n8.trans (n12.trans (ex_n (F0.ex e13))), T12.ext fun b o h => (F0.ex e13) b o h⟩
    · subst es
      exact q H' e TH
end
end Q21
set_option maxHeartbeats 4000000
/-! ### k21: the parts of law -/
namespace Q21
open PySem PySem.Spec PyProof.Rows L2 Evl Fx Fr Dt Tr K18 So K17 DtG
def words4 : List Str := ["db", "front", "pay", "zz"]
def lots12 : List (List Str) := (setsF words4).take 12
theorem lots12_len : lots12.length = 12 := by rfl
theorem lots_ok : ∀ lot ∈ lots12, LotOk lot := fun lot h => by
  obtain ⟨h1, h2⟩ := sets_mem words4 lot (List.mem_of_mem_take h)
  refine ⟨h1, fun s hs => ?_⟩
  have := h2 s hs
  simp only [words4, List.mem_cons, List.not_mem_nil, or_false] at this
  rcases this with rfl | rfl | rfl | rfl <;> exact ⟨by decide +kernel, by decide +kernel⟩
theorem lots_flat : flats (lots12.map lotD) = true := flats_all.mpr fun d hd => by
  obtain ⟨lot, _, rfl⟩ := List.mem_map.mp hd
  exact lot_flat lot
def odds9 : List PyData := [.none, .int 0, .str "", .list [], .tuple [], .tuple [.tuple []], .tuple [.str "top"], .tuple [.tuple [.str "top", .tuple []]], .tuple [.tuple [.str "lost", .tuple []]]]
def odd10 : PyData := .tuple [.tuple [.str "top", .tuple [.str "pay", .int 0, .tuple []]], .tuple [.str "top", .tuple [.str "pay", .int 0, .tuple []]]]
theorem odds_itm : ∀ d ∈ odds9 ++ [odd10], Itm d := fun d hd => by
  have ok : ∀ d : PyData, okB d = true → nI d ≤ 12 → topLen d ≤ 15 → PyData.depth d ≤ 20 → PyData.weight d ≤ 500 → Itm d := fun d a b c e f => itm_of a b c e f
  simp only [odds9, odd10, List.mem_append, List.mem_cons, List.not_mem_nil, or_false] at hd
  rcases hd with (rfl | rfl | rfl | rfl | rfl | rfl | rfl | rfl | rfl) | rfl <;> exact ok _ (by decide +kernel) (by decide +kernel) (by decide +kernel) (by decide +kernel) (by decide +kernel)
section
variable {P : Program} {w : World} {K : PySem.W.Frag} {mg : Str → Option Value} {base : Heap} {f f2 f3 : Addr} {fd fd2 fd3 : FuncData} {te tl ta tb : TE} {tt tu : TT} {tr : TA} {σ σ2 : L2.St} {H H' : Hp} {k ka kb n : Nat} {d0 x y : PyData} {ds es : List PyData} {g : TG} {vs : List Nat} {d l : Addr} {F : Fd}
theorem feed_n (e : LamX.ExtN H H') (h : FeedAt H d l n) : FeedAt H' d l n := by
  obtain ⟨ns, s, r, c, h1, h2, h3⟩ := h
  exact ⟨ns, s, r, c, e _ _ h1 (fun ps z => by cases z), e _ _ h2 (fun ps z => by cases z), h3⟩
theorem isL_n {v : V} (e : LamX.ExtN H H') (h : IsL F K ds v H) : IsL F K ds v H' := by
  obtain ⟨a, xs, rfl, hT, ha, hx⟩ := h
  exact ⟨a, xs, rfl, hT, e _ _ ha (fun ps z => by cases z), dps_n e _ _ hx⟩
/-- a part of a list, a new list -/
theorem rl_slN {tlo thi : TO} {lo hi : Option Int} {Q : VK} (h : EvR F0 te σ H 0 (IsD K (.list ds))) (h1 : ∀ H1, EvO tlo σ H1 lo) (h2 : ∀ H1, EvO thi σ H1 hi)
    (q : ∀ p xs H', Ex H H' → H p = none → H' p = some (.lst xs) → DpAll K H' xs ((ds.drop (HT.sIx ds.length 0 lo)).take (HT.sIx ds.length ds.length hi - HT.sIx ds.length 0 lo)) → Q (.ref p) H') : tSl (rSlL K) te tlo thi σ H Q := h 0 H (Nat.le_refl _) F0.g Kx.refl _ fun v H2 e2 g2 hd => by
  replace e2 := F0.ex e2
  cases hd with
  | @lst a xs _ ha hd =>
    have hl := dps_len hd
    refine h1 H2 H2 (Ex.refl _) _ fun H3 e3 => h2 H3 H3 (Ex.refl _) _ fun H4 e4 => ?_
    have e34 := e3.trans e4
    refine ⟨a, xs, rfl, ex_l e34 ha, fun p hp => ?_⟩
    have ep := Ex.new (o := HO.lst (cutV xs lo hi)) hp
    refine q p _ _ (e2.trans (e34.trans ep)) (fresh_back (e2.trans e34) hp) upd_same (dps_ex (e34.trans ep) _ _ ?_)
    unfold cutV
    rw [hl]
    exact dps_take (dps_drop hd)
/-- the same, as a list of data -/
theorem rd_slN {tlo thi : TO} {lo hi : Option Int} (h : EvR F0 te σ H 0 (IsD K (.list ds))) (h1 : ∀ H1, EvO tlo σ H1 lo) (h2 : ∀ H1, EvO thi σ H1 hi) : EvR F0 (tSl (rSlL K) te tlo thi) σ H 0 (IsD K (.list ((ds.drop (HT.sIx ds.length 0 lo)).take (HT.sIx ds.length ds.length hi - HT.sIx ds.length 0 lo)))) := fun n H1 hn g e Q q =>
  rl_slN (EvR.mono h e) h1 h2 fun p xs H' e' _ hp hx => q _ H' (Kx.ex e') F0.g (.lst (sq_of hp) hx)
/-- the law's look at one item, as a test -/
theorem t_agr {PT : Addr} {E : XK} {Q : Bool → Hp → Prop} {RR : List V → Hp → Prop} (ha : ∀ Q' : List V → Hp → Prop, (∀ us H1, RR us H1 → Q' us H1) → tr σ H Q')
    (hR : ∀ us H1, RR us H1 → ∃ (v u : V) (d : PyData) (lots : List (List Str)), us = [v, u] ∧ Dp K H1 v d ∧ Itm d ∧ Dp K H1 u (.list (lots.map lotD)) ∧ (∀ lot ∈ lots, LotOk lot) ∧ LamX.Tabs [(PT, lamQ)] H1 ∧ ∀ H', LamX.ExtN H1 H' → LamX.Tabs [(PT, lamQ)] H' → Q false H') : tNot (tTest (tCall (spAgr2 K PT) [] E tr)) σ H Q := ha _ fun us H1 r => by
  obtain ⟨v, u, d, lots, rfl, h1, h2, h3, h4, h5, q⟩ := hR us H1 r
  exact ⟨v, u, d, lots, rfl, h1, h2, h3, h4, h5, fun H' e T => ⟨true, rfl, q H' e T⟩⟩
theorem t_or {Q : Bool → Hp → Prop} (h : tt σ H fun c H1 => if c = true then Q true H1 else tu σ H1 Q) : tOr tt tu σ H Q := h
theorem q_if {tz : TS} {tw : TS} {D : Ends} (h : tt σ H fun b H1 => if b = true then tw { D with nx := tz D } σ H1 else tz D σ H1) : tSeq (tIfS tt tw tNext) tz D σ H := h
theorem s_if {tw : TS} {D : Ends} (h : tt σ H fun b H1 => if b = true then tw D σ H1 else D.nx σ H1) : tIfS tt tw tNext D σ H := h
def GoodT5 (x : PyData) : Prop := ∃ t, x = enc t ∧ size t ≤ 5 ∧ NiceM t
theorem r_treeT5 {E : XK} {i : Nat} (hd : σ[i]? = some (some (.ref d))) : EvR (FeedF d l) (tCall (spTree K 4) [] E (tCons (tVar i) (tCons (tLst (tCons (tC (.int 4)) tNil)) (tCons (tC (.int 3)) tNil)))) σ H 15 (SomeD K GoodT5) :=
  fun n H1 hn g e Q q => ⟨.ref d, hd, by show 1 ≤ sizeLine; decide, fun a ha => by
    have e1 := Ex.new (o := HO.lst [.int 4]) ha
    have g1 : FeedAt (upd H1 a (.lst [.int 4])) d l n := FeedF.ok.ex g e1
    have na : ¬ (a = d ∨ a = l) := FeedF.ok.new g ha
    refine ⟨d, l, a, 3, n, 4, rfl, by decide, g1, fun z => na (.inl z), fun z => na (.inr z), upd_same, by decide, by have : (FeedF d l).N = 1000000 := rfl; omega, fun H3 v t k' k3 hs g3 _ nt dt => ?_⟩
    refine q v H3 (fun b o hb hne => k3 b o (e1 b o hb) fun z => z.elim hne fun z => ?_) (FeedAt.up g3 (by omega)) ⟨enc t, ⟨t, rfl, by omega, nt⟩, dt⟩
    subst z
    rw [ha] at hb
    cases hb⟩
theorem tabs_kx {TS : List (Addr × Str)} (k : Kx (FeedF d l).S H H') (g : FeedAt H d l n) (t : LamX.Tabs TS H) : LamX.Tabs TS H' := fun p hp => by
  obtain ⟨ns, s, r, c, hd, _⟩ := g
  obtain ⟨ps, h1, h2, h3⟩ := t p hp
  have ne : ∀ {b : Addr} {u : HO}, H b = some u → (∀ ys, u ≠ .lst ys) → ¬ (FeedF d l).S b := fun {b u} hb hu z => by
    have z : b = d := z
    rw [z, hd] at hb
    exact hu _ (Option.some.inj hb).symm
  refine ⟨ps, k _ _ h1 (ne h1 fun ys z => by cases z), h2, fun pos cv hc => ?_⟩
  obtain ⟨c', e1, e2⟩ := h3 pos cv hc
  exact ⟨c', e1, k _ _ e2 (ne e2 fun ys z => by cases z)⟩
theorem s_forRg {F : Fd} {k n j : Nat} {P : VP} {tb : TS} {D : Ends} (h : EvR F te σ H k P) (g0 : F.G n H) (hn : n + k ≤ F.N)
    (kk : ∀ v H1, Kx F.S H H1 → F.G (n + k) H1 → P v H1 → ∃ (m : Nat) (Pv : Nat → L2.St → Hp → Prop), v = .int (m : Int) ∧ m ≤ 40000 ∧ Pv 0 σ H1 ∧ (∀ i σ' H', i < m → Pv i σ' H' → tb { D with nx := Pv (i + 1), ct := Pv (i + 1), bk := D.nx } (σ'.set j (some (.int (i : Int)))) H') ∧ ∀ σ' H', Pv m σ' H' → D.nx σ' H') :
    tFor (iRng1 (tCons te tNil)) (gName j) tb D σ H := h n H hn g0 Kx.refl _ fun v H1 e1 g1 p => by
  obtain ⟨m, Pv, rfl, hm, h0, hs, hd⟩ := kk v H1 e1 g1 p
  refine ⟨(m : Int), rfl, by omega, by omega, ?_⟩
  rw [Int.toNat_natCast]
  exact for_range (lo := 0) (n := m) Pv h0 (fun i σ' H' hi p => by
    have e0 : (0 : Int) + (i : Int) = (i : Int) := Int.zero_add _
    show tb { D with nx := Pv (i + 1), ct := Pv (i + 1), bk := D.nx } (σ'.set j (some (.int ((0 : Int) + (i : Int))))) H'
    rw [e0]
    exact hs i σ' H' hi p) hd
theorem lots_to (k : Nat) (hk : k ≤ 12) : ((lots12.map lotD).drop (HT.sIx (lots12.map lotD).length 0 none)).take (HT.sIx (lots12.map lotD).length (lots12.map lotD).length (some (k : Int)) - HT.sIx (lots12.map lotD).length 0 none) = (lots12.take k).map lotD := by
  rw [sl_to (by rw [List.length_map, lots12_len]; exact hk), List.map_take]
theorem lots_57 : ((lots12.map lotD).drop (HT.sIx (lots12.map lotD).length 0 (some 5))).take (HT.sIx (lots12.map lotD).length (lots12.map lotD).length (some 7) - HT.sIx (lots12.map lotD).length 0 (some 5)) = ((lots12.drop 5).take 2).map lotD := by
  rw [List.length_map, lots12_len]
  have h1 : HT.sIx 12 0 (some 5) = 5 := HT.sIx_nat 12 0 5
  have h2 : HT.sIx 12 12 (some 7) = 7 := HT.sIx_nat 12 12 7
  rw [h1, h2, List.map_take, List.map_drop]
theorem t_call1 {sp : Sp} {E : XK} {Q : VK} (h : te σ H fun v H1 => sp ([v] ++ []) H1 Q E) : tCall sp [] E (tCons te tNil) σ H Q := h
end
end Q21
set_option maxHeartbeats 4000000
/-! ### k21: law -/
namespace Q21
open PySem PySem.Spec PyProof.Rows L2 Evl Fx Fr Dt Tr K18 So K17 DtG
def nLaw21 : List Str := ["_law_script", "_law_feed_here", "_law_lots", "_law_odd_ones", "_law_item", "_law_attempt", "_law_seen_here", "_law_k", "_law_lot"]
theorem scLaw21 : FnScope nLaw21 ["_law_script"] (defScope (K18.topS 69)) := ⟨rfl, rfl, rfl, by decide +kernel, rfl, by decide +kernel, by decide +kernel⟩
section
variable {P : Program} {w : World} {K : PySem.W.Frag} {mg : Str → Option Value} {base : Heap} {f f2 f3 : Addr} {fd fd2 fd3 : FuncData} {te tl ta tb : TE} {tt tu : TT} {tr : TA} {σ σ2 : L2.St} {H H' : Hp} {k ka kb n : Nat} {d0 x y : PyData} {ds es : List PyData} {g : TG} {vs : List Nat} {d l : Addr} {F : Fd}
theorem ok_law21 {PT : Addr} (F : Fun K "law" "law" (K18.topS 69) f fd) (cFeed : C8.Cal P w K mg base 1 "_law_feed" (spFeed K) []) (cSets : C8.Cal P w K mg base 1 "_law_sets" (spSetsG K) []) (cTree : C8.Cal P w K mg base 6 "_law_some_tree" (spTree K 4) []) (cSS : C8.Cal P w K mg base 9 "_law_some_sight" (spSS K) []) (cB : C8.Cal P w K mg base 17 "_law_bent" (spBent K 15) [])
    (GA : FnG P w K mg base CX0 34 f2 fd2 ["_law_item", "_law_lots"] (spAgr2 K PT)) (gA : mg "_law_agrees" = some (.ref f2)) (kA : PySem.W.keepIn K (.ref f2) = true) (bA : L2.Binds K fd2 ["_law_item", "_law_lots"] []) (m_range : mg "range" = none) (m_list : mg "list" = none) (mt : mg "tuple" = none) : FnG P w K mg base CX0 35 f fd ["_law_script"] (spLawT K PT) := by
  refine okG F scLaw21 (fun vs H Q E h => ?_) (fun cdv A outer s H vs Q E hgd hr h => ?_)
  · obtain ⟨a, ns, rfl, _⟩ := h
    rfl
  · obtain ⟨a, ns, rfl, hS, hT, q⟩ := h
    refine ⟨_, pss_cons (ps_set (i := 1) scLaw21.nd rfl (.inl rfl) (C8.pe_c cFeed hr (by decide) (by rfl) (pa_cons (pv 0) pa_nil)))
      (pss_cons (ps_set (i := 2) scLaw21.nd rfl (.inl rfl) (pe_slice sl_list (pe_lc (own := [("_law_lot", 8)]) (g := gName 8) (by rfl) scLaw21.nd (pi_list (C8.pe_c cSets hr (by decide) (by rfl) (pa_cons (pe_lst (pa_cons pe_str (pa_cons pe_str (pa_cons pe_str (pa_cons pe_str pa_nil))))) pa_nil))) (blkOk_by (own := [("_law_lot", 8)]) (N := nLaw21) (sc := defScope (K18.topS 69)) (by decide +kernel)) (fun _ _ _ _ _ => pg_name (i := 8) scLaw21.nd rfl (.inl rfl)) (fun _ _ _ _ _ => pts_nil)
          (te := tCB (rTupOf K) (tCons (tVar 8) tNil)) (fun _ _ _ _ _ => pe_callTy (T := "tuple") (r := rTupOf K) call_tupleOf (by rfl) mt (by decide +kernel) (pa_cons (pv 8) pa_nil))) po_none (po_some pe_int)))
      (pss_cons (ps_set (i := 3) scLaw21.nd rfl (.inl rfl) (pe_lst (pa_cons pe_non (pa_cons pe_int (pa_cons pe_str (pa_cons (pe_lst pa_nil) (pa_cons (pe_tup pa_nil) (pa_cons (pe_tup (pa_cons (pe_tup pa_nil) pa_nil)) (pa_cons (pe_tup (pa_cons pe_str pa_nil)) (pa_cons (pe_tup (pa_cons (pe_tup (pa_cons pe_str (pa_cons (pe_tup pa_nil) pa_nil))) pa_nil)) (pa_cons (pe_tup (pa_cons (pe_tup (pa_cons pe_str (pa_cons (pe_tup pa_nil) pa_nil))) pa_nil)) pa_nil)))))))))))
      (pss_cons (ps_for PassesOwn.never rfl (pi_list (pe_op op_cat (pv 3) (pe_lst (pa_cons (pe_op op_repT (pe_tup (pa_cons (pe_tup (pa_cons pe_str (pa_cons (pe_tup (pa_cons pe_str (pa_cons pe_int (pa_cons (pe_tup pa_nil) pa_nil)))) pa_nil))) pa_nil)) pe_int) pa_nil)))) (pg_name (i := 4) scLaw21.nd rfl (.inl rfl))
        (pss_one (ps_if (pt_not (pt_val (pe_callG (E := C8.E0) GA hgd hr (by rfl) gA kA bA C8.pass0 (pa_cons (pv 4) (pa_cons (pe_slice sl_list (pv 2) po_none (po_some pe_int)) pa_nil))))) (pss_one (ps_ret pe_bl)) pss_nil)))
      (pss_cons (ps_for PassesOwn.never rfl (pi_range1 (by rfl) m_range (pa_cons pe_int pa_nil)) (pg_name (i := 5) scLaw21.nd rfl (.inl rfl))
        (pss_cons (ps_set (i := 6) scLaw21.nd rfl (.inl rfl) (C8.pe_c cSS hr (by decide) (by rfl) (pa_cons (pv 1) (pa_cons (C8.pe_c cTree hr (by decide) (by rfl) (pa_cons (pv 1) (pa_cons (pe_lst (pa_cons pe_int pa_nil)) (pa_cons pe_int pa_nil)))) pa_nil))))
        (pss_cons (ps_if (PW.pt (pw_or (pt_not (pt_val (pe_callG (E := C8.E0) GA hgd hr (by rfl) gA kA bA C8.pass0 (pa_cons (pv 6) (pa_cons (pv 2) pa_nil)))))
            (pw_or1 (pt_not (pt_val (pe_callG (E := C8.E0) GA hgd hr (by rfl) gA kA bA C8.pass0 (pa_cons (pe_callTy (T := "list") (r := rTupListOf K) call_list_of (by rfl) m_list (by decide +kernel) (pa_cons (pv 6) pa_nil)) (pa_cons (pe_slice sl_list (pv 2) po_none (po_some pe_int)) pa_nil)))))))) (pss_one (ps_ret pe_bl)) pss_nil)
        (pss_one (ps_for PassesOwn.never rfl (pi_range1 (by rfl) m_range (pa_cons pe_int pa_nil)) (pg_name (i := 7) scLaw21.nd rfl (.inl rfl))
          (pss_one (ps_if (pt_not (pt_val (pe_callG (E := C8.E0) GA hgd hr (by rfl) gA kA bA C8.pass0 (pa_cons (C8.pe_c cB hr (by decide) (by rfl) (pa_cons (pv 1) (pa_cons (pv 6) pa_nil))) (pa_cons (pe_slice sl_list (pv 2) (po_some pe_int) (po_some pe_int)) pa_nil))))) (pss_one (ps_ret pe_bl)) pss_nil)))))))
      (pss_one (ps_ret pe_bl)))))), ?_⟩
    show tSeq (tAsg (tCall (spFeed K) [] C8.E0 (tCons (tVar 0) tNil)) (gName 1)) _ _ [some (.ref a), none, none, none, none, none, none, none, none] H
    refine ⟨.ref a, rfl, a, ns, rfl, hS, fun H1 d l e1 nd g1 => ?_⟩
    have T1 := hT.ext fun b o h => e1 b o h
    have N0 : (FeedF d l).N = 1000000 := rfl
    -- the lots
    have lst4 : EvR F0 (tLst (tCons (tC (.str "db")) (tCons (tC (.str "front")) (tCons (tC (.str "pay")) (tCons (tC (.str "zz")) tNil))))) [some (.ref a), some (.ref d), none, none, none, none, none, none, none] H1 0 (IsL F0 K (words4.map PyData.str)) := rl_lst (ds := words4.map PyData.str) F0.ok (ra_cons0 rd_str (ra_cons0 rd_str (ra_cons0 rd_str (ra_one rd_str)))) (by decide)
    have sets : EvR F0 (tCall (spSetsG K) [] C8.E0 (tCons (tLst (tCons (tC (.str "db")) (tCons (tC (.str "front")) (tCons (tC (.str "pay")) (tCons (tC (.str "zz")) tNil))))) tNil)) [some (.ref a), some (.ref d), none, none, none, none, none, none, none] H1 0 (fun v H' => ∃ b xs, v = .ref b ∧ H' b = some (.lst xs) ∧ LsAll K H' xs (setsF (words4.map PyData.str))) := fun n H2 hn g e Q q =>
      t_call1 (lst4 n H2 hn g e _ fun v H3 e3 _ p => ⟨v, words4.map PyData.str, rfl, by decide, rfl, p.dp, fun b xs H4 _ e4 hb hx => q (.ref b) H4 (e3.trans (Kx.ex e4)) F0.g ⟨b, xs, rfl, hb, hx⟩⟩)
    have lc := r_lcTup (j := 8) (vs := [8]) sets (by decide) (fun _ => rfl) fun _ => rfl
    change tSeq (tAsg (tSl (rSlL K) (tLc (iList K (tCall (spSetsG K) [] C8.E0 (tCons (tLst (tCons (tC (.str "db")) (tCons (tC (.str "front")) (tCons (tC (.str "pay")) (tCons (tC (.str "zz")) tNil))))) tNil))) (gName 8) tYes (tCB (rTupOf K) (tCons (tVar 8) tNil)) [8]) tNoPart (tPart (tC (.int 12)))) (gName 2)) _ _ [some (.ref a), some (.ref d), none, none, none, none, none, none, none] H1
    refine rl_slN (rd_ofL lc) (fun _ => eo_none) (fun _ => eo_some ev_c) fun LA ls H2 e2 nLA hLA dLA => ?_
    have g2 : FeedAt H2 d l 0 := FeedF.ok.ex g1 e2
    have T2 := T1.ext fun b o h => e2 b o h
    have nT : ¬ (FeedF d l).T LA := FeedF.ok.new (n := 0) g1 nLA
    have hL2 : IsL (FeedF d l) K (lots12.map lotD) (.ref LA) H2 := ⟨LA, ls, rfl, nT, hLA, dLA⟩
    -- the odd ones
    have odd9 : EvR F0 (tLst (tCons (tC .non) (tCons (tC (.int 0)) (tCons (tC (.str "")) (tCons (tLst tNil) (tCons (tTup tNil) (tCons (tTup (tCons (tTup tNil) tNil)) (tCons (tTup (tCons (tC (.str "top")) tNil)) (tCons (tTup (tCons (tTup (tCons (tC (.str "top")) (tCons (tTup tNil) tNil))) tNil)) (tCons (tTup (tCons (tTup (tCons (tC (.str "lost")) (tCons (tTup tNil) tNil))) tNil)) tNil)))))))))) [some (.ref a), some (.ref d), some (.ref LA), none, none, none, none, none, none] H2 0 (IsL F0 K odds9) :=
      rl_lst (ds := odds9) F0.ok (ra_cons0 rd_non (ra_cons0 rd_int (ra_cons0 rd_str (ra_cons0 (rd_ofL (rl_lst F0.ok ra_nil)) (ra_cons0 (rd_tup0 ra_nil) (ra_cons0 (rd_tup0 (ra_one (rd_tup0 ra_nil))) (ra_cons0 (rd_tup0 (ra_one rd_str)) (ra_cons0 (rd_tup0 (ra_one (rd_tup0 (ra_cons0 rd_str (ra_one (rd_tup0 ra_nil)))))) (ra_one (rd_tup0 (ra_one (rd_tup0 (ra_cons0 rd_str (ra_one (rd_tup0 ra_nil))))))))))))))) (by decide)
    refine q_asgR (F := F0) (n := 0) (k := 0) (P := IsL F0 K odds9) odd9 F0.g (Nat.le_refl _) fun vo H3 e3 _ ho3 => ?_
    replace e3 := F0.ex e3
    have rep2 : EvR F0 (tOp (rRepT K) (tTup (tCons (tTup (tCons (tC (.str "top")) (tCons (tTup (tCons (tC (.str "pay")) (tCons (tC (.int 0)) (tCons (tTup tNil) tNil)))) tNil))) tNil)) (tC (.int 2))) [some (.ref a), some (.ref d), some (.ref LA), some vo, none, none, none, none, none] H3 0 (IsD K odd10) :=
      (rd_rep (k := 2) (ds := [.tuple [.str "top", .tuple [.str "pay", .int 0, .tuple []]]]) F0.ok (rd_tup0 (ra_one (rd_tup0 (ra_cons0 rd_str (ra_one (rd_tup0 (ra_cons0 rd_str (ra_cons0 rd_int (ra_one (rd_tup0 ra_nil)))))))))) (by simp) (by decide) (by decide) (by simp)).cast rfl
    have all10 : EvR F0 (tOp rCat (tVar 3) (tLst (tCons (tOp (rRepT K) (tTup (tCons (tTup (tCons (tC (.str "top")) (tCons (tTup (tCons (tC (.str "pay")) (tCons (tC (.int 0)) (tCons (tTup tNil) tNil)))) tNil))) tNil)) (tC (.int 2))) tNil))) [some (.ref a), some (.ref d), some (.ref LA), some vo, none, none, none, none, none] H3 0 (IsL F0 K (odds9 ++ [odd10])) := rl_catX (rl_varX rfl ho3) (rl_lst F0.ok (ra_one rep2)) (by decide)
    refine all10 0 H3 (Nat.le_refl _) F0.g Kx.refl _ fun v H4 e4 _ ⟨IA, xs, ev, _, hIA, dxs⟩ => ?_
    subst ev
    have e34 := e3.trans (F0.ex e4)
    have g4 : FeedAt H4 d l 0 := FeedF.ok.ex g2 e34
    have T4 := T2.ext fun b o h => e34 b o h
    have hL4 : IsL (FeedF d l) K (lots12.map lotD) (.ref LA) H4 := isL_n (ex_n e34) hL2
    have lD := dps_len dxs
    refine ⟨IA, rfl, ⟨_, sq_of hIA⟩, for_list (xs := xs) (fun m σ' H' => ∃ u4, σ' = [some (.ref a), some (.ref d), some (.ref LA), some vo, u4, none, none, none, none] ∧ LamX.ExtN H4 H' ∧ LamX.Tabs [(PT, lamQ)] H') ⟨none, rfl, LamX.ExtN.refl _, T4⟩ (fun m σ' H' _ ⟨_, _, e, _⟩ => sqL_n e (sq_of hIA)) (fun m x σ' H' hxm ⟨u4, es, e, TH⟩ => ?_) fun σ' H' ⟨u4, es, e, TH⟩ => ?_⟩
    · subst es
      have hm : m < (odds9 ++ [odd10]).length := by
        have := (List.getElem?_eq_some_iff.mp hxm).1
        omega
      have hI := odds_itm _ (List.getElem_mem hm)
      have dx : Dp K H' x (odds9 ++ [odd10])[m] := by
        obtain ⟨u', hu, du⟩ := dps_get dxs (List.getElem?_eq_getElem hm)
        rw [hxm] at hu
        cases hu
        exact dp_n e _ _ du
      generalize (odds9 ++ [odd10])[m] = dm at hI dx
      have hL' := isL_n e hL4
      refine s_if (t_agr (RR := fun us H1 => ∃ p ls', us = [x, .ref p] ∧ Ex H' H1 ∧ H1 p = some (.lst ls') ∧ DpAll K H1 ls' ((lots12.take 2).map lotD)) (fun Q' q' => ⟨x, rfl, rl_slN (rd_var0 rfl hL'.dp) (fun _ => eo_none) (fun _ => eo_some ev_c) fun p ls' H5 e5 _ hp hx => q' _ H5 ⟨p, ls', rfl, e5, hp, by rw [← lots_to 2 (by decide)]; exact hx⟩⟩)
        fun us H5 ⟨p, ls', eus, e5, hp, hx⟩ => ⟨x, .ref p, dm, lots12.take 2, eus, dp_ex e5 _ _ dx, hI, .lst (sq_of hp) hx, fun lot h => lots_ok lot (List.mem_of_mem_take h), TH.ext fun b o h => e5 b o h, fun H6 n6 T6 => iteF ⟨_, rfl, e.trans ((ex_n e5).trans n6), T6⟩⟩)
    subst es
    have g5 : FeedAt H' d l 0 := feed_n e g4
    have hL5 := isL_n e hL4
    refine q_forRg (F := F0) (n := 0) (k := 0) (P := fun x _ => x = .int 8) rv_c F0.g (Nat.le_refl _) fun v H5 k5 _ ev => ⟨8, fun i σ' H' => ∃ u4 u5 u6 u7, σ' = [some (.ref a), some (.ref d), some (.ref LA), some vo, u4, u5, u6, u7, none] ∧ FeedAt H' d l (200 * i) ∧ IsL (FeedF d l) K (lots12.map lotD) (.ref LA) H' ∧ LamX.Tabs [(PT, lamQ)] H', ev, by decide,
      ⟨_, _, _, _, rfl, FeedF.ok.ex g5 (F0.ex k5), isL_n (ex_n (F0.ex k5)) hL5, TH.ext fun b o h => F0.ex k5 b o h⟩, fun i σ' H' hi ⟨u4, u5, u6, u7, es, gi, hLi, Ti⟩ => ?_, fun σ' H' ⟨u4, u5, u6, u7, es, gi, hLi, Ti⟩ => q H'⟩
    subst es
    change tSeq (tAsg (tCall (spSS K) [] C8.E0 (tCons (tVar 1) (tCons (tCall (spTree K 4) [] C8.E0 (tCons (tVar 1) (tCons (tLst (tCons (tC (.int 4)) tNil)) (tCons (tC (.int 3)) tNil)))) tNil))) (gName 6)) _ _ [some (.ref a), some (.ref d), some (.ref LA), some vo, u4, some (.int (i : Int)), u6, u7, none] H'
    refine ⟨.ref d, rfl, r_treeT5 (i := 1) rfl (200 * i) H' (by omega) gi Kx.refl _ fun vt H6 k6 g6 ⟨x, ⟨t, ex, hs, hN⟩, dt⟩ => ?_⟩
    subst ex
    refine ⟨d, l, 200 * i + 15, vt, t, rfl, g6, by omega, by omega, nice_lay hN, dt, fun vs H7 keep k7 g7 dv => ?_⟩
    have hD := own_drawn keep hN hs
    have k67 := k6.trans k7
    have T7 := tabs_kx k67 gi Ti
    have hL7 := mono_l FeedF.ok lots_flat _ _ _ _ gi k67 hLi
    have ff : flat (.tuple ((ownS keep t).map Pc.D)) = true := by rw [flat_tup]; exact pcs_flat _
    generalize (ownS keep t).map Pc.D = ds at dv hD ff
    change tSeq (tIfS (tOr (tNot (tTest (tCall (spAgr2 K PT) [] C8.E0 (tCons (tVar 6) (tCons (tVar 2) tNil))))) (tNot (tTest (tCall (spAgr2 K PT) [] C8.E0 (tCons (tCB (rTupListOf K) (tCons (tVar 6) tNil)) (tCons (tSl (rSlL K) (tVar 2) tNoPart (tPart (tC (.int 1)))) tNil)))))) _ tNext) _ _ [some (.ref a), some (.ref d), some (.ref LA), some vo, u4, some (.int (i : Int)), some vs, u7, none] H7
    refine q_if (t_or (t_agr (RR := fun us H1 => us = [vs, .ref LA] ∧ H1 = H7) (fun Q' q' => ⟨vs, rfl, .ref LA, rfl, q' _ H7 ⟨rfl, rfl⟩⟩) fun us H1 ⟨eus, eH⟩ => ⟨vs, .ref LA, _, lots12, eus, eH ▸ dv, hD.itm, eH ▸ hL7.dp, lots_ok, eH ▸ T7, fun H8 n8 T8 => iteF ?_⟩))
    subst eH
    have dv8 := dp_n n8 _ _ dv
    have hL8 := isL_n n8 hL7
    have g8 := feed_n n8 g7
    refine t_agr (RR := fun us H1 => ∃ u p ls', us = [u, .ref p] ∧ Ex H8 H1 ∧ Dp K H1 u (.list ds) ∧ H1 p = some (.lst ls') ∧ DpAll K H1 ls' ((lots12.take 1).map lotD)) (fun Q' q' => ?_) fun us H9 ⟨u, p, ls', eus, e9, du, hp, hx⟩ => ⟨u, .ref p, _, lots12.take 1, eus, du, drawn_list hD, .lst (sq_of hp) hx, fun lot h => lots_ok lot (List.mem_of_mem_take h), T8.ext fun b o h => e9 b o h, fun H10 n10 T10 => iteF ?_⟩
    · refine rl_listOf (rd_var0 (σ := [some (.ref a), some (.ref d), some (.ref LA), some vo, u4, some (.int (i : Int)), some vs, u7, none]) (i := 6) rfl dv8) 0 H8 (Nat.le_refl _) F0.g Kx.refl _ fun u H9 e9 _ hu => ?_
      replace e9 := F0.ex e9
      refine rl_slN (rd_var0 (i := 2) rfl (dp_ex e9 _ _ hL8.dp)) (fun _ => eo_none) (fun _ => eo_some ev_c) fun p ls' H10 e10 _ hp hx => q' _ H10 ⟨u, p, ls', rfl, e9.trans e10, dp_ex e10 _ _ hu.dp, hp, by rw [← lots_to 1 (by decide)]; exact hx⟩
    have n810 := (ex_n e9).trans n10
    have dv10 := dp_n n810 _ _ dv8
    have hL10 := isL_n n810 hL8
    have g10 := feed_n n810 g8
    change tFor (iRng1 (tCons (tC (.int 4)) tNil)) (gName 7) _ _ [some (.ref a), some (.ref d), some (.ref LA), some vo, u4, some (.int (i : Int)), some vs, u7, none] H10
    refine s_forRg (F := F0) (n := 0) (k := 0) (P := fun x _ => x = .int 4) rv_c F0.g (Nat.le_refl _) fun v H11 k11 _ ev => ⟨4, fun j σ' H' => ∃ u7, σ' = [some (.ref a), some (.ref d), some (.ref LA), some vo, u4, some (.int (i : Int)), some vs, u7, none] ∧ FeedAt H' d l (200 * i + 21 + 30 * j) ∧ IsL (FeedF d l) K (lots12.map lotD) (.ref LA) H' ∧ LamX.Tabs [(PT, lamQ)] H' ∧ Dp K H' vs (.tuple ds), ev, by decide,
      ⟨_, rfl, FeedF.ok.ex g10 (F0.ex k11), isL_n (ex_n (F0.ex k11)) hL10, T10.ext (fun b o h => F0.ex k11 b o h), dp_ex (F0.ex k11) _ _ dv10⟩, fun j σ' H' hj ⟨u7, es, gj, hLj, Tj, dj⟩ => ?_, fun σ' H' ⟨u7, es, gj, hLj, Tj, dj⟩ => ⟨_, _, _, _, es, FeedAt.up gj (by omega), hLj, Tj⟩⟩
    subst es
    refine s_if (t_agr (RR := fun us H1 => ∃ vb y H9 p ls', us = [vb, .ref p] ∧ Kx (FeedF d l).S H' H9 ∧ FeedAt H9 d l (200 * i + 21 + 30 * j + 2 * 15) ∧ Bn (.tuple ds) y ∧ Dp K H9 vb y ∧ Ex H9 H1 ∧ H1 p = some (.lst ls') ∧ DpAll K H1 ls' (((lots12.drop 5).take 2).map lotD)) (fun Q' q' => ?_) fun us H1 ⟨vb, y, H9, p, ls', eus, k9, g9, hb, db, e1', hp, hx⟩ => ⟨vb, .ref p, y, (lots12.drop 5).take 2, eus, dp_ex e1' _ _ db, hD.bent hb, .lst (sq_of hp) hx, fun lot h => lots_ok lot (List.mem_of_mem_drop (List.mem_of_mem_take h)), (tabs_kx k9 gj Tj).ext fun b o h => e1' b o h, fun H12 n12 T12 => iteF ?_⟩)
    · refine ⟨.ref d, rfl, vs, rfl, d, l, 200 * i + 21 + 30 * j, vs, .tuple ds, rfl, gj, by omega, dj, ff, hD.itm.1.1, by have := hD.dep; omega, fun vb H9 y k9 g9 hb db => ?_⟩
      exact rl_slN (rd_var0 (i := 2) rfl (mono_l FeedF.ok lots_flat _ _ _ _ gj k9 hLj).dp) (fun _ => eo_some ev_c) (fun _ => eo_some ev_c) fun p ls' H10 e10 _ hp hx => q' _ H10 ⟨vb, y, H9, p, ls', rfl, k9, g9, hb, db, e10, hp, by rw [← lots_57]; exact hx⟩
    · have n12' := (ex_n e1').trans n12
      refine ⟨_, rfl, FeedAt.up (feed_n n12' g9) (by omega), isL_n n12' (mono_l FeedF.ok lots_flat _ _ _ _ gj k9 hLj), T12, dp_n n12' _ _ (mono_d FeedF.ok ff _ _ _ _ gj k9 dj)⟩
end
end Q21
/-! ### a law's call, the caller without guards, the script and some empty tables of code objects tracked -/
namespace DtT
open PySem PySem.Spec PyProof.Rows L2 DtG
section
variable {P : Program} {w : World} {K : PySem.W.Frag} {mg mb : Str → Option Value} {s : Shared} {a : Addr} {vs : List Value} {H : Hp}
/-- what is tracked is no namespace and nothing of the fragment -/
def Apart (K : PySem.W.Frag) (s : Shared) (H : Hp) : Prop := ∀ b u, H b = some u → K.lookup b = none ∧ ∃ o, s.heap.get? b = some o ∧ ((∃ xs n, o.data = .seq xs n) ∨ o.data = .fields #[])
theorem apart_free (A : Apart K s H) {b : Addr} {o : Obj} (e : s.heap.get? b = some o) (h1 : ∀ xs n, o.data ≠ .seq xs n) (h2 : o.data ≠ .fields #[]) : H b = none := by
  cases q : H b with
  | none => rfl
  | some u =>
    obtain ⟨_, o', e', hd⟩ := A b u q
    rw [e] at e'
    cases e'
    rcases hd with ⟨xs, n, hd⟩ | hd
    · exact absurd hd (h1 xs n)
    · exact absurd hd h2
theorem apart_ns (A : Apart K s H) {b : Addr} {m : Str → Option Value} (h : s.heap.Ns b m) : (hidT s.heap H).Ns b m := by
  obtain ⟨o, es, ep, e, d, r⟩ := h
  exact ⟨o, es, ep, hidT_get e (apart_free A e (fun xs n z => by rw [d] at z; cases z) fun z => by rw [d] at z; cases z), d, r⟩
theorem apart_in (A : Apart K s H) (KX : K.In s.heap) : K.In (hidT s.heap H) := fun b o e => hidT_get (KX b o e) (by
  cases q : H b with
  | none => rfl
  | some u =>
    have := (A b u q).1
    rw [e] at this
    cases this)
theorem env_apart (A : Apart K s H) (KX : K.In s.heap) (hns : s.heap.Ns mainGlobals mg) (hb : s.heap.Ns builtinsNs mb) (hbb : ∀ x : Str, x ≠ "__name__" → mb x = bootBuiltins x) (hlim : s.heap.NoLimit) (hg : s.gens = #[]) (hok : HOk P w H s.heap) : Env0 P w K mg (hidT s.heap H) callerA [] s H := by
  refine ⟨rfl, ⟨apart_in A KX, apart_ns A hns, ⟨mb, apart_ns A hb, hbb⟩, ?_⟩, fun b o e => of_hidT e, Nat.le_of_eq (hidT_size _ _), trivial, fun b hb => (by cases hb), hok, .of_eq hg⟩
  obtain ⟨mc, h1, h2⟩ := hlim
  exact ⟨mc, apart_ns A h1, h2⟩
theorem tab_apart {c T : Addr} (A : Apart K s H) (hns : s.heap.Ns mainGlobals mg) (C : PySem.W.CodeHd s.heap c T) (hT : s.heap.get? T = some { cls := .none, data := .fields #[] })
    (hbm : ∃ (bm : Addr) (ob : Obj), mg "__builtins__" = some (.ref bm) ∧ bm ≠ builtinsNs ∧ s.heap.get? bm = some ob ∧ ob.cls = .type "module" ∧ ob.dict = some builtinsNs ∧ ob.data = .plain) : LamX.TabB (hidT s.heap H) mg c T := by
  have gT : mainGlobals ≠ T := fun z => by
    obtain ⟨o, es, ep, e, d, _⟩ := hns
    rw [z, hT] at e
    cases e
    cases d
  obtain ⟨bm, ob, b1, b2, b3, b4, b5, b6⟩ := hbm
  have bG : bm ≠ mainGlobals := fun z => by
    obtain ⟨o, es, ep, e, d, _⟩ := hns
    rw [← z, b3] at e
    cases e
    rw [b6] at d
    cases d
  have bT : bm ≠ T := fun z => by
    rw [z, hT] at b3
    cases b3
    cases b6
  obtain ⟨o, us, file, tf, flags, tg, inF, text, tt, e1, r1, r2, r3, rest⟩ := C
  have fc : H c = none := apart_free A e1 (fun xs n z => by rw [r2] at z; cases z) fun z => by
    rw [r2] at z
    cases z
    simp at r3
  exact ⟨⟨o, us, file, tf, flags, tg, inF, text, tt, hidT_get e1 fc, r1, r2, r3, rest⟩, ⟨bm, ob, b1, b2, bG, bT, hidT_get b3 (apart_free A b3 (fun xs n z => by rw [b6] at z; cases z) fun z => by rw [b6] at z; cases z), b4, b5, b6⟩, gT⟩
/-- the table at T, and the script at a as t says -/
def trk (T a : Addr) (t : Option HO) : Hp := fun b => if b = T then some (.tbl #[]) else if b = a then t else none
theorem trk_T {T : Addr} {t : Option HO} : trk T a t T = some (.tbl #[]) := if_pos rfl
theorem trk_a {T : Addr} {t : Option HO} (h : a ≠ T) : trk T a t a = t := (if_neg h).trans (if_pos rfl)
theorem trk_some {T b : Addr} {t : Option HO} {u : HO} (h : trk T a t b = some u) : (b = T ∧ u = .tbl #[]) ∨ (b ≠ T ∧ b = a ∧ t = some u) := by
  unfold trk at h
  split at h
  · rename_i hb
    cases h
    exact .inl ⟨hb, rfl⟩
  · rename_i hb
    split at h
    · rename_i hb2
      exact .inr ⟨hb, hb2, h⟩
    · cases h
theorem end_tab {T c : Addr} {t : Option HO} {r : Result} {s' : Shared} (h : CR CX0 [] P w (trk T a t) s (fun v _ => v = .bl true) (fun _ _ _ => False) r s') (hok : HOk P w (trk T a t) s.heap) (ht : ∀ u, t = some u → ∃ o xs, u = .frz o (.lst xs)) (C : PySem.W.CodeHd s.heap c T) (hT : s.heap.get? T = some { cls := .none, data := .fields #[] }) :
    r = .ok (.ret (.bool true)) ∧ OldK s.heap s'.heap ∧ s'.os = s.os ∧ AllBare s'.gens := by
  cases r with
  | error e => exact False.elim h
  | ok fl =>
    cases fl with
    | next => exact False.elim h
    | brk => exact False.elim h
    | cont => exact False.elim h
    | ret u =>
      obtain ⟨v, H', os, bare, un, hok', r', q⟩ := h
      obtain rfl : v = .bl true := q
      obtain rfl : u = Value.bool true := r'
      have stays : ∀ b o, b ≠ T → s.heap.get? b = some o → s'.heap.get? b = some o := fun b o hb e => by
        cases z : trk T a t b with
        | none => exact un.keep b o e z (fun y => by cases (show b ∈ ([] : List Addr) from y)) (by simp)
        | some u =>
          rcases trk_some z with ⟨y, _⟩ | ⟨_, _, y⟩
          · exact absurd y hb
          · obtain ⟨ob, xs, rfl⟩ := ht u y
            have e1 := (hok b _ z).1
            rw [e] at e1
            cases e1
            exact (hok' b _ (un.frzs b _ _ z)).1
      obtain ⟨more, z⟩ := un.tbls T #[] trk_T
      have grown : s'.heap.get? T = some { cls := .none, data := .fields (#[] ++ more) } := hok' T _ z
      refine ⟨rfl, ⟨fun b o e => ?_, fun b o e => ?_⟩, os, bare⟩
      · by_cases hb : b = T
        · subst hb
          rw [hT] at e
          cases e
          exact .inr (.inl ⟨(C.tab hT).isCodeTable, rfl, #[], more, rfl, grown⟩)
        · exact .inl (stays b o hb e)
      · by_cases hb : b = T
        · rw [hb]
          exact ⟨_, grown⟩
        · exact ⟨o, stays b o hb e⟩
theorem law_callGT {k : Nat} {fa c T : Addr} {fd : FuncData} {x : Str} {sp : Sp} {ns : List Int} (KX : K.In s.heap) (hns : s.heap.Ns mainGlobals mg) (hb : s.heap.Ns builtinsNs mb) (hbb : ∀ x : Str, x ≠ "__name__" → mb x = bootBuiltins x) (hlim : s.heap.NoLimit) (hg : s.gens = #[])
    (hT : s.heap.get? T = some { cls := .none, data := .fields #[] }) (nT : K.lookup T = none) (C : PySem.W.CodeHd s.heap c T)
    (hbm : ∃ (bm : Addr) (ob : Obj), mg "__builtins__" = some (.ref bm) ∧ bm ≠ builtinsNs ∧ s.heap.get? bm = some ob ∧ ob.cls = .type "module" ∧ ob.dict = some builtinsNs ∧ ob.data = .plain)
    (ha : s.heap.get? a = some { cls := .type "list", data := .seq vs.toArray }) (hi : IntsAre vs ns) (hl : ns.length ≤ sizeLine) (hr : Room k callerA)
    (F : ∀ base : Heap, K.In base → base.Ns mainGlobals mg → LamX.TabB base mg c T → FnG P w K mg base CX0 k fa fd [x] sp) (hbind : ∀ (s : Shared) (u : Value), BindsTo s fd ⟨[u], []⟩ [(x, u)])
    (hsp : ∀ H : Hp, H T = some (.tbl #[]) → SqL K H a (ns.map V.int) → sp [.ref a] H (fun v _ => v = .bl true) fun _ _ _ => False) :
    codeAny (model P w) callerA (.call (.ref fa) ⟨[.ref a], []⟩) (fun r s' => r = .ok (.ret (.bool true)) ∧ OldK s.heap s'.heap ∧ s'.os = s.os ∧ AllBare s'.gens) s := by
  have rv := vals_ints hi
  have lenV := hi.length
  have aT : a ≠ T := fun z => by
    rw [← z, ha] at hT
    have := congrArg Obj.data (Option.some.inj hT)
    cases this
  have go : ∀ t : Option HO, (t = none ∨ (t = some (.frz { cls := .type "list", data := .seq vs.toArray } (.lst (ns.map V.int))) ∧ K.lookup a = none)) → SqL K (trk T a t) a (ns.map V.int) → codeAny (model P w) callerA (.call (.ref fa) ⟨[.ref a], []⟩) (fun r s' => r = .ok (.ret (.bool true)) ∧ OldK s.heap s'.heap ∧ s'.os = s.os ∧ AllBare s'.gens) s := fun t ht hS => by
    have hok : HOk P w (trk T a t) s.heap := fun b u z => by
      rcases trk_some z with ⟨rfl, rfl⟩ | ⟨_, rfl, y⟩
      · exact hT
      · rcases ht with y' | ⟨y', _⟩
        · rw [y] at y'
          cases y'
        · rw [y] at y'
          cases y'
          exact ⟨ha, by rw [List.length_map]; exact hl, vs, _, rv, ha⟩
    have A : Apart K s (trk T a t) := fun b u z => by
      rcases trk_some z with ⟨rfl, _⟩ | ⟨_, rfl, y⟩
      · exact ⟨nT, _, hT, .inr rfl⟩
      · rcases ht with y' | ⟨_, y'⟩
        · rw [y] at y'
          cases y'
        · exact ⟨y', _, ha, .inl ⟨_, _, rfl⟩⟩
    refine codeAny_mono ((F _ (apart_in A KX) (apart_ns A hns) (tab_apart A hns C hT hbm)).run callerA [] s (trk T a t) ⟨[.ref a], []⟩ [.ref a] [.ref a] _ _ rfl hr (env_apart A KX hns hb hbb hlim hg hok) (hbind s (.ref a)) (.cons rfl .nil) (hsp _ trk_T hS)) fun r s' h => end_tab h hok (fun u y => ?_) C hT
    rcases ht with y' | ⟨y', _⟩
    · rw [y] at y'
      cases y'
    · rw [y] at y'
      cases y'
      exact ⟨_, _, rfl⟩
  cases hk : K.lookup a with
  | some o =>
    have e := KX a o hk
    rw [ha] at e
    cases e
    exact go none (.inl rfl) (.inr ⟨_, vs.toArray, _, hk, rfl, rfl, rfl, by rw [List.size_toArray, lenV]; exact hl, by simpa using rv⟩)
  | none => exact go (some _) (.inr ⟨rfl, hk⟩) (.inl (.inr ⟨_, trk_a aT⟩))
end
open He in
/-- a law's end over the facts of a head: the law's def by FnG, one table of code objects -/
theorem walk_ofGT {l : PySem.W.OpenLaw} {n k : Nat} {q : Program} {loose : List Str} {XP : (Str → Option Value) → Heap → Prop} {YP : World → Heap → Prop} {d : DefRec} {x : Str}
    (hn : l.most = some n) (hn2 : n ≤ sizeLine) (hdf : d.params.defaults = []) (hr : Room k callerA)
    (F : ∀ (w : World) (mg : Str → Option Value) (fa : Addr) (h : Heap), YP w h → h.Ns mainGlobals mg → mg d.name = some (.ref fa) →
      ∃ (K : PySem.W.Frag) (fd : FuncData) (sp : Sp) (c T : Addr), K.In h ∧ h.get? T = some { cls := .none, data := .fields #[] } ∧ K.lookup T = none ∧ PySem.W.CodeHd h c T ∧ (∀ (s : Shared) (u : Value), BindsTo s fd ⟨[u], []⟩ [(x, u)]) ∧
        (∀ (H : Hp) (a : Addr) (ns : List Int), ns.length ≤ n → (∀ z ∈ ns, Builtin.Int.intBits z ≤ 1048576) → H T = some (.tbl #[]) → SqL K H a (ns.map V.int) → sp [.ref a] H (fun v _ => v = .bl true) fun _ _ _ => False) ∧
        ∀ base : Heap, K.In base → base.Ns mainGlobals mg → LamX.TabB base mg c T → FnG l.prog w K mg base CX0 k fa fd [x] sp) :
    PySem.W.WalkO q loose XP YP l.row.toRowW d [] (fun f vs => PySem.call f vs) := by
  refine Att.attach_callB hn hdf fun w s₀ s₁ mg mb fa o pm cd doc a vs ns G Y ho hd hcd hmg hobj hints hlen hbits hg => ?_
  obtain ⟨K, fd, sp, c, T, KX, hT, nT, C, hb, hsp, hF⟩ := F w mg fa _ Y G.T.g hmg
  exact law_callGT KX G.T.g G.T.b G.T.builtins G.T.nolimit hg hT nT C G.T.bmain hobj hints (Nat.le_trans hlen hn2) hr hF hb fun H hH hS => hsp H a ns hlen hbits hH hS
end DtT
/-! ### the head's facts, over the library's hook with one Bool more: written data, built-ins under a name, an own exception class -/
namespace Hx
open PySem PySem.Spec PyProof.Rows L2 He
mutual
def datB (K : PySem.W.Frag) : PyData → Value → Bool
  | .int i, u => (match u with
    | .int j _ => decide (j = i)
    | _ => false)
  | .str x, u => (match u with
    | .str y _ => decide (y = x)
    | _ => false)
  | .tuple ds, u => (match u with
    | .ref a => (match K.lookup a with
      | some o => decide (o.cls = .type "tuple") && (match o.data with
        | .seq its _ => decide (its.size ≤ sizeLine) && datsB K ds its.toList
        | _ => false)
      | none => false)
    | _ => false)
  | _, _ => false
def datsB (K : PySem.W.Frag) : List PyData → List Value → Bool
  | [], us => us.isEmpty
  | d :: ds, us => (match us with
    | [] => false
    | u :: us => datB K d u && datsB K ds us)
end
mutual
theorem datB_ok {K : PySem.W.Frag} : ∀ (d : PyData) (u : Value), datB K d u = true → ∃ v, RelV v u ∧ ∀ H, Dp K H v d
  | .int i, u, h => by
    cases u with
    | int j t =>
      obtain rfl : j = i := of_decide_eq_true h
      exact ⟨.int j, ⟨t, rfl⟩, fun _ => .int j⟩
    | _ => cases h
  | .str x, u, h => by
    cases u with
    | str y t =>
      obtain rfl : y = x := of_decide_eq_true h
      exact ⟨.str y, ⟨t, rfl⟩, fun _ => .str y⟩
    | _ => cases h
  | .tuple ds, u, h => by
    cases u with
    | ref a =>
      have h1 : (match K.lookup a with
        | some o => decide (o.cls = .type "tuple") && (match o.data with
          | .seq its _ => decide (its.size ≤ sizeLine) && datsB K ds its.toList
          | _ => false)
        | none => false) = true := h
      cases q : K.lookup a with
      | none =>
        rw [q] at h1
        cases h1
      | some o =>
        rw [q] at h1
        obtain ⟨c1, h2⟩ := ba h1
        split at h2
        · rename_i its n hd
          obtain ⟨c2, c3⟩ := ba h2
          obtain ⟨vs, rv, hv⟩ := datsB_ok ds its.toList c3
          exact ⟨.ref a, rfl, fun H => .tup (.inr ⟨o, its, n, q, of_decide_eq_true c1, hd, of_decide_eq_true c2, rv⟩) (hv H)⟩
        · cases h2
    | _ => cases h
  | .none, _, h => by cases h
  | .bool _, _, h => by cases h
  | .list _, _, h => by cases h
  | .dict _, _, h => by cases h
theorem datsB_ok {K : PySem.W.Frag} : ∀ (ds : List PyData) (us : List Value), datsB K ds us = true → ∃ vs, Vals vs us ∧ ∀ H, DpAll K H vs ds
  | [], us, h => by
    cases us with
    | nil => exact ⟨[], .nil, fun _ => .nil⟩
    | cons _ _ => cases h
  | d :: ds, us, h => by
    cases us with
    | nil => cases h
    | cons u us =>
      obtain ⟨h1, h2⟩ := ba (show (datB K d u && datsB K ds us) = true from h)
      obtain ⟨v, rv, hv⟩ := datB_ok d u h1
      obtain ⟨vs, rvs, hvs⟩ := datsB_ok ds us h2
      exact ⟨v :: vs, .cons rv rvs, fun H => .cons (hv H) (hvs H)⟩
end
/-- the module's name x holds this written datum -/
def datW (K : PySem.W.Frag) (p : Str × PyData) : Bool := eqO (PySem.W.nsIn K mainGlobals p.1) (some (some (.ref (ga K p.1)))) && datB K p.2 (.ref (ga K p.1))
theorem datW_ok {K : PySem.W.Frag} {h : Heap} {mg : Str → Option Value} {p : Str × PyData} (c : datW K p = true) (X : K.In h) (G : h.Ns mainGlobals mg) : K18.Wr K mg p.1 p.2 := by
  obtain ⟨c1, c2⟩ := ba c
  obtain ⟨v, rv, hv⟩ := datB_ok _ _ c2
  refine ⟨ga K p.1, PySem.W.mg_of X G (eqO_ok c1), fun H => ?_⟩
  cases v with
  | ref a =>
    have e : Value.ref (ga K p.1) = Value.ref a := rv
    injection e with e
    rw [e]
    exact hv H
  | _ => first | (obtain ⟨_, e⟩ := rv; cases e) | (exact absurd rv (fun e => by cases e))
/-- an own exception class -/
def oexB (K : PySem.W.Frag) (C : Addr) : Bool := (match K.lookup C with
  | some ⟨.type "type", _, .cls cd, sl⟩ => (match cd.mro, sl.toList with
    | .ref C' :: bm, [_, _, _, _, some (.builtin n), _] => C' == C && n == "ValueError.__new__" && !cd.hasDel && cd.hasDict && PySem.HandSPX.refsVE bm
    | _, _ => false)
  | _ => false) && (eqO (PySem.W.findIn K (.ref C) "__setattr__") (some (some (.builtin "object.__setattr__"))) && (decide (PySem.W.subIn K (.ref C) (.type "BaseException") = some true) && (decide (PySem.W.typeIn K (.ref C) = some (.type "type")) && PySem.W.keepIn K (.ref C))))
theorem oexB_ok {K : PySem.W.Frag} {C : Addr} (h : oexB K C = true) : OexC K C := by
  obtain ⟨q, h⟩ := ba h
  obtain ⟨h1, h⟩ := ba h
  obtain ⟨h2, h⟩ := ba h
  obtain ⟨h3, h4⟩ := ba h
  refine ⟨?_, eqO_ok h1, of_decide_eq_true h2, of_decide_eq_true h3, h4⟩
  split at q
  · rename_i dd cd sl ho
    split at q
    · rename_i C' bm k0 k1 k2 k3 n k5 hm hs
      simp only [Bool.and_eq_true, beq_iff_eq, Bool.not_eq_true'] at q
      obtain ⟨⟨⟨⟨rfl, rfl⟩, hdel⟩, hdct⟩, ht⟩ := q
      obtain ⟨nm, bs, mro, ns, qn, hd, sn, sub, ab, col, del⟩ := cd
      dsimp only at hm hdel hdct
      subst hm hdel hdct
      have hsl : sl = #[k0, k1, k2, k3, some (.builtin "ValueError.__new__"), k5] := by
        obtain ⟨l⟩ := sl
        simp only at hs
        rw [hs]
      subst hsl
      exact ⟨nm, qn, ns, bs, bm, sn, sub, ab, col, dd, k0, k1, k2, k3, k5, ho, ht⟩
    · cases q
  · cases q
def excDB (K : PySem.W.Frag) (C : Addr) : Bool := (PySem.W.clsIn K C).isSome && (eqO (PySem.W.findIn K (.ref C) "__class__") (some (some (.builtin "object.__class__"))) && (eqO (PySem.W.specialIn K (.builtin "object.__class__") "__get__") (some (some (.builtin "getset_descriptor.__get__"))) && (decide (PySem.W.takesIn K (.builtin "object.__class__") = some true) && decide (PySem.W.mroIn K C (.type "object") = some true))))
theorem excDB_ok {K : PySem.W.Frag} {C : Addr} (h : excDB K C = true) (T : XfC K C) : So.ExcD K C := by
  obtain ⟨h0, h⟩ := ba h
  obtain ⟨h1, h⟩ := ba h
  obtain ⟨h2, h⟩ := ba h
  obtain ⟨h3, h4⟩ := ba h
  exact ⟨h0, T.ga, T.gg, T.exC, eqO_ok h1, eqO_ok h2, of_decide_eq_true h3, of_decide_eq_true h4⟩
/-- what the suites of the laws ask of the class C: of its family F (the errors that it is), of the errors that it is not -/
def famB (K : PySem.W.Frag) (C : Addr) (fs : List Str) : Bool := fs.all fun f => eqO (PySem.W.findIn K (.ref C) f) (some none)
def initB (K : PySem.W.Frag) (C : Addr) : Bool := eqO (PySem.W.findIn K (.ref C) "__init__") (some (some (.ref (ma K C "__init__")))) && decide (PySem.W.typeIn K (.ref (ma K C "__init__")) = some (.type "function"))
def kitB (K : PySem.W.Frag) (C : Addr) (p : Str × Bool) : Bool := decide (PySem.W.kitOne K (.ref C) (.ref (ga K p.1)) = some p.2)
end Hx
/-! ### the head: what it says of the top -/
namespace Q21
open PySem PySem.Spec PyProof.Rows L2 Evl Fx Fr Dt Tr DtG K18 K17
def dN (x : Str) (i : Nat) : He.DefD := ⟨(x, none), x, x, defArgs (K18.topS i), defBody (K18.topS i), defScope (K18.topS i), [], []⟩
def dI : He.DefD := ⟨("NotUsable", some "__init__"), "__init__", "NotUsable.__init__", defArgs initS, defBody initS, defScope initS, [], []⟩
def fnA : List He.DefD := [dN "is_sorted" 11, dN "is_whole" 13, dN "has_span_shape" 14, dN "has_tree_shape" 15, dN "subtrees_of" 16, dN "is_service_name" 17, dN "is_mark" 18, dN "fault_of_span" 19, dN "is_tree" 21, dN "is_sight" 22, dN "is_piece" 23, dN "is_calls" 24, dN "reduced_pair" 28, dN "plus" 29, dN "minus" 30, dN "times" 31, dN "mixed" 34, dN "joined" 35, dN "both" 36, dN "closed" 37, dN "with_piece" 38, dN "tree_outcomes" 39, dN "kept_or_gone" 40, dN "as_sights" 41, dN "left_of" 43]
def fnB : List He.DefD := [dN "check_sight" 44, dN "chances_left" 45, dN "piece_outcomes" 46, dN "stay_chances" 47, dN "chance_to_stay" 48, dN "_law_feed" 50, dN "_law_draw" 51, dN "_law_choice" 52, dN "_law_spans" 53, dN "_law_seen" 54, dN "_law_kept_sight" 55, dN "_law_own_sight" 56, dN "_law_sets" 57, dN "_law_some_tree" 58, dN "_law_some_sight" 59, dN "_law_ids" 60, dN "_law_is_name" 61, dN "_law_is_sorted" 62, dN "_law_is_tree" 63, dN "_law_is_sight" 64, dN "_law_bent" 65, dN "_law_outcome" 66, dN "_law_due" 67, dN "_law_agrees" 68, dN "law" 69, dI]
def fn : List He.DefD := fnA ++ fnB
def faA : List He.Fa := [.glo "is_sorted", .glo "is_whole", .glo "has_span_shape", .glo "has_tree_shape", .glo "subtrees_of", .glo "is_service_name", .glo "is_mark", .glo "fault_of_span", .glo "is_tree", .glo "is_sight", .glo "is_piece", .glo "is_calls", .glo "reduced_pair", .glo "plus", .glo "minus", .glo "times", .glo "mixed", .glo "joined", .glo "both", .glo "closed", .glo "with_piece", .glo "tree_outcomes", .glo "kept_or_gone", .glo "as_sights", .glo "left_of", .glo "check_sight", .glo "chances_left", .glo "piece_outcomes", .glo "stay_chances", .glo "chance_to_stay", .glo "_law_feed", .glo "_law_draw", .glo "_law_choice", .glo "_law_spans", .glo "_law_seen", .glo "_law_kept_sight"]
def faB : List He.Fa := [.glo "_law_own_sight", .glo "_law_sets", .glo "_law_some_tree", .glo "_law_some_sight", .glo "_law_ids", .glo "_law_is_name", .glo "_law_is_sorted", .glo "_law_is_tree", .glo "_law_is_sight", .glo "_law_bent", .glo "_law_outcome", .glo "_law_due", .glo "_law_agrees", .glo "law", .free "isinstance", .free "int", .free "bool", .free "str", .free "tuple", .free "list", .free "len", .free "range", .free "all", .free "enumerate", .free "sorted", .free "repr", .free "ValueError", .glo "ThinError", .glo "InvalidPaper", .glo "NotUsable", .glo "PaperError", .glo "TraceError", .glo "BookError", .glo "TextError", .glo "NotTold"]
def fa : List He.Fa := faA ++ faB
def kits : List (Str × Bool) := [("InvalidPaper", false), ("NotUsable", true), ("PaperError", false), ("TraceError", true)]
def ex (K : PySem.W.Frag) : Bool := Hx.bltB K [("gcd", "math.gcd")] && (Hx.datW K ("ZERO", .tuple [.int 0, .int 1]) && (Hx.datW K ("ONE", .tuple [.int 1, .int 1]) && (Hx.datW K ("NOTHING", .tuple [.tuple [], .tuple []]) && (Hx.oexB K (He.ga K "NotUsable") && (L2.xfB K (He.ga K "NotUsable") && (Hx.excDB K (He.ga K "NotUsable") && (Hx.famB K (He.ga K "NotUsable") ["word", "at"] && (Hx.initB K (He.ga K "NotUsable") &&
  (decide (PySem.W.exmOne K (.ref (He.ga K "NotUsable")) (.ref (He.ga K "ThinError")) = some true) && (kits.all (fun q => Hx.kitB K (He.ga K "NotUsable") q) &&
  (decide (PySem.W.kitAny K (.ref (He.ga K "NotUsable")) [.ref (He.ga K "BookError"), .ref (He.ga K "TextError"), .ref (He.ga K "NotTold")] = some false) && decide (PySem.W.kitOne K (.ref (He.ga K "NotUsable")) (.type "ValueError") = some true))))))))))))
def tf : List He.Defn := [("_law_agrees", none)]
abbrev R : PySem.W.OpenRow := PySem.W.OpenLaw.row PySem.Challenge.rw_thinspans_k21_what_is_left_told
abbrev hk : PySem.W.Hook := He.hookX 5 fa fn [] tf ex
def ob (s : PySem.W.SharedT) : He.AlX := He.obsX 5 fa fn [] tf ex (HandSHeadRun.getT s)
theorem ob_eq (s : PySem.W.SharedT) : ob s = hk.obs s.abs := He.obsX_eq (HandSHeadRun.getT_eq s)
def looseA : List Str := ["ThinError", "PaperError", "TraceError", "BookError", "TextError", "InvalidPaper", "NotUsable", "NotTold", "is_sorted", "is_whole", "has_span_shape", "has_tree_shape", "subtrees_of", "is_service_name", "is_mark", "fault_of_span", "is_tree", "is_sight", "is_piece", "is_calls", "ZERO", "ONE", "reduced_pair", "plus", "minus", "times", "NOTHING", "mixed", "joined", "both"]
def looseB : List Str := ["closed", "with_piece", "tree_outcomes", "kept_or_gone", "as_sights", "left_of", "check_sight", "chances_left", "piece_outcomes", "stay_chances", "chance_to_stay", "_law_feed", "_law_draw", "_law_choice", "_law_spans", "_law_seen", "_law_kept_sight", "_law_own_sight", "_law_sets", "_law_some_tree", "_law_some_sight", "_law_ids", "_law_is_name", "_law_is_sorted", "_law_is_tree", "_law_is_sight", "_law_bent", "_law_outcome", "_law_due", "_law_agrees"]
def loose : List Str := looseA ++ looseB
set_option maxHeartbeats 0 in
theorem run (w : World) : HandSHeadRun.RunEqI R (PySem.W.view R.prog [0, 69]) hk ob 200000 loose w := by
  unfold HandSHeadRun.RunEqI
  kernel_rfl
end Q21
/-! ### the facts put together -/
namespace Q21
open PySem PySem.Spec PyProof.Rows L2 Evl Fx Fr Dt Tr DtG K18 K17
/-- as toFun, the code object told -/
theorem toFunC {K : PySem.W.Frag} {x qual : Str} {st : Stmt} {p : Str × Option Str} {fd : FuncData} (F : FunD K x qual (defArgs st) (defBody st) (defScope st) [] [] (He.fAd K p) fd) : FunC K x qual st (He.fAd K p) fd (He.codeOf K p) := by
  obtain ⟨⟨oc, od, dV, kV, doc, pm, an, cdv, ct, osl, e, l, c, d, k⟩, kp⟩ := F
  rcases d with ⟨_, d⟩ | ⟨d, _⟩
  · subst d
    obtain ⟨c', rfl⟩ := He.codeIn_ref c
    subst e
    have z : He.codeOf K p = c' := He.codeOf_eq l rfl
    rw [z]
    exact ⟨⟨oc, od, kV, doc, pm, an, ct, osl, rfl, l, c⟩, kp⟩
  · exact absurd rfl d
set_option maxHeartbeats 4000000 in
theorem facts {P : Program} {w : World} {K : PySem.W.Frag} {h : Heap} {mg : Str → Option Value} {f : Addr} (X : K.In h) (G : h.Ns mainGlobals mg) (hfa : mg ("law" : Str) = some (.ref f)) (c : He.SaysX fa fn [] tf ex w h K) :
    ∃ fd : FuncData, (∀ (s : Shared) (v : Value), BindsTo s fd ⟨[v], []⟩ [("_law_script", v)]) ∧ ∀ base : Heap, K.In base → base.Ns mainGlobals mg → LamX.TabB base mg (He.cT K ("_law_agrees", none)).1 (He.cT K ("_law_agrees", none)).2 → FnG P w K mg base CX0 35 f fd ["_law_script"] (spLawT K (He.cT K ("_law_agrees", none)).2) := by
  have cd := c.t.d
  have gl : ∀ (i : Nat) {x : Str}, fa[i]? = some (.glo x) → mg x = some (.ref (He.ga K x)) := fun i x e => He.glo_ok X G (cd.fact i e)
  have fr : ∀ (i : Nat) {x : Str}, fa[i]? = some (.free x) → mg x = none := fun i x e => He.free_ok X G (cd.fact i e)
  obtain ⟨_, Qd0⟩ := cd.def_ 0 (d := dN "is_sorted" 11) rfl
  obtain ⟨_, Qd1⟩ := cd.def_ 1 (d := dN "is_whole" 13) rfl
  obtain ⟨_, Qd2⟩ := cd.def_ 2 (d := dN "has_span_shape" 14) rfl
  obtain ⟨_, Qd3⟩ := cd.def_ 3 (d := dN "has_tree_shape" 15) rfl
  obtain ⟨_, Qd4⟩ := cd.def_ 4 (d := dN "subtrees_of" 16) rfl
  obtain ⟨_, Qd5⟩ := cd.def_ 5 (d := dN "is_service_name" 17) rfl
  obtain ⟨_, Qd6⟩ := cd.def_ 6 (d := dN "is_mark" 18) rfl
  obtain ⟨_, Qd7⟩ := cd.def_ 7 (d := dN "fault_of_span" 19) rfl
  obtain ⟨_, Qd8⟩ := cd.def_ 8 (d := dN "is_tree" 21) rfl
  obtain ⟨_, Qd9⟩ := cd.def_ 9 (d := dN "is_sight" 22) rfl
  obtain ⟨_, Qd10⟩ := cd.def_ 10 (d := dN "is_piece" 23) rfl
  obtain ⟨_, Qd11⟩ := cd.def_ 11 (d := dN "is_calls" 24) rfl
  obtain ⟨_, Qd12⟩ := cd.def_ 12 (d := dN "reduced_pair" 28) rfl
  obtain ⟨_, Qd13⟩ := cd.def_ 13 (d := dN "plus" 29) rfl
  obtain ⟨_, Qd14⟩ := cd.def_ 14 (d := dN "minus" 30) rfl
  obtain ⟨_, Qd15⟩ := cd.def_ 15 (d := dN "times" 31) rfl
  obtain ⟨_, Qd16⟩ := cd.def_ 16 (d := dN "mixed" 34) rfl
  obtain ⟨_, Qd17⟩ := cd.def_ 17 (d := dN "joined" 35) rfl
  obtain ⟨_, Qd18⟩ := cd.def_ 18 (d := dN "both" 36) rfl
  obtain ⟨_, Qd19⟩ := cd.def_ 19 (d := dN "closed" 37) rfl
  obtain ⟨_, Qd20⟩ := cd.def_ 20 (d := dN "with_piece" 38) rfl
  obtain ⟨_, Qd21⟩ := cd.def_ 21 (d := dN "tree_outcomes" 39) rfl
  obtain ⟨_, Qd22⟩ := cd.def_ 22 (d := dN "kept_or_gone" 40) rfl
  obtain ⟨_, Qd23⟩ := cd.def_ 23 (d := dN "as_sights" 41) rfl
  obtain ⟨_, Qd24⟩ := cd.def_ 24 (d := dN "left_of" 43) rfl
  obtain ⟨_, Qd25⟩ := cd.def_ 25 (d := dN "check_sight" 44) rfl
  obtain ⟨_, Qd26⟩ := cd.def_ 26 (d := dN "chances_left" 45) rfl
  obtain ⟨_, Qd27⟩ := cd.def_ 27 (d := dN "piece_outcomes" 46) rfl
  obtain ⟨_, Qd28⟩ := cd.def_ 28 (d := dN "stay_chances" 47) rfl
  obtain ⟨_, Qd29⟩ := cd.def_ 29 (d := dN "chance_to_stay" 48) rfl
  obtain ⟨_, Qd30⟩ := cd.def_ 30 (d := dN "_law_feed" 50) rfl
  obtain ⟨_, Qd31⟩ := cd.def_ 31 (d := dN "_law_draw" 51) rfl
  obtain ⟨_, Qd32⟩ := cd.def_ 32 (d := dN "_law_choice" 52) rfl
  obtain ⟨_, Qd33⟩ := cd.def_ 33 (d := dN "_law_spans" 53) rfl
  obtain ⟨_, Qd34⟩ := cd.def_ 34 (d := dN "_law_seen" 54) rfl
  obtain ⟨_, Qd35⟩ := cd.def_ 35 (d := dN "_law_kept_sight" 55) rfl
  obtain ⟨_, Qd36⟩ := cd.def_ 36 (d := dN "_law_own_sight" 56) rfl
  obtain ⟨_, Qd37⟩ := cd.def_ 37 (d := dN "_law_sets" 57) rfl
  obtain ⟨_, Qd38⟩ := cd.def_ 38 (d := dN "_law_some_tree" 58) rfl
  obtain ⟨_, Qd39⟩ := cd.def_ 39 (d := dN "_law_some_sight" 59) rfl
  obtain ⟨_, Qd40⟩ := cd.def_ 40 (d := dN "_law_ids" 60) rfl
  obtain ⟨_, Qd41⟩ := cd.def_ 41 (d := dN "_law_is_name" 61) rfl
  obtain ⟨_, Qd42⟩ := cd.def_ 42 (d := dN "_law_is_sorted" 62) rfl
  obtain ⟨_, Qd43⟩ := cd.def_ 43 (d := dN "_law_is_tree" 63) rfl
  obtain ⟨_, Qd44⟩ := cd.def_ 44 (d := dN "_law_is_sight" 64) rfl
  obtain ⟨_, Qd45⟩ := cd.def_ 45 (d := dN "_law_bent" 65) rfl
  obtain ⟨_, Qd46⟩ := cd.def_ 46 (d := dN "_law_outcome" 66) rfl
  obtain ⟨_, Qd47⟩ := cd.def_ 47 (d := dN "_law_due" 67) rfl
  obtain ⟨_, Qd48⟩ := cd.def_ 48 (d := dN "_law_agrees" 68) rfl
  obtain ⟨fd, Qd49⟩ := cd.def_ 49 (d := dN "law" 69) rfl
  obtain ⟨_, QI⟩ := cd.def_ 50 (d := dI) rfl
  have F0 := Hx.toFun (st := K18.topS 11) Qd0
  have F1 := Hx.toFun (st := K18.topS 13) Qd1
  have F2 := Hx.toFun (st := K18.topS 14) Qd2
  have F3 := Hx.toFun (st := K18.topS 15) Qd3
  have F4 := Hx.toFun (st := K18.topS 16) Qd4
  have F5 := Hx.toFun (st := K18.topS 17) Qd5
  have F6 := Hx.toFun (st := K18.topS 18) Qd6
  have F7 := Hx.toFun (st := K18.topS 19) Qd7
  have F8 := Hx.toFun (st := K18.topS 21) Qd8
  have F9 := Hx.toFun (st := K18.topS 22) Qd9
  have F10 := Hx.toFun (st := K18.topS 23) Qd10
  have F11 := Hx.toFun (st := K18.topS 24) Qd11
  have F12 := Hx.toFun (st := K18.topS 28) Qd12
  have F13 := Hx.toFun (st := K18.topS 29) Qd13
  have F14 := Hx.toFun (st := K18.topS 30) Qd14
  have F15 := Hx.toFun (st := K18.topS 31) Qd15
  have F16 := Hx.toFun (st := K18.topS 34) Qd16
  have F17 := Hx.toFun (st := K18.topS 35) Qd17
  have F18 := Hx.toFun (st := K18.topS 36) Qd18
  have F19 := Hx.toFun (st := K18.topS 37) Qd19
  have F20 := Hx.toFun (st := K18.topS 38) Qd20
  have F21 := Hx.toFun (st := K18.topS 39) Qd21
  have F22 := Hx.toFun (st := K18.topS 40) Qd22
  have F23 := Hx.toFun (st := K18.topS 41) Qd23
  have F24 := Hx.toFun (st := K18.topS 43) Qd24
  have F25 := Hx.toFun (st := K18.topS 44) Qd25
  have F26 := Hx.toFun (st := K18.topS 45) Qd26
  have F27 := Hx.toFun (st := K18.topS 46) Qd27
  have F28 := Hx.toFun (st := K18.topS 47) Qd28
  have F29 := Hx.toFun (st := K18.topS 48) Qd29
  have F30 := Hx.toFun (st := K18.topS 50) Qd30
  have F31 := Hx.toFun (st := K18.topS 51) Qd31
  have F32 := Hx.toFun (st := K18.topS 52) Qd32
  have F33 := Hx.toFun (st := K18.topS 53) Qd33
  have F34 := Hx.toFun (st := K18.topS 54) Qd34
  have F35 := Hx.toFun (st := K18.topS 55) Qd35
  have F36 := Hx.toFun (st := K18.topS 56) Qd36
  have F37 := Hx.toFun (st := K18.topS 57) Qd37
  have F38 := Hx.toFun (st := K18.topS 58) Qd38
  have F39 := Hx.toFun (st := K18.topS 59) Qd39
  have F40 := Hx.toFun (st := K18.topS 60) Qd40
  have F41 := Hx.toFun (st := K18.topS 61) Qd41
  have F42 := Hx.toFun (st := K18.topS 62) Qd42
  have F43 := Hx.toFun (st := K18.topS 63) Qd43
  have F44 := Hx.toFun (st := K18.topS 64) Qd44
  have F45 := Hx.toFun (st := K18.topS 65) Qd45
  have F46 := Hx.toFun (st := K18.topS 66) Qd46
  have F47 := Hx.toFun (st := K18.topS 67) Qd47
  have F48 := Hx.toFun (st := K18.topS 68) Qd48
  have F49 := Hx.toFun (st := K18.topS 69) Qd49
  have FC := toFunC (st := K18.topS 68) (p := ("_law_agrees", none)) Qd48
  have FI := Hx.toFun (st := initS) QI
  have e := hfa.symm.trans (gl 49 rfl)
  cases e
  obtain ⟨m1, m⟩ := He.ba c.more
  obtain ⟨m2, m⟩ := He.ba m
  obtain ⟨m3, m⟩ := He.ba m
  obtain ⟨m4, m⟩ := He.ba m
  obtain ⟨m5, m⟩ := He.ba m
  obtain ⟨m6, m⟩ := He.ba m
  obtain ⟨m7, m⟩ := He.ba m
  obtain ⟨m8, m⟩ := He.ba m
  obtain ⟨m9, m⟩ := He.ba m
  obtain ⟨m10, m⟩ := He.ba m
  obtain ⟨m11, m⟩ := He.ba m
  obtain ⟨m12, m13⟩ := He.ba m
  have gG : mg ("gcd" : Str) = some (.builtin "math.gcd") := PySem.W.mg_of X G (He.eqO_ok (List.all_eq_true.mp m1 ("gcd", "math.gcd") List.mem_cons_self))
  have W0 : Wr K mg "ZERO" (frD 0) := Hx.datW_ok m2 X G
  have W1 : Wr K mg "ONE" (frD 1) := Hx.datW_ok m3 X G
  have WN : Wr K mg "NOTHING" (.tuple [.tuple [], .tuple []]) := Hx.datW_ok m4 X G
  have oex := Hx.oexB_ok m5
  have xf := L2.xfB_ok m6
  have exd := Hx.excDB_ok m7 xf
  have fw : PySem.W.findIn K (.ref (He.ga K "NotUsable")) "word" = some none := He.eqO_ok (List.all_eq_true.mp m8 "word" (by simp))
  have fat : PySem.W.findIn K (.ref (He.ga K "NotUsable")) "at" = some none := He.eqO_ok (List.all_eq_true.mp m8 "at" (by simp))
  obtain ⟨n1, n2⟩ := He.ba m9
  have iC := He.eqO_ok n1
  have tI := of_decide_eq_true n2
  have kit : ∀ x b, (x, b) ∈ kits → PySem.W.kitOne K (.ref (He.ga K "NotUsable")) (.ref (He.ga K x)) = some b := fun x b hx => of_decide_eq_true (List.all_eq_true.mp m11 (x, b) hx)
  have T : OutK K mg (He.ga K "NotUsable") (He.ga K "ThinError") (He.ga K "InvalidPaper") (He.ga K "PaperError") (He.ga K "TraceError") (He.ga K "BookError") (He.ga K "TextError") (He.ga K "NotTold") :=
    ⟨exd, xf, fw, fat, (gl 63 rfl), of_decide_eq_true m10, (gl 64 rfl), kit _ _ (by simp [kits]), (gl 65 rfl), kit _ _ (by simp [kits]), (gl 66 rfl), kit _ _ (by simp [kits]), (gl 67 rfl), kit _ _ (by simp [kits]), (gl 68 rfl), (gl 69 rfl), (gl 70 rfl), of_decide_eq_true m12, of_decide_eq_true m13, (fr 62 rfl), (fr 50 rfl)⟩
  have b := FunD.bindsA (ps := ["_law_script"]) Qd49 fun _ _ _ _ _ _ us hl => match us, hl with | [_], _ => rfl
  refine ⟨fd, fun s v => b s [v] rfl, fun base _ _ TB => ?_⟩
  have B0 : Binds K _ ["things"] [] := F0.binds (ps := ["things"]) fun _ _ _ _ _ _ us hl => match us, hl with | [_], _ => rfl
  have B1 : Binds K _ ["thing"] [] := F1.binds (ps := ["thing"]) fun _ _ _ _ _ _ us hl => match us, hl with | [_], _ => rfl
  have B2 : Binds K _ ["thing"] [] := F2.binds (ps := ["thing"]) fun _ _ _ _ _ _ us hl => match us, hl with | [_], _ => rfl
  have B3 : Binds K _ ["thing"] [] := F3.binds (ps := ["thing"]) fun _ _ _ _ _ _ us hl => match us, hl with | [_], _ => rfl
  have B4 : Binds K _ ["tree"] [] := F4.binds (ps := ["tree"]) fun _ _ _ _ _ _ us hl => match us, hl with | [_], _ => rfl
  have B5 : Binds K _ ["text"] [] := F5.binds (ps := ["text"]) fun _ _ _ _ _ _ us hl => match us, hl with | [_], _ => rfl
  have B6 : Binds K _ ["thing"] [] := F6.binds (ps := ["thing"]) fun _ _ _ _ _ _ us hl => match us, hl with | [_], _ => rfl
  have B7 : Binds K _ ["tree"] [] := F7.binds (ps := ["tree"]) fun _ _ _ _ _ _ us hl => match us, hl with | [_], _ => rfl
  have B8 : Binds K _ ["thing"] [] := F8.binds (ps := ["thing"]) fun _ _ _ _ _ _ us hl => match us, hl with | [_], _ => rfl
  have B9 : Binds K _ ["thing"] [] := F9.binds (ps := ["thing"]) fun _ _ _ _ _ _ us hl => match us, hl with | [_], _ => rfl
  have B10 : Binds K _ ["thing"] [] := F10.binds (ps := ["thing"]) fun _ _ _ _ _ _ us hl => match us, hl with | [_], _ => rfl
  have B11 : Binds K _ ["thing"] [] := F11.binds (ps := ["thing"]) fun _ _ _ _ _ _ us hl => match us, hl with | [_], _ => rfl
  have B12 : Binds K _ ["p", "q"] [] := F12.binds (ps := ["p", "q"]) fun _ _ _ _ _ _ us hl => match us, hl with | [_, _], _ => rfl
  have B13 : Binds K _ ["one", "other"] [] := F13.binds (ps := ["one", "other"]) fun _ _ _ _ _ _ us hl => match us, hl with | [_, _], _ => rfl
  have B14 : Binds K _ ["one", "other"] [] := F14.binds (ps := ["one", "other"]) fun _ _ _ _ _ _ us hl => match us, hl with | [_, _], _ => rfl
  have B15 : Binds K _ ["one", "other"] [] := F15.binds (ps := ["one", "other"]) fun _ _ _ _ _ _ us hl => match us, hl with | [_, _], _ => rfl
  have B16 : Binds K _ ["pairs"] [] := F16.binds (ps := ["pairs"]) fun _ _ _ _ _ _ us hl => match us, hl with | [_], _ => rfl
  have B17 : Binds K _ ["parts"] [] := F17.binds (ps := ["parts"]) fun _ _ _ _ _ _ us hl => match us, hl with | [_], _ => rfl
  have B18 : Binds K _ ["one", "other"] [] := F18.binds (ps := ["one", "other"]) fun _ _ _ _ _ _ us hl => match us, hl with | [_, _], _ => rfl
  have B19 : Binds K _ ["outcomes", "word"] [] := F19.binds (ps := ["outcomes", "word"]) fun _ _ _ _ _ _ us hl => match us, hl with | [_, _], _ => rfl
  have B20 : Binds K _ ["trees", "pieces", "word"] [] := F20.binds (ps := ["trees", "pieces", "word"]) fun _ _ _ _ _ _ us hl => match us, hl with | [_, _, _], _ => rfl
  have B21 : Binds K _ ["tree", "chances"] [] := F21.binds (ps := ["tree", "chances"]) fun _ _ _ _ _ _ us hl => match us, hl with | [_, _], _ => rfl
  have B22 : Binds K _ ["chance", "kept", "gone"] [] := F22.binds (ps := ["chance", "kept", "gone"]) fun _ _ _ _ _ _ us hl => match us, hl with | [_, _, _], _ => rfl
  have B23 : Binds K _ ["outcomes"] [] := F23.binds (ps := ["outcomes"]) fun _ _ _ _ _ _ us hl => match us, hl with | [_], _ => rfl
  have B24 : Binds K _ ["sight", "services"] [] := F24.binds (ps := ["sight", "services"]) fun _ _ _ _ _ _ us hl => match us, hl with | [_, _], _ => rfl
  have B25 : Binds K _ ["thing"] [] := F25.binds (ps := ["thing"]) fun _ _ _ _ _ _ us hl => match us, hl with | [_], _ => rfl
  have B26 : Binds K _ ["sight", "stays", "others"] [] := F26.binds (ps := ["sight", "stays", "others"]) fun _ _ _ _ _ _ us hl => match us, hl with | [_, _, _], _ => rfl
  have B27 : Binds K _ ["piece", "stays", "others"] [] := F27.binds (ps := ["piece", "stays", "others"]) fun _ _ _ _ _ _ us hl => match us, hl with | [_, _, _], _ => rfl
  have B28 : Binds K _ ["tree", "stays", "others"] [] := F28.binds (ps := ["tree", "stays", "others"]) fun _ _ _ _ _ _ us hl => match us, hl with | [_, _, _], _ => rfl
  have B29 : Binds K _ ["service", "stays", "others"] [] := F29.binds (ps := ["service", "stays", "others"]) fun _ _ _ _ _ _ us hl => match us, hl with | [_, _, _], _ => rfl
  have B30 : Binds K _ ["_law_script"] [] := F30.binds (ps := ["_law_script"]) fun _ _ _ _ _ _ us hl => match us, hl with | [_], _ => rfl
  have B31 : Binds K _ ["_law_feed_here", "_law_many"] [] := F31.binds (ps := ["_law_feed_here", "_law_many"]) fun _ _ _ _ _ _ us hl => match us, hl with | [_, _], _ => rfl
  have B32 : Binds K _ ["_law_feed_here", "_law_some"] [] := F32.binds (ps := ["_law_feed_here", "_law_some"]) fun _ _ _ _ _ _ us hl => match us, hl with | [_, _], _ => rfl
  have B33 : Binds K _ ["_law_root", "_law_way"] [] := F33.binds (ps := ["_law_root", "_law_way"]) fun _ _ _ _ _ _ us hl => match us, hl with | [_, _], _ => rfl
  have B34 : Binds K _ ["_law_root", "_law_way", "_law_held"] [] := F34.binds (ps := ["_law_root", "_law_way", "_law_held"]) fun _ _ _ _ _ _ us hl => match us, hl with | [_, _, _], _ => rfl
  have B35 : Binds K _ ["_law_seen_here", "_law_held"] [] := F35.binds (ps := ["_law_seen_here", "_law_held"]) fun _ _ _ _ _ _ us hl => match us, hl with | [_, _], _ => rfl
  have B36 : Binds K _ ["_law_root", "_law_held"] [] := F36.binds (ps := ["_law_root", "_law_held"]) fun _ _ _ _ _ _ us hl => match us, hl with | [_, _], _ => rfl
  have B37 : Binds K _ ["_law_some"] [] := F37.binds (ps := ["_law_some"]) fun _ _ _ _ _ _ us hl => match us, hl with | [_], _ => rfl
  have B38 : Binds K _ ["_law_feed_here", "_law_left", "_law_deep"] [] := F38.binds (ps := ["_law_feed_here", "_law_left", "_law_deep"]) fun _ _ _ _ _ _ us hl => match us, hl with | [_, _, _], _ => rfl
  have B39 : Binds K _ ["_law_feed_here", "_law_root"] [] := F39.binds (ps := ["_law_feed_here", "_law_root"]) fun _ _ _ _ _ _ us hl => match us, hl with | [_, _], _ => rfl
  have B40 : Binds K _ ["_law_seen_here"] [] := F40.binds (ps := ["_law_seen_here"]) fun _ _ _ _ _ _ us hl => match us, hl with | [_], _ => rfl
  have B41 : Binds K _ ["_law_item"] [] := F41.binds (ps := ["_law_item"]) fun _ _ _ _ _ _ us hl => match us, hl with | [_], _ => rfl
  have B42 : Binds K _ ["_law_some"] [] := F42.binds (ps := ["_law_some"]) fun _ _ _ _ _ _ us hl => match us, hl with | [_], _ => rfl
  have B43 : Binds K _ ["_law_item"] [] := F43.binds (ps := ["_law_item"]) fun _ _ _ _ _ _ us hl => match us, hl with | [_], _ => rfl
  have B44 : Binds K _ ["_law_item"] [] := F44.binds (ps := ["_law_item"]) fun _ _ _ _ _ _ us hl => match us, hl with | [_], _ => rfl
  have B45 : Binds K _ ["_law_feed_here", "_law_item"] [] := F45.binds (ps := ["_law_feed_here", "_law_item"]) fun _ _ _ _ _ _ us hl => match us, hl with | [_, _], _ => rfl
  have B46 : Binds K _ ["_law_ask"] [] := F46.binds (ps := ["_law_ask"]) fun _ _ _ _ _ _ us hl => match us, hl with | [_], _ => rfl
  have B47 : Binds K _ ["_law_item", "_law_lot"] [] := F47.binds (ps := ["_law_item", "_law_lot"]) fun _ _ _ _ _ _ us hl => match us, hl with | [_, _], _ => rfl
  have B48 : Binds K _ ["_law_item", "_law_lots"] [] := F48.binds (ps := ["_law_item", "_law_lots"]) fun _ _ _ _ _ _ us hl => match us, hl with | [_, _], _ => rfl
  have B49 : Binds K _ ["_law_script"] [] := F49.binds (ps := ["_law_script"]) fun _ _ _ _ _ _ us hl => match us, hl with | [_], _ => rfl
  have BI : Binds K _ ["self", "word", "at"] [] := FI.binds (ps := ["self", "word", "at"]) fun _ _ _ _ _ _ us hl => match us, hl with | [_, _, _], _ => rfl
  have G1 : FnOk P w K mg base CX0 1 _ _ ["thing"] (spWhole K) := ok_whole F1 (fr 50 rfl) (fr 51 rfl) (fr 52 rfl)
  have c1 := cal F1 G1 (gl 1 rfl) B1
  have G2 : FnOk P w K mg base CX0 2 _ _ ["thing"] (spOne K (fun _ => True) spanB) := ok_span F2 c1 (fr 50 rfl) (fr 54 rfl) (fr 53 rfl) (fr 56 rfl)
  have c2 := cal F2 G2 (gl 2 rfl) B2
  have G3 : FnOk P w K mg base CX0 3 _ _ ["thing"] (spOne K (fun d => dsz d ≤ 1000) shapeB) := ok_shape F3 c2
  have c3 := cal F3 G3 (gl 3 rfl) B3
  have G0 : FnOk P w K mg base CX0 1 _ _ ["things"] (spSorted K) := ok_sorted F0 (fr 58 rfl) (fr 57 rfl) (fr 56 rfl)
  have c0 := cal F0 G0 (gl 0 rfl) B0
  have G5 : FnOk P w K mg base CX0 1 _ _ ["text"] (spName K) := ok_name F5 (fr 58 rfl) (fr 56 rfl)
  have c5 := cal F5 G5 (gl 5 rfl) B5
  have G6 : FnOk P w K mg base CX0 2 _ _ ["thing"] (spMark K) := ok_mark F6 c1
  have c6 := cal F6 G6 (gl 6 rfl) B6
  have G7 : FnOk P w K mg base CX0 3 _ _ ["tree"] (spFault K) := ok_fault F7 c5 c6 c0
  have c7 := cal F7 G7 (gl 7 rfl) B7
  have G4 : FnOk P w K mg base CX0 1 _ _ ["tree"] (spSubs K) := ok_subs F4
  have c4 := cal F4 G4 (gl 4 rfl) B4
  have G8 : FnOk P w K mg base CX0 4 _ _ ["thing"] (spOne K Ok treeB) := Q21.ok_tree F8 c3 c4 c7 (fr 58 rfl)
  have c8 := cal F8 G8 (gl 8 rfl) B8
  have G11 : FnOk P w K mg base CX0 5 _ _ ["thing"] (spOne K Ok callsB) := ok_calls F11 c8 c0 (fr 50 rfl) (fr 54 rfl) (fr 58 rfl)
  have c11 := cal F11 G11 (gl 11 rfl) B11
  have G10 : FnOk P w K mg base CX0 6 _ _ ["thing"] (spOne K Ok pieceB) := ok_piece F10 c8 c11 (fr 50 rfl) (fr 54 rfl) (fr 56 rfl)
  have c10 := cal F10 G10 (gl 10 rfl) B10
  have G9 : FnOk P w K mg base CX0 7 _ _ ["thing"] (spOne K Ok sightB) := ok_sightQ F9 c10 c0 (fr 50 rfl) (fr 54 rfl) (fr 58 rfl) (fr 56 rfl)
  have c9 := cal F9 G9 (gl 9 rfl) B9
  have G12 : FnOk P w K mg base CX0 1 _ _ ["p", "q"] (spMade K) := K17.made_d (ok_reduced F12 gG)
  have c12 := cal F12 G12 (gl 12 rfl) B12
  have G15 : FnOk P w K mg base CX0 2 _ _ ["one", "other"] (spOpF K (· * ·)) := ok_times F15 c12
  have c15 := cal F15 G15 (gl 15 rfl) B15
  have G14 : FnOk P w K mg base CX0 2 _ _ ["one", "other"] (spOpF K (· - ·)) := ok_minus F14 c12
  have c14 := cal F14 G14 (gl 14 rfl) B14
  have G16 : FnOk P w K mg base CX0 1 _ _ ["pairs"] (spMixed K) := ok_mixed F16 (fr 60 rfl)
  have c16 := cal F16 G16 (gl 16 rfl) B16
  have G18 : FnOk P w K mg base CX0 3 _ _ ["one", "other"] (spBoth K) := ok_both F18 c15 (fr 54 rfl) (fr 60 rfl)
  have c18 := cal F18 G18 (gl 18 rfl) B18
  have G17 : FnOk P w K mg base CX0 4 _ _ ["parts"] (spJoined K) := ok_joined F17 c16 c18 W1 WN
  have c17 := cal F17 G17 (gl 17 rfl) B17
  have G20 : FnOk P w K mg base CX0 1 _ _ ["trees", "pieces", "word"] (spWP K) := ok_wp F20 (fr 54 rfl) (fr 60 rfl)
  have c20 := cal F20 G20 (gl 20 rfl) B20
  have G19 : FnOk P w K mg base CX0 2 _ _ ["outcomes", "word"] (spClosed K) := ok_closed F19 c16 c20
  have c19 := cal F19 G19 (gl 19 rfl) B19
  have G22 : FnOk P w K mg base CX0 3 _ _ ["chance", "kept", "gone"] (spKG K) := ok_kg F22 c16 c15 c14 W1 W0
  have c22 := cal F22 G22 (gl 22 rfl) B22
  have G21 : FnOk P w K mg base CX0 5 _ _ ["tree", "chances"] (spTO K) := ok_to F21 c4 c19 c17 c22 (fr 57 rfl) (fr 56 rfl) (fr 54 rfl)
  have c21 := cal F21 G21 (gl 21 rfl) B21
  have G23 : FnOk P w K mg base CX0 1 _ _ ["outcomes"] (spAsS K) := ok_asS F23
  have c23 := cal F23 G23 (gl 23 rfl) B23
  have G29 : FnOk P w K mg base CX0 1 _ _ ["service", "stays", "others"] (spStay K) := ok_stay F29
  have c29 := cal F29 G29 (gl 29 rfl) B29
  have G28 : FnOk P w K mg base CX0 2 _ _ ["tree", "stays", "others"] (spStays K) := ok_stays F28 c4 c29
  have c28 := cal F28 G28 (gl 28 rfl) B28
  have G27 : FnOk P w K mg base CX0 6 _ _ ["piece", "stays", "others"] (spPO K) := ok_po F27 c21 c28 c17 c19
  have c27 := cal F27 G27 (gl 27 rfl) B27
  have G26 : FnOk P w K mg base CX0 7 _ _ ["sight", "stays", "others"] (spCL K) := ok_cl F26 c27 c17 c23
  have c26 := cal F26 G26 (gl 26 rfl) B26
  have GI : FnOk P w K mg base (L2.CX P w) 1 _ _ ["self", "word", "at"] (spInit (He.ga K "NotUsable")) := ok_init FI oex fw fat
  have G25 : FnOk P w K mg base (L2.CX P w) 8 _ _ ["thing"] (spCheck K (He.ga K "NotUsable")) := ok_check F25 c9 oex (gl 65 rfl) iC tI GI BI
  have G24 : FnOk P w K mg base (L2.CX P w) 9 _ _ ["sight", "services"] (spLeft K (He.ga K "NotUsable")) := ok_left F24 G25 (gl 25 rfl) F25.kp B25 c26 W1 W0
  have bk : KBn K _ ["sight", "services"] 0 ["services", "sight"] (fun _ ws => ws.reverse) (fun _ zs => zs.reverse) := kbn_of (go := fun l => l.reverse) F24 (fun _ _ _ _ _ _ ws hl => match ws, hl with | [_, _], _ => rfl) fun r => r.reverse
  have G30 : FnOk P w K mg base CX0 1 _ _ ["_law_script"] (spFeed K) := ok_feed F30 (fr 55 rfl)
  have c30 := cal F30 G30 (gl 30 rfl) B30
  have G31 : FnOk P w K mg base CX0 1 _ _ ["_law_feed_here", "_law_many"] (K18.spDraw) := ok_draw F31 (fr 51 rfl) (fr 56 rfl)
  have c31 := cal F31 G31 (gl 31 rfl) B31
  have G32 : FnOk P w K mg base CX0 2 _ _ ["_law_feed_here", "_law_some"] (spChoice K) := ok_choice F32 c31 (fr 56 rfl)
  have c32 := cal F32 G32 (gl 32 rfl) B32
  have G32v : FnOk P w K mg base CX0 2 _ _ ["_law_feed_here", "_law_some"] (spChoiceV K) := ok_choiceV F32 c31 (fr 56 rfl)
  have c32v := cal F32 G32v (gl 32 rfl) B32
  have G33 : FnOk P w K mg base CX0 6 _ _ ["_law_root", "_law_way"] (spLSpans K 6) := ok_lspans F33 (gl 33 rfl) B33 (fr 59 rfl) 6
  have c33 := cal F33 G33 (gl 33 rfl) B33
  have G33v : FnOk P w K mg base CX0 12 _ _ ["_law_root", "_law_way"] (spLSpans K 12) := ok_lspans F33 (gl 33 rfl) B33 (fr 59 rfl) 12
  have c33v := cal F33 G33v (gl 33 rfl) B33
  have G38 : FnOk P w K mg base CX0 6 _ _ ["_law_feed_here", "_law_left", "_law_deep"] (spTree K 4) := K18.ok_tree F38 (gl 38 rfl) B38 c32 c31 (fr 51 rfl) (fr 57 rfl) (fr 54 rfl) (fr 60 rfl) 4
  have c38 := cal F38 G38 (gl 38 rfl) B38
  have G34 : FnOk P w K mg base CX0 6 _ _ ["_law_root", "_law_way", "_law_held"] (spSeen K 6) := ok_seen F34 (gl 34 rfl) B34 (fr 59 rfl) (fr 54 rfl) (fr 60 rfl) (fr 51 rfl) 6
  have c34 := cal F34 G34 (gl 34 rfl) B34
  have G34v : FnOk P w K mg base CX0 14 _ _ ["_law_root", "_law_way", "_law_held"] (spSeen K 14) := ok_seen F34 (gl 34 rfl) B34 (fr 59 rfl) (fr 54 rfl) (fr 60 rfl) (fr 51 rfl) 14
  have c34v := cal F34 G34v (gl 34 rfl) B34
  have G35 : FnOk P w K mg base CX0 7 _ _ ["_law_seen_here", "_law_held"] (spKS K) := ok_ks F35 c34 (fr 59 rfl) (fr 54 rfl) (fr 60 rfl)
  have c35 := cal F35 G35 (gl 35 rfl) B35
  have G35v : FnOk P w K mg base CX0 15 _ _ ["_law_seen_here", "_law_held"] (spKS2 K) := ok_ks2 F35 c34v (fr 59 rfl) (fr 54 rfl) (fr 60 rfl)
  have c35v := cal F35 G35v (gl 35 rfl) B35
  have G36 : FnOk P w K mg base CX0 8 _ _ ["_law_root", "_law_held"] (spOwn K) := ok_own F36 c35
  have c36 := cal F36 G36 (gl 36 rfl) B36
  have G37 : FnOk P w K mg base CX0 1 _ _ ["_law_some"] (spSetsG K) := ok_setsG F37
  have c37 := cal F37 G37 (gl 37 rfl) B37
  have G39 : FnOk P w K mg base CX0 9 _ _ ["_law_feed_here", "_law_root"] (spSS K) := ok_ss F39 c33 c31 c36
  have c39 := cal F39 G39 (gl 39 rfl) B39
  have G40 : FnOk P w K mg base CX0 13 _ _ ["_law_seen_here"] (spIds K) := ok_ids F40 c33v (fr 59 rfl)
  have c40 := cal F40 G40 (gl 40 rfl) B40
  have G41 : FnOk P w K mg base CX0 1 _ _ ["_law_item"] (spOne K Ok nameDB) := ok_lname F41 (fr 50 rfl) (fr 53 rfl) (fr 56 rfl)
  have c41 := cal F41 G41 (gl 41 rfl) B41
  have G42 : FnOk P w K mg base CX0 1 _ _ ["_law_some"] (spLSorted K) := ok_lsorted F42 (fr 55 rfl) (fr 60 rfl)
  have c42 := cal F42 G42 (gl 42 rfl) B42
  have GT : FnG P w K mg base CX0 31 _ _ ["_law_item"] (spOne K (LtOk 30) treeB) := ok_ltree F43 (gl 43 rfl) B43 c41 c42 (fr 50 rfl) (fr 54 rfl) (fr 56 rfl) (fr 61 rfl) 30
  have GG : FnG P w K mg base CX0 32 _ _ ["_law_item"] (spOne K (LtOk 30) sightB) := ok_lsight F44 GT (gl 43 rfl) F43.kp B43 c42 (fr 50 rfl) (fr 54 rfl) (fr 56 rfl) (fr 61 rfl)
  have GD : FnG P w K mg base CX0 33 _ _ ["_law_item", "_law_lot"] (spLDue K 30) := ok_ldue (m := 32) (by decide) (by decide) F47 GG (gl 44 rfl) F44.kp B44 c40 c35v
  have G45 : FnOk P w K mg base CX0 17 _ _ ["_law_feed_here", "_law_item"] (spBent K 15) := ok_bent F45 (gl 45 rfl) B45 c31 c32v (fr 50 rfl) (fr 54 rfl) (fr 53 rfl) (fr 56 rfl) (fr 55 rfl) 15
  have c45 := cal F45 G45 (gl 45 rfl) B45
  have GA : FnG P w K mg base CX0 34 _ _ ["_law_item", "_law_lots"] (spAgr2 K (He.cT K ("_law_agrees", none)).2) := ok_agr2 FC TB G24 (gl 24 rfl) F24.kp B24 bk F46 (gl 46 rfl) B46 T GD (gl 47 rfl) F47.kp B47 (fr 61 rfl)
  exact ok_law21 F49 c30 c37 c38 c39 c45 GA (gl 48 rfl) F48.kp B48 (fr 57 rfl) (fr 55 rfl) (fr 54 rfl)
end Q21
open PySem PySem.W PySem.Calls PyProof.Rows
set_option maxHeartbeats 0 in
theorem PySem.Challenge.cw_thinspans_k21_what_is_left_told_holds : PySem.Challenge.rw_thinspans_k21_what_is_left_told.Holds := by
  w_on; o_law
  refine HandSHeadRun.head_imp (r := OpenLaw.row PySem.Challenge.rw_thinspans_k21_what_is_left_told) (q := view (OpenLaw.row PySem.Challenge.rw_thinspans_k21_what_is_left_told).prog [0, 69]) (H := Q21.hk) (ob := Q21.ob) (M := 200000) (loose := Q21.loose) (d := HandSHeadRun.topDef (OpenLaw.row PySem.Challenge.rw_thinspans_k21_what_is_left_told).prog 69) (kwd := []) Q21.ob_eq
    Q21.run (by kernel_rfl) (by kernel_rfl) (by kernel_rfl) (by rfl) (by first | assumption | decide +kernel) (by decide +kernel) ⟨rfl, rfl, rfl, rfl, rfl, by decide +kernel⟩ ?hw ?hc
  case hw => w_witness2
  case hc =>
    refine DtT.walk_ofGT (l := PySem.Challenge.rw_thinspans_k21_what_is_left_told) (n := 63) (k := 35) (x := "_law_script") rfl (by decide) (by kernel_rfl) ⟨rfl, by decide, by decide⟩ ?F
    intro w mg fa h Y G hmg0
    obtain ⟨K, KX, c⟩ := Y
    have hmg : mg ("law" : PySem.Str) = some (.ref fa) := by
      have e : (HandSHeadRun.topDef (OpenLaw.row PySem.Challenge.rw_thinspans_k21_what_is_left_told).prog 69).name = ("law" : PySem.Str) := by kernel_rfl
      rw [← e]
      exact hmg0
    obtain ⟨fd, hb, hF⟩ := Q21.facts (P := (PySem.Challenge.rw_thinspans_k21_what_is_left_told).prog) (w := w) KX G hmg c
    have ht : ((("_law_agrees" : PySem.Str), none) : He.Defn) ∈ Q21.tf := List.mem_cons_self
    exact ⟨K, fd, K17.spLawT K _, _, _, KX, c.empty _ ht, c.out _ ht, PySem.W.codeHd_of_K KX (c.hd _ ht), hb, fun H a ns _ _ hT hS => ⟨a, ns, rfl, hS, fun p hp => (by
      obtain rfl := List.mem_singleton.mp hp
      exact LamX.TabS.nil hT), fun _ => rfl⟩, hF⟩
