/- Long division by limbs: the lists behind k rounds. Plain mathematics. -/
import Derived.Test.YtmfinfnjamgboaaDoorByLimb
import Derived.Lib.BitFns
import Derived.Lib.ItoaNum
namespace Go.Proofs.YtmfinfnjamgboaaDoor
open NM

theorem lims_pad {a b r : Nat} (h : r < lpow a) : lims (a + b) r = lims a r ++ List.replicate b 0 := by
  apply lval_inj (lims_lt _ _) (llt_append (lims_lt _ _) (llt_zeros _)) (by rw [lims_length, List.length_append, lims_length, List.length_replicate])
  have h1 := lpow_le (show a ≤ a + b by omega)
  rw [lval_append_zeros, lval_lims, lval_lims, Nat.mod_eq_of_lt h, Nat.mod_eq_of_lt (by omega)]

/-- The rest's list when the places from k on are done. -/
def restl (P : List Nat) (d k : Nat) : List Nat := P.take k ++ lims (P.length - k) (lhigh P k % d)
/-- The quotient's list then. -/
def quotl (P : List Nat) (d m k : Nat) : List Nat := List.replicate k 0 ++ lims (m - k) (lhigh P k / d)

theorem lhigh_lt {P : List Nat} (h : llt P) (k : Nat) : lhigh P k < lpow (P.length - k) := by
  have := lval_lt (llt_drop h k)
  rwa [List.length_drop] at this
theorem lval_split (P : List Nat) (k : Nat) (h : k ≤ P.length) : lval P = lval (P.take k) + lpow k * lhigh P k := lval_take_drop P k h

theorem restl_start {P : List Nat} {d k : Nat} (hP : llt P) (h : lhigh P k < d) (hk : k ≤ P.length) : restl P d k = P := by
  unfold restl
  rw [Nat.mod_eq_of_lt h]
  have e : lims (P.length - k) (lhigh P k) = P.drop k := by
    have := lims_lval (llt_drop hP k)
    rwa [List.length_drop] at this
  have := hk
  rw [e, List.take_append_drop]
theorem quotl_start {P : List Nat} {d m : Nat} (h : lhigh P m < d) : quotl P d m m = List.replicate m 0 := by
  unfold quotl
  rw [Nat.div_eq_of_lt h, Nat.sub_self]
  unfold lims
  rw [digs, List.append_nil]
theorem restl_end (P : List Nat) (d : Nat) : restl P d 0 = lims P.length (lval P % d) := by
  unfold restl
  rw [List.take_zero, List.nil_append, Nat.sub_zero, lhigh_zero]
theorem quotl_end (P : List Nat) (d m : Nat) : quotl P d m 0 = lims m (lval P / d) := by
  unfold quotl
  rw [List.replicate_zero, List.nil_append, Nat.sub_zero, lhigh_zero]
theorem quotl_length (P : List Nat) (d m k : Nat) (h : k ≤ m) : (quotl P d m k).length = m := by
  unfold quotl
  rw [List.length_append, List.length_replicate, lims_length]
  omega

/-- The window at place k: what it holds before the step, and the list around it. -/
theorem restl_win {P : List Nat} {d n k : Nat} (hk : k + n < P.length) (hd : 0 < d) (hdn : d ≤ lpow n) :
    restl P d (k + 1) = P.take k ++ (P.getD k 0 :: lims n (lhigh P (k + 1) % d)) ++ List.replicate (P.length - (k + n + 1)) 0 := by
  unfold restl
  have hr : lhigh P (k + 1) % d < lpow n := Nat.lt_of_lt_of_le (Nat.mod_lt _ hd) hdn
  rw [show P.length - (k + 1) = n + (P.length - (k + n + 1)) from by omega, lims_pad hr, List.take_succ_eq_append_getElem (show k < P.length by omega), List.getD_eq_getElem?_getD, List.getElem?_eq_getElem (show k < P.length by omega)]
  simp only [List.append_assoc, List.cons_append, List.nil_append, Option.getD_some]
theorem restl_win' {P : List Nat} {d n k : Nat} (hk : k + n < P.length) (hd : 0 < d) (hdn : d ≤ lpow n) :
    restl P d k = P.take k ++ lims (n + 1) (lhigh P k % d) ++ List.replicate (P.length - (k + n + 1)) 0 := by
  unfold restl
  have h1 := lpow_le (show n ≤ n + 1 by omega)
  have hr : lhigh P k % d < lpow (n + 1) := Nat.lt_of_lt_of_le (Nat.mod_lt _ hd) (by omega)
  rw [show P.length - k = (n + 1) + (P.length - (k + n + 1)) from by omega, lims_pad hr, List.append_assoc]
theorem win_val {P : List Nat} {d n k : Nat} (hd : 0 < d) (hdn : d ≤ lpow n) : lval (P.getD k 0 :: lims n (lhigh P (k + 1) % d)) = P.getD k 0 + 4294967296 * (lhigh P (k + 1) % d) := by
  have hr : lhigh P (k + 1) % d < lpow n := Nat.lt_of_lt_of_le (Nat.mod_lt _ hd) hdn
  rw [lval_cons, lval_lims, Nat.mod_eq_of_lt hr]
/-- One step. -/
theorem div_round {P : List Nat} {d n k : Nat} (hP : llt P) (hk : k + n < P.length) (hd : 0 < d) (hdn : d ≤ lpow n) :
    lval (P.getD k 0 :: lims n (lhigh P (k + 1) % d)) < d * 4294967296 ∧ lval (P.getD k 0 :: lims n (lhigh P (k + 1) % d)) % d = lhigh P k % d ∧ lhigh P k / d = lval (P.getD k 0 :: lims n (lhigh P (k + 1) % d)) / d + 4294967296 * (lhigh P (k + 1) / d) := by
  rw [win_val hd hdn]
  have h1 := ldiv_place (V := lhigh P (k + 1)) (x := P.getD k 0) hd
  rw [← lhigh_step P k (by omega)] at h1
  have hx := llt_getD hP k
  have hr : lhigh P (k + 1) % d < d := Nat.mod_lt _ hd
  refine ⟨?_, h1.2.symm, h1.1⟩
  have : 4294967296 * (lhigh P (k + 1) % d + 1) ≤ 4294967296 * d := Nat.mul_le_mul_left _ hr
  omega
theorem quotl_set {P : List Nat} {d m k q : Nat} (hk : k < m) (hq : q < 4294967296) (h : lhigh P k / d = q + 4294967296 * (lhigh P (k + 1) / d)) : (quotl P d m (k + 1)).set k q = quotl P d m k := by
  unfold quotl
  have e1 : (List.replicate (k + 1) 0).set k q = List.replicate k 0 ++ [q] := by
    rw [List.replicate_succ', List.set_append_right _ _ (by simp)]
    simp
  have e2 : lims (m - k) (lhigh P k / d) = q :: lims (m - (k + 1)) (lhigh P (k + 1) / d) := by
    unfold lims
    rw [show m - k = (m - (k + 1)) + 1 from by omega, digs, h, Nat.add_mul_mod_self_left, Nat.mod_eq_of_lt hq, Nat.add_mul_div_left _ _ (by omega), Nat.div_eq_of_lt hq, Nat.zero_add]
  rw [List.set_append_left _ _ (by simp), e1, e2, List.append_assoc]
  rfl

/-- The shift that makes the highest bit of the divisor's highest limb 1. -/
def lz (x : Nat) : Nat := 32 - Lib.bitLen x
theorem lz_spec {x : Nat} (h0 : x ≠ 0) (h : x < 4294967296) : lz x < 32 ∧ ((32 : Int) - (Lib.bitLen x : Int)) = (lz x : Int) ∧ 2147483648 ≤ x * 2 ^ lz x ∧ x * 2 ^ lz x < 4294967296 := by
  have h1 : Lib.bitLen x ≤ 32 := Lib.bitLen_le x 32 (by omega) (by simpa using h)
  obtain ⟨h2, h3, h4⟩ := Lib.bitLenAux_bounds 64 x (by omega) h0
  have h5 : Lib.bitLenAux 64 x = Lib.bitLen x := rfl
  rw [h5] at h2 h3 h4
  unfold lz
  refine ⟨by omega, by omega, ?_, ?_⟩
  · have : 2 ^ (Lib.bitLen x - 1) * 2 ^ (32 - Lib.bitLen x) ≤ x * 2 ^ (32 - Lib.bitLen x) := Nat.mul_le_mul_right _ h3
    rw [← Nat.pow_add, show Lib.bitLen x - 1 + (32 - Lib.bitLen x) = 31 from by omega] at this
    omega
  · have : x * 2 ^ (32 - Lib.bitLen x) < 2 ^ Lib.bitLen x * 2 ^ (32 - Lib.bitLen x) := Nat.mul_lt_mul_of_pos_right h4 (Nat.pow_pos (by omega))
    rw [← Nat.pow_add, show Lib.bitLen x + (32 - Lib.bitLen x) = 32 from by omega] at this
    omega

/-- The shifted divisor without the limb on top. -/
theorem divisor_spec {Y D : List Nat} {n s : Nat} (hY : llt Y) (hn : Y.length = n + 1) (hD : llt D) (hDl : D.length = n + 2) (hDv : lval D = lval Y * 2 ^ s) (h1 : 2147483648 ≤ Y.getD n 0 * 2 ^ s) (h2 : Y.getD n 0 * 2 ^ s < 4294967296) :
    lval (D.take (n + 1)) = lval Y * 2 ^ s ∧ 2147483648 ≤ (D.take (n + 1)).getD n 0 ∧ (D.take (n + 1)).length = n + 1 ∧ D = D.take (n + 1) ++ [0] := by
  have t1 := lval_take_succ Y n
  rw [List.take_of_length_le (show Y.length ≤ n + 1 by omega)] at t1
  have t2 : lval (Y.take n) < lpow n := by
    have := lval_lt (llt_take hY n)
    rwa [List.length_take, Nat.min_eq_left (by omega)] at this
  have t3 : lval Y * 2 ^ s < lpow (n + 1) := by
    have a1 : (lval (Y.take n) + 1) * 2 ^ s ≤ lpow n * 2 ^ s := Nat.mul_le_mul_right _ t2
    have a2 : 2 ^ s ≤ 4294967296 * 2 ^ s := by omega
    have a3 : lval Y * 2 ^ s = lval (Y.take n) * 2 ^ s + lpow n * (Y.getD n 0 * 2 ^ s) := by rw [t1, Nat.add_mul, Nat.mul_assoc]
    have a4 : lpow n * (Y.getD n 0 * 2 ^ s + 2 ^ s) ≤ lpow n * 4294967296 := by
      apply Nat.mul_le_mul_left
      rcases Nat.lt_or_ge s 32 with h | h
      · have e := pow_split h
        have : Y.getD n 0 < 2 ^ (32 - s) := by
          rcases Nat.lt_or_ge (Y.getD n 0) (2 ^ (32 - s)) with h6 | h6
          · exact h6
          · have := Nat.mul_le_mul_right (2 ^ s) h6
            omega
        have := Nat.mul_le_mul_right (2 ^ s) (show Y.getD n 0 + 1 ≤ 2 ^ (32 - s) by omega)
        rw [Nat.add_mul, Nat.one_mul] at this
        omega
      · exfalso
        have : 2 ^ 32 ≤ 2 ^ s := Nat.pow_le_pow_right (by omega) h
        rcases Nat.eq_zero_or_pos (Y.getD n 0) with h6 | h6
        · rw [h6] at h1
          omega
        · have := Nat.mul_le_mul_right (2 ^ s) h6
          omega
    rw [Nat.mul_add] at a4
    rw [Nat.add_mul, Nat.one_mul] at a1
    rw [a3, lpow_succ]
    have := two_pow_pos' s
    omega
  have t4 := lval_take_succ D (n + 1)
  rw [List.take_of_length_le (show D.length ≤ n + 1 + 1 by omega), hDv] at t4
  have hz : D.getD (n + 1) 0 = 0 := by
    rcases Nat.eq_zero_or_pos (D.getD (n + 1) 0) with h6 | h6
    · exact h6
    · have : lpow (n + 1) * 1 ≤ lpow (n + 1) * D.getD (n + 1) 0 := Nat.mul_le_mul_left _ h6
      omega
  rw [hz, Nat.mul_zero, Nat.add_zero] at t4
  have hl : (D.take (n + 1)).length = n + 1 := by rw [List.length_take]; omega
  refine ⟨t4.symm, ?_, hl, ?_⟩
  · have t5 := lval_take_succ (D.take (n + 1)) n
    rw [List.take_of_length_le (show (D.take (n + 1)).length ≤ n + 1 by omega), ← t4] at t5
    have t6 : lval ((D.take (n + 1)).take n) < lpow n := by
      have := lval_lt (llt_take (llt_take hD (n + 1)) n)
      rwa [List.length_take, Nat.min_eq_left (by omega)] at this
    have t7 : lval Y * 2 ^ s = lval (Y.take n) * 2 ^ s + lpow n * (Y.getD n 0 * 2 ^ s) := by rw [t1, Nat.add_mul, Nat.mul_assoc]
    have t8 : lpow n * 2147483648 ≤ lpow n * (Y.getD n 0 * 2 ^ s) := Nat.mul_le_mul_left _ h1
    rcases Nat.lt_or_ge ((D.take (n + 1)).getD n 0) 2147483648 with h6 | h6
    · have : lpow n * ((D.take (n + 1)).getD n 0 + 1) ≤ lpow n * 2147483648 := Nat.mul_le_mul_left _ h6
      rw [Nat.mul_add, Nat.mul_one] at this
      omega
    · exact h6
  · have e := List.take_succ_eq_append_getElem (show n + 1 < D.length by omega)
    rw [List.take_of_length_le (show D.length ≤ n + 1 + 1 by omega)] at e
    have : D[n + 1] = 0 := by
      rw [← hz, List.getD_eq_getElem?_getD, List.getElem?_eq_getElem (show n + 1 < D.length by omega)]
      rfl
    rw [this] at e
    exact e
end Go.Proofs.YtmfinfnjamgboaaDoor
