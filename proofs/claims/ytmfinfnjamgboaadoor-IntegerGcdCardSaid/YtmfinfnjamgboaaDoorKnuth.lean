/- One step of a long division by limbs: the estimate. Plain mathematics. -/
import Derived.Test.YtmfinfnjamgboaaDoorLimb
namespace Go.Proofs.YtmfinfnjamgboaaDoor
open NM

/-- The three highest limbs of a list. -/
theorem top3 {X : List Nat} {m : Nat} (h : X.length = m + 3) : lval X = lval (X.take m) + lpow m * (X.getD m 0 + 4294967296 * (X.getD (m + 1) 0 + 4294967296 * X.getD (m + 2) 0)) := by
  have h1 := lval_take_succ X m
  have h2 := lval_take_succ X (m + 1)
  have h3 := lval_take_succ X (m + 2)
  rw [List.take_of_length_le (show X.length ≤ m + 2 + 1 by omega)] at h3
  rw [h3, h2, h1, lpow_succ (m + 1), lpow_succ m, Nat.mul_add, Nat.mul_add 4294967296, Nat.mul_add (lpow m)]
  simp only [Nat.mul_assoc, Nat.add_assoc]
theorem top2 {Y : List Nat} {m : Nat} (h : Y.length = m + 2) : lval Y = lval (Y.take m) + lpow m * (Y.getD m 0 + 4294967296 * Y.getD (m + 1) 0) := by
  have h1 := lval_take_succ Y m
  have h2 := lval_take_succ Y (m + 1)
  rw [List.take_of_length_le (show Y.length ≤ m + 1 + 1 by omega)] at h2
  rw [h2, h1, lpow_succ, Nat.mul_add]
  simp only [Nat.mul_assoc, Nat.add_assoc]
theorem take_lt {X : List Nat} (h : llt X) (m : Nat) (hm : m ≤ X.length) : lval (X.take m) < lpow m := by
  have := lval_lt (llt_take h m)
  rwa [List.length_take, Nat.min_eq_left hm] at this

section
variable {X Y : Nat} {W Xl Yl X3 Y2 q : Nat}
/-- The quotient of the highest limbs is not smaller. -/
theorem est_up (_hW : 0 < W) (hX : X = Xl + W * X3) (hY : Y = Yl + W * Y2) (hXl : Xl < W) (hq : q * Y ≤ X) : q * Y2 ≤ X3 := by
  have h1 : q * (W * Y2) ≤ q * Y := Nat.mul_le_mul_left _ (by omega)
  have h2 : q * (W * Y2) = W * (q * Y2) := by rw [Nat.mul_left_comm]
  rcases Nat.lt_or_ge X3 (q * Y2) with h | h
  · have h3 : W * (X3 + 1) ≤ W * (q * Y2) := Nat.mul_le_mul_left _ h
    rw [Nat.mul_add, Nat.mul_one] at h3
    omega
  · exact h
/-- .. and greater by one at most. -/
theorem est_down {e : Nat} (hX : X = Xl + W * X3) (hY : Y = Yl + W * Y2) (hYl : Yl < W) (hY2 : 4294967296 ≤ Y2) (he : e < 4294967296) (h : e * Y2 ≤ X3) : e ≤ X / Y + 1 := by
  have hW : 0 < W := by omega
  have hYpos : 0 < Y := by
    have := Nat.mul_le_mul_left W hY2
    omega
  have h1 : e * Y = e * Yl + W * (e * Y2) := by rw [hY, Nat.mul_add, Nat.mul_left_comm]
  have h2 : W * (e * Y2) ≤ W * X3 := Nat.mul_le_mul_left _ h
  have h3 : e * Yl ≤ 4294967296 * Yl := Nat.mul_le_mul_right _ (by omega)
  have h4 : 4294967296 * Yl < 4294967296 * W := Nat.mul_lt_mul_of_pos_left hYl (by omega)
  have h5 : W * 4294967296 ≤ W * Y2 := Nat.mul_le_mul_left _ hY2
  have h6 : e * Y < X + Y := by omega
  rcases Nat.eq_zero_or_pos e with h7 | h7
  · rw [h7]
    exact Nat.zero_le _
  · obtain ⟨f, rfl⟩ : ∃ f, e = f + 1 := ⟨e - 1, by omega⟩
    rw [Nat.add_mul, Nat.one_mul] at h6
    have : f ≤ X / Y := (Nat.le_div_iff_mul_le hYpos).2 (by omega)
    omega
end
/-- The highest limb is not greater than the divisor's. -/
theorem top_le {X Y W Xl Yl x1 x2 x3 y1 y2 : Nat} (hX : X = Xl + W * (x1 + 4294967296 * (x2 + 4294967296 * x3))) (hY : Y = Yl + W * (y2 + 4294967296 * y1)) (hYl : Yl < W) (hy2 : y2 < 4294967296) (h : X < Y * 4294967296) : x3 ≤ y1 := by
  rcases Nat.lt_or_ge y1 x3 with h1 | h1
  · exfalso
    have h2 : W * (y2 + 4294967296 * y1 + 1) ≤ W * (4294967296 * x3) := Nat.mul_le_mul_left _ (by omega)
    have h3 : W * (4294967296 * (4294967296 * x3)) ≤ W * (x1 + 4294967296 * (x2 + 4294967296 * x3)) := Nat.mul_le_mul_left _ (by omega)
    have h4 : W * (4294967296 * (4294967296 * x3)) = W * (4294967296 * x3) * 4294967296 := by rw [Nat.mul_assoc W, Nat.mul_comm 4294967296 (4294967296 * x3)]
    rw [Nat.mul_add, Nat.mul_one] at h2
    omega
  · exact h1

/-- What the loop of the estimate keeps: e is the estimate, r the rest. -/
structure Est (q x1 x2 x3 y1 y2 e r : Nat) : Prop where
  eq : e * y1 + r = x2 + 4294967296 * x3
  ge : q ≤ e
  le : e ≤ 4294967297
  rest : r < 4294967296
theorem Est.start {q x1 x2 x3 y1 y2 : Nat} (hy : 2147483648 ≤ y1) (hy1 : y1 < 4294967296) (hx2 : x2 < 4294967296) (h3 : x3 ≤ y1) (hq : q * (y2 + 4294967296 * y1) ≤ x1 + 4294967296 * (x2 + 4294967296 * x3)) (hx1 : x1 < 4294967296) :
    Est q x1 x2 x3 y1 y2 ((x2 + 4294967296 * x3) / y1) ((x2 + 4294967296 * x3) % y1) := by
  have hp : 0 < y1 := by omega
  refine ⟨?_, ?_, ?_, ?_⟩
  · have := Nat.div_add_mod (x2 + 4294967296 * x3) y1
    rw [Nat.mul_comm] at this
    exact this
  · rw [Nat.le_div_iff_mul_le hp]
    have h1 : q * (y2 + 4294967296 * y1) = q * y2 + 4294967296 * (q * y1) := by rw [Nat.mul_add, Nat.mul_left_comm]
    omega
  · have : (x2 + 4294967296 * x3) / y1 < 4294967298 := by
      rw [Nat.div_lt_iff_lt_mul hp]
      omega
    omega
  · have := Nat.mod_lt (x2 + 4294967296 * x3) hp
    omega
section
variable {q x1 x2 x3 y1 y2 e r : Nat}
/-- e is too great: one less. -/
theorem Est.more (h : Est q x1 x2 x3 y1 y2 e r) (hq32 : q < 4294967296) (hq : q * (y2 + 4294967296 * y1) ≤ x1 + 4294967296 * (x2 + 4294967296 * x3)) (hbig : 4294967295 < e ∨ x1 + 4294967296 * r < e * y2) : q + 1 ≤ e := by
  rcases hbig with h1 | h1
  · omega
  · rcases Nat.lt_or_ge q e with h2 | h2
    · exact h2
    · exfalso
      have h3 := h.ge
      obtain rfl : q = e := by omega
      have h4 : q * (y2 + 4294967296 * y1) = q * y2 + 4294967296 * (q * y1) := by rw [Nat.mul_add, Nat.mul_left_comm]
      have h5 := h.eq
      omega
theorem Est.step (h : Est q x1 x2 x3 y1 y2 e r) (hm : q + 1 ≤ e) : (e - 1) * y1 + (r + y1) = x2 + 4294967296 * x3 := by
  have h1 := h.eq
  obtain ⟨f, rfl⟩ : ∃ f, e = f + 1 := ⟨e - 1, by omega⟩
  rw [Nat.add_mul, Nat.one_mul] at h1
  rw [Nat.add_sub_cancel]
  omega
theorem Est.next (h : Est q x1 x2 x3 y1 y2 e r) (hm : q + 1 ≤ e) (hr : r + y1 < 4294967296) : Est q x1 x2 x3 y1 y2 (e - 1) (r + y1) :=
  ⟨h.step hm, by omega, by have := h.le; omega, hr⟩
/-- What the loop leaves. -/
def EstEnd (q x1 x2 x3 y1 y2 e : Nat) : Prop := q ≤ e ∧ e < 4294967296 ∧ e * (y2 + 4294967296 * y1) ≤ x1 + 4294967296 * (x2 + 4294967296 * x3)
theorem Est.stop (h : Est q x1 x2 x3 y1 y2 e r) (h1 : ¬ 4294967295 < e) (h2 : ¬ x1 + 4294967296 * r < e * y2) : EstEnd q x1 x2 x3 y1 y2 e := by
  refine ⟨h.ge, by omega, ?_⟩
  have h4 : e * (y2 + 4294967296 * y1) = e * y2 + 4294967296 * (e * y1) := by rw [Nat.mul_add, Nat.mul_left_comm]
  have h5 := h.eq
  omega
theorem Est.break_ (h : Est q x1 x2 x3 y1 y2 e r) (hm : q + 1 ≤ e) (hx2 : x2 < 4294967296) (h3 : x3 ≤ y1) (hy2 : y2 < 4294967296) (hr : 4294967296 ≤ r + y1) : EstEnd q x1 x2 x3 y1 y2 (e - 1) := by
  have hs := h.step hm
  have he : e - 1 < 4294967296 := by
    rcases Nat.lt_or_ge (e - 1) 4294967296 with h6 | h6
    · exact h6
    · exfalso
      have h7 : 4294967296 * y1 ≤ (e - 1) * y1 := Nat.mul_le_mul_right _ h6
      omega
  refine ⟨by omega, he, ?_⟩
  have h4 : (e - 1) * (y2 + 4294967296 * y1) = (e - 1) * y2 + 4294967296 * ((e - 1) * y1) := by rw [Nat.mul_add, Nat.mul_left_comm]
  have h5 : (e - 1) * y2 ≤ 4294967295 * 4294967295 := Nat.mul_le_mul (by omega) (by omega)
  omega
end

/-- One place of a difference of a multiple. -/
theorem subm_step {L X Y : List Nat} {k f c d c' : Nat} (hL : L.length = k) (hv : lval L + f * lval (Y.take k) = lval (X.take k) + lpow k * c) (h : d + (c + f * Y.getD k 0) = X.getD k 0 + 4294967296 * c') :
    lval (L ++ [d]) + f * lval (Y.take (k + 1)) = lval (X.take (k + 1)) + lpow (k + 1) * c' := by
  rw [lval_snoc, lval_take_succ, lval_take_succ, hL, lpow_succ, Nat.mul_add f, Nat.mul_assoc]
  have e : lpow k * (d + (c + f * Y.getD k 0)) = lpow k * (X.getD k 0 + 4294967296 * c') := by rw [h]
  rw [Nat.mul_add, Nat.mul_add, Nat.mul_add] at e
  have e2 : f * (lpow k * Y.getD k 0) = lpow k * (f * Y.getD k 0) := Nat.mul_left_comm _ _ _
  rw [e2]
  omega
theorem addb_step {L X Y : List Nat} {k c d c' : Nat} (hL : L.length = k) (hv : lval L + lpow k * c = lval (X.take k) + lval (Y.take k)) (h : d + 4294967296 * c' = c + X.getD k 0 + Y.getD k 0) :
    lval (L ++ [d]) + lpow (k + 1) * c' = lval (X.take (k + 1)) + lval (Y.take (k + 1)) := by
  rw [lval_snoc, lval_take_succ, lval_take_succ, hL, lpow_succ, Nat.mul_assoc]
  have e : lpow k * (d + 4294967296 * c') = lpow k * (c + X.getD k 0 + Y.getD k 0) := by rw [h]
  rw [Nat.mul_add, Nat.mul_add, Nat.mul_add] at e
  omega
theorem app_at {L X : List Nat} {k : Nat} (hL : L.length = k) : (L ++ X.drop k).getD k 0 = X.getD k 0 := by
  rw [List.getD_eq_getElem?_getD, List.getElem?_append_right (by omega), hL, Nat.sub_self, List.getElem?_drop, Nat.add_zero, ← List.getD_eq_getElem?_getD]
theorem app_set {L X : List Nat} {k d : Nat} (hL : L.length = k) (hk : k < X.length) : (L ++ X.drop k).set k d = (L ++ [d]) ++ X.drop (k + 1) := by
  rw [List.set_append_right _ _ (by omega), hL, Nat.sub_self, List.drop_eq_getElem_cons hk, List.set_cons_zero]
  simp
theorem app_len {L X : List Nat} {k : Nat} (hL : L.length = k) (hk : k ≤ X.length) : (L ++ X.drop k).length = X.length := by
  rw [List.length_append, List.length_drop]
  omega
end Go.Proofs.YtmfinfnjamgboaaDoor
