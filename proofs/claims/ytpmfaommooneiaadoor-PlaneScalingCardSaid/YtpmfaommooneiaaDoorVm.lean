/- Planes: the mathematics of the laws. -/
import Derived.Test.YtpmfaommooneiaaDoorVa
set_option linter.unusedVariables false
set_option linter.unusedSimpArgs false
namespace Go.Proofs.YtpmfaommooneiaaDoor
open Go.RowKit NM SX

/-! Canonical form. -/
/-! Three points. -/
/-! Projection. -/
/-! Offsets. -/
theorem shift_flat {q : Z4} (h : ¬ flatF q) (t : Rat) : ¬ flatQ (shiftQ q t) := flat_shift h
/-! Order. -/
/-! Factors. -/
theorem prim_factor {q : Z4} {k : Int} (h : 0 < k) : prim ⟨q.a * k, q.b * k, q.c * k, q.d * k⟩ = prim q := by
  obtain ⟨n, rfl⟩ := Int.eq_ofNat_of_zero_le (Int.le_of_lt h)
  have hn : n ≠ 0 := by omega
  have e : (⟨q.a * n, q.b * n, q.c * n, q.d * n⟩ : Z4) = q.mul n := Z4.ext' (Int.mul_comm _ _) (Int.mul_comm _ _) (Int.mul_comm _ _) (Int.mul_comm _ _)
  rw [e, prim_mul hn]
theorem prim_factor_neg {q : Z4} {k : Int} (h : k < 0) : prim ⟨q.a * k, q.b * k, q.c * k, q.d * k⟩ = negF (prim q) := by
  rw [← prim_neg, ← prim_factor (q := negF q) (k := -k) (by omega)]
  congr 1
  unfold negF
  refine Z4.ext' ?_ ?_ ?_ ?_ <;> exact (Int.neg_mul_neg _ _).symm
theorem flat_factor {q : Z4} {k : Int} (h : k ≠ 0) : flatF ⟨q.a * k, q.b * k, q.c * k, q.d * k⟩ ↔ flatF q := by
  unfold flatF
  simp only [Int.mul_eq_zero, h, or_false]
theorem Rk.lifted {a b c d : Int} {y z : Rat} {k j : Nat} (ha : Zk a k) (hb : Zk b k) (hc : Zk c k) (hd : Zk d k) (hy : Rk y j) (hz : Rk z j) : Rk (((d : Rat) - b * y - c * z) / a) (4 * max k 1 + 2 * j + 3) :=
  (Is.quo (Rk.sub (Rk.sub (Rk.int hd) (Is.mul (Rk.int hb) hy)) (Is.mul (Rk.int hc) hz)) (Rk.int ha)).mono (by omega)
end Go.Proofs.YtpmfaommooneiaaDoor
