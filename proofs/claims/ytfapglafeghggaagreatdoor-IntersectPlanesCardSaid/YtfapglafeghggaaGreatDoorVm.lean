/- Planes: the mathematics of the laws. -/
import Derived.Test.YtfapglafeghggaaGreatDoorVa
set_option linter.unusedVariables false
set_option linter.unusedSimpArgs false
namespace Go.Proofs.YtfapglafeghggaaGreatDoor
open Go.RowKit NM SX

/-! Canonical form. -/
/-! Three points. -/
theorem thr_turn (a b c : P3) : thrQ b c a = thrQ a b c := by
  unfold thrQ crossP dotP
  refine Q4.ext' ?_ ?_ ?_ ?_ <;> (simp only []; grind)
theorem thr_back (a b c : P3) : thrQ c b a = negQ (thrQ a b c) := by
  unfold thrQ crossP dotP negQ
  refine Q4.ext' ?_ ?_ ?_ ?_ <;> (simp only []; grind)
theorem flat_negQ (v : Q4) : flatQ (negQ v) ↔ flatQ v := by
  unfold flatQ negQ
  constructor
  · rintro ⟨h1, h2, h3⟩; exact ⟨by grind, by grind, by grind⟩
  · rintro ⟨h1, h2, h3⟩; exact ⟨by grind, by grind, by grind⟩
/-! Projection. -/
/-! Offsets. -/
/-! Order. -/
/-! Factors. -/
theorem Rk.lifted {a b c d : Int} {y z : Rat} {k j : Nat} (ha : Zk a k) (hb : Zk b k) (hc : Zk c k) (hd : Zk d k) (hy : Rk y j) (hz : Rk z j) : Rk (((d : Rat) - b * y - c * z) / a) (4 * max k 1 + 2 * j + 3) :=
  (Is.quo (Rk.sub (Rk.sub (Rk.int hd) (Is.mul (Rk.int hb) hy)) (Is.mul (Rk.int hc) hz)) (Rk.int ha)).mono (by omega)
end Go.Proofs.YtfapglafeghggaaGreatDoor
