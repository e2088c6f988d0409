/- Planes: the mathematics of the laws. -/
import Derived.Test.YtodcomijjmobdaaGreatDoorVa
set_option linter.unusedVariables false
set_option linter.unusedSimpArgs false
namespace Go.Proofs.YtodcomijjmobdaaGreatDoor
open Go.RowKit NM SX

/-! Canonical form. -/
/-! Three points. -/
/-! Projection. -/
/-! Offsets. -/
/-! Order. -/
/-! Factors. -/
theorem Rk.lifted {a b c d : Int} {y z : Rat} {k j : Nat} (ha : Zk a k) (hb : Zk b k) (hc : Zk c k) (hd : Zk d k) (hy : Rk y j) (hz : Rk z j) : Rk (((d : Rat) - b * y - c * z) / a) (4 * max k 1 + 2 * j + 3) :=
  (Is.quo (Rk.sub (Rk.sub (Rk.int hd) (Is.mul (Rk.int hb) hy)) (Is.mul (Rk.int hc) hz)) (Rk.int ha)).mono (by omega)
end Go.Proofs.YtodcomijjmobdaaGreatDoor
