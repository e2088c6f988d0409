/- Intersections: the mathematics of the laws of layer 6. -/
import Derived.Test.YtodcomijjmobdaaGreatDoorVm
set_option linter.unusedVariables false
set_option linter.unusedSimpArgs false
namespace Go.Proofs.YtodcomijjmobdaaGreatDoor
open Go.RowKit NM SX

/-! Vectors. -/
def subP (b a : P3) : P3 := ⟨b.x - a.x, b.y - a.y, b.z - a.z⟩
def dot3 (a b : P3) : Rat := a.x * b.x + a.y * b.y + a.z * b.z
def mulP (a : P3) (t : Rat) : P3 := ⟨a.x * t, a.y * t, a.z * t⟩
def sumP (a b : P3) : P3 := ⟨a.x + b.x, a.y + b.y, a.z + b.z⟩
def nrmF (q : Z4) : P3 := ⟨q.a, q.b, q.c⟩
def noneP (v : P3) : Prop := v.x = 0 ∧ v.y = 0 ∧ v.z = 0
instance (v : P3) : Decidable (noneP v) := inferInstanceAs (Decidable (_ ∧ _ ∧ _))

/-! Three planes. -/
def detF (l m n : Z4) : Rat := dot3 (nrmF l) (crossP (nrmF m) (nrmF n))
def sumF (l m n : Z4) : P3 := sumP (sumP (mulP (crossP (nrmF m) (nrmF n)) l.d) (mulP (crossP (nrmF n) (nrmF l)) m.d)) (mulP (crossP (nrmF l) (nrmF m)) n.d)
def threeF (l m n : Z4) : P3 := ⟨(sumF l m n).x / detF l m n, (sumF l m n).y / detF l m n, (sumF l m n).z / detF l m n⟩
/-! A line and a plane. -/
/-! Orientation. -/
def straightP (a b c : P3) : Prop := noneP (crossP (subP b a) (subP c a))
instance (a b c : P3) : Decidable (straightP a b c) := inferInstanceAs (Decidable (noneP _))
/-! Between; the common part. -/
def betP (a b x : P3) : Prop := straightP a b x ∧ cmpP a b ≠ 0 ∧ cmpP a x * cmpP x b = 1
instance (a b x : P3) : Decidable (betP a b x) := inferInstanceAs (Decidable (_ ∧ _ ∧ _))
def lowP (a b : P3) : P3 := if 0 < cmpP a b then b else a
def topP (a b : P3) : P3 := if 0 < cmpP a b then a else b
/-- What the two segments share: the greater of the lower ends, the lesser of the upper ones. -/
def loS (a b c d : P3) : P3 := if 0 < cmpP (lowP c d) (lowP a b) then lowP c d else lowP a b
def hiS (a b c d : P3) : P3 := if cmpP (topP c d) (topP a b) < 0 then topP c d else topP a b
def shareP (a b c d : P3) : Prop := (cmpP a b ≠ 0 ∧ cmpP c d ≠ 0 ∧ straightP a b c ∧ straightP a b d) ∧ cmpP (loS a b c d) (hiS a b c d) < 0
instance (a b c d : P3) : Decidable (shareP a b c d) := inferInstanceAs (Decidable ((_ ∧ _ ∧ _ ∧ _) ∧ _))
end Go.Proofs.YtodcomijjmobdaaGreatDoor
