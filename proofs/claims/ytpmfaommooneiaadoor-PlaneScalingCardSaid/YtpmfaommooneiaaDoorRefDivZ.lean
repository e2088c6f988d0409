/- voussoirref02.Div. -/
import Derived.Test.YtpmfaommooneiaaDoorDivZ
import Derived.Test.YtpmfaommooneiaaDoorN3
import Derived.RegionTactic
import Derived.BigRegion
set_option linter.unusedVariables false
set_option linter.unusedSimpArgs false
namespace Go.Proofs.YtpmfaommooneiaaDoor
open Go.RowKit NM

theorem Hold.far {w w0 : World} {E : TypeId} {L : List (Nat × Value × Value)} {g : Nat} (h : Hold E w0 L w) (hne : ∀ x ∈ L, g ≠ x.1) (hg : w0.heap.size ≤ g) (u v : Value) : Hold E w0 L ((w.setCell ⟨g, 0, none⟩ u).setCell ⟨g, 1, none⟩ v) :=
  ⟨fun x hx => (h.1 x hx).far (hne x hx) u v, set2 h.2 hg u v⟩
theorem Blk.put {w : World} {g : Nat} {E : TypeId} {u v : Value} (h : Blk w g E [u, v]) (x y : Value) : Blk ((w.setCell ⟨g, 0, none⟩ x).setCell ⟨g, 1, none⟩ y) g E [x, y] := (h.set 0 x).set 1 y
theorem Hold.lt {w w0 : World} {E : TypeId} {L : List (Nat × Value × Value)} {x : Nat × Value × Value} (h : Hold E w0 L w) (hx : x ∈ L) : x.1 < w.heap.size := (h.1 x hx).lt
end Go.Proofs.YtpmfaommooneiaaDoor
