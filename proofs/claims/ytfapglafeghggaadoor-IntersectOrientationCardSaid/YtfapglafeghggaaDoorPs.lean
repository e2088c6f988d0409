/- voussoirref04: coordinates, order, sums, texts; what the laws reject. -/
import Derived.Test.YtfapglafeghggaaDoorPr
import Derived.Test.YtfapglafeghggaaDoorIs
import Derived.Test.YtfapglafeghggaaDoorQd
import Derived.Test.YtfapglafeghggaaDoorPq
import Derived.Test.YtfapglafeghggaaDoorShelf
import Derived.Test.YtfapglafeghggaaDoorN4
import Derived.Lib.Repeat
import Derived.Test.YtfapglafeghggaaDoorSx
import Derived.Test.YtfapglafeghggaaDoorN1
import Derived.Test.YtfapglafeghggaaDoorQ0
import Derived.Test.YtfapglafeghggaaDoorDivZ
import Derived.Lib.Strings
set_option linter.unusedVariables false
set_option linter.unusedSimpArgs false
namespace Go.Proofs.YtfapglafeghggaaDoor
open Go.RowKit NM SX
theorem p4Norm {ux0 : Value} {x0 : P3} {kx0 : Nat} (hx0 : IsP ux0 x0 kx0) (lx0 : kx0 ≤ 200000) (w : World) :
    Calls Tryd.prog 9 #[ux0] w fun e w' => e = .returned (PV x0) ∧ Below w.heap.size w w' := by
  obtain ⟨q, hq, rfl⟩ := hx0
  exact p4Norm_F hq lx0 w
end Go.Proofs.YtfapglafeghggaaDoor
