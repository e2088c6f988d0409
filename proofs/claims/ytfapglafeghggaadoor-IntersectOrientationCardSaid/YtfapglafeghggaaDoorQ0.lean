/- Rational numbers: words for the symbolic runs. -/
import Derived.Test.YtfapglafeghggaaDoorRat
import Derived.Test.YtfapglafeghggaaDoorSx
import Derived.Test.YtfapglafeghggaaDoorI1
import Derived.Test.YtfapglafeghggaaDoorRefDivZ
import Derived.Test.YtfapglafeghggaaDoorGcdZ
import Derived.Test.YtfapglafeghggaaDoorDivZ
import Derived.Test.YtfapglafeghggaaDoorN4
set_option linter.unusedVariables false
set_option linter.unusedSimpArgs false
namespace Go.Proofs.YtfapglafeghggaaDoor
open Go.RowKit NM SX

theorem eqL_Z (x y : Int) : eqL [.bool (sg x), .string (mg x)] [.bool (sg y), .string (mg y)] = decide (x = y) := by
  rw [← eq_Z]
  simp [eqL, eqCell]
end Go.Proofs.YtfapglafeghggaaDoor
