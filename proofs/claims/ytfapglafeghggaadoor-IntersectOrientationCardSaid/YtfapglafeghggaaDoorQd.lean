/- Package rational: arithmetic. -/
import Derived.Test.YtfapglafeghggaaDoorQ0
import Derived.Test.YtfapglafeghggaaDoorN5
set_option linter.unusedVariables false
set_option linter.unusedSimpArgs false
namespace Go.Proofs.YtfapglafeghggaaDoor
open Go.RowKit NM SX
theorem TabC.later {w w' : World} (h : TabC w) (hb : Below w.heap.size w w') : TabC w' := fun j hj => (hb.cell (cell_lt (h j hj))).trans (h j hj)
end Go.Proofs.YtfapglafeghggaaDoor
