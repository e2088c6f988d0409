/- voussoirlaw01.natAlive returns true. -/
import Derived.Test.YtmfinfnjamgboaaDoorGcdW
import Derived.Test.YtmfinfnjamgboaaDoorDiv
import Derived.Test.YtmfinfnjamgboaaDoorFmt
namespace Go.Proofs.YtmfinfnjamgboaaDoor
open Go.RowKit NM

/-- One call behind another. -/
theorem then_ {a b c : World} (h : Below a.heap.size a b) (k : Below b.heap.size b c) : Below a.heap.size a c := Below.trans h (Below.mono k h.size)

end Go.Proofs.YtmfinfnjamgboaaDoor
