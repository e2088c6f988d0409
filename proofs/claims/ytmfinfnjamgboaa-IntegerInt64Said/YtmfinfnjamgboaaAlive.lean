/- voussoirlaw01.natAlive returns true. -/
import Derived.Test.YtmfinfnjamgboaaGcdW
import Derived.Test.YtmfinfnjamgboaaDiv
import Derived.Test.YtmfinfnjamgboaaFmt
namespace Go.Proofs.Ytmfinfnjamgboaa
open Go.RowKit NM

/-- One call behind another. -/
theorem then_ {a b c : World} (h : Below a.heap.size a b) (k : Below b.heap.size b c) : Below a.heap.size a c := Below.trans h (Below.mono k h.size)

end Go.Proofs.Ytmfinfnjamgboaa
