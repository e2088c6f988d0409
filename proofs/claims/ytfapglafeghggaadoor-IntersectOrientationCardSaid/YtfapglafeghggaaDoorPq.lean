/- Texts of rational numbers: plain mathematics. -/
import Derived.Test.YtfapglafeghggaaDoorQ0
import Derived.Test.YtfapglafeghggaaDoorSx
import Derived.Test.YtfapglafeghggaaDoorN1
import Derived.Test.YtfapglafeghggaaDoorN4
import Derived.Test.YtfapglafeghggaaDoorDivZ
import Derived.Test.YtfapglafeghggaaDoorShelf
import Derived.Lib.Strings
import Derived.Lib.Index
import Derived.Lib.TrimByte
set_option linter.unusedVariables false
set_option linter.unusedSimpArgs false
namespace Go.Proofs.YtfapglafeghggaaDoor
open Go.RowKit NM

/-- The index of the first byte of a kind, or the length. -/
def at_ (c : Nat) (s : ByteArray) : Nat := (bts s).findIdx (· == c)
/-! A number's text is read back. -/
end Go.Proofs.YtfapglafeghggaaDoor
