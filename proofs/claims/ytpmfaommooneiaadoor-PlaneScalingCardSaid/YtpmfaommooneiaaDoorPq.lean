/- Texts of rational numbers: plain mathematics. -/
import Derived.Test.YtpmfaommooneiaaDoorQ0
import Derived.Test.YtpmfaommooneiaaDoorSx
import Derived.Test.YtpmfaommooneiaaDoorN1
import Derived.Test.YtpmfaommooneiaaDoorN4
import Derived.Test.YtpmfaommooneiaaDoorFmtZ
import Derived.Test.YtpmfaommooneiaaDoorShelf
import Derived.Lib.Strings
import Derived.Lib.Index
set_option linter.unusedVariables false
set_option linter.unusedSimpArgs false
namespace Go.Proofs.YtpmfaommooneiaaDoor
open Go.RowKit NM

/-- The index of the first byte of a kind, or the length. -/
def at_ (c : Nat) (s : ByteArray) : Nat := (bts s).findIdx (· == c)
/-! A number's text is read back. -/
end Go.Proofs.YtpmfaommooneiaaDoor
