/- voussoirref05: arithmetic. -/
import Derived.Test.YtpmfaommooneiaaDoorVa
import Derived.Test.YtpmfaommooneiaaDoorIs
import Derived.Test.YtpmfaommooneiaaDoorQd
import Derived.Test.YtpmfaommooneiaaDoorPq
import Derived.Test.YtpmfaommooneiaaDoorShelf
import Derived.Test.YtpmfaommooneiaaDoorN4
import Derived.Lib.Repeat
import Derived.Test.YtpmfaommooneiaaDoorSx
import Derived.Test.YtpmfaommooneiaaDoorN1
import Derived.Test.YtpmfaommooneiaaDoorQ0
import Derived.Test.YtpmfaommooneiaaDoorFmtZ
import Derived.Lib.Strings
import Derived.Test.YtpmfaommooneiaaDoorPd
set_option linter.unusedVariables false
set_option linter.unusedSimpArgs false
namespace Go.Proofs.YtpmfaommooneiaaDoor
open Go.RowKit NM SX
theorem IsZ.abs {n : Bool} {s : ByteArray} {z : Int} {k : Nat} (h : IsZ (I2 n s) z k) : IsZ (I2 false s) ((z.natAbs : Nat) : Int) k := by
  obtain ⟨h1, h2⟩ := h.in
  exact ⟨_, _, rfl, by rw [iv_false, ← h1, abs_iv], h2⟩
end Go.Proofs.YtpmfaommooneiaaDoor
