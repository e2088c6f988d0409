/- Texts of points: bytes, pieces, injectivity; what Parse returns. -/
import Derived.Test.YtpmfaommooneiaaGreatDoorPu
import Derived.Test.YtpmfaommooneiaaGreatDoorIs
import Derived.Test.YtpmfaommooneiaaGreatDoorQd
import Derived.Test.YtpmfaommooneiaaGreatDoorPq
import Derived.Test.YtpmfaommooneiaaGreatDoorShelf
import Derived.Test.YtpmfaommooneiaaGreatDoorN4
import Derived.Lib.Repeat
import Derived.Test.YtpmfaommooneiaaGreatDoorQ0
import Derived.Test.YtpmfaommooneiaaGreatDoorFmtZ
import Derived.Test.YtpmfaommooneiaaGreatDoorTextZ
import Derived.Test.YtpmfaommooneiaaGreatDoorStr
set_option linter.unusedVariables false
set_option linter.unusedSimpArgs false
namespace Go.Proofs.YtpmfaommooneiaaGreatDoor
open Go.RowKit NM SX

theorem toList_inj {a b : ByteArray} (h : a.toList = b.toList) : a = b := by
  rw [ByteArray.toList_eq, ByteArray.toList_eq] at h
  exact ByteArray.ext (Array.toList_inj.1 h)
end Go.Proofs.YtpmfaommooneiaaGreatDoor
