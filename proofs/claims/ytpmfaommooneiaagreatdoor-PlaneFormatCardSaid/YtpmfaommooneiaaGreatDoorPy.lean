/- point.Parse where the brackets or the number of pieces are wrong. -/
import Derived.Test.YtpmfaommooneiaaGreatDoorPw
import Derived.Test.YtpmfaommooneiaaGreatDoorPd
import Derived.Test.YtpmfaommooneiaaGreatDoorIs
import Derived.Test.YtpmfaommooneiaaGreatDoorQd
import Derived.Test.YtpmfaommooneiaaGreatDoorPq
import Derived.Test.YtpmfaommooneiaaGreatDoorShelf
import Derived.Test.YtpmfaommooneiaaGreatDoorN4
import Derived.Lib.Repeat
import Derived.Test.YtpmfaommooneiaaGreatDoorQ0
import Derived.Test.YtpmfaommooneiaaGreatDoorFmtZ
import Derived.Test.YtpmfaommooneiaaGreatDoorTextZ
import Derived.Test.YtpmfaommooneiaaGreatDoorStr
import Derived.Test.YtpmfaommooneiaaGreatDoorRows
import Derived.Test.YtpmfaommooneiaaGreatDoorI1
import Derived.Test.YtpmfaommooneiaaGreatDoorN5
import Derived.Lib.SmallJoins
set_option linter.unusedVariables false
set_option linter.unusedSimpArgs false
namespace Go.Proofs.YtpmfaommooneiaaGreatDoor
open Go.RowKit NM

/-- What strings.Split reads of memory. -/
def MaxL (m : Int) (w : World) : Prop := w.cell? ⟨0, 0, none⟩ = some (.int .i64 m)
theorem MaxL.lt {m : Int} {w : World} (h : MaxL m w) : 0 < w.heap.size := by
  unfold MaxL World.cell? at h
  split at h
  · rename_i hb
    exact (Array.getElem?_eq_some_iff.1 hb).1
  · simp at h
theorem MaxL.later {m : Int} {w w' : World} (h : MaxL m w) (hb : Below w.heap.size w w') : MaxL m w' := (hb.cell (p := ⟨0, 0, none⟩) h.lt).trans h

end Go.Proofs.YtpmfaommooneiaaGreatDoor
