/- A rational number among a row's arguments: opened and shut; a world for the witness that lays three tables. -/
import Derived.Test.YtpmfaommooneiaaGreatDoorRows
import Derived.Test.YtpmfaommooneiaaGreatDoorRat
import Derived.Test.YtpmfaommooneiaaGreatDoorI1
import Derived.Test.YtpmfaommooneiaaGreatDoorN5
import Derived.Lib.SmallJoins
set_option linter.unusedVariables false
set_option linter.unusedSimpArgs false
namespace Go.Proofs.YtpmfaommooneiaaGreatDoor
open Go.ChangeShapes Go.WideShapes Go.ChangeAt Go.RowKit Go.Joins

section
variable {H : Type} {enc : TypeId × Value → H} {W : World} {base : Nat} {spare : Nat → Bool} {held : Bool}
end
theorem tab_of_laidR {rest : List (String × DataW Unit)} {W : World} (h : laidMetH Tryz.prog (("math/bits.deBruijn32tab", Rows.laid_math_bits_deBruijn32tab) :: rest) W)
    (hr : ((("math/bits.deBruijn32tab", Rows.laid_math_bits_deBruijn32tab) :: rest : List (String × DataW Unit)).filter fun x => x.2.handleName?.isSome) = []) : Tab W := by
  unfold laidMetH at h
  rw [hr] at h
  exact Lib.tabIs_of_head (rest := rest) gTab gTabType Tryz.underlying181 Tryz.underlying5 cellsByte cellsTab h
def rangeNums : List Int := [128, 191, 160, 191, 128, 159, 144, 191, 128, 143, 0, 0, 0, 0, 0, 0, 0, 0, 0, 0, 0, 0, 0, 0, 0, 0, 0, 0, 0, 0, 0, 0]
/-- A world for the witness: the settled one, three tables as their initialisers lay them. -/
noncomputable def laidWorld3 (os : Os) : World :=
  { laidWorld os with heap := ((laidWorld os).heap.modify 1 fun
      | .cells _ t frozen => .cells (Go.Pinned.utf8FirstZ.map fun (n : Nat) => Value.int .u8 (n : Int)).toArray t frozen
      | o => o).modify 2 fun
      | .cells _ t frozen => .cells (rangeNums.map (Value.int .u8)).toArray t frozen
      | o => o }
end Go.Proofs.YtpmfaommooneiaaGreatDoor
