/- Texts of rational numbers: plain mathematics. -/
import Derived.Test.YtodcomijjmobdaaGreatDoorQ0
import Derived.Test.YtodcomijjmobdaaGreatDoorSx
import Derived.Test.YtodcomijjmobdaaGreatDoorN1
import Derived.Test.YtodcomijjmobdaaGreatDoorN4
import Derived.Test.YtodcomijjmobdaaGreatDoorDivZ
import Derived.Test.YtodcomijjmobdaaGreatDoorShelf
import Derived.Lib.Strings
import Derived.Lib.Index
import Derived.Lib.TrimByte
set_option linter.unusedVariables false
set_option linter.unusedSimpArgs false
namespace Go.Proofs.YtodcomijjmobdaaGreatDoor
open Go.RowKit NM

theorem makeV_eq (N D : Int) : makeV N D = .tuple #[QV (Rat.divInt N D), .bool (decide (D ≠ 0))] := by
  by_cases h : D = 0
  · rw [makeV_zero h, h, Rat.divInt_zero]; rfl
  · rw [makeV_pos h, decide_eq_true h]
theorem quoQ_eq (x y : Rat) : quoQ x y = .tuple #[QV (x / y), .bool (decide (y ≠ 0))] := by
  by_cases h : y = 0
  · rw [quoQ_zero h, h, Rat.div_def, Rat.inv_zero, Rat.mul_zero]; rfl
  · rw [quoQ_pos h, decide_eq_true h]
/-- The index of the first byte of a kind, or the length. -/
def at_ (c : Nat) (s : ByteArray) : Nat := (bts s).findIdx (· == c)
/-! A number's text is read back. -/
end Go.Proofs.YtodcomijjmobdaaGreatDoor
