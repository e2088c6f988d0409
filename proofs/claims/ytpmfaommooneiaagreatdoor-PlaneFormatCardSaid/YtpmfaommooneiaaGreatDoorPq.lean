/- Texts of rational numbers: plain mathematics. -/
import Derived.Test.YtpmfaommooneiaaGreatDoorQ0
import Derived.Test.YtpmfaommooneiaaGreatDoorStr
import Derived.Test.YtpmfaommooneiaaGreatDoorDecZ
import Derived.Lib.Index
set_option linter.unusedVariables false
set_option linter.unusedSimpArgs false
namespace Go.Proofs.YtpmfaommooneiaaGreatDoor
open Go.RowKit NM

/-- The index of the first byte of a kind, or the length. -/
def at_ (c : Nat) (s : ByteArray) : Nat := (bts s).findIdx (· == c)
/-! A number's text is read back. -/
theorem dec_bytes (n : Nat) : ∀ x ∈ bts (dec n), 48 ≤ x ∧ x ≤ 57 := fun x hx => by
  rw [bts_dec] at hx
  exact decs_mem hx
end Go.Proofs.YtpmfaommooneiaaGreatDoor
