/- Strings in symbolic runs: an index, a piece, and what the bytes of strings are. -/
import Derived.Test.YtpmfaommooneiaaGreatDoorSx
import Derived.Test.YtpmfaommooneiaaGreatDoorN1
import Derived.Test.YtpmfaommooneiaaGreatDoorN4
set_option linter.unusedVariables false
set_option linter.unusedSimpArgs false
namespace Go.Proofs.YtpmfaommooneiaaGreatDoor
open Go.RowKit NM SX

section
variable {P : Program} {w : World} {η : Operand → Value} {t ty : TypeId} {x y lo hi : Operand} {s : ByteArray} {k j : Nat} {ki kj : IntKind}
end
theorem cat_ok {n : Nat} (h : n ≤ 1099511627776) : ¬ ((n : Nat) : Int) > IntKind.i64.max := by
  simp [IntKind.max, IntKind.bits]
  omega
theorem bts_append (s t : ByteArray) : bts (s ++ t) = bts s ++ bts t := by
  unfold bts
  simp
/-! Digits. -/
end Go.Proofs.YtpmfaommooneiaaGreatDoor
