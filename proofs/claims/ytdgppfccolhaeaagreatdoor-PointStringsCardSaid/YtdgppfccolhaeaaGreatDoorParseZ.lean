/- integer.Parse. -/
import Derived.Test.YtdgppfccolhaeaaGreatDoorFmtZ
import Derived.Test.YtdgppfccolhaeaaGreatDoorN4
import Derived.Test.YtdgppfccolhaeaaGreatDoorShelf
import Derived.Lib.Strings
set_option linter.unusedVariables false
set_option linter.unusedSimpArgs false
namespace Go.Proofs.YtdgppfccolhaeaaGreatDoor
open Go.RowKit NM

/-- Whether a text begins with a minus sign, and what is behind it. -/
def negS (s : ByteArray) : Bool := Lib.hasPrefix s.data.toList (⟨#[45]⟩ : ByteArray).data.toList
def restS (s : ByteArray) : ByteArray := ⟨(Lib.trimPrefix s.data.toList (⟨#[45]⟩ : ByteArray).data.toList).toArray⟩
theorem restS_size (s : ByteArray) : (restS s).size ≤ s.size := by
  have h := Lib.trimPrefix_le s.data.toList (⟨#[45]⟩ : ByteArray).data.toList
  show (Lib.trimPrefix s.data.toList (⟨#[45]⟩ : ByteArray).data.toList).toArray.size ≤ s.data.size
  rw [List.size_toArray, ← Array.length_toList]
  exact h
end Go.Proofs.YtdgppfccolhaeaaGreatDoor
