/- integer.Parse. -/
import Derived.Test.YtdgppfccolhaeaaGreatDoorFmtZ
import Derived.Test.YtdgppfccolhaeaaGreatDoorN4
import Derived.Test.YtdgppfccolhaeaaGreatDoorShelf
import Derived.Lib.Strings
set_option linter.unusedVariables false
set_option linter.unusedSimpArgs false
namespace Go.Proofs.YtdgppfccolhaeaaGreatDoor
open Go.RowKit NM

/-- Whether a text begins with a minus sign, and what is behind it. -/
def negS (s : ByteArray) : Bool := Lib.hasPrefix s.data.toList (⟨#[45]⟩ : ByteArray).data.toList
def restS (s : ByteArray) : ByteArray := ⟨(Lib.trimPrefix s.data.toList (⟨#[45]⟩ : ByteArray).data.toList).toArray⟩
theorem restS_size (s : ByteArray) : (restS s).size ≤ s.size := by
  have h := Lib.trimPrefix_le s.data.toList (⟨#[45]⟩ : ByteArray).data.toList
  show (Lib.trimPrefix s.data.toList (⟨#[45]⟩ : ByteArray).data.toList).toArray.size ≤ s.data.size
  rw [List.size_toArray, ← Array.length_toList]
  exact h
/-- The integer of which a text is the decimal form. -/
def GoodZ (s : ByteArray) : Prop := Decimal (restS s) ∧ ¬ (negS s = true ∧ decVal (bts (restS s)) = 0)
noncomputable def parseZ (s : ByteArray) : Value := @ite _ (GoodZ s) (Classical.propDecidable _) (.tuple #[Z (iv (negS s) (can (decVal (bts (restS s))))), .bool true]) (.tuple #[I2 false ⟨#[]⟩, .bool false])
theorem parseZ_yes {s : ByteArray} (h : GoodZ s) : parseZ s = .tuple #[Z (iv (negS s) (can (decVal (bts (restS s))))), .bool true] := if_pos h
theorem parseZ_no {s : ByteArray} (h : ¬ GoodZ s) : parseZ s = .tuple #[I2 false ⟨#[]⟩, .bool false] := if_neg h
theorem decVal_size' {s : ByteArray} (h : Decimal s) : (can (decVal (bts s))).size ≤ s.size := by
  have h1 := dec_size (s := s) (k := s.size) (Nat.le_refl _) h.2.1
  rwa [List.take_of_length_le (by rw [bts_length]; exact Nat.le_refl _)] at h1

end Go.Proofs.YtdgppfccolhaeaaGreatDoor
