/- integer.Parse undoes integer.Format: plain mathematics of the two. -/
import Derived.Test.YtpmfaommooneiaaGreatDoorParseZ
import Derived.Test.YtpmfaommooneiaaGreatDoorN4
set_option linter.unusedVariables false
set_option linter.unusedSimpArgs false
namespace Go.Proofs.YtpmfaommooneiaaGreatDoor
open Go.RowKit NM

theorem negS_false {s : ByteArray} (h : ∀ x ∈ bts s, x ≠ 45) : negS s = false := by
  unfold negS Lib.hasPrefix
  unfold bts at h
  show List.isPrefixOf [45] s.data.toList = false
  cases hl : s.data.toList with
  | nil => rfl
  | cons a l =>
    rw [hl] at h
    have h1 := h a.toNat (by simp)
    have h2 : (45 == a) = false := by
      rw [beq_eq_false_iff_ne]
      intro e
      exact h1 (by rw [← e]; rfl)
    simp only [List.isPrefixOf]
    rw [h2]
    rfl
theorem restS_false {s : ByteArray} (h : negS s = false) : restS s = s := by
  have h' : Lib.hasPrefix s.data.toList (⟨#[45]⟩ : ByteArray).data.toList = false := h
  unfold restS Lib.trimPrefix
  rw [h']
  simp
theorem data_minus (t : ByteArray) : ((⟨#[45]⟩ : ByteArray) ++ t).data.toList = 45 :: t.data.toList := by
  rw [ByteArray.data_append]
  simp
theorem negS_minus (t : ByteArray) : negS (⟨#[45]⟩ ++ t) = true := by
  unfold negS Lib.hasPrefix
  rw [data_minus]
  show List.isPrefixOf [45] (45 :: t.data.toList) = true
  simp [List.isPrefixOf]
theorem restS_minus (t : ByteArray) : restS (⟨#[45]⟩ ++ t) = t := by
  have h' : Lib.hasPrefix ((⟨#[45]⟩ : ByteArray) ++ t).data.toList (⟨#[45]⟩ : ByteArray).data.toList = true := negS_minus t
  unfold restS Lib.trimPrefix
  rw [h', data_minus]
  simp
theorem decVal_dec (n : Nat) : decVal (bts (dec n)) = n := by rw [bts_dec, decVal_decs]
theorem parse_decZ (z : Int) : parseZ (decZ z) = .tuple #[Z z, .bool true] := by
  by_cases h : z < 0
  · have hg : GoodZ (decZ z) := by
      rw [decZ_neg h]
      unfold GoodZ
      rw [restS_minus, decVal_dec]
      exact ⟨dec_decimal _, fun h2 => by have := h2.2; omega⟩
    rw [parseZ_yes hg, decZ_neg h, restS_minus, negS_minus, decVal_dec]
    rw [show iv true (can z.natAbs) = z by rw [iv_true, nat_can]; omega]
  · have hn : negS (dec z.natAbs) = false := negS_false (fun x hx => by rw [bts_dec] at hx; have := decs_mem hx; omega)
    have hg : GoodZ (decZ z) := by
      rw [decZ_pos h]
      unfold GoodZ
      rw [restS_false hn, hn]
      exact ⟨dec_decimal _, fun h2 => by have := h2.1; exact absurd this (by decide)⟩
    rw [parseZ_yes hg, decZ_pos h, restS_false hn, hn, decVal_dec]
    rw [show iv false (can z.natAbs) = z by rw [iv_false, nat_can]; omega]
end Go.Proofs.YtpmfaommooneiaaGreatDoor
