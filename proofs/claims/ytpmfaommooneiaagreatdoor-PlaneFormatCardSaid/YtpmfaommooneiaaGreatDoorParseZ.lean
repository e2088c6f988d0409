/- integer.Parse. -/
import Derived.Test.YtpmfaommooneiaaGreatDoorFmtZ
import Derived.Test.YtpmfaommooneiaaGreatDoorN4
import Derived.Test.YtpmfaommooneiaaGreatDoorShelf
import Derived.Lib.Strings
set_option linter.unusedVariables false
set_option linter.unusedSimpArgs false
namespace Go.Proofs.YtpmfaommooneiaaGreatDoor
open Go.RowKit NM

/-- Whether a text begins with a minus sign, and what is behind it. -/
def negS (s : ByteArray) : Bool := Lib.hasPrefix s.data.toList (⟨#[45]⟩ : ByteArray).data.toList
def restS (s : ByteArray) : ByteArray := ⟨(Lib.trimPrefix s.data.toList (⟨#[45]⟩ : ByteArray).data.toList).toArray⟩
theorem restS_size (s : ByteArray) : (restS s).size ≤ s.size := by
  have h := Lib.trimPrefix_le s.data.toList (⟨#[45]⟩ : ByteArray).data.toList
  show (Lib.trimPrefix s.data.toList (⟨#[45]⟩ : ByteArray).data.toList).toArray.size ≤ s.data.size
  rw [List.size_toArray, ← Array.length_toList]
  exact h
/-- The integer of which a text is the decimal form. -/
def GoodZ (s : ByteArray) : Prop := Decimal (restS s) ∧ ¬ (negS s = true ∧ decVal (bts (restS s)) = 0)
noncomputable def parseZ (s : ByteArray) : Value := @ite _ (GoodZ s) (Classical.propDecidable _) (.tuple #[Z (iv (negS s) (can (decVal (bts (restS s))))), .bool true]) (.tuple #[I2 false ⟨#[]⟩, .bool false])
theorem parseZ_yes {s : ByteArray} (h : GoodZ s) : parseZ s = .tuple #[Z (iv (negS s) (can (decVal (bts (restS s))))), .bool true] := if_pos h
theorem parseZ_no {s : ByteArray} (h : ¬ GoodZ s) : parseZ s = .tuple #[I2 false ⟨#[]⟩, .bool false] := if_neg h
theorem decVal_size' {s : ByteArray} (h : Decimal s) : (can (decVal (bts s))).size ≤ s.size := by
  have h1 := dec_size (s := s) (k := s.size) (Nat.le_refl _) h.2.1
  rwa [List.take_of_length_le (by rw [bts_length]; exact Nat.le_refl _)] at h1

set_option maxHeartbeats 1000000 in
theorem Parse2_bad_false (s : ByteArray) (w : World) (hs : s.size ≤ 1073741824) (hn : negS s = false) (hd : ¬ Decimal (restS s)) :
    Calls Tryz.prog 90 #[.string s] w fun e w' => e = .returned (parseZ s) ∧ Below w.heap.size w w' := by
  have hr := restS_size s
  rw [parseZ_no (fun h => hd h.1)]
  have HN := Lib.hid hn
  have HP := Lib.hid (parseVal_no hd)
  clear hn hd
  have hR := Hold.start1 w 23 (.bool false) (.string ⟨#[]⟩)
  go_enter Tryz.func90, Tryz.ntmps90
  go_wp2_with fail
  refine (Tryz.strings_CutPrefix s ⟨#[45]⟩ _).mono ?_
  rintro e w1 ⟨rfl, rfl⟩
  rw [show (⟨(Lib.trimPrefix s.data.toList (⟨#[45]⟩ : ByteArray).data.toList).toArray⟩ : ByteArray) = restS s from rfl, show Lib.hasPrefix s.data.toList (⟨#[45]⟩ : ByteArray).data.toList = negS s from rfl, HN.out]
  go_wp2_with fail
  refine (Parse_any (restS s) _ (by omega)).mono ?_
  rw [HP.out]
  rintro e w2 ⟨rfl, hb2⟩
  replace hR := hR.keep hb2
  clear hb2
  obtain ⟨a1, a2, -⟩ := hR.all1
  obtain ⟨-, -, f1, f2⟩ := (hR.1 _ (List.mem_cons_self ..)).two
  go_wp2_with fail
  exact bodyPost_ret (by simp [results, Tryz.results90, go_sem, a1, a2]) rfl ⟨rfl, set2 hR.below (Nat.le_refl _) _ _⟩

set_option maxHeartbeats 1000000 in
theorem Parse2_bad_true (s : ByteArray) (w : World) (hs : s.size ≤ 1073741824) (hn : negS s = true) (hd : ¬ Decimal (restS s)) :
    Calls Tryz.prog 90 #[.string s] w fun e w' => e = .returned (parseZ s) ∧ Below w.heap.size w w' := by
  have hr := restS_size s
  rw [parseZ_no (fun h => hd h.1)]
  have HN := Lib.hid hn
  have HP := Lib.hid (parseVal_no hd)
  clear hn hd
  have hR := Hold.start1 w 23 (.bool false) (.string ⟨#[]⟩)
  go_enter Tryz.func90, Tryz.ntmps90
  go_wp2_with fail
  refine (Tryz.strings_CutPrefix s ⟨#[45]⟩ _).mono ?_
  rintro e w1 ⟨rfl, rfl⟩
  rw [show (⟨(Lib.trimPrefix s.data.toList (⟨#[45]⟩ : ByteArray).data.toList).toArray⟩ : ByteArray) = restS s from rfl, show Lib.hasPrefix s.data.toList (⟨#[45]⟩ : ByteArray).data.toList = negS s from rfl, HN.out]
  go_wp2_with fail
  refine (Parse_any (restS s) _ (by omega)).mono ?_
  rw [HP.out]
  rintro e w2 ⟨rfl, hb2⟩
  replace hR := hR.keep hb2
  clear hb2
  obtain ⟨a1, a2, -⟩ := hR.all1
  obtain ⟨-, -, f1, f2⟩ := (hR.1 _ (List.mem_cons_self ..)).two
  go_wp2_with fail
  exact bodyPost_ret (by simp [results, Tryz.results90, go_sem, a1, a2]) rfl ⟨rfl, set2 hR.below (Nat.le_refl _) _ _⟩

set_option maxHeartbeats 1000000 in
theorem Parse2_zero (s : ByteArray) (w : World) (hs : s.size ≤ 1073741824) (hn : negS s = true) (hd : Decimal (restS s)) (hv : decVal (bts (restS s)) = 0) :
    Calls Tryz.prog 90 #[.string s] w fun e w' => e = .returned (parseZ s) ∧ Below w.heap.size w w' := by
  have hr := restS_size s
  rw [parseZ_no (fun h => h.2 ⟨hn, hv⟩)]
  have he := isEmpty_pos hv
  have HN := Lib.hid hn
  have HP := Lib.hid (parseVal_yes hd)
  clear hn hd hv
  have hR := Hold.start1 w 23 (.bool false) (.string ⟨#[]⟩)
  go_enter Tryz.func90, Tryz.ntmps90
  go_wp2_with fail
  refine (Tryz.strings_CutPrefix s ⟨#[45]⟩ _).mono ?_
  rintro e w1 ⟨rfl, rfl⟩
  rw [show (⟨(Lib.trimPrefix s.data.toList (⟨#[45]⟩ : ByteArray).data.toList).toArray⟩ : ByteArray) = restS s from rfl, show Lib.hasPrefix s.data.toList (⟨#[45]⟩ : ByteArray).data.toList = negS s from rfl, HN.out]
  go_wp2_with fail
  refine (Parse_any (restS s) _ (by omega)).mono ?_
  rw [HP.out]
  rintro e w2 ⟨rfl, hb2⟩
  replace hR := hR.keep hb2
  clear hb2
  obtain ⟨a1, a2, -⟩ := hR.all1
  obtain ⟨-, -, f1, f2⟩ := (hR.1 _ (List.mem_cons_self ..)).two
  go_wp2_with fail
  exact bodyPost_ret (by simp [results, Tryz.results90, go_sem, a1, a2]) rfl ⟨rfl, set2 hR.below (Nat.le_refl _) _ _⟩

set_option maxHeartbeats 1000000 in
theorem Parse2_pos (s : ByteArray) (w : World) (hs : s.size ≤ 1073741824) (hn : negS s = false) (hd : Decimal (restS s)) :
    Calls Tryz.prog 90 #[.string s] w fun e w' => e = .returned (parseZ s) ∧ Below w.heap.size w w' := by
  have hr := restS_size s
  rw [parseZ_yes ⟨hd, fun h => by rw [hn] at h; exact absurd h.1 (by decide)⟩, hn]
  have hz := decVal_size' hd
  have HN := Lib.hid hn
  have HP := Lib.hid (parseVal_yes hd)
  clear hn hd
  have hR := Hold.start1 w 23 (.bool false) (.string ⟨#[]⟩)
  go_enter Tryz.func90, Tryz.ntmps90
  go_wp2_with fail
  refine (Tryz.strings_CutPrefix s ⟨#[45]⟩ _).mono ?_
  rintro e w1 ⟨rfl, rfl⟩
  rw [show (⟨(Lib.trimPrefix s.data.toList (⟨#[45]⟩ : ByteArray).data.toList).toArray⟩ : ByteArray) = restS s from rfl, show Lib.hasPrefix s.data.toList (⟨#[45]⟩ : ByteArray).data.toList = negS s from rfl, HN.out]
  go_wp2_with fail
  refine (Parse_any (restS s) _ (by omega)).mono ?_
  rw [HP.out]
  rintro e w2 ⟨rfl, hb2⟩
  replace hR := hR.keep hb2
  clear hb2
  obtain ⟨a1, a2, -⟩ := hR.all1
  obtain ⟨-, -, f1, f2⟩ := (hR.1 _ (List.mem_cons_self ..)).two
  go_wp2_with fail
  clear a1 a2 f1 f2
  refine (canonical_any _ _ _ (by simp [maxLen]; omega)).mono ?_
  rintro e w3 ⟨rfl, hb3⟩
  replace hR := hR.keep hb3
  clear hb3
  obtain ⟨a1, a2, -⟩ := hR.all1
  obtain ⟨-, -, f1, f2⟩ := (hR.1 _ (List.mem_cons_self ..)).two
  go_wp2_with fail
  exact bodyPost_ret (by simp [results, Tryz.results90, go_sem, a1, a2]) rfl ⟨rfl, set2 hR.below (Nat.le_refl _) _ _⟩

set_option maxHeartbeats 1000000 in
theorem Parse2_neg (s : ByteArray) (w : World) (hs : s.size ≤ 1073741824) (hn : negS s = true) (hd : Decimal (restS s)) (hv : decVal (bts (restS s)) ≠ 0) :
    Calls Tryz.prog 90 #[.string s] w fun e w' => e = .returned (parseZ s) ∧ Below w.heap.size w w' := by
  have hr := restS_size s
  rw [parseZ_yes ⟨hd, fun h => hv h.2⟩, hn]
  have hz := decVal_size' hd
  have he := isEmpty_neg hv
  have HN := Lib.hid hn
  have HP := Lib.hid (parseVal_yes hd)
  clear hn hd hv
  have hR := Hold.start1 w 23 (.bool false) (.string ⟨#[]⟩)
  go_enter Tryz.func90, Tryz.ntmps90
  go_wp2_with fail
  refine (Tryz.strings_CutPrefix s ⟨#[45]⟩ _).mono ?_
  rintro e w1 ⟨rfl, rfl⟩
  rw [show (⟨(Lib.trimPrefix s.data.toList (⟨#[45]⟩ : ByteArray).data.toList).toArray⟩ : ByteArray) = restS s from rfl, show Lib.hasPrefix s.data.toList (⟨#[45]⟩ : ByteArray).data.toList = negS s from rfl, HN.out]
  go_wp2_with fail
  refine (Parse_any (restS s) _ (by omega)).mono ?_
  rw [HP.out]
  rintro e w2 ⟨rfl, hb2⟩
  replace hR := hR.keep hb2
  clear hb2
  obtain ⟨a1, a2, -⟩ := hR.all1
  obtain ⟨-, -, f1, f2⟩ := (hR.1 _ (List.mem_cons_self ..)).two
  go_wp2_with fail
  clear a1 a2 f1 f2
  refine (canonical_any _ _ _ (by simp [maxLen]; omega)).mono ?_
  rintro e w3 ⟨rfl, hb3⟩
  replace hR := hR.keep hb3
  clear hb3
  obtain ⟨a1, a2, -⟩ := hR.all1
  obtain ⟨-, -, f1, f2⟩ := (hR.1 _ (List.mem_cons_self ..)).two
  go_wp2_with fail
  exact bodyPost_ret (by simp [results, Tryz.results90, go_sem, a1, a2]) rfl ⟨rfl, set2 hR.below (Nat.le_refl _) _ _⟩

theorem Parse2_any (s : ByteArray) (w : World) (hs : s.size ≤ 1073741824) :
    Calls Tryz.prog 90 #[.string s] w fun e w' => e = .returned (parseZ s) ∧ Below w.heap.size w w' := by
  by_cases hd : Decimal (restS s)
  · cases hn : negS s
    · exact Parse2_pos s w hs hn hd
    · by_cases hv : decVal (bts (restS s)) = 0
      · exact Parse2_zero s w hs hn hd hv
      · exact Parse2_neg s w hs hn hd hv
  · cases hn : negS s
    · exact Parse2_bad_false s w hs hn hd
    · exact Parse2_bad_true s w hs hn hd
end Go.Proofs.YtpmfaommooneiaaGreatDoor
