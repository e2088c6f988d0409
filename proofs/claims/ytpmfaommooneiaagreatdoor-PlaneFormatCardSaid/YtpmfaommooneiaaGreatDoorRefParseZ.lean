/- voussoirref02.Parse. -/
import Derived.Test.YtpmfaommooneiaaGreatDoorTextZ
set_option linter.unusedVariables false
set_option linter.unusedSimpArgs false
namespace Go.Proofs.YtpmfaommooneiaaGreatDoor
open Go.RowKit NM

theorem negS_cons {s : ByteArray} (h : negS s = true) : ∃ l, s.data.toList = 45 :: l := by
  unfold negS Lib.hasPrefix at h
  change List.isPrefixOf [45] s.data.toList = true at h
  cases hl : s.data.toList with
  | nil => rw [hl] at h; simp [List.isPrefixOf] at h
  | cons a l =>
    rw [hl] at h
    simp [List.isPrefixOf] at h
    exact ⟨l, by rw [h]⟩
theorem size_data (s : ByteArray) : s.data.toList.length = s.size := by
  rw [Array.length_toList]; rfl
theorem negS_true_at {s : ByteArray} (h : negS s = true) : ∃ hp : 0 < s.size, ((s[0].toNat : Nat) : Int) = 45 := by
  obtain ⟨l, hl⟩ := negS_cons h
  have hs := size_data s
  rw [hl] at hs
  simp at hs
  refine ⟨by omega, ?_⟩
  have h0 : (bts s).getD 0 0 = 45 := by unfold bts; rw [hl]; rfl
  rw [bts_getD s 0 (by omega)] at h0
  omega
theorem negS_false_at {s : ByteArray} (h : negS s = false) (hp : 0 < s.size) : ((s[0].toNat : Nat) : Int) ≠ 45 := by
  intro e
  have h0 : (bts s).getD 0 0 = 45 := by rw [bts_getD s 0 hp]; omega
  unfold negS Lib.hasPrefix at h
  change List.isPrefixOf [45] s.data.toList = false at h
  unfold bts at h0
  cases hl : s.data.toList with
  | nil =>
    have hs := size_data s
    rw [hl] at hs
    simp at hs
    omega
  | cons a l =>
    rw [hl] at h h0
    simp at h0
    have ha : a = 45 := UInt8.toNat_inj.1 h0
    rw [ha] at h
    simp [List.isPrefixOf] at h
theorem restS_trueR {s : ByteArray} (h : negS s = true) : s.extract 1 s.size = restS s := by
  apply bts_inj
  rw [bts_extract]
  have hl := bts_length s
  rw [List.take_of_length_le (by omega)]
  have h' : Lib.hasPrefix s.data.toList (⟨#[45]⟩ : ByteArray).data.toList = true := h
  unfold restS Lib.trimPrefix
  rw [h']
  unfold bts
  simp

set_option maxHeartbeats 1000000 in
theorem refParse2_bad_empty (s : ByteArray) (w : World) (hs : s.size ≤ 1048576) (he : s.size = 0) (hn : negS s = false) (hd : ¬ Decimal (restS s)) :
    Calls Tryz.prog 91 #[.string s] w fun e w' => e = .returned (parseZ s) ∧ Below w.heap.size w w' := by
  rw [parseZ_no (fun h => hd h.1)]
  rw [restS_false hn] at hd
  have HP := Lib.hid (parseVal_no hd)
  have ht : ¬ 0 < s.size := by omega
  clear he
  clear hn hd
  have hR := Hold.start1 w 23 (.bool false) (.string ⟨#[]⟩)
  go_enter Tryz.func91, Tryz.ntmps91
  go_wp2_with fail
  refine (refParse_any _ _ (by omega)).mono ?_
  rw [HP.out]
  rintro e w2 ⟨rfl, hb2⟩
  replace hR := hR.keep hb2
  clear hb2
  obtain ⟨a1, a2, -⟩ := hR.all1
  obtain ⟨-, -, f1, f2⟩ := (hR.1 _ (List.mem_cons_self ..)).two
  go_wp2_with fail
  exact bodyPost_ret (by simp [results, Tryz.results91, go_sem, a1, a2]) rfl ⟨rfl, set2 hR.below (Nat.le_refl _) _ _⟩

set_option maxHeartbeats 1000000 in
theorem refParse2_good_empty (s : ByteArray) (w : World) (hs : s.size ≤ 1048576) (he : s.size = 0) (hn : negS s = false) (hd : Decimal (restS s)) :
    Calls Tryz.prog 91 #[.string s] w fun e w' => e = .returned (parseZ s) ∧ Below w.heap.size w w' := by
  rw [parseZ_yes ⟨hd, fun h => by rw [hn] at h; exact absurd h.1 (by decide)⟩, hn]
  rw [restS_false hn] at hd ⊢
  have hz := decVal_size' hd
  have HP := Lib.hid (parseVal_yes hd)
  have ht : ¬ 0 < s.size := by omega
  clear he
  clear hn hd
  have hR := Hold.start1 w 23 (.bool false) (.string ⟨#[]⟩)
  go_enter Tryz.func91, Tryz.ntmps91
  go_wp2_with fail
  refine (refParse_any _ _ (by omega)).mono ?_
  rw [HP.out]
  rintro e w2 ⟨rfl, hb2⟩
  replace hR := hR.keep hb2
  clear hb2
  obtain ⟨a1, a2, -⟩ := hR.all1
  obtain ⟨-, -, f1, f2⟩ := (hR.1 _ (List.mem_cons_self ..)).two
  go_wp2_with fail
  clear a1 a2 f1 f2
  refine (of_any _ _ _ (by simp [maxLen]; omega)).mono ?_
  rintro e w3 ⟨rfl, hb3⟩
  replace hR := hR.keep hb3
  clear hb3
  obtain ⟨a1, a2, -⟩ := hR.all1
  obtain ⟨-, -, f1, f2⟩ := (hR.1 _ (List.mem_cons_self ..)).two
  go_wp2_with fail
  exact bodyPost_ret (by simp [results, Tryz.results91, go_sem, a1, a2]) rfl ⟨rfl, set2 hR.below (Nat.le_refl _) _ _⟩

set_option maxHeartbeats 1000000 in
theorem refParse2_bad_other (s : ByteArray) (w : World) (hs : s.size ≤ 1048576) (hp : 0 < s.size) (hn : negS s = false) (hd : ¬ Decimal (restS s)) :
    Calls Tryz.prog 91 #[.string s] w fun e w' => e = .returned (parseZ s) ∧ Below w.heap.size w w' := by
  rw [parseZ_no (fun h => hd h.1)]
  rw [restS_false hn] at hd
  have HP := Lib.hid (parseVal_no hd)
  have h45 : ((s[0].toNat : Int) == 45) = false := beq_eq_false_iff_ne.2 (negS_false_at hn hp)
  clear hn hd
  have hR := Hold.start1 w 23 (.bool false) (.string ⟨#[]⟩)
  go_enter Tryz.func91, Tryz.ntmps91
  go_wp2_with fail
  refine (refParse_any _ _ (by omega)).mono ?_
  rw [HP.out]
  rintro e w2 ⟨rfl, hb2⟩
  replace hR := hR.keep hb2
  clear hb2
  obtain ⟨a1, a2, -⟩ := hR.all1
  obtain ⟨-, -, f1, f2⟩ := (hR.1 _ (List.mem_cons_self ..)).two
  go_wp2_with fail
  exact bodyPost_ret (by simp [results, Tryz.results91, go_sem, a1, a2]) rfl ⟨rfl, set2 hR.below (Nat.le_refl _) _ _⟩

set_option maxHeartbeats 1000000 in
theorem refParse2_good_other (s : ByteArray) (w : World) (hs : s.size ≤ 1048576) (hp : 0 < s.size) (hn : negS s = false) (hd : Decimal (restS s)) :
    Calls Tryz.prog 91 #[.string s] w fun e w' => e = .returned (parseZ s) ∧ Below w.heap.size w w' := by
  rw [parseZ_yes ⟨hd, fun h => by rw [hn] at h; exact absurd h.1 (by decide)⟩, hn]
  rw [restS_false hn] at hd ⊢
  have hz := decVal_size' hd
  have HP := Lib.hid (parseVal_yes hd)
  have h45 : ((s[0].toNat : Int) == 45) = false := beq_eq_false_iff_ne.2 (negS_false_at hn hp)
  clear hn hd
  have hR := Hold.start1 w 23 (.bool false) (.string ⟨#[]⟩)
  go_enter Tryz.func91, Tryz.ntmps91
  go_wp2_with fail
  refine (refParse_any _ _ (by omega)).mono ?_
  rw [HP.out]
  rintro e w2 ⟨rfl, hb2⟩
  replace hR := hR.keep hb2
  clear hb2
  obtain ⟨a1, a2, -⟩ := hR.all1
  obtain ⟨-, -, f1, f2⟩ := (hR.1 _ (List.mem_cons_self ..)).two
  go_wp2_with fail
  clear a1 a2 f1 f2
  refine (of_any _ _ _ (by simp [maxLen]; omega)).mono ?_
  rintro e w3 ⟨rfl, hb3⟩
  replace hR := hR.keep hb3
  clear hb3
  obtain ⟨a1, a2, -⟩ := hR.all1
  obtain ⟨-, -, f1, f2⟩ := (hR.1 _ (List.mem_cons_self ..)).two
  go_wp2_with fail
  exact bodyPost_ret (by simp [results, Tryz.results91, go_sem, a1, a2]) rfl ⟨rfl, set2 hR.below (Nat.le_refl _) _ _⟩

set_option maxHeartbeats 1000000 in
theorem refParse2_mbad (s : ByteArray) (w : World) (hs : s.size ≤ 1048576) (hn : negS s = true) (hd : ¬ Decimal (restS s)) :
    Calls Tryz.prog 91 #[.string s] w fun e w' => e = .returned (parseZ s) ∧ Below w.heap.size w w' := by
  rw [parseZ_no (fun h => hd h.1)]
  have HP := Lib.hid (parseVal_no hd)
  obtain ⟨hp, h45⟩ := negS_true_at hn
  have h45' : ((s[0].toNat : Int) == 45) = true := beq_iff_eq.2 h45
  have hr := restS_size s
  have HX := Lib.hid (restS_trueR hn)
  clear hn hd h45
  have hR := Hold.start1 w 23 (.bool false) (.string ⟨#[]⟩)
  go_enter Tryz.func91, Tryz.ntmps91
  go_wp2_with fail
  rw [HX.out]
  refine (refParse_any _ _ (by omega)).mono ?_
  rw [HP.out]
  rintro e w2 ⟨rfl, hb2⟩
  replace hR := hR.keep hb2
  clear hb2
  obtain ⟨a1, a2, -⟩ := hR.all1
  obtain ⟨-, -, f1, f2⟩ := (hR.1 _ (List.mem_cons_self ..)).two
  go_wp2_with fail
  exact bodyPost_ret (by simp [results, Tryz.results91, go_sem, a1, a2]) rfl ⟨rfl, set2 hR.below (Nat.le_refl _) _ _⟩

set_option maxHeartbeats 1000000 in
theorem refParse2_mzero (s : ByteArray) (w : World) (hs : s.size ≤ 1048576) (hn : negS s = true) (hd : Decimal (restS s)) (hv : decVal (bts (restS s)) = 0) :
    Calls Tryz.prog 91 #[.string s] w fun e w' => e = .returned (parseZ s) ∧ Below w.heap.size w w' := by
  rw [parseZ_no (fun h => h.2 ⟨hn, hv⟩)]
  have he := isEmpty_pos hv
  have hz := decVal_size' hd
  have HP := Lib.hid (parseVal_yes hd)
  obtain ⟨hp, h45⟩ := negS_true_at hn
  have h45' : ((s[0].toNat : Int) == 45) = true := beq_iff_eq.2 h45
  have hr := restS_size s
  have HX := Lib.hid (restS_trueR hn)
  clear hn hd hv h45
  have hR := Hold.start1 w 23 (.bool false) (.string ⟨#[]⟩)
  go_enter Tryz.func91, Tryz.ntmps91
  go_wp2_with fail
  rw [HX.out]
  refine (refParse_any _ _ (by omega)).mono ?_
  rw [HP.out]
  rintro e w2 ⟨rfl, hb2⟩
  replace hR := hR.keep hb2
  clear hb2
  obtain ⟨a1, a2, -⟩ := hR.all1
  obtain ⟨-, -, f1, f2⟩ := (hR.1 _ (List.mem_cons_self ..)).two
  go_wp2_with fail
  refine (Norm_any _ _ (by simp [maxLen]; omega)).mono ?_
  rintro e w4 ⟨rfl, rfl⟩
  rw [nat_can]
  go_wp2_with fail
  exact bodyPost_ret (by simp [results, Tryz.results91, go_sem, a1, a2]) rfl ⟨rfl, set2 hR.below (Nat.le_refl _) _ _⟩

set_option maxHeartbeats 1000000 in
theorem refParse2_mgood (s : ByteArray) (w : World) (hs : s.size ≤ 1048576) (hn : negS s = true) (hd : Decimal (restS s)) (hv : decVal (bts (restS s)) ≠ 0) :
    Calls Tryz.prog 91 #[.string s] w fun e w' => e = .returned (parseZ s) ∧ Below w.heap.size w w' := by
  rw [parseZ_yes ⟨hd, fun h => hv h.2⟩, hn]
  have he := isEmpty_neg hv
  have hz := decVal_size' hd
  have HP := Lib.hid (parseVal_yes hd)
  obtain ⟨hp, h45⟩ := negS_true_at hn
  have h45' : ((s[0].toNat : Int) == 45) = true := beq_iff_eq.2 h45
  have hr := restS_size s
  have HX := Lib.hid (restS_trueR hn)
  clear hn hd hv h45
  have hR := Hold.start1 w 23 (.bool false) (.string ⟨#[]⟩)
  go_enter Tryz.func91, Tryz.ntmps91
  go_wp2_with fail
  rw [HX.out]
  refine (refParse_any _ _ (by omega)).mono ?_
  rw [HP.out]
  rintro e w2 ⟨rfl, hb2⟩
  replace hR := hR.keep hb2
  clear hb2
  obtain ⟨a1, a2, -⟩ := hR.all1
  obtain ⟨-, -, f1, f2⟩ := (hR.1 _ (List.mem_cons_self ..)).two
  go_wp2_with fail
  refine (Norm_any _ _ (by simp [maxLen]; omega)).mono ?_
  rintro e w4 ⟨rfl, rfl⟩
  rw [nat_can]
  go_wp2_with fail
  clear a1 a2 f1 f2
  refine (of_any _ _ _ (by simp [maxLen]; omega)).mono ?_
  rintro e w3 ⟨rfl, hb3⟩
  replace hR := hR.keep hb3
  clear hb3
  obtain ⟨a1, a2, -⟩ := hR.all1
  obtain ⟨-, -, f1, f2⟩ := (hR.1 _ (List.mem_cons_self ..)).two
  go_wp2_with fail
  exact bodyPost_ret (by simp [results, Tryz.results91, go_sem, a1, a2]) rfl ⟨rfl, set2 hR.below (Nat.le_refl _) _ _⟩

theorem refParse2_any (s : ByteArray) (w : World) (hs : s.size ≤ 1048576) :
    Calls Tryz.prog 91 #[.string s] w fun e w' => e = .returned (parseZ s) ∧ Below w.heap.size w w' := by
  cases hn : negS s
  · by_cases hd : Decimal (restS s)
    · by_cases hp : 0 < s.size
      · exact refParse2_good_other s w hs hp hn hd
      · exact refParse2_good_empty s w hs (by omega) hn hd
    · by_cases hp : 0 < s.size
      · exact refParse2_bad_other s w hs hp hn hd
      · exact refParse2_bad_empty s w hs (by omega) hn hd
  · by_cases hd : Decimal (restS s)
    · by_cases hv : decVal (bts (restS s)) = 0
      · exact refParse2_mzero s w hs hn hd hv
      · exact refParse2_mgood s w hs hn hd hv
    · exact refParse2_mbad s w hs hn hd
end Go.Proofs.YtpmfaommooneiaaGreatDoor
