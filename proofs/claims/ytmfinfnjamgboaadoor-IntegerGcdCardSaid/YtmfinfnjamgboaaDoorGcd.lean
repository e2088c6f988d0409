/- nat.Gcd and voussoirref01.Gcd. -/
import Derived.Test.YtmfinfnjamgboaaDoorGol
import Derived.Test.YtmfinfnjamgboaaDoorGcdW
import Derived.Test.YtmfinfnjamgboaaDoorRefText
import Derived.Test.YtmfinfnjamgboaaDoorPost
namespace Go.Proofs.YtmfinfnjamgboaaDoor
open Go.RowKit NM

theorem cell_lt {w : World} {a : Addr} {v : Value} (h : w.cell? a = some v) : a.block < w.heap.size := by
  rcases Nat.lt_or_ge a.block w.heap.size with h1 | h1
  · exact h1
  · unfold World.cell? at h
    rw [Array.getElem?_eq_none h1] at h
    simp at h
theorem Tab.cells {w : World} (h : Tab w) : TabC w := fun j hj => by
  have h1 := Lib.TabIs.cell h gTab j (by simpa [tabNums] using hj)
  rw [h1]
  congr 2
  have : ∀ j, j < 32 → tabNums.getD j 0 = ((Lib.deBruijn32tab.getD j 0 : Nat) : Int) := by decide
  rw [← this j hj]
theorem TabC.lt {w : World} (h : TabC w) : 0 < w.heap.size := cell_lt (h 0 (by omega))

set_option maxHeartbeats 1000000 in
theorem Gcd_any (a b : ByteArray) (w : World) (ha : a.size ≤ 268435456) (hb : b.size ≤ 268435456) (hT : TabC w) :
    Calls Tryd.prog 29 #[.string a, .string b] w fun e w' => e = .returned (.string (can (Nat.gcd (nat a) (nat b)))) ∧ Below w.heap.size w w' := by
  by_cases hw : nat a < 18446744073709551616 ∧ nat b < 18446744073709551616
  · exact Gcd_word a b w (by simp [maxLen]; omega) (by simp [maxLen]; omega) hw.1 hw.2
  · have la := lim_size a
    have lb := lim_size b
    have h3 : (u64B (nat a) && u64B (nat b)) = false := by
      unfold u64B
      by_cases h1 : nat a < 18446744073709551616
      · have h2 : ¬ nat b < 18446744073709551616 := fun h => hw ⟨h1, h⟩
        rw [decide_eq_false h2, Bool.and_false]
      · rw [decide_eq_false h1, Bool.false_and]
    have htab := hT.lt
    have HT := Lib.hid (And.intro hT htab)
    clear hw hT htab
    have hcase : u64B (nat a) = false ∨ (u64B (nat a) = true ∧ u64B (nat b) = false) := by
      cases h : u64B (nat a)
      · exact .inl rfl
      · rw [h, Bool.true_and] at h3
        exact .inr ⟨rfl, h3⟩
    clear h3
    rcases hcase with h1 | ⟨h1, h2⟩
    all_goals
      go_enter Tryd.func29, Tryd.ntmps29
      go_wp2_with fail
      refine (Uint64_any a _ (by simp [maxLen]; omega)).mono ?_
      rintro e w1 ⟨rfl, rfl⟩
      rw [u64Val_eq]
      go_wp2_with fail
      refine (Uint64_any b _ (by simp [maxLen]; omega)).mono ?_
      rintro e w1 ⟨rfl, rfl⟩
      rw [u64Val_eq]
      go_wp2_with fail
      refine (limbs_any a _ (by omega)).mono ?_
      rintro e w1 ⟨g1, hg1, rfl, hB1, hb1⟩
      go_wp2_with fail
      refine (limbs_any b _ (by omega)).mono ?_
      rintro e w2 ⟨g2, hg2, rfl, hB2, hb2⟩
      have hg1l := Blk.lt hB1
      have hb12 := hb1.trans (hb2.mono hb1.size)
      go_wp2_with fail
      refine (gcdOfLimbs_any w.heap.size g1 g2 (nat a) (nat b) _ (by omega) (by omega) (Blk.keep hB1 hb2) hB2 (by omega) hg1 (Nat.le_trans hb1.size hg2) hb12.size (HT.out.1.below hb12 HT.out.2) HT.out.2).mono ?_
      rintro e w3 ⟨A, c, L, rfl, hL1, hL2, hL3, hL4, hb3⟩
      go_wp2_with fail
      refine (magnitude_any A L c _ hL4 hL1 hL3).mono ?_
      rintro e w4 ⟨rfl, hb4⟩
      rw [hL2]
      have hb34 := hb3.trans (hb4.mono (Nat.le_trans hb12.size hb3.size))
      clear hL2
      go_wp2_with fail
      go_ret
      exact ⟨rfl, hb12.trans hb34⟩

attribute [local go_sem] nat_can
theorem can_mono {m n : Nat} (h : m ≤ n) : (can m).size ≤ (can n).size := by
  rw [can_size, can_size]
  exact len_mono (by omega) h
set_option maxHeartbeats 1000000 in
theorem refGcd_any (a b : ByteArray) (w : World) (ha : a.size ≤ 1073741824) (hb : b.size ≤ 1073741824) :
    Calls Tryd.prog 30 #[.string a, .string b] w fun e w' => e = .returned (.string (can (Nat.gcd (nat a) (nat b)))) ∧ Below w.heap.size w w' := by
  have sa := can_size_le_size a
  have sb := can_size_le_size b
  obtain ⟨M, hM⟩ : ∃ M, M = nat a := ⟨_, rfl⟩
  obtain ⟨N, hN⟩ : ∃ N, N = nat b := ⟨_, rfl⟩
  obtain ⟨G, hG⟩ : ∃ G, G = Nat.gcd M N := ⟨_, rfl⟩
  rw [← hM] at sa ⊢
  rw [← hN] at sb ⊢
  rw [← hG]
  have HM := Lib.hid hM
  have HN := Lib.hid hN
  have HG := Lib.hid hG
  clear hM hN hG
  go_enter Tryd.func30, Tryd.ntmps30
  go_wp2_with (go_at_call 22; refine (Norm_any _ _ (by simp [maxLen]; omega)).mono ?_; rintro e w' ⟨rfl, rfl⟩)
  rw [← HM.out, ← HN.out]
  go_loopw [5, 6] (fun x y wr => ∃ m n : Nat, x = .string (can m) ∧ y = .string (can n) ∧ (can m).size ≤ 1073741824 ∧ (can n).size ≤ 1073741824 ∧ Nat.gcd m n = G ∧ Below w.heap.size w wr) (fun _ y _ => nat (strOf y))
  case atStart => exact ⟨M, N, rfl, rfl, by omega, by omega, HG.out.symm, Below.refl _ _⟩
  case round =>
    obtain ⟨m, n, rfl, rfl, hm, hn, hg, hbr⟩ := hrel
    have Hg := Lib.hid hg
    clear hg
    by_cases hz : n = 0
    · have hc := isEmpty_pos hz
      have e : G = m := by rw [← Hg.out, hz, Nat.gcd_zero_right]
      have He := Lib.hid e
      clear hz e
      go_wp2_with fail
      go_ret
      exact ⟨by rw [He.out]; rfl, hbr⟩
    · have hc := isEmpty_neg hz
      have hd := divVal_pos (m := m) hz
      have hs := can_mono (Nat.le_of_lt (Nat.mod_lt m (Nat.pos_of_ne_zero hz)))
      have Hz := Lib.hid hz
      clear hz
      go_wp2_with fail
      refine (refDiv_any _ _ _ hm hn).mono ?_
      rintro e w1 ⟨rfl, hb1⟩
      rw [nat_can, nat_can, hd]
      clear hd
      go_wp2_with fail
      go_roundw
      case rel => exact ⟨n, m % n, rfl, rfl, hn, by omega, by rw [← Hg.out, Nat.gcd_comm n, ← Nat.gcd_rec, Nat.gcd_comm], then_ hbr hb1⟩
      case measure =>
        show nat (can (m % n)) < nat (can n)
        rw [nat_can, nat_can]
        exact Nat.mod_lt _ (Nat.pos_of_ne_zero Hz.out)
end Go.Proofs.YtmfinfnjamgboaaDoor
