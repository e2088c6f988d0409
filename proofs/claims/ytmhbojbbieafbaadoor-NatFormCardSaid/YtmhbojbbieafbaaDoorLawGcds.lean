/- The walks of voussoirlaw01.NatGcds, NatDivisors. -/
import Derived.Test.YtmhbojbbieafbaaDoorLawMuls
import Derived.Test.YtmhbojbbieafbaaDoorGcd
namespace Go.Proofs.YtmhbojbbieafbaaDoor
open Go.RowKit NM

attribute [local go_sem] nat_can
set_option maxHeartbeats 2000000 in
theorem NatGcds_any (a b : ByteArray) (w : World) (hT0 : Tab w) (ha : a.size ≤ maxLen) (hb : b.size ≤ maxLen) :
    Calls Tryd.prog 5 #[.string a, .string b] w fun e w' => e = .returned (.bool true) ∧ Below w.heap.size w w' := by
  have hT := hT0.cells
  have HT := Lib.hid (And.intro hT hT.lt)
  clear hT hT0
  unfold maxLen at ha hb
  go_enter Tryd.func5, Tryd.ntmps5
  go_wp2_with fail
  refine (natAlive_any _).mono ?_
  rintro e w1 ⟨rfl, hbb⟩
  by_cases h1 : 16 < a.size
  · go_wp2_with fail
    go_ret
    exact ⟨rfl, hbb⟩
  · by_cases h2 : 16 < b.size
    · go_wp2_with fail
      go_ret
      exact ⟨rfl, hbb⟩
    · go_wp2_with fail
      refine (Gcd_any a b _ (by omega) (by omega) (HT.out.1.below hbb HT.out.2)).mono ?_
      rintro e w2 ⟨rfl, hbn⟩
      replace hbb := then_ hbb hbn
      clear hbn
      go_wp2_with fail
      refine (refGcd_any a b _ (by omega) (by omega)).mono ?_
      rintro e w3 ⟨rfl, hbn⟩
      replace hbb := then_ hbb hbn
      clear hbn
      go_wp2_with fail
      go_ret
      exact ⟨rfl, hbb⟩

theorem div_gcd {A G : Nat} (hG : G ≠ 0) (h : G ∣ A) : divVal A G = .tuple #[.string (can (A / G)), .string (can 0), .bool true] := by
  rw [divVal_pos hG, Nat.mod_eq_zero_of_dvd h]

set_option maxHeartbeats 2000000 in
theorem NatDivisors_any (a b k : ByteArray) (w : World) (hT0 : Tab w) (ha : a.size ≤ maxLen) (hb : b.size ≤ maxLen) (hk : k.size ≤ maxLen) :
    Calls Tryd.prog 9 #[.string a, .string b, .string k] w fun e w' => e = .returned (.bool true) ∧ Below w.heap.size w w' := by
  have hT := hT0.cells
  have HT := Lib.hid (And.intro hT hT.lt)
  clear hT hT0
  unfold maxLen at ha hb hk
  go_enter Tryd.func9, Tryd.ntmps9
  go_wp2_with fail
  refine (natAlive_any _).mono ?_
  rintro e w1 ⟨rfl, hbb⟩
  by_cases h1 : 12 < a.size
  · go_wp2_with fail
    go_ret
    exact ⟨rfl, hbb⟩
  · by_cases h2 : 12 < b.size
    · go_wp2_with fail
      go_ret
      exact ⟨rfl, hbb⟩
    · by_cases h3 : 8 < k.size
      · go_wp2_with fail
        go_ret
        exact ⟨rfl, hbb⟩
      · have la := nat_lt_of (show a.size ≤ 12 by omega)
        have lb := nat_lt_of (show b.size ≤ 12 by omega)
        have lk := nat_lt_of (show k.size ≤ 8 by omega)
        obtain ⟨G, hG⟩ : ∃ G, Nat.gcd (nat a) (nat b) = G := ⟨_, rfl⟩
        by_cases hz : G = 0
        · have ea : nat a = 0 := Nat.eq_zero_of_gcd_eq_zero_left (hG.trans hz)
          have eb : nat b = 0 := Nat.eq_zero_of_gcd_eq_zero_right (hG.trans hz)
          have hc := isEmpty_pos hz
          have hca := isEmpty_pos ea
          have hcb := isEmpty_pos eb
          clear la lb lk hz ea eb
          go_wp2_with (first
            | (go_at_call 25; refine (Gcd_any _ _ _ (by omega) (by omega) (HT.out.1.below hbb HT.out.2)).mono ?_; rintro e wn ⟨rfl, hbn⟩; replace hbb := then_ hbb hbn; clear hbn)
            | (go_at_call 14; refine (Normalize_any _ _ (by simp [maxLen]; omega)).mono ?_; rintro e wn ⟨rfl, rfl⟩))
          go_ret
          exact ⟨rfl, hbb⟩
        · have hpos := Nat.pos_of_ne_zero hz
          have da : G ∣ nat a := hG ▸ Nat.gcd_dvd_left _ _
          have db : G ∣ nat b := hG ▸ Nat.gcd_dvd_right _ _
          have hc := isEmpty_neg hz
          have t0 := isEmpty_pos (n := 0) rfl
          have e1 := div_gcd hz da
          have e2 := div_gcd hz db
          have e3 : can (Nat.gcd (nat a / G) (nat b / G)) = ⟨#[1]⟩ := by
            rw [Nat.gcd_div da db, hG, Nat.div_self hpos]
            decide +kernel
          have e4 : Nat.gcd (nat b) (nat a) = G := (Nat.gcd_comm _ _).trans hG
          have e5 : Nat.gcd (nat a * nat k) (nat b * nat k) = G * nat k := by rw [Nat.gcd_mul_right, hG]
          have lG : G < 256 ^ 12 := by rw [← hG]; exact gcd_lt la lb
          have s1 : (can G).size ≤ 12 := can_size_le lG
          have s2 : (can (nat a / G)).size ≤ 12 := can_size_le (div_lt' la)
          have s3 : (can (nat b / G)).size ≤ 12 := can_size_le (div_lt' lb)
          have s4 : (can (nat a * nat k)).size ≤ 20 := can_size_le (mul_lt la lk)
          have s5 : (can (nat b * nat k)).size ≤ 20 := can_size_le (mul_lt lb lk)
          clear la lb lk hz hpos da db lG
          go_wp2_with (first
            | (go_at_call 25; refine (Gcd_any _ _ _ (by omega) (by omega) (HT.out.1.below hbb HT.out.2)).mono ?_; rintro e wn ⟨rfl, hbn⟩; replace hbb := then_ hbb hbn; clear hbn)
            | (go_at_call 21; refine (Div_any _ _ _ (by omega) (by omega)).mono ?_; rintro e wn ⟨rfl, hbn⟩; replace hbb := then_ hbb hbn; clear hbn)
            | (go_at_call 23; refine (Mul_any _ _ _ (by omega) (by omega)).mono ?_; rintro e wn ⟨rfl, hbn⟩; replace hbb := then_ hbb hbn; clear hbn))
          go_ret
          exact ⟨rfl, hbb⟩
end Go.Proofs.YtmhbojbbieafbaaDoor
