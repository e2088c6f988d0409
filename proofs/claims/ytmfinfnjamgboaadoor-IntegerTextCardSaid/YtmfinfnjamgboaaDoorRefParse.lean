/- voussoirref01.Parse and Text. -/
import Derived.Test.YtmfinfnjamgboaaDoorParse
import Derived.Test.YtmfinfnjamgboaaDoorAlive
import Derived.Deep.RegionWith
namespace Go.Proofs.YtmfinfnjamgboaaDoor
open Go.RowKit NM

theorem decVal_lt (l : List Nat) (hl : ∀ x ∈ l, x ≤ 57) : decVal l < 10 ^ l.length := by
  have h : ∀ (l : List Nat) (v : Nat), (∀ x ∈ l, x ≤ 57) → l.foldl (fun v d => 10 * v + (d - 48)) v < (v + 1) * 10 ^ l.length := by
    intro l
    induction l with
    | nil => intro v _; simp
    | cons x l ih =>
      intro v hx
      have h1 := ih (10 * v + (x - 48)) (fun y hy => hx y (by simp [hy]))
      have h2 := hx x (by simp)
      rw [List.foldl_cons, List.length_cons, Nat.pow_succ, Nat.mul_comm (10 ^ l.length) 10, ← Nat.mul_assoc]
      exact Nat.lt_of_lt_of_le h1 (Nat.mul_le_mul_right _ (by omega))
  have := h l 0 hl
  unfold decVal
  omega
theorem dec_size {s : ByteArray} {k : Nat} (hk : k ≤ s.size) (hd : ∀ j, j < k → 48 ≤ (bts s).getD j 0 ∧ (bts s).getD j 0 ≤ 57) : (can (decVal ((bts s).take k))).size ≤ k := by
  refine can_size_le ?_
  have h1 := decVal_lt ((bts s).take k) (fun x hx => by
    obtain ⟨j, hj, rfl⟩ := List.getElem_of_mem hx
    rw [List.length_take] at hj
    have := (hd j (by omega)).2
    rw [List.getD_eq_getElem?_getD, List.getElem?_eq_getElem (by omega)] at this
    rw [List.getElem_take]
    exact this)
  rw [List.length_take, bts_length, Nat.min_eq_left hk] at h1
  have h2 : 10 ^ k ≤ 256 ^ k := Nat.pow_le_pow_left (by omega) _
  omega

theorem refparse_fin {s : ByteArray} (hpos : 0 < s.size) (hd : ∀ j, j < s.size → 48 ≤ (bts s).getD j 0 ∧ (bts s).getD j 0 ≤ 57) (hg : (bts s).getD 0 0 ≠ 48 ∨ s.size = 1) :
    Ending.returned (.tuple #[.string (can (decVal ((bts s).take s.size))), .bool true]) = .returned (parseVal s) := by
  rw [List.take_of_length_le (by rw [bts_length]; exact Nat.le_refl _), parseVal_yes ⟨by omega, hd, hg⟩]
theorem small_ten (a : ByteArray) (w : World) (ha : a.size ≤ 4294967296) :
    Calls Tryd.prog 41 #[.string a, .int .i64 10] w fun e w' => e = .returned (.string (can (nat a * 10))) ∧ Below w.heap.size w w' := small_any a 10 w ha (by omega)
theorem Of_conv (d : Nat) (w : World) (hd : d ≤ 9) :
    Calls Tryd.prog 42 #[.int .u64 (IntKind.u64.wrap (IntKind.u8.wrap (d : Int)))] w fun e w' => e = .returned (.string (can d)) ∧ Below w.heap.size w w' := by
  rw [show IntKind.u64.wrap (IntKind.u8.wrap (d : Int)) = (d : Int) from by simp [IntKind.wrap, IntKind.bits, IntKind.signed] <;> omega]
  exact Of_any d w (by omega)
theorem then_d {a b c : World} (h : Below a.heap.size a b) (k : Below b.drew.heap.size b.drew c) : Below a.heap.size a c := then_ h.drew k
theorem then_dN {a b c : World} {n : Nat} (h : Below a.heap.size a b) (k : Below (b.drewN n).heap.size (b.drewN n) c) : Below a.heap.size a c := then_ (below_drewN h n) k

attribute [local go_sem] nat_can
set_option maxHeartbeats 4000000 in
theorem refParse_any (s : ByteArray) (w : World) (hs : s.size ≤ 1073741824) :
    Calls Tryd.prog 21 #[.string s] w fun e w' => e = .returned (parseVal s) ∧ Below w.heap.size w w' := by
  by_cases h0 : s.size = 0
  · rw [parseVal_no (fun h => h.1 h0)]
    have he : ((s.size : Int) == 0) = true := beq_iff_eq.2 (by omega)
    clear h0
    go_enter Tryd.func21, Tryd.ntmps21
    go_wp2
    go_ret2
    exact ⟨rfl, Below.refl _ _⟩
  · have hpos : 0 < s.size := Nat.pos_of_ne_zero h0
    have he : ((s.size : Int) == 0) = false := beq_eq_false_iff_ne.2 (by omega)
    have hb0 := bts_getD s 0 hpos
    by_cases hbad : s[0].toNat = 48 ∧ s.size ≠ 1
    · obtain ⟨h48, h1⟩ := hbad
      have hno : ¬ Decimal s := fun h => by
        rcases h.2.2 with h | h
        · exact h (by rw [hb0]; exact h48)
        · exact h1 h
      rw [parseVal_no hno]
      have h48' : ((s[0].toNat : Int) == 48) = true := by rw [h48]; rfl
      have hz : 1 < s.size := by omega
      clear h0 hb0 h48 hno h1
      go_enter Tryd.func21, Tryd.ntmps21
      go_wp2
      go_ret2
      exact ⟨rfl, Below.refl _ _⟩
    · have hgood : (bts s).getD 0 0 ≠ 48 ∨ s.size = 1 := by rw [hb0]; omega
      have hcase : ((s[0].toNat : Int) == 48) = false ∨ (((s[0].toNat : Int) == 48) = true ∧ ¬ 1 < s.size) := by
        by_cases h48 : s[0].toNat = 48
        · right
          exact ⟨by rw [h48]; rfl, by omega⟩
        · left
          exact beq_eq_false_iff_ne.2 (by omega)
      have Hgood := Lib.hid hgood
      have Hpos := Lib.hid hpos
      clear hgood hb0 hbad h0
      rcases hcase with h1 | ⟨h1, h2⟩
      all_goals
        go_enter Tryd.func21, Tryd.ntmps21
        go_wp2
        go_loopw [4, 5] (fun x i wr => ∃ k : Nat, k ≤ s.size ∧ i = .int .i64 k ∧ x = .string (can (decVal ((bts s).take k))) ∧ (∀ j, j < k → 48 ≤ (bts s).getD j 0 ∧ (bts s).getD j 0 ≤ 57) ∧ Below w.heap.size w wr) (fun _ i _ => s.size - (intOf i).toNat)
        case atStart => exact ⟨0, Nat.zero_le _, rfl, rfl, fun j hj => by omega, Below.refl _ _⟩
        case round =>
          obtain ⟨k, hk, rfl, rfl, hdg, hb⟩ := hrel
          have hsz := dec_size hk hdg
          have Hdg := Lib.hid hdg
          clear hdg
          by_cases hlt : k < s.size
          · have hbd := UInt8.toNat_lt s[k]
            by_cases hlo : s[k].toNat < 48
            · go_wp2
              go_ret2
              exact ⟨parse_no (parse_bad hlt (.inl hlo)), hb⟩
            · by_cases hhi : 57 < s[k].toNat
              · go_wp2
                go_ret2
                exact ⟨parse_no (parse_bad hlt (.inr hhi)), hb⟩
              · have hdg' : ∀ j, j < k + 1 → 48 ≤ (bts s).getD j 0 ∧ (bts s).getD j 0 ≤ 57 := fun j hj => by
                  rcases Nat.lt_or_ge j k with h | h
                  · exact Hdg.out j h
                  · obtain rfl : j = k := by omega
                    rw [bts_getD s j hlt]
                    omega
                have Hdg' := Lib.hid hdg'
                have hv : decVal ((bts s).take (k + 1)) = decVal ((bts s).take k) * 10 + (s[k].toNat - 48) := by
                  rw [decVal_take (by rw [bts_length]; exact hlt), bts_getD s k hlt]
                  omega
                have Hv := Lib.hid hv
                clear hdg' hv
                obtain ⟨d, hd⟩ : ∃ d, d = s[k].toNat - 48 := ⟨_, rfl⟩
                have ed : (s[k].toNat : Int) - 48 = (d : Int) := by omega
                have hd9 : d ≤ 9 := by omega
                have Hd := Lib.hid hd
                clear hd
                have hV : decVal ((bts s).take k) < 256 ^ k := by
                  have h4 := (len_le_iff (B := 256) (by omega) k (decVal ((bts s).take k))).1 (by rw [← can_size]; exact hsz)
                  exact h4
                have s1 : (can (decVal ((bts s).take k) * 10)).size ≤ k + 1 := can_size_le (by rw [Nat.pow_succ]; omega)
                have s2 : (can d).size ≤ 1 := can_size_le (by omega)
                clear hV
                generalize decVal ((bts s).take k) = V at hsz s1 Hv ⊢
                go_wp2
                go_region_with (first
                  | (go_at_call 41; refine (small_ten _ _ (by omega)).mono ?_; rintro e wn ⟨rfl, hbn⟩; (first | replace hb := then_ hb hbn | replace hb := then_d hb hbn | replace hb := then_dN hb hbn); clear hbn)
                  | (go_at_call 42; refine (Of_conv _ _ hd9).mono ?_; rintro e wn ⟨rfl, hbn⟩; (first | replace hb := then_ hb hbn | replace hb := then_d hb hbn | replace hb := then_dN hb hbn); clear hbn)
                  | (go_at_call 40; refine (refAdd_any _ _ _ (by omega) (by omega)).mono ?_; rintro e wn ⟨rfl, hbn⟩; (first | replace hb := then_ hb hbn | replace hb := then_d hb hbn | replace hb := then_dN hb hbn); clear hbn))
                go_wp2
                all_goals (refine ⟨⟨k + 1, by omega, by go_num, by rw [Hv.out, Hd.out], Hdg'.out, hb⟩, ?_⟩; simp only [intOf]; omega)
          · obtain rfl : k = s.size := by omega
            go_wp2
            go_ret2
            exact ⟨refparse_fin Hpos.out Hdg.out Hgood.out, hb⟩
end Go.Proofs.YtmfinfnjamgboaaDoor
