/- voussoirref01: at, Cmp, Add, Sub. -/
import Derived.Test.YtmfinfnjamgboaaDoorOwn
import Derived.Test.YtmfinfnjamgboaaDoorAdd
namespace Go.Proofs.YtmfinfnjamgboaaDoor
open Go.RowKit NM

/-- The byte at place i, 0 beyond the end. -/
def byteAt (a : ByteArray) (i : Nat) : Nat := (bts a).getD i 0
theorem byteAt_lt (a : ByteArray) (i : Nat) : byteAt a i < 256 := getD_lt (by omega) (bts_lt a) i
theorem byteAt_out (a : ByteArray) (i : Nat) (h : a.size ≤ i) : byteAt a i = 0 := bts_getD_out a i h

set_option maxHeartbeats 400000 in
theorem at_any (a : ByteArray) (i : Nat) (w : World) :
    Calls Tryd.prog 55 #[.string a, .int .i64 (i : Int)] w fun e w' => e = .returned (.int .i64 (byteAt a i : Nat)) ∧ w = w' := by
  by_cases h : i < a.size
  · have hg : byteAt a i = a[i].toNat := bts_getD a i h
    have b1 := UInt8.toNat_lt a[i]
    have Hg := Lib.hid hg
    clear hg
    go_enter Tryd.func55, Tryd.ntmps55
    go_wp2
    go_ret
    exact ⟨ret_int (by rw [Hg.out]), rfl⟩
  · have hg := byteAt_out a i (by omega)
    have Hg := Lib.hid hg
    clear hg
    go_enter Tryd.func55, Tryd.ntmps55
    go_wp2
    go_ret
    exact ⟨ret_int (by rw [Hg.out]; rfl), rfl⟩

set_option maxHeartbeats 400000 in
theorem refCmp_any (a b : ByteArray) (w : World) (ha : a.size ≤ maxLen) (hb : b.size ≤ maxLen) :
    Calls Tryd.prog 57 #[.string a, .string b] w (CmpPost (nat a) (nat b) w) := by
  have hsz : (can (nat a)).size ≤ 9223372036854775807 := by have := can_size_le_size a; unfold maxLen at ha; omega
  have htz : (can (nat b)).size ≤ 9223372036854775807 := by have := can_size_le_size b; unfold maxLen at hb; omega
  rcases Nat.lt_trichotomy (can (nat a)).size (can (nat b)).size with hne | hne | hne
  · go_enter Tryd.func57, Tryd.ntmps57
    go_wp2_with (go_at_call 22; refine (Norm_any _ _ (by assumption)).mono ?_; rintro e w' ⟨rfl, rfl⟩)
    go_ret
    exact ⟨ret_int (cmpN_lt (lt_of_size hne)).symm, Below.refl _ _⟩
  · have Hne := Lib.hid hne
    have hle : (can (nat a)).size ≤ (can (nat b)).size := by omega
    have hge : (can (nat b)).size ≤ (can (nat a)).size := by omega
    clear hne
    go_enter Tryd.func57, Tryd.ntmps57
    go_wp2_with (go_at_call 22; refine (Norm_any _ _ (by assumption)).mono ?_; rintro e w' ⟨rfl, rfl⟩)
    go_loopw [7] (fun i wr => ∃ k : Nat, k ≤ (can (nat a)).size ∧ i = .int .i64 ((k : Int) - 1) ∧ (∀ j, k ≤ j → (bts (can (nat a))).getD j 0 = (bts (can (nat b))).getD j 0) ∧ Below w.heap.size w wr) (fun i _ => (intOf i + 1).toNat)
    case atStart => exact ⟨_, Nat.le_refl _, rfl, fun j hj => by rw [bts_getD_out _ j (by omega), bts_getD_out _ j (by omega)], Below.refl _ _⟩
    case round =>
      obtain ⟨k, hk, rfl, ht, hb⟩ := hrel
      have Ht := Lib.hid ht
      clear ht
      by_cases hlt : 0 < k
      · obtain ⟨i, hi⟩ : ∃ i : Nat, i + 1 = k := ⟨k - 1, by omega⟩
        have e : ((k : Int) - 1) = (i : Int) := by omega
        have b2 : i < (can (nat a)).size := by omega
        have b3 : i < (can (nat b)).size := by omega
        have Hi := Lib.hid hi
        clear hi
        rcases Nat.lt_trichotomy (can (nat a))[i].toNat (can (nat b))[i].toNat with heq | heq | heq
        · rw [e]
          clear e
          go_wp2
          go_quiet (fail)
          go_wp2
          go_ret
          exact ⟨ret_int (cmpN_lt (top_lt Hne.out b2 b3 (fun j hj => Ht.out j (by have := Hi.out; omega)) heq)).symm, by exact below_drewN hb _⟩
        · rw [e]
          clear e
          have h1 : ¬ (can (nat a))[i].toNat < (can (nat b))[i].toNat := by omega
          have h2 : ¬ (can (nat b))[i].toNat < (can (nat a))[i].toNat := by omega
          have Heq := Lib.hid heq
          clear heq
          go_wp2
          go_quiet (fail)
          have hb1 : Below w.heap.size w (wr.drewN nq) := below_drewN hb _
          generalize wr.drewN nq = W1 at hb1 ⊢
          clear hb
          go_wp2
          go_quiet (fail)
          go_wp2
          go_roundw
          case rel => exact ⟨i, by omega, rfl, top_step b2 b3 (fun j hj => Ht.out j (by have := Hi.out; omega)) Heq.out, by exact below_drewN hb1 _⟩
          case measure => have := Hi.out; simp [intOf]
        · rw [e]
          clear e
          have h1 : ¬ (can (nat a))[i].toNat < (can (nat b))[i].toNat := by omega
          go_wp2
          go_quiet (fail)
          have hb1 : Below w.heap.size w (wr.drewN nq) := below_drewN hb _
          generalize wr.drewN nq = W1 at hb1 ⊢
          clear hb
          go_wp2
          go_quiet (fail)
          go_wp2
          go_ret
          exact ⟨ret_int (cmpN_gt (top_lt Hne.out.symm b3 b2 (fun j hj => (Ht.out j (by have := Hi.out; omega)).symm) heq)).symm, by exact below_drewN hb1 _⟩
      · go_wp2
        go_ret
        exact ⟨ret_int (cmpN_eq (top_eq Hne.out (fun j => Ht.out j (by omega)))).symm, hb⟩
  · go_enter Tryd.func57, Tryd.ntmps57
    go_wp2_with (go_at_call 22; refine (Norm_any _ _ (by assumption)).mono ?_; rintro e w' ⟨rfl, rfl⟩)
    go_ret
    exact ⟨ret_int (cmpN_gt (lt_of_size hne)).symm, Below.refl _ _⟩

theorem add_round_lt {a b : ByteArray} {M k x : Nat} (hk : k ≤ M) (hMa : a.size ≤ M) (hMb : b.size ≤ M) (hx : x ≤ 1) : k + 1 ≤ M ∨ k + 1 = M + 1 ∧ (x + (byteAt a k + byteAt b k)) / 256 = 0 := by
  rcases Nat.lt_or_ge k M with h | h
  · exact .inl h
  · right
    rw [byteAt_out a k (by omega), byteAt_out b k (by omega)]
    omega
theorem refAdd_end {a b : ByteArray} {L : List Nat} {k : Nat} (hL : NM.lt 256 L) (ha : a.size ≤ k) (hb : b.size ≤ k) (hv : val 256 L + 256 ^ k * 0 = val 256 ((bts a).take k) + val 256 ((bts b).take k)) :
    Ending.returned (.string (can (nat (ofBts L)))) = .returned (.string (can (nat a + nat b))) := by
  rw [List.take_of_length_le (by rw [bts_length]; omega), List.take_of_length_le (by rw [bts_length]; omega)] at hv
  rw [nat_ofBts hL]
  rw [Nat.mul_zero, Nat.add_zero] at hv
  rw [hv]
  rfl

set_option maxHeartbeats 1000000 in
theorem refAdd_any (a b : ByteArray) (w : World) (ha : a.size ≤ 4294967296) (hb : b.size ≤ 4294967296) :
    Calls Tryd.prog 40 #[.string a, .string b] w fun e w' => e = .returned (.string (can (nat a + nat b))) ∧ Below w.heap.size w w' := by
  obtain ⟨M, hMa, hMb, hM⟩ : ∃ M : Nat, a.size ≤ M ∧ b.size ≤ M ∧ (M ≤ a.size ∨ M ≤ b.size) := ⟨max a.size b.size, by omega, by omega, by omega⟩
  go_enter Tryd.func40, Tryd.ntmps40
  go_wp2
  go_loopw [5, 6, 7] (fun v c i wr => ∃ (k : Nat) (L : List Nat) (x : Nat), (k ≤ M ∨ k = M + 1 ∧ x = 0) ∧ i = .int .i64 k ∧ c = .int .i64 x ∧ x ≤ 1 ∧ NM.lt 256 L ∧ L.length = k ∧ val 256 L + 256 ^ k * x = val 256 ((bts a).take k) + val 256 ((bts b).take k) ∧ Own wr w.heap.size 5 .u8 v L ∧ Below w.heap.size w wr) (fun _ _ i _ => M + 1 - (intOf i).toNat)
  case atStart => exact ⟨0, [], 0, .inl (Nat.zero_le _), rfl, rfl, by omega, lt_nil _, rfl, by simp [val], Own.made w #[] 0 rfl (Nat.le_refl _) (by omega), (Below.refl _ _).alloc (Nat.le_refl _) _⟩
  case round =>
    obtain ⟨k, L, x, hk, rfl, rfl, hx, hL, hLk, hv, hown, hbr⟩ := hrel
    have Hv := Lib.hid hv
    have HLk := Lib.hid hLk
    have hLle : L.length ≤ 17179869184 := by omega
    clear hv hLk
    have g1 := byteAt_lt a k
    have g2 := byteAt_lt b k
    by_cases hgo : k < a.size ∨ k < b.size ∨ 0 < x
    · have hkM : k ≤ M := by omega
      have hs2 : w.heap.size ≤ wr.heap.size := hbr.size
      rcases (show k < a.size ∨ (¬ k < a.size ∧ k < b.size) ∨ (¬ k < a.size ∧ ¬ k < b.size ∧ 0 < x) from by omega) with h1 | ⟨h1, h2⟩ | ⟨h1, h2, h3⟩
      all_goals
        go_wp2_with (first
          | (go_at_call 55; refine (at_any _ k _).mono ?_; rintro e w' ⟨rfl, rfl⟩)
          | (at_builtin; refine wpList_push _ rfl _ _ 59 rfl w.heap.size 5 .u8 1 Tryd.underlying59 row_u8 _ L rfl (hown.alloc _) ⟨wr.heap.size, 0, none⟩ 1 rfl ((x + (byteAt a k + byteAt b k)) % 256) (((Blk.new _ _ _).cell (j := 0) rfl).trans (congrArg some (by go_num))) hLle (by omega) (by simp; omega) ?_; intro v2 w2 hown2 _ hb2))
        go_roundw
        case rel => exact ⟨k + 1, L ++ [(x + (byteAt a k + byteAt b k)) % 256], (x + (byteAt a k + byteAt b k)) / 256, add_round_lt hkM hMa hMb hx, by go_num, by go_num, by omega, lt_snoc hL (by omega), by rw [List.length_append, HLk.out]; rfl, sum_round HLk.out Hv.out (by unfold byteAt; omega), hown2, (hbr.alloc hs2 _).trans hb2⟩
        case measure => simp [intOf]; omega
    · have h1 : ¬ k < a.size := by omega
      have h2 : ¬ k < b.size := by omega
      have h3 : x = 0 := by omega
      subst h3
      have hst := run_str_own (P := Tryd.prog) hown Tryd.underlying59 Tryd.underlying5 Tryd.underlying9
      go_wp2_with (go_at_call 22; refine (Norm_any _ _ (by rw [size_ofBts]; simp [maxLen]; omega)).mono ?_; rintro e w' ⟨rfl, rfl⟩)
      go_ret
      exact ⟨refAdd_end hL (by omega) (by omega) Hv.out, hbr⟩
end Go.Proofs.YtmfinfnjamgboaaDoor
