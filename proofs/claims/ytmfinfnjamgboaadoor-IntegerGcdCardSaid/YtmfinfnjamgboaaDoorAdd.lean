/- nat.Add, nat.Sub and the reference's. -/
import Derived.Test.YtmfinfnjamgboaaDoorCmp
import Derived.Test.YtmfinfnjamgboaaDoorMem
namespace Go.Proofs.YtmfinfnjamgboaaDoor
open Go.RowKit NM

theorem row_u8 : (Tryd.prog.info? 5).map (fun i => (i.zero, i.size, i.bytes)) = some (some (.int .u8 0), 1, 1) := by kernel_rfl

theorem ret_str {s t : ByteArray} (h : s = t) : Ending.returned (.string s) = .returned (.string t) := by rw [h]
theorem add_end {a b : ByteArray} {L : List Nat} {x : Nat} (hL : NM.lt 256 L) (hLk : L.length = a.size) (hx : x < 256) (hab : b.size ≤ a.size) (hv : val 256 L + 256 ^ a.size * x = val 256 ((bts a).take a.size) + val 256 ((bts b).take a.size)) :
    Ending.returned (.string (can (nat (ofBts (L ++ [x]))))) = .returned (.string (can (nat a + nat b))) := by
  rw [nat_ofBts (lt_snoc hL hx), val_snoc, hLk, hv, List.take_of_length_le (by rw [bts_length]; omega), List.take_of_length_le (by rw [bts_length]; omega)]
  rfl

set_option maxHeartbeats 400000 in
theorem Add_le (a b : ByteArray) (w : World) (ha : a.size ≤ 4294967296) (hab : b.size ≤ a.size) :
    Calls Tryd.prog 33 #[.string a, .string b] w fun e w' => e = .returned (.string (can (nat a + nat b))) ∧ Below w.heap.size w w' := by
  go_enter Tryd.func33, Tryd.ntmps33
  go_wp2_with (at_make; refine wpList_make_blk _ rfl _ _ 59 rfl 5 .u8 1 Tryd.underlying59 row_u8 _ _ _ _ (a.size + 1) rfl rfl (by omega) (by omega) (by omega) (by omega) ?_; intro w1 hB hb1 hs1)
  go_loopw [6, 7, 21] (fun c _ i wr => ∃ (k : Nat) (L : List Nat) (x : Nat), k ≤ a.size ∧ i = .int .i64 k ∧ c = .int .i64 x ∧ x ≤ 1 ∧ NM.lt 256 L ∧ L.length = k ∧ val 256 L + 256 ^ k * x = val 256 ((bts a).take k) + val 256 ((bts b).take k) ∧ Blk wr w.heap.size 5 (cv .u8 (L ++ List.replicate (a.size + 1 - k) 0)) ∧ Below w.heap.size w wr) (fun _ _ i _ => a.size - (intOf i).toNat)
  case atStart => exact ⟨0, [], 0, Nat.zero_le _, rfl, rfl, by omega, by intro x hx; simp at hx, rfl, by simp [val], by simpa using hB, hb1⟩
  case round =>
    obtain ⟨k, L, x, hk, rfl, rfl, hx, hL, hLk, hv, hBr, hbr⟩ := hrel
    clear hB hb1 hs1
    have Hv := Lib.hid hv
    have HLk := Lib.hid hLk
    by_cases hlt : k < a.size
    · have hcell := hBr.next hLk (by omega)
      have hfree := hBr.nextFree hLk (by omega)
      clear hv hLk
      have b1 := UInt8.toNat_lt a[k]
      by_cases hlb : k < b.size
      · have b2 := UInt8.toNat_lt b[k]
        go_wp2
        go_roundw
        case rel => exact ⟨k + 1, L ++ [(x + a[k].toNat + b[k].toNat) % 256], (x + a[k].toNat + b[k].toNat) / 256, by omega, by go_num, by go_num, by omega, lt_snoc hL (by omega), by rw [List.length_append, HLk.out]; rfl,
          sum_round HLk.out Hv.out (by rw [bts_getD a k hlt, bts_getD b k hlb]; omega), hBr.push HLk.out (by omega) (by go_num) (by omega), hbr.setCell (Nat.le_refl _) _⟩
        case measure => simp [intOf]; omega
      · go_wp2
        go_roundw
        case rel => exact ⟨k + 1, L ++ [(x + a[k].toNat) % 256], (x + a[k].toNat) / 256, by omega, by go_num, by go_num, by omega, lt_snoc hL (by omega), by rw [List.length_append, HLk.out]; rfl,
          sum_round HLk.out Hv.out (by rw [bts_getD a k hlt, bts_getD_out b k (by omega)]; omega), hBr.push HLk.out (by omega) (by go_num) (by omega), hbr.setCell (Nat.le_refl _) _⟩
        case measure => simp [intOf]; omega
    · have hcell := hBr.next hLk (by omega)
      have hfree := hBr.nextFree hLk (by omega)
      obtain rfl : a.size = k := by omega
      have hst := run_str_blk (P := Tryd.prog) (src := 59) (dst := 9) (l := L ++ [x]) (post := []) (by rw [List.append_nil]; have := hBr.push hLk (by omega) (v := .int .u8 x) (d := x) (m' := 0) rfl (by omega); rwa [List.replicate_zero, List.append_nil] at this) (a.size + 1) (a.size + 1) (by rw [List.length_append, hLk]; rfl) Tryd.underlying59 Tryd.underlying5 Tryd.underlying9
      clear hv hLk
      go_wp2_with (go_at_call 39; refine (Normalize_any _ _ (by rw [size_ofBts, List.length_append, HLk.out]; simp [maxLen]; omega)).mono ?_; rintro e w' ⟨rfl, rfl⟩)
      go_ret
      exact ⟨add_end hL HLk.out (by omega) hab Hv.out, hbr.setCell (Nat.le_refl _) _⟩

set_option maxHeartbeats 400000 in
theorem Add_gt (a b : ByteArray) (w : World) (hb : b.size ≤ 4294967296) (hba : a.size < b.size) :
    Calls Tryd.prog 33 #[.string a, .string b] w fun e w' => e = .returned (.string (can (nat a + nat b))) ∧ Below w.heap.size w w' := by
  rw [Nat.add_comm (nat a)]
  go_enter Tryd.func33, Tryd.ntmps33
  go_wp2_with (at_make; refine wpList_make_blk _ rfl _ _ 59 rfl 5 .u8 1 Tryd.underlying59 row_u8 _ _ _ _ (b.size + 1) rfl rfl (by omega) (by omega) (by omega) (by omega) ?_; intro w1 hB hb1 hs1)
  go_loopw [6, 7, 21] (fun c _ i wr => ∃ (k : Nat) (L : List Nat) (x : Nat), k ≤ b.size ∧ i = .int .i64 k ∧ c = .int .i64 x ∧ x ≤ 1 ∧ NM.lt 256 L ∧ L.length = k ∧ val 256 L + 256 ^ k * x = val 256 ((bts b).take k) + val 256 ((bts a).take k) ∧ Blk wr w.heap.size 5 (cv .u8 (L ++ List.replicate (b.size + 1 - k) 0)) ∧ Below w.heap.size w wr) (fun _ _ i _ => b.size - (intOf i).toNat)
  case atStart => exact ⟨0, [], 0, Nat.zero_le _, rfl, rfl, by omega, by intro x hx; simp at hx, rfl, by simp [val], by simpa using hB, hb1⟩
  case round =>
    obtain ⟨k, L, x, hk, rfl, rfl, hx, hL, hLk, hv, hBr, hbr⟩ := hrel
    clear hB hb1 hs1
    have Hv := Lib.hid hv
    have HLk := Lib.hid hLk
    by_cases hlt : k < b.size
    · have hcell := hBr.next hLk (by omega)
      have hfree := hBr.nextFree hLk (by omega)
      clear hv hLk
      have b1 := UInt8.toNat_lt b[k]
      by_cases hlb : k < a.size
      · have b2 := UInt8.toNat_lt a[k]
        go_wp2
        go_roundw
        case rel => exact ⟨k + 1, L ++ [(x + b[k].toNat + a[k].toNat) % 256], (x + b[k].toNat + a[k].toNat) / 256, by omega, by go_num, by go_num, by omega, lt_snoc hL (by omega), by rw [List.length_append, HLk.out]; rfl,
          sum_round HLk.out Hv.out (by rw [bts_getD b k hlt, bts_getD a k hlb]; omega), hBr.push HLk.out (by omega) (by go_num) (by omega), hbr.setCell (Nat.le_refl _) _⟩
        case measure => simp [intOf]; omega
      · go_wp2
        go_roundw
        case rel => exact ⟨k + 1, L ++ [(x + b[k].toNat) % 256], (x + b[k].toNat) / 256, by omega, by go_num, by go_num, by omega, lt_snoc hL (by omega), by rw [List.length_append, HLk.out]; rfl,
          sum_round HLk.out Hv.out (by rw [bts_getD b k hlt, bts_getD_out a k (by omega)]; omega), hBr.push HLk.out (by omega) (by go_num) (by omega), hbr.setCell (Nat.le_refl _) _⟩
        case measure => simp [intOf]; omega
    · have hcell := hBr.next hLk (by omega)
      have hfree := hBr.nextFree hLk (by omega)
      obtain rfl : b.size = k := by omega
      have hst := run_str_blk (P := Tryd.prog) (src := 59) (dst := 9) (l := L ++ [x]) (post := []) (by rw [List.append_nil]; have := hBr.push hLk (by omega) (v := .int .u8 x) (d := x) (m' := 0) rfl (by omega); rwa [List.replicate_zero, List.append_nil] at this) (b.size + 1) (b.size + 1) (by rw [List.length_append, hLk]; rfl) Tryd.underlying59 Tryd.underlying5 Tryd.underlying9
      clear hv hLk
      go_wp2_with (go_at_call 39; refine (Normalize_any _ _ (by rw [size_ofBts, List.length_append, HLk.out]; simp [maxLen]; omega)).mono ?_; rintro e w' ⟨rfl, rfl⟩)
      go_ret
      exact ⟨add_end hL HLk.out (by omega) (by omega) Hv.out, hbr.setCell (Nat.le_refl _) _⟩

theorem Add_any (a b : ByteArray) (w : World) (ha : a.size ≤ 4294967296) (hb : b.size ≤ 4294967296) :
    Calls Tryd.prog 33 #[.string a, .string b] w fun e w' => e = .returned (.string (can (nat a + nat b))) ∧ Below w.heap.size w w' := by
  rcases Nat.lt_or_ge a.size b.size with h | h
  · exact Add_gt a b w hb h
  · exact Add_le a b w ha h
end Go.Proofs.YtmfinfnjamgboaaDoor
