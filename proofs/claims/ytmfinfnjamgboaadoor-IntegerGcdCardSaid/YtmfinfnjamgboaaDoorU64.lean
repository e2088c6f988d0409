/- nat.FromUint64, nat.Uint64, voussoirref01.Of, Num. -/
import Derived.Test.YtmfinfnjamgboaaDoorSub
namespace Go.Proofs.YtmfinfnjamgboaaDoor
open Go.RowKit NM

theorem pow_2_8 (k : Nat) : (2 : Int) ^ (8 * k) = ((256 ^ k : Nat) : Int) := by
  rw [Int.pow_mul]
  norm_cast
theorem byte_of (n k : Nat) : Value.int .u8 ((n : Int) / 2 ^ (8 * k) % 256) = .int .u8 ((n / 256 ^ k % 256 : Nat) : Int) := by
  rw [pow_2_8]
  rfl
theorem from_end {n : Nat} (hn : n < 18446744073709551616) : Ending.returned (.string (can (nat (ofBts (digs 256 8 n))))) = .returned (.string (can n)) := by
  rw [nat_ofBts (digs_lt (by omega) _ _), val_digs, Nat.mod_eq_of_lt (by simpa using hn)]

theorem of_more {n k : Nat} (h : 0 < n / 256 ^ k) : k + 1 ≤ len 256 n := by
  rcases Nat.lt_or_ge k (len 256 n) with h1 | h1
  · exact h1
  · have := (len_le_iff (B := 256) (by omega) k n).1 h1
    rw [Nat.div_eq_of_lt this] at h
    omega
theorem of_end {n k : Nat} (hk : k ≤ len 256 n) (h : n / 256 ^ k = 0) : k = len 256 n := by
  have h1 : n < 256 ^ k := by
    rcases Nat.div_eq_zero_iff.1 h with h2 | h2
    · have := Nat.pow_pos (n := k) (show 0 < 256 by omega)
      omega
    · exact h2
  have := (len_le_iff (B := 256) (by omega) k n).2 h1
  omega

set_option maxHeartbeats 400000 in
theorem FromUint64_any (n : Nat) (w : World) (hn : n < 18446744073709551616) :
    Calls Tryd.prog 34 #[.int .u64 (n : Int)] w fun e w' => e = .returned (.string (can n)) ∧ Below w.heap.size w w' := by
  have Hn := Lib.hid hn
  go_enter Tryd.func34, Tryd.ntmps34
  go_wp2
  go_loopw [4, 5] (fun _ i wr => ∃ k : Nat, k ≤ 8 ∧ i = .int .i64 k ∧ Blk wr w.heap.size 70 (cv .u8 (digs 256 k n ++ List.replicate (8 - k) 0)) ∧ Below w.heap.size w wr) (fun _ i _ => 8 - (intOf i).toNat)
  case atStart => exact ⟨0, Nat.zero_le _, rfl, Blk.new w _ _, (Below.refl _ _).alloc (Nat.le_refl _) _⟩
  case round =>
    obtain ⟨k, hk, rfl, hBr, hbr⟩ := hrel
    by_cases hlt : k < 8
    · have hcell := hBr.next (digs_length _ _ _) (by omega)
      have hfree := hBr.nextFree (digs_length _ _ _) (by omega)
      go_wp2
      go_roundw
      case rel => exact ⟨k + 1, by omega, by go_num, by rw [digs_succ]; exact hBr.push (digs_length _ _ _) (by omega) (byte_of n k) (by omega), hbr.setCell (Nat.le_refl _) _⟩
      case measure => simp [intOf]; omega
    · obtain rfl : k = 8 := by omega
      have hst := run_str_blk (P := Tryd.prog) (src := 59) (dst := 9) (l := digs 256 8 n) (post := []) (by simpa using hBr) 8 8 (digs_length _ _ _).symm Tryd.underlying59 Tryd.underlying5 Tryd.underlying9
      go_wp2_with (go_at_call 39; refine (Normalize_any _ _ (by rw [size_ofBts, digs_length]; simp [maxLen])).mono ?_; rintro e w' ⟨rfl, rfl⟩)
      go_ret
      exact ⟨from_end Hn.out, hbr⟩

/-- What Uint64 returns. -/
def u64Val (n : Nat) : Value := .tuple #[.int .u64 ((if n < 18446744073709551616 then n else 0 : Nat) : Int), .bool (decide (n < 18446744073709551616))]
def u64N (n : Nat) : Nat := if n < 18446744073709551616 then n else 0
def u64B (n : Nat) : Bool := decide (n < 18446744073709551616)
theorem u64Val_eq (n : Nat) : u64Val n = .tuple #[.int .u64 (u64N n : Nat), .bool (u64B n)] := rfl
theorem u64Val_lt {n : Nat} (h : n < 18446744073709551616) : u64Val n = .tuple #[.int .u64 (n : Int), .bool true] := by
  unfold u64Val
  rw [if_pos h, decide_eq_true h]
theorem u64Val_ge {n : Nat} (h : ¬ n < 18446744073709551616) : u64Val n = .tuple #[.int .u64 0, .bool false] := by
  unfold u64Val
  rw [if_neg h, decide_eq_false h]
  rfl
theorem can_size_8 {n : Nat} : (can n).size ≤ 8 ↔ n < 18446744073709551616 := by rw [can_size]; exact len_le_iff (by omega) 8 n

theorem or_shift {v x k : Nat} (hv : v < 256 ^ k) : v ||| (x * 256 ^ k) = v + 256 ^ k * x := by
  have e : 256 ^ k = 2 ^ (8 * k) := by rw [Nat.pow_mul]
  rw [e] at hv ⊢
  rw [Nat.or_comm, Nat.mul_comm, ← Nat.two_pow_add_eq_or_of_lt hv, Nat.add_comm]
theorem or_round {m k : Nat} (h8 : (can m).size ≤ 8) (hlt : k < (can m).size) :
    Value.int .u64 (bits .or .u64 (val 256 ((bts (can m)).take k) : Nat) (IntKind.u64.wrap (((can m)[k].toNat : Int) * 2 ^ (8 * k)))) = .int .u64 (val 256 ((bts (can m)).take (k + 1)) : Nat) := by
  have hv : val 256 ((bts (can m)).take k) < 256 ^ k := by
    have := val_lt (lt_take (bts_lt (can m)) k)
    rwa [List.length_take, Nat.min_eq_left (by rw [bts_length]; omega)] at this
  have b1 := UInt8.toNat_lt (can m)[k]
  have h7 : 256 ^ k ≤ 256 ^ 7 := Nat.pow_le_pow_right (by omega) (by omega)
  have hx : (can m)[k].toNat * 256 ^ k < 18446744073709551616 := by
    have : (can m)[k].toNat * 256 ^ k ≤ 255 * 256 ^ 7 := Nat.mul_le_mul (by omega) h7
    omega
  have hw : IntKind.u64.wrap (((can m)[k].toNat : Int) * 2 ^ (8 * k)) = (((can m)[k].toNat * 256 ^ k : Nat) : Int) := by
    rw [IntKind.wrap_u64, pow_2_8]
    omega
  rw [hw, u64_or_nat _ _ (by omega) hx, or_shift hv, val_take_succ, bts_getD _ k hlt]

set_option maxHeartbeats 400000 in
theorem Uint64_any (a : ByteArray) (w : World) (ha : a.size ≤ maxLen) :
    Calls Tryd.prog 24 #[.string a] w fun e w' => e = .returned (u64Val (nat a)) ∧ w = w' := by
  by_cases h8 : (can (nat a)).size ≤ 8
  · rw [u64Val_lt (can_size_8.1 h8)]
    go_enter Tryd.func24, Tryd.ntmps24
    go_wp2_with (go_at_call 39; refine (Normalize_any _ _ ha).mono ?_; rintro e w' ⟨rfl, rfl⟩)
    go_loop [4, 5, 13] (fun n _ i => ∃ k : Nat, k ≤ (can (nat a)).size ∧ i = .int .i64 k ∧ n = .int .u64 (val 256 ((bts (can (nat a))).take k) : Nat)) (fun _ _ i => (can (nat a)).size - (intOf i).toNat)
    case atStart => exact ⟨0, Nat.zero_le _, rfl, rfl⟩
    case round =>
      obtain ⟨k, hk, rfl, rfl⟩ := hrel
      by_cases hlt : k < (can (nat a)).size
      · have b1 := UInt8.toNat_lt (can (nat a))[k]
        go_wp2
        go_round
        case rel => exact ⟨k + 1, by omega, by go_num, or_round h8 hlt⟩
        case measure => simp [intOf]; omega
      · go_wp2
        go_ret2
        refine ⟨?_, rfl⟩
        show Ending.returned (.tuple #[.int .u64 (val 256 ((bts (can (nat a))).take k) : Nat), .bool true]) = _
        rw [List.take_of_length_le (by rw [bts_length]; omega), can_val]
  · rw [u64Val_ge (fun h => h8 (can_size_8.2 h))]
    go_enter Tryd.func24, Tryd.ntmps24
    go_wp2_with (go_at_call 39; refine (Normalize_any _ _ ha).mono ?_; rintro e w' ⟨rfl, rfl⟩)
    go_ret2
    exact ⟨rfl, rfl⟩

theorem num_step {m i : Nat} (hi : i < (can m).size) : val 256 ((bts (can m)).drop i) = (can m)[i].toNat + 256 * val 256 ((bts (can m)).drop (i + 1)) := by
  rw [List.drop_eq_getElem_cons (by rw [bts_length]; exact hi)]
  have := bts_getD (can m) i hi
  rw [List.getD_eq_getElem?_getD, List.getElem?_eq_getElem (by rw [bts_length]; exact hi)] at this
  simp only [Option.getD_some] at this
  rw [this]
  rfl
theorem num_lt {m i : Nat} (h8 : (can m).size ≤ 8) (hi : i < (can m).size) : val 256 ((bts (can m)).drop (i + 1)) < 72057594037927936 := by
  have h := val_lt (lt_drop (bts_lt (can m)) (i + 1))
  rw [List.length_drop, bts_length] at h
  have : 256 ^ ((can m).size - (i + 1)) ≤ 256 ^ 7 := Nat.pow_le_pow_right (by omega) (by omega)
  omega

set_option maxHeartbeats 400000 in
theorem Num_any (a : ByteArray) (w : World) (ha : a.size ≤ maxLen) :
    Calls Tryd.prog 25 #[.string a] w fun e w' => e = .returned (u64Val (nat a)) ∧ w = w' := by
  by_cases h8 : (can (nat a)).size ≤ 8
  · rw [u64Val_lt (can_size_8.1 h8)]
    go_enter Tryd.func25, Tryd.ntmps25
    go_wp2_with (go_at_call 22; refine (Norm_any _ _ ha).mono ?_; rintro e w' ⟨rfl, rfl⟩)
    go_loop [5, 6] (fun n i => ∃ k : Nat, k ≤ (can (nat a)).size ∧ i = .int .i64 ((k : Int) - 1) ∧ n = .int .u64 (val 256 ((bts (can (nat a))).drop k) : Nat)) (fun _ i => (intOf i + 1).toNat)
    case atStart => exact ⟨_, Nat.le_refl _, rfl, by rw [List.drop_of_length_le (by rw [bts_length]; omega)]; rfl⟩
    case round =>
      obtain ⟨k, hk, rfl, rfl⟩ := hrel
      by_cases hlt : 0 < k
      · obtain ⟨i, rfl⟩ : ∃ i : Nat, k = i + 1 := ⟨k - 1, by omega⟩
        have e : (((i + 1 : Nat) : Int) - 1) = (i : Int) := by omega
        rw [e]
        clear e
        have hi : i < (can (nat a)).size := by omega
        have b1 := UInt8.toNat_lt (can (nat a))[i]
        have b2 := num_lt h8 hi
        have hs := num_step hi
        have Hs := Lib.hid hs
        clear hs
        generalize val 256 ((bts (can (nat a))).drop (i + 1)) = v at b2 Hs ⊢
        go_wp2
        go_round
        case rel => exact ⟨i, by omega, rfl, by rw [Hs.out]; go_num⟩
        case measure => simp [intOf]
      · obtain rfl : k = 0 := by omega
        go_wp2
        go_ret2
        refine ⟨?_, rfl⟩
        show Ending.returned (.tuple #[.int .u64 (val 256 ((bts (can (nat a))).drop 0) : Nat), .bool true]) = _
        rw [List.drop_zero, can_val]
  · rw [u64Val_ge (fun h => h8 (can_size_8.2 h))]
    go_enter Tryd.func25, Tryd.ntmps25
    go_wp2_with (go_at_call 22; refine (Norm_any _ _ ha).mono ?_; rintro e w' ⟨rfl, rfl⟩)
    go_ret2
    exact ⟨rfl, rfl⟩

set_option maxHeartbeats 400000 in
theorem Of_any (n : Nat) (w : World) (hn : n < 18446744073709551616) :
    Calls Tryd.prog 42 #[.int .u64 (n : Int)] w fun e w' => e = .returned (.string (can n)) ∧ Below w.heap.size w w' := by
  have h8 : len 256 n ≤ 8 := (len_le_iff (by omega) 8 n).2 hn
  go_enter Tryd.func42, Tryd.ntmps42
  go_wp2
  go_loopw [0, 3] (fun m v wr => ∃ (k : Nat), k ≤ len 256 n ∧ m = .int .u64 (n / 256 ^ k : Nat) ∧ Own wr w.heap.size 5 .u8 v (digs 256 k n) ∧ Below w.heap.size w wr) (fun m _ _ => (intOf m).toNat)
  case atStart => exact ⟨0, Nat.zero_le _, by simp, Own.made w #[] 0 rfl (Nat.le_refl _) (by omega), (Below.refl _ _).alloc (Nat.le_refl _) _⟩
  case round =>
    obtain ⟨k, hk, rfl, hown, hbr⟩ := hrel
    have hs2 : w.heap.size ≤ wr.heap.size := hbr.size
    have hle : n / 256 ^ k ≤ n := Nat.div_le_self _ _
    by_cases hpos : 0 < n / 256 ^ k
    · have hk1 : k + 1 ≤ len 256 n := of_more hpos
      have hd := digs_succ 256 k n
      have hq : n / 256 ^ (k + 1) = n / 256 ^ k / 256 := by rw [Nat.pow_succ, ← Nat.div_div_eq_div_mul]
      have Hd := Lib.hid hd
      have Hq := Lib.hid hq
      clear hd hq
      have hl : (digs 256 k n).length ≤ 17179869184 := by rw [digs_length]; omega
      generalize n / 256 ^ k = m at hpos hle Hd Hq ⊢
      go_wp2_with (at_builtin; refine wpList_push _ rfl _ _ 59 rfl w.heap.size 5 .u8 1 Tryd.underlying59 row_u8 _ (digs 256 k n) rfl (hown.alloc _) ⟨wr.heap.size, 0, none⟩ 1 rfl (m % 256) (((Blk.new _ _ _).cell (j := 0) rfl).trans (congrArg some (by go_num))) hl (by omega) (by simp; omega) ?_; intro v2 w2 hown2 _ hb2)
      go_roundw
      case rel => exact ⟨k + 1, hk1, by rw [Hq.out]; go_num, by rw [Hd.out]; exact hown2, (hbr.alloc hs2 _).trans hb2⟩
      case measure => simp [intOf]; omega
    · have hz : n / 256 ^ k = 0 := Nat.eq_zero_of_not_pos hpos
      have hkl : k = len 256 n := of_end hk hz
      have hst := run_str_own (P := Tryd.prog) hown Tryd.underlying59 Tryd.underlying5 Tryd.underlying9
      rw [hz]
      have Hkl := Lib.hid hkl
      clear hkl hz hpos hle
      go_wp2
      go_ret
      refine ⟨?_, hbr⟩
      show Ending.returned (Value.string (ofBts (digs 256 k n))) = _
      rw [Hkl.out]
      rfl
end Go.Proofs.YtmfinfnjamgboaaDoor
