/- nat.Sub and voussoirref01.Sub. -/
import Derived.Test.YtmfinfnjamgboaaDoorRef
namespace Go.Proofs.YtmfinfnjamgboaaDoor
open Go.RowKit NM

theorem cmpN_neg {m n : Nat} (h : m < n) : cmpN m n < 0 := by rw [cmpN_lt h]; omega
theorem cmpN_nonneg {m n : Nat} (h : ¬ m < n) : ¬ cmpN m n < 0 := by
  rcases Nat.lt_or_ge n m with h1 | h1
  · rw [cmpN_gt h1]; omega
  · rw [cmpN_eq (by omega)]; omega

/-- What Sub returns. -/
def subVal (m n : Nat) : Value := .tuple #[.string (if n ≤ m then can (m - n) else ⟨#[]⟩), .bool (decide (n ≤ m))]
def subS (m n : Nat) : ByteArray := if n ≤ m then can (m - n) else ⟨#[]⟩
def subB (m n : Nat) : Bool := decide (n ≤ m)
theorem subVal_eq (m n : Nat) : subVal m n = .tuple #[.string (subS m n), .bool (subB m n)] := rfl
theorem subVal_lt {m n : Nat} (h : m < n) : subVal m n = .tuple #[.string ⟨#[]⟩, .bool false] := by
  unfold subVal
  rw [if_neg (by omega), decide_eq_false (by omega)]
theorem subVal_ge {m n : Nat} (h : n ≤ m) : subVal m n = .tuple #[.string (can (m - n)), .bool true] := by
  unfold subVal
  rw [if_pos h, decide_eq_true h]

theorem pow_le_pow {m n : Nat} (h : m ≤ n) : 256 ^ m ≤ 256 ^ n := Nat.pow_le_pow_right (by omega) h
theorem take_of_small {b : ByteArray} {n : Nat} (h : nat b < 256 ^ n) : val 256 ((bts b).take n) = nat b := by
  have := val_digs 256 n (nat b)
  rw [Nat.mod_eq_of_lt h] at this
  by_cases hn : n ≤ (bts b).length
  · have e := val_take_drop 256 (bts b) n hn
    have hz : val 256 ((bts b).drop n) = 0 := by
      rcases Nat.eq_zero_or_pos (val 256 ((bts b).drop n)) with h0 | h0
      · exact h0
      · have : 256 ^ n * 1 ≤ 256 ^ n * val 256 ((bts b).drop n) := Nat.mul_le_mul_left _ h0
        unfold nat at h
        omega
    rw [hz, Nat.mul_zero, Nat.add_zero] at e
    exact e.symm
  · rw [List.take_of_length_le (by omega)]
    rfl
theorem sub_val {a b : ByteArray} {L : List Nat} {x : Nat} (hL : NM.lt 256 L) (hLk : L.length = (can (nat a)).size) (hab : nat b ≤ nat a) (hv : val 256 L + val 256 ((bts b).take (can (nat a)).size) = val 256 ((bts (can (nat a))).take (can (nat a)).size) + 256 ^ (can (nat a)).size * x) :
    val 256 L = nat a - nat b := by
  have h1 : nat a < 256 ^ (can (nat a)).size := by rw [can_size]; exact lt_pow_len (by omega) _
  rw [List.take_of_length_le (show (bts (can (nat a))).length ≤ _ by rw [bts_length]; omega), can_val, take_of_small (by omega)] at hv
  have h2 := val_lt hL
  rw [hLk] at h2
  rcases Nat.eq_zero_or_pos x with h | h
  · subst h
    omega
  · have : 256 ^ (can (nat a)).size * 1 ≤ 256 ^ (can (nat a)).size * x := Nat.mul_le_mul_left _ h
    omega
theorem sub_end {a b : ByteArray} {L : List Nat} {x : Nat} (hL : NM.lt 256 L) (hLk : L.length = (can (nat a)).size) (hab : nat b ≤ nat a) (hv : val 256 L + val 256 ((bts b).take (can (nat a)).size) = val 256 ((bts (can (nat a))).take (can (nat a)).size) + 256 ^ (can (nat a)).size * x) :
    Ending.returned (.tuple #[.string (can (nat (ofBts L))), .bool true]) = .returned (.tuple #[.string (can (nat a - nat b)), .bool true]) := by
  rw [nat_ofBts hL, sub_val hL hLk hab hv]

set_option maxHeartbeats 1000000 in
theorem Sub_any (a b : ByteArray) (w : World) (ha : a.size ≤ 4294967296) (hb : b.size ≤ 4294967296) :
    Calls Tryd.prog 35 #[.string a, .string b] w fun e w' => e = .returned (subVal (nat a) (nat b)) ∧ Below w.heap.size w w' := by
  have ha' : a.size ≤ maxLen := by simp [maxLen]; omega
  have hb' : b.size ≤ maxLen := by simp [maxLen]; omega
  by_cases hlt : nat a < nat b
  · have hn := cmpN_neg hlt
    rw [subVal_lt hlt]
    go_enter Tryd.func35, Tryd.ntmps35
    go_wp2_with (go_at_call 53; refine (Cmp_any _ _ _ ha' hb').mono ?_; rintro e w1 ⟨rfl, hb1⟩)
    go_ret2
    exact ⟨rfl, hb1⟩
  · have hn := cmpN_nonneg hlt
    rw [subVal_ge (by omega)]
    have hsz : (can (nat a)).size ≤ 4294967296 := by have := can_size_le_size a; omega
    have hbs := fun W => run_bytes_of_string (P := Tryd.prog) W 9 59 5 (can (nat a)) Tryd.underlying9 Tryd.underlying59 Tryd.underlying5
    go_enter Tryd.func35, Tryd.ntmps35
    go_wp2_with (first | (go_at_call 53; refine (Cmp_any _ _ _ ha' hb').mono ?_; rintro e w1 ⟨rfl, hb1⟩) | (go_at_call 39; refine (Normalize_any _ _ ha').mono ?_; rintro e w' ⟨rfl, rfl⟩))
    go_loopw [7, 8, 9, 19] (fun c _ _ i wr => ∃ (k : Nat) (L : List Nat) (x : Nat), k ≤ (can (nat a)).size ∧ i = .int .i64 k ∧ c = .int .i64 x ∧ x ≤ 1 ∧ NM.lt 256 L ∧ L.length = k ∧ val 256 L + val 256 ((bts b).take k) = val 256 ((bts (can (nat a))).take k) + 256 ^ k * x ∧
      Blk wr w1.heap.size 5 (cv .u8 (L ++ (bts (can (nat a))).drop k) ++ List.replicate (grownCap w1 (can (nat a)).size 0 5 - (can (nat a)).size) (.int .u8 0)) ∧ Below w1.heap.size w1 wr) (fun _ _ _ i _ => (can (nat a)).size - (intOf i).toNat)
    case atStart => exact ⟨0, [], 0, Nat.zero_le _, rfl, rfl, by omega, lt_nil _, rfl, by simp [val], (Blk.bytes w1 _ _ _ _ rfl).drew, ((Below.refl _ _).alloc (Nat.le_refl _) _).drew⟩
    case round =>
      obtain ⟨k, L, x, hk, rfl, rfl, hx, hL, hLk, hv, hBr, hbr⟩ := hrel
      have Hv := Lib.hid hv
      have HLk := Lib.hid hLk
      by_cases hlt : k < (can (nat a)).size
      · have hkl : k < (bts (can (nat a))).length := by rw [bts_length]; exact hlt
        have hcell := hBr.partAt hLk hkl
        rw [bts_getD _ k hlt] at hcell
        have hfree := hBr.partFree hLk hkl
        clear hv hLk
        have b1 := UInt8.toNat_lt (can (nat a))[k]
        by_cases hlb : k < b.size
        · have b2 := UInt8.toNat_lt b[k]
          by_cases hneg : (can (nat a))[k].toNat < x + b[k].toNat
          · go_wp2
            go_roundw
            case rel => exact ⟨k + 1, L ++ [(can (nat a))[k].toNat + 256 - x - b[k].toNat], 1, by omega, by go_num, by go_num, by omega, lt_snoc hL (by omega), by rw [List.length_append, HLk.out]; rfl,
              diff_round HLk.out Hv.out (by rw [bts_getD _ k hlt, bts_getD b k hlb]; omega), hBr.partSet HLk.out hkl (by go_num), hbr.setCell (Nat.le_refl _) _⟩
            case measure => simp [intOf]; omega
          · go_wp2
            go_roundw
            case rel => exact ⟨k + 1, L ++ [(can (nat a))[k].toNat - x - b[k].toNat], 0, by omega, by go_num, by go_num, by omega, lt_snoc hL (by omega), by rw [List.length_append, HLk.out]; rfl,
              diff_round HLk.out Hv.out (by rw [bts_getD _ k hlt, bts_getD b k hlb]; omega), hBr.partSet HLk.out hkl (by go_num), hbr.setCell (Nat.le_refl _) _⟩
            case measure => simp [intOf]; omega
        · have b2 : (bts b).getD k 0 = 0 := bts_getD_out b k (by omega)
          have B2 := Lib.hid b2
          clear b2
          by_cases hneg : (can (nat a))[k].toNat < x
          · go_wp2
            go_roundw
            case rel => exact ⟨k + 1, L ++ [(can (nat a))[k].toNat + 256 - x], 1, by omega, by go_num, by go_num, by omega, lt_snoc hL (by omega), by rw [List.length_append, HLk.out]; rfl,
              diff_round HLk.out Hv.out (by rw [bts_getD _ k hlt, B2.out]; omega), hBr.partSet HLk.out hkl (by go_num), hbr.setCell (Nat.le_refl _) _⟩
            case measure => simp [intOf]; omega
          · go_wp2
            go_roundw
            case rel => exact ⟨k + 1, L ++ [(can (nat a))[k].toNat - x], 0, by omega, by go_num, by go_num, by omega, lt_snoc hL (by omega), by rw [List.length_append, HLk.out]; rfl,
              diff_round HLk.out Hv.out (by rw [bts_getD _ k hlt, B2.out]; omega), hBr.partSet HLk.out hkl (by go_num), hbr.setCell (Nat.le_refl _) _⟩
            case measure => simp [intOf]; omega
      · obtain rfl : (can (nat a)).size = k := by omega
        have hst := run_str_blk (P := Tryd.prog) (src := 59) (dst := 9) (l := L) (by rwa [List.drop_of_length_le (by rw [bts_length]; omega), List.append_nil] at hBr) (can (nat a)).size (grownCap w1 (can (nat a)).size 0 5) hLk.symm Tryd.underlying59 Tryd.underlying5 Tryd.underlying9
        clear hv hLk
        go_wp2_with (go_at_call 39; refine (Normalize_any _ _ (by rw [size_ofBts, HLk.out]; simp [maxLen]; omega)).mono ?_; rintro e w' ⟨rfl, rfl⟩)
        go_ret2
        exact ⟨sub_end hL HLk.out (by omega) Hv.out, hb1.trans (hbr.mono hb1.size)⟩

theorem refSub_end {a b : ByteArray} {L : List Nat} {x : Nat} (hL : NM.lt 256 L) (hLk : L.length = a.size) (hab : nat b ≤ nat a) (hv : val 256 L + val 256 ((bts b).take a.size) = val 256 ((bts a).take a.size) + 256 ^ a.size * x) :
    Ending.returned (.tuple #[.string (can (nat (ofBts L))), .bool true]) = .returned (.tuple #[.string (can (nat a - nat b)), .bool true]) := by
  have h1 := nat_lt a
  rw [List.take_of_length_le (show (bts a).length ≤ _ by rw [bts_length]; omega), take_of_small (by omega)] at hv
  have h2 := val_lt hL
  rw [hLk] at h2
  have h3 : val 256 (bts a) = nat a := rfl
  have h4 : val 256 L = nat a - nat b := by
    rcases Nat.eq_zero_or_pos x with h | h
    · subst h
      omega
    · have : 256 ^ a.size * 1 ≤ 256 ^ a.size * x := Nat.mul_le_mul_left _ h
      omega
  rw [nat_ofBts hL, h4]

set_option maxHeartbeats 1000000 in
theorem refSub_any (a b : ByteArray) (w : World) (ha : a.size ≤ 4294967296) (hb : b.size ≤ 4294967296) :
    Calls Tryd.prog 58 #[.string a, .string b] w fun e w' => e = .returned (subVal (nat a) (nat b)) ∧ Below w.heap.size w w' := by
  have ha' : a.size ≤ maxLen := by simp [maxLen]; omega
  have hb' : b.size ≤ maxLen := by simp [maxLen]; omega
  by_cases hlt : nat a < nat b
  · have hn := cmpN_neg hlt
    rw [subVal_lt hlt]
    go_enter Tryd.func58, Tryd.ntmps58
    go_wp2_with (go_at_call 57; refine (refCmp_any _ _ _ ha' hb').mono ?_; rintro e w1 ⟨rfl, hb1⟩)
    go_ret2
    exact ⟨rfl, hb1⟩
  · have hn := decide_eq_false (cmpN_nonneg hlt)
    rw [subVal_ge (by omega)]
    go_enter Tryd.func58, Tryd.ntmps58
    go_wp2_with (go_at_call 57; refine (refCmp_any _ _ _ ha' hb').mono ?_; rintro e w1 ⟨rfl, hb1⟩)
    go_loopw [6, 7, 8, 9] (fun v c i _ wr => ∃ (k : Nat) (L : List Nat) (x : Nat), k ≤ a.size ∧ i = .int .i64 k ∧ c = .int .i64 x ∧ x ≤ 1 ∧ NM.lt 256 L ∧ L.length = k ∧ val 256 L + val 256 ((bts b).take k) = val 256 ((bts a).take k) + 256 ^ k * x ∧ Own wr w1.heap.size 5 .u8 v L ∧ Below w1.heap.size w1 wr) (fun _ _ i _ _ => a.size - (intOf i).toNat)
    case atStart => exact ⟨0, [], 0, Nat.zero_le _, rfl, rfl, by omega, lt_nil _, rfl, by simp [val], Own.made w1 #[] 0 rfl (Nat.le_refl _) (by omega), (Below.refl _ _).alloc (Nat.le_refl _) _⟩
    case round =>
      obtain ⟨k, L, x, hk, rfl, rfl, hx, hL, hLk, hv, hown, hbr⟩ := hrel
      have Hv := Lib.hid hv
      have HLk := Lib.hid hLk
      have hLle : L.length ≤ 17179869184 := by omega
      by_cases hlt : k < a.size
      · clear hv hLk
        have g1 := byteAt_lt a k
        have g2 := byteAt_lt b k
        have hs2 : w1.heap.size ≤ wr.heap.size := hbr.size
        by_cases hneg : byteAt a k < byteAt b k + x
        · go_wp2_with (first
            | (go_at_call 55; refine (at_any _ k _).mono ?_; rintro e w' ⟨rfl, rfl⟩)
            | (at_builtin; refine wpList_push _ rfl _ _ 59 rfl w1.heap.size 5 .u8 1 Tryd.underlying59 row_u8 _ L rfl (hown.alloc _) ⟨wr.heap.size, 0, none⟩ 1 rfl (byteAt a k + 256 - byteAt b k - x) (((Blk.new _ _ _).cell (j := 0) rfl).trans (congrArg some (by go_num))) hLle (by omega) (by simp; omega) ?_; intro v2 w2 hown2 _ hb2))
          go_roundw
          case rel => exact ⟨k + 1, L ++ [byteAt a k + 256 - byteAt b k - x], 1, by omega, by go_num, by go_num, by omega, lt_snoc hL (by omega), by rw [List.length_append, HLk.out]; rfl, diff_round HLk.out Hv.out (by unfold byteAt at *; omega), hown2, (hbr.alloc hs2 _).trans hb2⟩
          case measure => simp [intOf]; omega
        · go_wp2_with (first
            | (go_at_call 55; refine (at_any _ k _).mono ?_; rintro e w' ⟨rfl, rfl⟩)
            | (at_builtin; refine wpList_push _ rfl _ _ 59 rfl w1.heap.size 5 .u8 1 Tryd.underlying59 row_u8 _ L rfl (hown.alloc _) ⟨wr.heap.size, 0, none⟩ 1 rfl (byteAt a k - byteAt b k - x) (((Blk.new _ _ _).cell (j := 0) rfl).trans (congrArg some (by go_num))) hLle (by omega) (by simp; omega) ?_; intro v2 w2 hown2 _ hb2))
          go_roundw
          case rel => exact ⟨k + 1, L ++ [byteAt a k - byteAt b k - x], 0, by omega, by go_num, by go_num, by omega, lt_snoc hL (by omega), by rw [List.length_append, HLk.out]; rfl, diff_round HLk.out Hv.out (by unfold byteAt at *; omega), hown2, (hbr.alloc hs2 _).trans hb2⟩
          case measure => simp [intOf]; omega
      · obtain rfl : a.size = k := by omega
        have hst := run_str_own (P := Tryd.prog) hown Tryd.underlying59 Tryd.underlying5 Tryd.underlying9
        clear hv hLk
        go_wp2_with (go_at_call 22; refine (Norm_any _ _ (by rw [size_ofBts, HLk.out]; simp [maxLen]; omega)).mono ?_; rintro e w' ⟨rfl, rfl⟩)
        go_ret2
        exact ⟨refSub_end hL HLk.out (by omega) Hv.out, hb1.trans (hbr.mono hb1.size)⟩
end Go.Proofs.YtmfinfnjamgboaaDoor
