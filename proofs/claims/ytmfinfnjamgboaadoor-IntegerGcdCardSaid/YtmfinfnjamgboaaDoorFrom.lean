/- integer.FromInt64, voussoirref02.From, integer.Int64. -/
import Derived.Test.YtmfinfnjamgboaaDoorInt2
namespace Go.Proofs.YtmfinfnjamgboaaDoor
open Go.RowKit NM

theorem two_case (z : Int) (h1 : -9223372036854775808 ≤ z) (h2 : z ≤ 9223372036854775807) : (∃ k : Nat, z = (k : Int) ∧ k ≤ 9223372036854775807) ∨ (∃ k : Nat, z = -(k : Int) ∧ 0 < k ∧ k ≤ 9223372036854775808) := by
  by_cases h : 0 ≤ z
  · exact .inl ⟨z.toNat, by omega, by omega⟩
  · exact .inr ⟨(-z).toNat, by omega, by omega, by omega⟩
theorem from_neg {k : Nat} (h0 : 0 < k) (h : k ≤ 9223372036854775808) : IntKind.u64.wrap (-(IntKind.u64.wrap (-(k : Int)))) = (k : Int) := by
  simp [IntKind.wrap, IntKind.bits, IntKind.signed]; omega

set_option maxHeartbeats 1000000 in
theorem FromInt64_any (z : Int) (w : World) (hz1 : -9223372036854775808 ≤ z) (hz2 : z ≤ 9223372036854775807) :
    Calls Tryd.prog 17 #[.int .i64 z] w fun e w' => e = .returned (Z z) ∧ Below w.heap.size w w' := by
  rcases two_case z hz1 hz2 with ⟨k, rfl, hk⟩ | ⟨k, rfl, hk0, hk⟩
  · have hlt : ¬ (k : Int) < 0 := by omega
    have e : (k : Int) = iv false (can k) := by rw [iv_false, nat_can]
    have hsz : (can k).size ≤ 8 := can_size_8.2 (by omega)
    have HE := Lib.hid e
    clear e
    go_enter Tryd.func17, Tryd.ntmps17
    go_wp2_with fail
    refine (FromUint64_any k _ (by omega)).mono ?_
    rintro e w1 ⟨rfl, hb1⟩
    go_wp2_with fail
    refine (canonical_any false (can k) _ (by simp [maxLen]; omega)).mono ?_
    rintro e wn ⟨rfl, hb2⟩
    rw [← HE.out]
    obtain ⟨c1, c2, f1, f2⟩ := (((Blk.new w _ _).keep hb1).keep hb2).two
    go_wp2_with fail
    exact bodyPost_ret (by simp [results, Tryd.results17, go_sem, c1, c2]) rfl ⟨rfl, set2 (bel1 _ _ (then_ hb1 hb2)) (Nat.le_refl _) _ _⟩
  · have hlt : -(k : Int) < 0 := by omega
    have e : -(k : Int) = iv true (can k) := by rw [iv_true, nat_can]
    have hsz : (can k).size ≤ 8 := can_size_8.2 (by omega)
    have HE := Lib.hid e
    have HW := Lib.hid (from_neg hk0 hk)
    clear e
    go_enter Tryd.func17, Tryd.ntmps17
    go_wp2_with fail
    rw [HW.out]
    refine (FromUint64_any k _ (by omega)).mono ?_
    rintro e w1 ⟨rfl, hb1⟩
    go_wp2_with fail
    refine (canonical_any true (can k) _ (by simp [maxLen]; omega)).mono ?_
    rintro e wn ⟨rfl, hb2⟩
    rw [← HE.out]
    obtain ⟨c1, c2, f1, f2⟩ := (((Blk.new w _ _).keep hb1).keep hb2).two
    go_wp2_with fail
    exact bodyPost_ret (by simp [results, Tryd.results17, go_sem, c1, c2]) rfl ⟨rfl, set2 (bel1 _ _ (then_ hb1 hb2)) (Nat.le_refl _) _ _⟩

/-- An integer as an int64, and whether it fits. -/
def i64Val (z : Int) : Value := if -9223372036854775808 ≤ z ∧ z ≤ 9223372036854775807 then .tuple #[.int .i64 z, .bool true] else .tuple #[.int .i64 0, .bool false]
theorem i64Val_yes {z : Int} (h1 : -9223372036854775808 ≤ z) (h2 : z ≤ 9223372036854775807) : i64Val z = .tuple #[.int .i64 z, .bool true] := if_pos ⟨h1, h2⟩
theorem i64Val_no {z : Int} (h : ¬ (-9223372036854775808 ≤ z ∧ z ≤ 9223372036854775807)) : i64Val z = .tuple #[.int .i64 0, .bool false] := if_neg h
theorem back_neg {k : Nat} (h : k ≤ 9223372036854775808) : wrap64 (IntKind.u64.wrap (-(k : Int))) = -(k : Int) := by
  simp [wrap64, IntKind.wrap, IntKind.bits, IntKind.signed]; omega
set_option maxHeartbeats 1000000 in
theorem Int64_a (s : ByteArray) (k : Nat) (w : World) (hs : s.size ≤ maxLen) (Hk : Hid (nat s = k)) (h : (k : Int) ≤ 9223372036854775807) :
    Calls Tryd.prog 9 #[I2 false s] w fun e w' => e = .returned (i64Val (iv false s)) ∧ Below w.heap.size w w' := by
  rw [iv_false, Hk.out, i64Val_yes (by omega) (by omega)]
  have HU := Lib.hid (u64Val_lt (n := k) (by omega))
  go_enter Tryd.func9, Tryd.ntmps9
  go_wp2_with fail
  refine (Uint64_any s _ hs).mono ?_
  rintro e w1 ⟨rfl, rfl⟩
  rw [Hk.out, HU.out]
  go_wp2_with fail

  go_ret2
  exact ⟨rfl, below_alloc _ _⟩
set_option maxHeartbeats 1000000 in
theorem Int64_b (s : ByteArray) (k : Nat) (w : World) (hs : s.size ≤ maxLen) (Hk : Hid (nat s = k)) (h : 9223372036854775807 < (k : Int)) (h2 : k < 18446744073709551616) :
    Calls Tryd.prog 9 #[I2 false s] w fun e w' => e = .returned (i64Val (iv false s)) ∧ Below w.heap.size w w' := by
  rw [iv_false, Hk.out, i64Val_no (by omega)]
  have HU := Lib.hid (u64Val_lt (n := k) h2)
  go_enter Tryd.func9, Tryd.ntmps9
  go_wp2_with fail
  refine (Uint64_any s _ hs).mono ?_
  rintro e w1 ⟨rfl, rfl⟩
  rw [Hk.out, HU.out]
  go_wp2_with fail

  go_ret2
  exact ⟨rfl, below_alloc _ _⟩
set_option maxHeartbeats 1000000 in
theorem Int64_c (s : ByteArray) (k : Nat) (w : World) (hs : s.size ≤ maxLen) (Hk : Hid (nat s = k)) (h2 : ¬ k < 18446744073709551616) :
    Calls Tryd.prog 9 #[I2 false s] w fun e w' => e = .returned (i64Val (iv false s)) ∧ Below w.heap.size w w' := by
  rw [iv_false, Hk.out, i64Val_no (by omega)]
  have HU := Lib.hid (u64Val_ge (n := k) h2)
  go_enter Tryd.func9, Tryd.ntmps9
  go_wp2_with fail
  refine (Uint64_any s _ hs).mono ?_
  rintro e w1 ⟨rfl, rfl⟩
  rw [Hk.out, HU.out]
  go_wp2_with fail

  go_ret2
  exact ⟨rfl, below_alloc _ _⟩
set_option maxHeartbeats 1000000 in
theorem Int64_d (s : ByteArray) (k : Nat) (w : World) (hs : s.size ≤ maxLen) (Hk : Hid (nat s = k)) (h : (k : Int) ≤ 9223372036854775808) :
    Calls Tryd.prog 9 #[I2 true s] w fun e w' => e = .returned (i64Val (iv true s)) ∧ Below w.heap.size w w' := by
  rw [iv_true, Hk.out, i64Val_yes (by omega) (by omega)]
  have HU := Lib.hid (u64Val_lt (n := k) (by omega))
  have HB := Lib.hid (back_neg (k := k) (by omega))
  go_enter Tryd.func9, Tryd.ntmps9
  go_wp2_with fail
  refine (Uint64_any s _ hs).mono ?_
  rintro e w1 ⟨rfl, rfl⟩
  rw [Hk.out, HU.out]
  go_wp2_with fail

  rw [HB.out]
  go_ret2
  exact ⟨rfl, below_alloc _ _⟩
set_option maxHeartbeats 1000000 in
theorem Int64_e (s : ByteArray) (k : Nat) (w : World) (hs : s.size ≤ maxLen) (Hk : Hid (nat s = k)) (h : 9223372036854775808 < (k : Int)) (h2 : k < 18446744073709551616) :
    Calls Tryd.prog 9 #[I2 true s] w fun e w' => e = .returned (i64Val (iv true s)) ∧ Below w.heap.size w w' := by
  rw [iv_true, Hk.out, i64Val_no (by omega)]
  have HU := Lib.hid (u64Val_lt (n := k) h2)
  go_enter Tryd.func9, Tryd.ntmps9
  go_wp2_with fail
  refine (Uint64_any s _ hs).mono ?_
  rintro e w1 ⟨rfl, rfl⟩
  rw [Hk.out, HU.out]
  go_wp2_with fail

  go_ret2
  exact ⟨rfl, below_alloc _ _⟩
set_option maxHeartbeats 1000000 in
theorem Int64_f (s : ByteArray) (k : Nat) (w : World) (hs : s.size ≤ maxLen) (Hk : Hid (nat s = k)) (h2 : ¬ k < 18446744073709551616) :
    Calls Tryd.prog 9 #[I2 true s] w fun e w' => e = .returned (i64Val (iv true s)) ∧ Below w.heap.size w w' := by
  rw [iv_true, Hk.out, i64Val_no (by omega)]
  have HU := Lib.hid (u64Val_ge (n := k) h2)
  go_enter Tryd.func9, Tryd.ntmps9
  go_wp2_with fail
  refine (Uint64_any s _ hs).mono ?_
  rintro e w1 ⟨rfl, rfl⟩
  rw [Hk.out, HU.out]
  go_wp2_with fail

  go_ret2
  exact ⟨rfl, below_alloc _ _⟩
theorem Int64_any (n : Bool) (s : ByteArray) (w : World) (hs : s.size ≤ maxLen) :
    Calls Tryd.prog 9 #[I2 n s] w fun e w' => e = .returned (i64Val (iv n s)) ∧ Below w.heap.size w w' := by
  obtain ⟨k, hk⟩ : ∃ k, nat s = k := ⟨_, rfl⟩
  have Hk := Lib.hid hk
  clear hk
  cases n
  · by_cases h2 : k < 18446744073709551616
    · by_cases h : (k : Int) ≤ 9223372036854775807
      · exact Int64_a s k w hs Hk h
      · exact Int64_b s k w hs Hk (by omega) h2
    · exact Int64_c s k w hs Hk h2
  · by_cases h2 : k < 18446744073709551616
    · by_cases h : (k : Int) ≤ 9223372036854775808
      · exact Int64_d s k w hs Hk h
      · exact Int64_e s k w hs Hk (by omega) h2
    · exact Int64_f s k w hs Hk h2
end Go.Proofs.YtmfinfnjamgboaaDoor
