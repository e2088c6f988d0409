/- integer.Div. -/
import Derived.Test.YtodcomijjmobdaaGreatDoorI1
import Derived.Test.YtodcomijjmobdaaGreatDoorN4
set_option linter.unusedVariables false
set_option linter.unusedSimpArgs false
namespace Go.Proofs.YtodcomijjmobdaaGreatDoor
open Go.RowKit NM

/-- Euclidean quotient and remainder, and whether there are any. -/
def divZ (x y : Int) : Value := if y = 0 then .tuple #[Z 0, Z 0, .bool false] else .tuple #[Z (x / y), Z (x % y), .bool true]
theorem divZ_zero {x y : Int} (h : y = 0) : divZ x y = .tuple #[Z 0, Z 0, .bool false] := if_pos h
theorem divZ_pos {x y : Int} (h : y ≠ 0) : divZ x y = .tuple #[Z (x / y), Z (x % y), .bool true] := if_neg h
theorem iv_zero {m : Bool} {t : ByteArray} : iv m t = 0 ↔ nat t = 0 := by cases m <;> simp [iv]
theorem div_pos_q (m : Bool) (s t : ByteArray) : iv false s / iv m t = iv (!(false == m)) (can (nat s / nat t)) := by
  cases m
  · show (nat s : Int) / (nat t : Int) = iv false _
    rw [iv_false, nat_can]; rfl
  · show (nat s : Int) / -(nat t : Int) = iv true _
    rw [iv_true, nat_can, Int.ediv_neg]; rfl
theorem div_pos_r (m : Bool) (s t : ByteArray) : iv false s % iv m t = iv false (can (nat s % nat t)) := by
  cases m
  · show (nat s : Int) % (nat t : Int) = iv false _
    rw [iv_false, nat_can]; rfl
  · show (nat s : Int) % -(nat t : Int) = iv false _
    rw [iv_false, nat_can, Int.emod_neg]; rfl
theorem neg_div_exact {M N : Nat} (hN : N ≠ 0) (h : M % N = 0) : (-(M : Int)) / (N : Int) = -((M / N : Nat) : Int) ∧ (-(M : Int)) % (N : Int) = 0 := by
  have h1 : (M : Int) = (N : Int) * ((M / N : Nat) : Int) := by
    have := Nat.div_add_mod M N
    rw [h, Nat.add_zero] at this
    rw [← Int.natCast_mul, this]
  have h2 : -(M : Int) = (N : Int) * (-((M / N : Nat) : Int)) := by rw [Int.mul_neg, ← h1]
  refine ⟨?_, ?_⟩
  · rw [h2, Int.mul_ediv_cancel_left _ (by omega)]
  · rw [h2, Int.mul_emod_right]
theorem neg_div_rest {M N : Nat} (hN : N ≠ 0) (h : M % N ≠ 0) : (-(M : Int)) / (N : Int) = -((M / N + 1 : Nat) : Int) ∧ (-(M : Int)) % (N : Int) = ((N - M % N : Nat) : Int) := by
  have hlt := Nat.mod_lt M (Nat.pos_of_ne_zero hN)
  have h1 : (M : Int) = (N : Int) * ((M / N : Nat) : Int) + ((M % N : Nat) : Int) := by
    rw [← Int.natCast_mul, ← Int.natCast_add, Nat.div_add_mod]
  have h2 : -(M : Int) = ((N - M % N : Nat) : Int) + (N : Int) * (-((M / N + 1 : Nat) : Int)) := by
    rw [Int.natCast_sub (Nat.le_of_lt hlt), Int.natCast_add, Int.natCast_one, Int.mul_neg, Int.mul_add, Int.mul_one]
    omega
  refine ⟨?_, ?_⟩
  · rw [h2, Int.add_mul_ediv_left _ _ (by omega), Int.ediv_eq_zero_of_lt (by omega) (by omega), Int.zero_add]
  · rw [h2, Int.add_mul_emod_self_left, Int.emod_eq_of_lt (by omega) (by omega)]
theorem div_neg0_q (m : Bool) {s t : ByteArray} (ht : nat t ≠ 0) (h : nat s % nat t = 0) : iv true s / iv m t = iv (!(true == m)) (can (nat s / nat t)) := by
  have h1 := (neg_div_exact ht h).1
  cases m
  · show -(nat s : Int) / (nat t : Int) = iv true _
    rw [iv_true, nat_can]; exact h1
  · show -(nat s : Int) / -(nat t : Int) = iv false _
    rw [iv_false, nat_can, Int.ediv_neg, h1, Int.neg_neg]
theorem div_neg0_r (m : Bool) {s t : ByteArray} (ht : nat t ≠ 0) (h : nat s % nat t = 0) : iv true s % iv m t = iv false (can (nat s % nat t)) := by
  have h1 := (neg_div_exact ht h).2
  rw [iv_false, nat_can, h]
  cases m
  · exact h1
  · show -(nat s : Int) % -(nat t : Int) = _
    rw [Int.emod_neg]; exact h1
theorem div_neg1_q (m : Bool) {s t : ByteArray} (ht : nat t ≠ 0) (h : nat s % nat t ≠ 0) : iv true s / iv m t = iv (!(true == m)) (can (nat s / nat t + 1)) := by
  have h1 := (neg_div_rest ht h).1
  cases m
  · show -(nat s : Int) / (nat t : Int) = iv true _
    rw [iv_true, nat_can]; exact h1
  · show -(nat s : Int) / -(nat t : Int) = iv false _
    rw [iv_false, nat_can, Int.ediv_neg, h1, Int.neg_neg]
theorem div_neg1_r (m : Bool) {s t : ByteArray} (ht : nat t ≠ 0) (h : nat s % nat t ≠ 0) : iv true s % iv m t = iv false (can (nat t - nat s % nat t)) := by
  have h1 := (neg_div_rest ht h).2
  rw [iv_false, nat_can]
  cases m
  · exact h1
  · show -(nat s : Int) % -(nat t : Int) = _
    rw [Int.emod_neg]; exact h1
theorem can_div_size (s : ByteArray) (k : Nat) : (can (nat s / k)).size ≤ s.size := can_size_le (Nat.lt_of_le_of_lt (Nat.div_le_self _ _) (nat_lt s))
theorem can_mod_size (s : ByteArray) (k : Nat) : (can (nat s % k)).size ≤ s.size := can_size_le (Nat.lt_of_le_of_lt (Nat.mod_le _ _) (nat_lt s))
theorem can_div1_size (s : ByteArray) (k : Nat) : (can (nat s / k + 1)).size ≤ s.size + 1 := can_size_le (by
  have h1 := Nat.lt_of_le_of_lt (Nat.div_le_self (nat s) k) (nat_lt s)
  have h2 : 0 < 256 ^ s.size := Nat.pow_pos (by omega)
  rw [Nat.pow_succ]
  omega)
theorem Hold.start4 (w : World) (E : TypeId) (u1 v1 u2 v2 u3 v3 u4 v4 : Value) : Hold E w [(w.heap.size + 1 + 1 + 1, u4, v4), (w.heap.size + 1 + 1, u3, v3), (w.heap.size + 1, u2, v2), (w.heap.size, u1, v1)] ((((w.alloc (.cells #[u1, v1] E)).alloc (.cells #[u2, v2] E)).alloc (.cells #[u3, v3] E)).alloc (.cells #[u4, v4] E)) := by
  have h := (Hold.start3 w E u1 v1 u2 v2 u3 v3).box u4 v4
  simpa using h
/-- The third and the fourth box may be written. -/
theorem Hold.free34 {w w0 : World} {E : TypeId} {g1 g2 g3 g4 : Nat} {u1 v1 u2 v2 u3 v3 u4 v4 : Value} (h : Hold E w0 [(g4, u4, v4), (g3, u3, v3), (g2, u2, v2), (g1, u1, v1)] w) :
    w.frozen? ⟨g3, 0, none⟩ = false ∧ w.frozen? ⟨g3, 1, none⟩ = false ∧ w.frozen? ⟨g4, 0, none⟩ = false ∧ w.frozen? ⟨g4, 1, none⟩ = false :=
  ⟨((h.1 (g3, u3, v3) (by simp)).two).2.2.1, ((h.1 (g3, u3, v3) (by simp)).two).2.2.2, ((h.1 (g4, u4, v4) (by simp)).two).2.2.1, ((h.1 (g4, u4, v4) (by simp)).two).2.2.2⟩

set_option maxHeartbeats 1000000 in
theorem Div2_zero_false (m : Bool) (s t : ByteArray) (w : World) (hs : s.size ≤ 1073741823) (ht : t.size ≤ 1073741823) (h0 : nat t = 0) :
    Calls Tryz.prog 113 #[I2 false s, I2 m t] w fun e w' => e = .returned (divZ (iv false s) (iv m t)) ∧ Below w.heap.size w w' := by
  rw [divZ_zero (iv_zero.2 h0)]
  have hv := Lib.hid (divVal_zero (m := nat s) h0)
  clear h0
  have hR := Hold.start4 w 27 (.bool false) (.string s) (.bool m) (.string t) (.bool false) (.string ⟨#[]⟩) (.bool false) (.string ⟨#[]⟩)
  go_enter Tryz.func113, Tryz.ntmps113
  go_wp2_with fail
  generalize ((((w.alloc (Obj.cells #[Value.bool false, Value.string s] 27)).alloc (Obj.cells #[Value.bool m, Value.string t] 27)).alloc (Obj.cells #[Value.bool false, Value.string ⟨#[]⟩] 27)).alloc (Obj.cells #[Value.bool false, Value.string ⟨#[]⟩] 27)) = W at hR ⊢
  refine (Div_any s t _ (by omega) (by omega)).mono ?_
  rintro e w1 ⟨rfl, hb1⟩
  rw [hv.out]
  replace hR := hR.keep hb1
  clear hb1
  (try clear a1 a2 a3 a4 a5 a6 a7 a8 f1 f2 f3 f4)
  obtain ⟨a1, a2, a3, a4, a5, a6, a7, a8, -⟩ := hR.all4
  obtain ⟨f1, f2, f3, f4⟩ := hR.free34
  go_wp2_with fail
  exact bodyPost_ret (by simp [results, Tryz.results113, go_sem, a5, a6, a7, a8]; exact ⟨rfl, rfl⟩) rfl ⟨rfl, set2 (set2 hR.below (by omega) _ _) (by omega) _ _⟩

set_option maxHeartbeats 1000000 in
theorem Div2_zero_true (m : Bool) (s t : ByteArray) (w : World) (hs : s.size ≤ 1073741823) (ht : t.size ≤ 1073741823) (h0 : nat t = 0) :
    Calls Tryz.prog 113 #[I2 true s, I2 m t] w fun e w' => e = .returned (divZ (iv true s) (iv m t)) ∧ Below w.heap.size w w' := by
  rw [divZ_zero (iv_zero.2 h0)]
  have hv := Lib.hid (divVal_zero (m := nat s) h0)
  clear h0
  have hR := Hold.start4 w 27 (.bool true) (.string s) (.bool m) (.string t) (.bool false) (.string ⟨#[]⟩) (.bool false) (.string ⟨#[]⟩)
  go_enter Tryz.func113, Tryz.ntmps113
  go_wp2_with fail
  generalize ((((w.alloc (Obj.cells #[Value.bool true, Value.string s] 27)).alloc (Obj.cells #[Value.bool m, Value.string t] 27)).alloc (Obj.cells #[Value.bool false, Value.string ⟨#[]⟩] 27)).alloc (Obj.cells #[Value.bool false, Value.string ⟨#[]⟩] 27)) = W at hR ⊢
  refine (Div_any s t _ (by omega) (by omega)).mono ?_
  rintro e w1 ⟨rfl, hb1⟩
  rw [hv.out]
  replace hR := hR.keep hb1
  clear hb1
  (try clear a1 a2 a3 a4 a5 a6 a7 a8 f1 f2 f3 f4)
  obtain ⟨a1, a2, a3, a4, a5, a6, a7, a8, -⟩ := hR.all4
  obtain ⟨f1, f2, f3, f4⟩ := hR.free34
  go_wp2_with fail
  exact bodyPost_ret (by simp [results, Tryz.results113, go_sem, a5, a6, a7, a8]; exact ⟨rfl, rfl⟩) rfl ⟨rfl, set2 (set2 hR.below (by omega) _ _) (by omega) _ _⟩

set_option maxHeartbeats 1000000 in
theorem Div2_pos (m : Bool) (s t : ByteArray) (w : World) (hs : s.size ≤ 1073741823) (ht : t.size ≤ 1073741823) (h0 : nat t ≠ 0) :
    Calls Tryz.prog 113 #[I2 false s, I2 m t] w fun e w' => e = .returned (divZ (iv false s) (iv m t)) ∧ Below w.heap.size w w' := by
  have hnz : iv m t ≠ 0 := fun h => h0 (iv_zero.1 h)
  rw [divZ_pos hnz, div_pos_q, div_pos_r]
  have hv := Lib.hid (divVal_pos (m := nat s) h0)
  have s1 := can_div_size s (nat t)
  have s2 := can_mod_size s (nat t)
  clear h0 hnz
  have hR := Hold.start4 w 27 (.bool false) (.string s) (.bool m) (.string t) (.bool false) (.string ⟨#[]⟩) (.bool false) (.string ⟨#[]⟩)
  go_enter Tryz.func113, Tryz.ntmps113
  go_wp2_with fail
  generalize ((((w.alloc (Obj.cells #[Value.bool false, Value.string s] 27)).alloc (Obj.cells #[Value.bool m, Value.string t] 27)).alloc (Obj.cells #[Value.bool false, Value.string ⟨#[]⟩] 27)).alloc (Obj.cells #[Value.bool false, Value.string ⟨#[]⟩] 27)) = W at hR ⊢
  refine (Div_any s t _ (by omega) (by omega)).mono ?_
  rintro e w1 ⟨rfl, hb1⟩
  rw [hv.out]
  replace hR := hR.keep hb1
  clear hb1
  (try clear a1 a2 a3 a4 a5 a6 a7 a8 f1 f2 f3 f4)
  obtain ⟨a1, a2, a3, a4, a5, a6, a7, a8, -⟩ := hR.all4
  obtain ⟨f1, f2, f3, f4⟩ := hR.free34
  go_wp2_with fail
  refine (canonical_any _ _ _ (by simp [maxLen]; omega)).mono ?_
  rintro e w2 ⟨rfl, hb2⟩
  replace hR := hR.keep hb2
  clear hb2
  (try clear a1 a2 a3 a4 a5 a6 a7 a8 f1 f2 f3 f4)
  obtain ⟨a1, a2, a3, a4, a5, a6, a7, a8, -⟩ := hR.all4
  obtain ⟨f1, f2, f3, f4⟩ := hR.free34
  go_wp2_with fail
  refine (canonical_any _ _ _ (by simp [maxLen]; omega)).mono ?_
  rintro e w3 ⟨rfl, hb3⟩
  replace hR := hR.keep hb3
  clear hb3
  (try clear a1 a2 a3 a4 a5 a6 a7 a8 f1 f2 f3 f4)
  obtain ⟨a1, a2, a3, a4, a5, a6, a7, a8, -⟩ := hR.all4
  obtain ⟨f1, f2, f3, f4⟩ := hR.free34
  go_wp2_with fail
  exact bodyPost_ret (by simp [results, Tryz.results113, go_sem, a5, a6, a7, a8]) rfl ⟨rfl, set2 (set2 hR.below (by omega) _ _) (by omega) _ _⟩

set_option maxHeartbeats 1000000 in
theorem Div2_neg0 (m : Bool) (s t : ByteArray) (w : World) (hs : s.size ≤ 1073741823) (ht : t.size ≤ 1073741823) (h0 : nat t ≠ 0) (h1 : nat s % nat t = 0) :
    Calls Tryz.prog 113 #[I2 true s, I2 m t] w fun e w' => e = .returned (divZ (iv true s) (iv m t)) ∧ Below w.heap.size w w' := by
  have hnz : iv m t ≠ 0 := fun h => h0 (iv_zero.1 h)
  rw [divZ_pos hnz, div_neg0_q m h0 h1, div_neg0_r m h0 h1]
  have hv := Lib.hid (divVal_pos (m := nat s) h0)
  have s1 := can_div_size s (nat t)
  have s2 := can_mod_size s (nat t)
  have he := isEmpty_pos h1
  clear h1
  clear h0 hnz
  have hR := Hold.start4 w 27 (.bool true) (.string s) (.bool m) (.string t) (.bool false) (.string ⟨#[]⟩) (.bool false) (.string ⟨#[]⟩)
  go_enter Tryz.func113, Tryz.ntmps113
  go_wp2_with fail
  generalize ((((w.alloc (Obj.cells #[Value.bool true, Value.string s] 27)).alloc (Obj.cells #[Value.bool m, Value.string t] 27)).alloc (Obj.cells #[Value.bool false, Value.string ⟨#[]⟩] 27)).alloc (Obj.cells #[Value.bool false, Value.string ⟨#[]⟩] 27)) = W at hR ⊢
  refine (Div_any s t _ (by omega) (by omega)).mono ?_
  rintro e w1 ⟨rfl, hb1⟩
  rw [hv.out]
  replace hR := hR.keep hb1
  clear hb1
  (try clear a1 a2 a3 a4 a5 a6 a7 a8 f1 f2 f3 f4)
  obtain ⟨a1, a2, a3, a4, a5, a6, a7, a8, -⟩ := hR.all4
  obtain ⟨f1, f2, f3, f4⟩ := hR.free34
  go_wp2_with fail
  refine (canonical_any _ _ _ (by simp [maxLen]; omega)).mono ?_
  rintro e w2 ⟨rfl, hb2⟩
  replace hR := hR.keep hb2
  clear hb2
  (try clear a1 a2 a3 a4 a5 a6 a7 a8 f1 f2 f3 f4)
  obtain ⟨a1, a2, a3, a4, a5, a6, a7, a8, -⟩ := hR.all4
  obtain ⟨f1, f2, f3, f4⟩ := hR.free34
  go_wp2_with fail
  refine (canonical_any _ _ _ (by simp [maxLen]; omega)).mono ?_
  rintro e w3 ⟨rfl, hb3⟩
  replace hR := hR.keep hb3
  clear hb3
  (try clear a1 a2 a3 a4 a5 a6 a7 a8 f1 f2 f3 f4)
  obtain ⟨a1, a2, a3, a4, a5, a6, a7, a8, -⟩ := hR.all4
  obtain ⟨f1, f2, f3, f4⟩ := hR.free34
  go_wp2_with fail
  exact bodyPost_ret (by simp [results, Tryz.results113, go_sem, a5, a6, a7, a8]) rfl ⟨rfl, set2 (set2 hR.below (by omega) _ _) (by omega) _ _⟩

set_option maxHeartbeats 1000000 in
theorem Div2_neg1 (m : Bool) (s t : ByteArray) (w : World) (hs : s.size ≤ 1073741823) (ht : t.size ≤ 1073741823) (h0 : nat t ≠ 0) (h1 : nat s % nat t ≠ 0) :
    Calls Tryz.prog 113 #[I2 true s, I2 m t] w fun e w' => e = .returned (divZ (iv true s) (iv m t)) ∧ Below w.heap.size w w' := by
  have hnz : iv m t ≠ 0 := fun h => h0 (iv_zero.1 h)
  rw [divZ_pos hnz, div_neg1_q m h0 h1, div_neg1_r m h0 h1]
  have hv := Lib.hid (divVal_pos (m := nat s) h0)
  have hv2 := Lib.hid (subVal_ge (m := nat t) (n := nat s % nat t) (Nat.le_of_lt (Nat.mod_lt _ (Nat.pos_of_ne_zero h0))))
  have s1 := can_div_size s (nat t)
  have s2 := can_mod_size s (nat t)
  have s3 := can_div1_size s (nat t)
  have s4 := can_sub_size t (nat s % nat t)
  have he := isEmpty_neg h1
  have s5 : (can 1).size ≤ 1 := can_size_le (by omega)
  clear h0 h1 hnz
  have hR := Hold.start4 w 27 (.bool true) (.string s) (.bool m) (.string t) (.bool false) (.string ⟨#[]⟩) (.bool false) (.string ⟨#[]⟩)
  go_enter Tryz.func113, Tryz.ntmps113
  go_wp2_with fail
  generalize ((((w.alloc (Obj.cells #[Value.bool true, Value.string s] 27)).alloc (Obj.cells #[Value.bool m, Value.string t] 27)).alloc (Obj.cells #[Value.bool false, Value.string ⟨#[]⟩] 27)).alloc (Obj.cells #[Value.bool false, Value.string ⟨#[]⟩] 27)) = W at hR ⊢
  refine (Div_any s t _ (by omega) (by omega)).mono ?_
  rintro e w1 ⟨rfl, hb1⟩
  rw [hv.out]
  replace hR := hR.keep hb1
  clear hb1
  (try clear a1 a2 a3 a4 a5 a6 a7 a8 f1 f2 f3 f4)
  obtain ⟨a1, a2, a3, a4, a5, a6, a7, a8, -⟩ := hR.all4
  obtain ⟨f1, f2, f3, f4⟩ := hR.free34
  go_wp2_with fail
  refine (FromUint64_any 1 _ (by omega)).mono ?_
  rintro e w2 ⟨rfl, hb2⟩
  replace hR := hR.keep hb2
  clear hb2
  (try clear a1 a2 a3 a4 a5 a6 a7 a8 f1 f2 f3 f4)
  obtain ⟨a1, a2, a3, a4, a5, a6, a7, a8, -⟩ := hR.all4
  obtain ⟨f1, f2, f3, f4⟩ := hR.free34
  go_wp2_with fail
  refine (Add_any _ _ _ (by omega) (by omega)).mono ?_
  rintro e w3 ⟨rfl, hb3⟩
  rw [nat_can, nat_can]
  replace hR := hR.keep hb3
  clear hb3
  (try clear a1 a2 a3 a4 a5 a6 a7 a8 f1 f2 f3 f4)
  obtain ⟨a1, a2, a3, a4, a5, a6, a7, a8, -⟩ := hR.all4
  obtain ⟨f1, f2, f3, f4⟩ := hR.free34
  go_wp2_with fail
  refine (Sub_any _ _ _ (by omega) (by omega)).mono ?_
  rintro e w4 ⟨rfl, hb4⟩
  rw [nat_can, hv2.out]
  replace hR := hR.keep hb4
  clear hb4
  (try clear a1 a2 a3 a4 a5 a6 a7 a8 f1 f2 f3 f4)
  obtain ⟨a1, a2, a3, a4, a5, a6, a7, a8, -⟩ := hR.all4
  obtain ⟨f1, f2, f3, f4⟩ := hR.free34
  go_wp2_with fail
  refine (canonical_any _ _ _ (by simp [maxLen]; omega)).mono ?_
  rintro e w5 ⟨rfl, hb5⟩
  replace hR := hR.keep hb5
  clear hb5
  (try clear a1 a2 a3 a4 a5 a6 a7 a8 f1 f2 f3 f4)
  obtain ⟨a1, a2, a3, a4, a5, a6, a7, a8, -⟩ := hR.all4
  obtain ⟨f1, f2, f3, f4⟩ := hR.free34
  go_wp2_with fail
  refine (canonical_any _ _ _ (by simp [maxLen]; omega)).mono ?_
  rintro e w6 ⟨rfl, hb6⟩
  replace hR := hR.keep hb6
  clear hb6
  (try clear a1 a2 a3 a4 a5 a6 a7 a8 f1 f2 f3 f4)
  obtain ⟨a1, a2, a3, a4, a5, a6, a7, a8, -⟩ := hR.all4
  obtain ⟨f1, f2, f3, f4⟩ := hR.free34
  go_wp2_with fail
  exact bodyPost_ret (by simp [results, Tryz.results113, go_sem, a5, a6, a7, a8]) rfl ⟨rfl, set2 (set2 hR.below (by omega) _ _) (by omega) _ _⟩

theorem Div2_any (n m : Bool) (s t : ByteArray) (w : World) (hs : s.size ≤ 1073741823) (ht : t.size ≤ 1073741823) :
    Calls Tryz.prog 113 #[I2 n s, I2 m t] w fun e w' => e = .returned (divZ (iv n s) (iv m t)) ∧ Below w.heap.size w w' := by
  by_cases h0 : nat t = 0
  · cases n
    · exact Div2_zero_false m s t w hs ht h0
    · exact Div2_zero_true m s t w hs ht h0
  · cases n
    · exact Div2_pos m s t w hs ht h0
    · by_cases h1 : nat s % nat t = 0
      · exact Div2_neg0 m s t w hs ht h0 h1
      · exact Div2_neg1 m s t w hs ht h0 h1
end Go.Proofs.YtodcomijjmobdaaGreatDoor
