/- integer.Cmp and the reference's. -/
import Derived.Test.YtmfinfnjamgboaaInt2
import Derived.Test.YtmfinfnjamgboaaCmp
namespace Go.Proofs.Ytmfinfnjamgboaa
open Go.RowKit NM

theorem cmpZ_sub (x y : Int) : cmpZ (x - y) 0 = cmpZ x y := by
  unfold cmpZ
  by_cases h1 : x < y
  · rw [if_pos (by omega), if_pos h1]
  · rw [if_neg (by omega), if_neg h1]
    by_cases h2 : x = y
    · rw [if_pos (by omega), if_pos h2]
    · rw [if_neg (by omega), if_neg h2]
theorem cmpZ_nat (x y : Nat) : cmpZ (x : Int) (y : Int) = cmpN x y := by
  unfold cmpZ cmpN
  by_cases h1 : x < y
  · rw [if_pos (by omega), if_pos h1]
  · rw [if_neg (by omega), if_neg h1]
    by_cases h2 : x = y
    · rw [if_pos (by omega), if_pos h2]
    · rw [if_neg (by omega), if_neg h2]
theorem cmpZ_neg_nat (x y : Nat) : cmpZ (-(x : Int)) (-(y : Int)) = cmpN y x := by
  rw [← cmpZ_nat]
  unfold cmpZ
  by_cases h1 : (y : Int) < x
  · rw [if_pos (by omega), if_pos h1]
  · rw [if_neg (by omega), if_neg h1]
    by_cases h2 : x = y
    · rw [if_pos (by omega), if_pos (by omega)]
    · rw [if_neg (by omega), if_neg (by omega)]
theorem iv_pos_eq {n : Bool} {s : ByteArray} (h : 0 ≤ iv n s) : iv n s = (nat s : Int) := by
  cases n
  · rfl
  · rw [iv_true] at h ⊢; omega
theorem iv_neg_eq {n : Bool} {s : ByteArray} (h : iv n s ≤ 0) : iv n s = -(nat s : Int) := by
  cases n
  · rw [iv_false] at h ⊢; omega
  · rfl

set_option maxHeartbeats 1000000 in
theorem refCmp2_any (n m : Bool) (s t : ByteArray) (w : World) (hs : s.size ≤ 1073741823) (ht : t.size ≤ 1073741823) :
    Calls Try.prog 18 #[I2 n s, I2 m t] w fun e w' => e = .returned (.int .i64 (cmpZ (iv n s) (iv m t))) ∧ Below w.heap.size w w' := by
  have hst := mg_sub_size (x := iv n s) (y := iv m t) (mg_iv_size hs) (mg_iv_size ht)
  rw [← cmpZ_sub]
  have hR := Hold.start2 w 23 (.bool n) (.string s) (.bool m) (.string t)
  go_enter Try.func18, Try.ntmps18
  go_wp2_with fail
  refine (refSub2_any n m s t _ (by omega) (by omega)).mono ?_
  rintro e w1 ⟨rfl, hb1⟩
  go_wp2_with fail
  refine (refSign2_any _ _ _ (by simp [maxLen]; omega)).mono ?_
  rw [iv_Z]
  rintro e w2 ⟨rfl, hb2⟩
  go_wp2_with fail
  go_ret
  exact ⟨rfl, ((hR.keep hb1).keep hb2).below⟩

set_option maxHeartbeats 4000000 in
/-- Two integers whose signs differ. -/
theorem Cmp2_differ (n m : Bool) (s t : ByteArray) (w : World) (c d r : Int) (hs : s.size ≤ 1073741823) (ht : t.size ≤ 1073741823)
    (hx : cmpZ (iv n s) 0 = c) (hy : cmpZ (iv m t) 0 = d) (hr : cmpZ (iv n s) (iv m t) = r) (hcd : (c != d) = true) (hsg : sgn c d = r) :
    Calls Try.prog 17 #[I2 n s, I2 m t] w fun e w' => e = .returned (.int .i64 (cmpZ (iv n s) (iv m t))) ∧ Below w.heap.size w w' := by
  rw [hr]
  have Hsg := Lib.hid hsg
  clear hr hsg
  have hR := Hold.start2 w 23 (.bool n) (.string s) (.bool m) (.string t)
  go_enter Try.func17, Try.ntmps17
  go_wp2_with fail
  generalize ((w.alloc (Obj.cells #[Value.bool n, Value.string s] 23)).alloc (Obj.cells #[Value.bool m, Value.string t] 23)) = W at hR ⊢
  go_region_held3 (fun w' => w'.cell? ⟨w.heap.size, 0, none⟩ = some (.bool n) ∧ w'.cell? ⟨w.heap.size, 1, none⟩ = some (.string s) ∧ w'.cell? ⟨w.heap.size + 1, 0, none⟩ = some (.bool m) ∧ w'.cell? ⟨w.heap.size + 1, 1, none⟩ = some (.string t) ∧ Hold 23 w [(w.heap.size + 1, .bool m, .string t), (w.heap.size, .bool n, .string s)] w')
    (first | exact hRn.all2 | exact hR.drew.all2)
    (first | (go_at_call 19; refine (Sign2_any _ _ _ ?_).mono ?_; (simp [maxLen]; omega); rintro e wn ⟨rfl, hbn⟩; (try clear hRn); have hRn := Hold.keep (And.right (And.right (And.right (And.right (by assumption))))) hbn; clear hbn))
  go_wp2_with fail
  clear hR
  have hR := hRn
  clear hRn
  go_region_held3 (fun w' => w'.cell? ⟨w.heap.size, 0, none⟩ = some (.bool n) ∧ w'.cell? ⟨w.heap.size, 1, none⟩ = some (.string s) ∧ w'.cell? ⟨w.heap.size + 1, 0, none⟩ = some (.bool m) ∧ w'.cell? ⟨w.heap.size + 1, 1, none⟩ = some (.string t) ∧ Hold 23 w [(w.heap.size + 1, .bool m, .string t), (w.heap.size, .bool n, .string s)] w')
    (first | exact hRn.all2 | exact hR.drew.all2)
    (first
      | (go_at_call 19; refine (Sign2_any _ _ _ ?_).mono ?_; (simp [maxLen]; omega); rintro e wn ⟨rfl, hbn⟩; (try clear hRn); have hRn := Hold.keep (And.right (And.right (And.right (And.right (by assumption))))) hbn; clear hbn)
      | (go_at_call 37; refine (CompareInt_any _ _ _).mono ?_; rintro e wn ⟨rfl, rfl⟩; (try clear hRn); have hRn := (And.right (And.right (And.right (And.right (by assumption)))))))
  go_wp2_with fail
  rw [Hsg.out]
  go_ret
  exact ⟨rfl, hRn.below⟩
set_option maxHeartbeats 4000000 in
theorem Cmp2_pos (n m : Bool) (s t : ByteArray) (w : World) (hs : s.size ≤ 1073741823) (ht : t.size ≤ 1073741823)
    (hx : cmpZ (iv n s) 0 = 1) (hy : cmpZ (iv m t) 0 = 1) (hr : cmpZ (iv n s) (iv m t) = cmpN (nat s) (nat t)) :
    Calls Try.prog 17 #[I2 n s, I2 m t] w fun e w' => e = .returned (.int .i64 (cmpZ (iv n s) (iv m t))) ∧ Below w.heap.size w w' := by
  rw [hr]
  clear hr
  have hR := Hold.start2 w 23 (.bool n) (.string s) (.bool m) (.string t)
  go_enter Try.func17, Try.ntmps17
  go_wp2_with fail
  generalize ((w.alloc (Obj.cells #[Value.bool n, Value.string s] 23)).alloc (Obj.cells #[Value.bool m, Value.string t] 23)) = W at hR ⊢
  go_region_held3 (fun w' => w'.cell? ⟨w.heap.size, 0, none⟩ = some (.bool n) ∧ w'.cell? ⟨w.heap.size, 1, none⟩ = some (.string s) ∧ w'.cell? ⟨w.heap.size + 1, 0, none⟩ = some (.bool m) ∧ w'.cell? ⟨w.heap.size + 1, 1, none⟩ = some (.string t) ∧ Hold 23 w [(w.heap.size + 1, .bool m, .string t), (w.heap.size, .bool n, .string s)] w')
    (first | exact hRn.all2 | exact hR.drew.all2)
    (first | (go_at_call 19; refine (Sign2_any _ _ _ ?_).mono ?_; (simp [maxLen]; omega); rintro e wn ⟨rfl, hbn⟩; (try clear hRn); have hRn := Hold.keep (And.right (And.right (And.right (And.right (by assumption))))) hbn; clear hbn))
  go_wp2_with fail
  obtain ⟨a1, a2, a3, a4, -⟩ := hRn.all2
  clear hR
  have hR := hRn
  clear hRn
  go_wp2_with fail
  refine (Sign2_any n s _ (by simp [maxLen]; omega)).mono ?_
  rintro e w1 ⟨rfl, hb1⟩
  have hR1 := hR.keep hb1
  clear a1 a2 a3 a4 hb1 hR
  obtain ⟨a1, a2, a3, a4, -⟩ := hR1.all2
  go_wp2_with fail
  refine (Cmp_any s t _ (by simp [maxLen]; omega) (by simp [maxLen]; omega)).mono ?_
  rintro e w2 ⟨rfl, hb2⟩
  have hR2 := hR1.keep hb2
  go_wp2_with fail
  go_ret
  exact ⟨rfl, hR2.below⟩
set_option maxHeartbeats 4000000 in
theorem Cmp2_zero (n m : Bool) (s t : ByteArray) (w : World) (hs : s.size ≤ 1073741823) (ht : t.size ≤ 1073741823)
    (hx : cmpZ (iv n s) 0 = 0) (hy : cmpZ (iv m t) 0 = 0) (hr : cmpZ (iv n s) (iv m t) = cmpN (nat s) (nat t)) :
    Calls Try.prog 17 #[I2 n s, I2 m t] w fun e w' => e = .returned (.int .i64 (cmpZ (iv n s) (iv m t))) ∧ Below w.heap.size w w' := by
  rw [hr]
  clear hr
  have hR := Hold.start2 w 23 (.bool n) (.string s) (.bool m) (.string t)
  go_enter Try.func17, Try.ntmps17
  go_wp2_with fail
  generalize ((w.alloc (Obj.cells #[Value.bool n, Value.string s] 23)).alloc (Obj.cells #[Value.bool m, Value.string t] 23)) = W at hR ⊢
  go_region_held3 (fun w' => w'.cell? ⟨w.heap.size, 0, none⟩ = some (.bool n) ∧ w'.cell? ⟨w.heap.size, 1, none⟩ = some (.string s) ∧ w'.cell? ⟨w.heap.size + 1, 0, none⟩ = some (.bool m) ∧ w'.cell? ⟨w.heap.size + 1, 1, none⟩ = some (.string t) ∧ Hold 23 w [(w.heap.size + 1, .bool m, .string t), (w.heap.size, .bool n, .string s)] w')
    (first | exact hRn.all2 | exact hR.drew.all2)
    (first | (go_at_call 19; refine (Sign2_any _ _ _ ?_).mono ?_; (simp [maxLen]; omega); rintro e wn ⟨rfl, hbn⟩; (try clear hRn); have hRn := Hold.keep (And.right (And.right (And.right (And.right (by assumption))))) hbn; clear hbn))
  go_wp2_with fail
  obtain ⟨a1, a2, a3, a4, -⟩ := hRn.all2
  clear hR
  have hR := hRn
  clear hRn
  go_wp2_with fail
  refine (Sign2_any n s _ (by simp [maxLen]; omega)).mono ?_
  rintro e w1 ⟨rfl, hb1⟩
  have hR1 := hR.keep hb1
  clear a1 a2 a3 a4 hb1 hR
  obtain ⟨a1, a2, a3, a4, -⟩ := hR1.all2
  go_wp2_with fail
  refine (Cmp_any s t _ (by simp [maxLen]; omega) (by simp [maxLen]; omega)).mono ?_
  rintro e w2 ⟨rfl, hb2⟩
  have hR2 := hR1.keep hb2
  go_wp2_with fail
  go_ret
  exact ⟨rfl, hR2.below⟩
set_option maxHeartbeats 4000000 in
theorem Cmp2_neg (n m : Bool) (s t : ByteArray) (w : World) (hs : s.size ≤ 1073741823) (ht : t.size ≤ 1073741823)
    (hx : cmpZ (iv n s) 0 = -1) (hy : cmpZ (iv m t) 0 = -1) (hr : cmpZ (iv n s) (iv m t) = cmpN (nat t) (nat s)) :
    Calls Try.prog 17 #[I2 n s, I2 m t] w fun e w' => e = .returned (.int .i64 (cmpZ (iv n s) (iv m t))) ∧ Below w.heap.size w w' := by
  rw [hr]
  clear hr
  have hR := Hold.start2 w 23 (.bool n) (.string s) (.bool m) (.string t)
  go_enter Try.func17, Try.ntmps17
  go_wp2_with fail
  generalize ((w.alloc (Obj.cells #[Value.bool n, Value.string s] 23)).alloc (Obj.cells #[Value.bool m, Value.string t] 23)) = W at hR ⊢
  go_region_held3 (fun w' => w'.cell? ⟨w.heap.size, 0, none⟩ = some (.bool n) ∧ w'.cell? ⟨w.heap.size, 1, none⟩ = some (.string s) ∧ w'.cell? ⟨w.heap.size + 1, 0, none⟩ = some (.bool m) ∧ w'.cell? ⟨w.heap.size + 1, 1, none⟩ = some (.string t) ∧ Hold 23 w [(w.heap.size + 1, .bool m, .string t), (w.heap.size, .bool n, .string s)] w')
    (first | exact hRn.all2 | exact hR.drew.all2)
    (first | (go_at_call 19; refine (Sign2_any _ _ _ ?_).mono ?_; (simp [maxLen]; omega); rintro e wn ⟨rfl, hbn⟩; (try clear hRn); have hRn := Hold.keep (And.right (And.right (And.right (And.right (by assumption))))) hbn; clear hbn))
  go_wp2_with fail
  obtain ⟨a1, a2, a3, a4, -⟩ := hRn.all2
  clear hR
  have hR := hRn
  clear hRn
  go_wp2_with fail
  refine (Sign2_any n s _ (by simp [maxLen]; omega)).mono ?_
  rintro e w1 ⟨rfl, hb1⟩
  have hR1 := hR.keep hb1
  clear a1 a2 a3 a4 hb1 hR
  obtain ⟨a1, a2, a3, a4, -⟩ := hR1.all2
  go_wp2_with fail
  refine (Cmp_any t s _ (by simp [maxLen]; omega) (by simp [maxLen]; omega)).mono ?_
  rintro e w2 ⟨rfl, hb2⟩
  have hR2 := hR1.keep hb2
  go_wp2_with fail
  go_ret
  exact ⟨rfl, hR2.below⟩
theorem Cmp2_any (n m : Bool) (s t : ByteArray) (w : World) (hs : s.size ≤ 1073741823) (ht : t.size ≤ 1073741823) :
    Calls Try.prog 17 #[I2 n s, I2 m t] w fun e w' => e = .returned (.int .i64 (cmpZ (iv n s) (iv m t))) ∧ Below w.heap.size w w' := by
  rcases Int.lt_trichotomy (iv n s) 0 with hx | hx | hx <;> rcases Int.lt_trichotomy (iv m t) 0 with hy | hy | hy
  · exact Cmp2_neg n m s t w hs ht (cmpZ_lt hx) (cmpZ_lt hy) (by rw [iv_neg_eq (Int.le_of_lt hx), iv_neg_eq (Int.le_of_lt hy), cmpZ_neg_nat])
  · exact Cmp2_differ n m s t w (-1) 0 (-1) hs ht (cmpZ_lt hx) (cmpZ_eq hy) (cmpZ_lt (by omega)) rfl rfl
  · exact Cmp2_differ n m s t w (-1) 1 (-1) hs ht (cmpZ_lt hx) (cmpZ_gt hy) (cmpZ_lt (by omega)) rfl rfl
  · exact Cmp2_differ n m s t w 0 (-1) 1 hs ht (cmpZ_eq hx) (cmpZ_lt hy) (cmpZ_gt (by omega)) rfl rfl
  · exact Cmp2_zero n m s t w hs ht (cmpZ_eq hx) (cmpZ_eq hy) (by rw [iv_pos_eq (by omega), iv_pos_eq (by omega), cmpZ_nat])
  · exact Cmp2_differ n m s t w 0 1 (-1) hs ht (cmpZ_eq hx) (cmpZ_gt hy) (cmpZ_lt (by omega)) rfl rfl
  · exact Cmp2_differ n m s t w 1 (-1) 1 hs ht (cmpZ_gt hx) (cmpZ_lt hy) (cmpZ_gt (by omega)) rfl rfl
  · exact Cmp2_differ n m s t w 1 0 1 hs ht (cmpZ_gt hx) (cmpZ_eq hy) (cmpZ_gt (by omega)) rfl rfl
  · exact Cmp2_pos n m s t w hs ht (cmpZ_gt hx) (cmpZ_gt hy) (by rw [iv_pos_eq (Int.le_of_lt hx), iv_pos_eq (Int.le_of_lt hy), cmpZ_nat])
end Go.Proofs.Ytmfinfnjamgboaa
