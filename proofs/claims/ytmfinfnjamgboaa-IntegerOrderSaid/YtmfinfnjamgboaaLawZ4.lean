/- The walk of voussoirlaw02.IntegerOrder. -/
import Derived.Test.YtmfinfnjamgboaaFixed
namespace Go.Proofs.Ytmfinfnjamgboaa
open Go.RowKit NM

theorem cmpZ_swap (x y : Int) : cmpZ y x = -cmpZ x y := by
  rcases Int.lt_trichotomy x y with h | h | h
  · rw [cmpZ_lt h, cmpZ_gt h]; rfl
  · rw [cmpZ_eq h, cmpZ_eq h.symm]; rfl
  · rw [cmpZ_gt h, cmpZ_lt h]
theorem cmpZ_add (x y z : Int) : cmpZ (x + z) (y + z) = cmpZ x y := by
  rw [← cmpZ_sub, ← cmpZ_sub x y]
  congr 1
  omega
theorem cmpZ_bd (x y : Int) : -1 ≤ cmpZ x y ∧ cmpZ x y ≤ 1 := by
  rcases Int.lt_trichotomy x y with h | h | h
  · rw [cmpZ_lt h]; decide
  · rw [cmpZ_eq h]; decide
  · rw [cmpZ_gt h]; decide
theorem cmpZ_mul (x y z : Int) : cmpZ (x * z) (y * z) = cmpZ z 0 * cmpZ x y := by
  have e : x * z - y * z = (x - y) * z := by rw [Int.sub_mul]
  rw [← cmpZ_sub (x * z), ← cmpZ_sub x y, e]
  generalize x - y = d
  rcases Int.lt_trichotomy z 0 with h | h | h <;> rcases Int.lt_trichotomy d 0 with g | g | g
  · rw [cmpZ_lt h, cmpZ_lt g, cmpZ_gt (Int.mul_pos_of_neg_of_neg g h)]; rfl
  · rw [cmpZ_lt h, cmpZ_eq g, g, Int.zero_mul]; rfl
  · rw [cmpZ_lt h, cmpZ_gt g, cmpZ_lt (Int.mul_neg_of_pos_of_neg g h)]; rfl
  · rw [h, Int.mul_zero, cmpZ_eq rfl, Int.zero_mul]
  · rw [h, Int.mul_zero, cmpZ_eq rfl, Int.zero_mul]
  · rw [h, Int.mul_zero, cmpZ_eq rfl, Int.zero_mul]
  · rw [cmpZ_gt h, cmpZ_lt g, cmpZ_lt (Int.mul_neg_of_neg_of_pos g h)]; rfl
  · rw [cmpZ_gt h, cmpZ_eq g, g, Int.zero_mul]; rfl
  · rw [cmpZ_gt h, cmpZ_gt g, cmpZ_gt (Int.mul_pos g h)]; rfl
/-- Two integers that differ, differ in the sign or in the magnitude. -/
theorem Z_differ {x y : Int} (h : x ≠ y) : sg x ≠ sg y ∨ mg x ≠ mg y := by
  by_cases h1 : sg x = sg y
  · exact .inr (fun h2 => h (Z_inj h1 h2))
  · exact .inl h1


set_option maxRecDepth 100000 in
set_option maxHeartbeats 16000000 in
theorem order_eq (n m k : Bool) (s t u : ByteArray) (w : World) (c d : Int) (h1 : s.size ≤ 20) (h2 : t.size ≤ 20) (h3 : u.size ≤ 20) (b1 : -1 ≤ c) (b2 : c ≤ 1) (b5 : -1 ≤ d * c) (b6 : d * c ≤ 1)
    (e0 : cmpZ (iv n s) (iv m t) = c) (e1 : cmpZ (iv m t) (iv n s) = -c) (e2 : cmpZ (iv n s - iv m t) 0 = c) (e3 : cmpZ (iv n s + iv k u) (iv m t + iv k u) = c) (e4 : cmpZ (iv n s * iv k u) (iv m t * iv k u) = d * c) (e5 : cmpZ (iv k u) 0 = d)
    (HXY : Hid (iv n s = iv m t)) (hc : (c == 0) = true) :
    Calls Try.prog 6 #[I2 n s, I2 m t, I2 k u] w fun e w' => e = .returned (.bool true) ∧ Below w.heap.size w w' := by
  have hR := Hold.start3 w 23 (.bool n) (.string s) (.bool m) (.string t) (.bool k) (.string u)
  have d1 : decide (c < -1) = false := decide_eq_false (by omega)
  have d2 : decide (1 < c) = false := decide_eq_false (by omega)
  have d3 : IntKind.i64.wrap (-c) = -c := by simp [IntKind.wrap, IntKind.bits, IntKind.signed]; omega
  have d4 : wrap64 (-c) = -c := by unfold wrap64; omega
  have p1 := mg_iv_size (n := n) h1
  have p2 := mg_iv_size (n := m) h2
  have p3 := mg_iv_size (n := k) h3
  have q1 := mg_sub_size p1 p2
  have q2 := mg_add_size p1 p3
  have q3 := mg_add_size p2 p3
  have q4 := mg_mul_size p1 p3
  have q5 := mg_mul_size p2 p3
  go_enter Try.func6, Try.ntmps6
  go_wp2_with fail
  refine (Cmp2_any _ _ _ _ _ (by omega) (by omega)).mono ?_
  rw [e0]
  rintro e w1 ⟨rfl, hb1⟩
  replace hR := hR.keep hb1
  clear hb1
  obtain ⟨a1, a2, a3, a4, a5, a6, -⟩ := hR.all3
  go_wp2_with fail
  go_region_held3 (fun w' => w'.cell? ⟨w.heap.size, 0, none⟩ = some (.bool n) ∧ w'.cell? ⟨w.heap.size, 1, none⟩ = some (.string s) ∧ w'.cell? ⟨w.heap.size + 1, 0, none⟩ = some (.bool m) ∧ w'.cell? ⟨w.heap.size + 1, 1, none⟩ = some (.string t) ∧ w'.cell? ⟨w.heap.size + 1 + 1, 0, none⟩ = some (.bool k) ∧ w'.cell? ⟨w.heap.size + 1 + 1, 1, none⟩ = some (.string u) ∧ Hold 23 w [(w.heap.size + 1 + 1, .bool k, .string u), (w.heap.size + 1, .bool m, .string t), (w.heap.size, .bool n, .string s)] w')
    (first | exact hRn.all3 | exact hR.drew.all3)
    (first
      | (go_at_call 17; refine (Cmp2_any _ _ _ _ _ ?_ ?_).mono ?_; omega; omega; (try simp only [e1]); rintro e wn ⟨rfl, hbn⟩; (try clear hRn); have hRn := Hold.keep (And.right (And.right (And.right (And.right (And.right (And.right (by assumption))))))) hbn; clear hbn)
      | (go_at_call 21; refine (Normalize2_any _ _ _ ?_).mono ?_; (simp [maxLen]; omega); (try simp only [HXY.out]); rintro e wn ⟨rfl, hbn⟩; (try clear hRn); have hRn := Hold.keep (And.right (And.right (And.right (And.right (And.right (And.right (by assumption))))))) hbn; clear hbn)
      | (go_at_call 13; refine (Sub2_any _ _ _ _ _ ?_ ?_).mono ?_; omega; omega; rintro e wn ⟨rfl, hbn⟩; (try clear hRn); have hRn := Hold.keep (And.right (And.right (And.right (And.right (And.right (And.right (by assumption))))))) hbn; clear hbn)
      | (go_at_call 19; refine (Sign2_any _ _ _ ?_).mono ?_; (simp [maxLen]; omega); (try simp only [iv_Z, e2]); rintro e wn ⟨rfl, hbn⟩; (try clear hRn); have hRn := Hold.keep (And.right (And.right (And.right (And.right (And.right (And.right (by assumption))))))) hbn; clear hbn))
  clear hR a1 a2 a3 a4 a5 a6
  have hR := hRn
  clear hRn
  obtain ⟨a1, a2, a3, a4, a5, a6, -⟩ := hR.all3
  go_wp2_with fail
  refine (Sign2_any _ _ _ (by simp [maxLen]; omega)).mono ?_
  rw [e5]
  rintro e w2 ⟨rfl, hb2⟩
  replace hR := hR.keep hb2
  clear hb2 a1 a2 a3 a4 a5 a6
  go_wp2_with fail
  go_region_held3 (fun w' => w'.cell? ⟨w.heap.size, 0, none⟩ = some (.bool n) ∧ w'.cell? ⟨w.heap.size, 1, none⟩ = some (.string s) ∧ w'.cell? ⟨w.heap.size + 1, 0, none⟩ = some (.bool m) ∧ w'.cell? ⟨w.heap.size + 1, 1, none⟩ = some (.string t) ∧ w'.cell? ⟨w.heap.size + 1 + 1, 0, none⟩ = some (.bool k) ∧ w'.cell? ⟨w.heap.size + 1 + 1, 1, none⟩ = some (.string u) ∧ Hold 23 w [(w.heap.size + 1 + 1, .bool k, .string u), (w.heap.size + 1, .bool m, .string t), (w.heap.size, .bool n, .string s)] w')
    (first | exact hRn.all3 | exact hR.drew.all3)
    (first
      | (go_at_call 10; refine (fixed_any _).mono ?_; rintro e wn ⟨rfl, hbn⟩; (try clear hRn); have hRn := Hold.keep (And.right (And.right (And.right (And.right (And.right (And.right (by assumption))))))) hbn; clear hbn)
      | (go_at_call 17; refine (Cmp2_any _ _ _ _ _ ?_ ?_).mono ?_; omega; omega; (try simp only [iv_Z, e3, e4]); rintro e wn ⟨rfl, hbn⟩; (try clear hRn); have hRn := Hold.keep (And.right (And.right (And.right (And.right (And.right (And.right (by assumption))))))) hbn; clear hbn)
      | (go_at_call 11; refine (Add2_any _ _ _ _ _ ?_ ?_).mono ?_; omega; omega; rintro e wn ⟨rfl, hbn⟩; (try clear hRn); have hRn := Hold.keep (And.right (And.right (And.right (And.right (And.right (And.right (by assumption))))))) hbn; clear hbn)
      | (go_at_call 25; refine (Mul2_any _ _ _ _ _ ?_ ?_).mono ?_; omega; omega; rintro e wn ⟨rfl, hbn⟩; (try clear hRn); have hRn := Hold.keep (And.right (And.right (And.right (And.right (And.right (And.right (by assumption))))))) hbn; clear hbn))
  go_wp2_with fail
  go_ret
  exact ⟨rfl, hRn.below⟩

set_option maxRecDepth 100000 in
set_option maxHeartbeats 16000000 in
theorem order_sg (n m k : Bool) (s t u : ByteArray) (w : World) (c d : Int) (h1 : s.size ≤ 20) (h2 : t.size ≤ 20) (h3 : u.size ≤ 20) (b1 : -1 ≤ c) (b2 : c ≤ 1) (b5 : -1 ≤ d * c) (b6 : d * c ≤ 1)
    (e0 : cmpZ (iv n s) (iv m t) = c) (e1 : cmpZ (iv m t) (iv n s) = -c) (e2 : cmpZ (iv n s - iv m t) 0 = c) (e3 : cmpZ (iv n s + iv k u) (iv m t + iv k u) = c) (e4 : cmpZ (iv n s * iv k u) (iv m t * iv k u) = d * c) (e5 : cmpZ (iv k u) 0 = d)
    (hd : (sg (iv n s) == sg (iv m t)) = false) (hc : (c == 0) = false) :
    Calls Try.prog 6 #[I2 n s, I2 m t, I2 k u] w fun e w' => e = .returned (.bool true) ∧ Below w.heap.size w w' := by
  have hR := Hold.start3 w 23 (.bool n) (.string s) (.bool m) (.string t) (.bool k) (.string u)
  have d1 : decide (c < -1) = false := decide_eq_false (by omega)
  have d2 : decide (1 < c) = false := decide_eq_false (by omega)
  have d3 : IntKind.i64.wrap (-c) = -c := by simp [IntKind.wrap, IntKind.bits, IntKind.signed]; omega
  have d4 : wrap64 (-c) = -c := by unfold wrap64; omega
  have p1 := mg_iv_size (n := n) h1
  have p2 := mg_iv_size (n := m) h2
  have p3 := mg_iv_size (n := k) h3
  have q1 := mg_sub_size p1 p2
  have q2 := mg_add_size p1 p3
  have q3 := mg_add_size p2 p3
  have q4 := mg_mul_size p1 p3
  have q5 := mg_mul_size p2 p3
  go_enter Try.func6, Try.ntmps6
  go_wp2_with fail
  refine (Cmp2_any _ _ _ _ _ (by omega) (by omega)).mono ?_
  rw [e0]
  rintro e w1 ⟨rfl, hb1⟩
  replace hR := hR.keep hb1
  clear hb1
  obtain ⟨a1, a2, a3, a4, a5, a6, -⟩ := hR.all3
  go_wp2_with fail
  go_region_held3 (fun w' => w'.cell? ⟨w.heap.size, 0, none⟩ = some (.bool n) ∧ w'.cell? ⟨w.heap.size, 1, none⟩ = some (.string s) ∧ w'.cell? ⟨w.heap.size + 1, 0, none⟩ = some (.bool m) ∧ w'.cell? ⟨w.heap.size + 1, 1, none⟩ = some (.string t) ∧ w'.cell? ⟨w.heap.size + 1 + 1, 0, none⟩ = some (.bool k) ∧ w'.cell? ⟨w.heap.size + 1 + 1, 1, none⟩ = some (.string u) ∧ Hold 23 w [(w.heap.size + 1 + 1, .bool k, .string u), (w.heap.size + 1, .bool m, .string t), (w.heap.size, .bool n, .string s)] w')
    (first | exact hRn.all3 | exact hR.drew.all3)
    (first
      | (go_at_call 17; refine (Cmp2_any _ _ _ _ _ ?_ ?_).mono ?_; omega; omega; (try simp only [e1]); rintro e wn ⟨rfl, hbn⟩; (try clear hRn); have hRn := Hold.keep (And.right (And.right (And.right (And.right (And.right (And.right (by assumption))))))) hbn; clear hbn)
      | (go_at_call 21; refine (Normalize2_any _ _ _ ?_).mono ?_; (simp [maxLen]; omega); rintro e wn ⟨rfl, hbn⟩; (try clear hRn); have hRn := Hold.keep (And.right (And.right (And.right (And.right (And.right (And.right (by assumption))))))) hbn; clear hbn)
      | (go_at_call 13; refine (Sub2_any _ _ _ _ _ ?_ ?_).mono ?_; omega; omega; rintro e wn ⟨rfl, hbn⟩; (try clear hRn); have hRn := Hold.keep (And.right (And.right (And.right (And.right (And.right (And.right (by assumption))))))) hbn; clear hbn)
      | (go_at_call 19; refine (Sign2_any _ _ _ ?_).mono ?_; (simp [maxLen]; omega); (try simp only [iv_Z, e2]); rintro e wn ⟨rfl, hbn⟩; (try clear hRn); have hRn := Hold.keep (And.right (And.right (And.right (And.right (And.right (And.right (by assumption))))))) hbn; clear hbn))
  clear hR a1 a2 a3 a4 a5 a6
  have hR := hRn
  clear hRn
  obtain ⟨a1, a2, a3, a4, a5, a6, -⟩ := hR.all3
  go_wp2_with fail
  refine (Sign2_any _ _ _ (by simp [maxLen]; omega)).mono ?_
  rw [e5]
  rintro e w2 ⟨rfl, hb2⟩
  replace hR := hR.keep hb2
  clear hb2 a1 a2 a3 a4 a5 a6
  go_wp2_with fail
  go_region_held3 (fun w' => w'.cell? ⟨w.heap.size, 0, none⟩ = some (.bool n) ∧ w'.cell? ⟨w.heap.size, 1, none⟩ = some (.string s) ∧ w'.cell? ⟨w.heap.size + 1, 0, none⟩ = some (.bool m) ∧ w'.cell? ⟨w.heap.size + 1, 1, none⟩ = some (.string t) ∧ w'.cell? ⟨w.heap.size + 1 + 1, 0, none⟩ = some (.bool k) ∧ w'.cell? ⟨w.heap.size + 1 + 1, 1, none⟩ = some (.string u) ∧ Hold 23 w [(w.heap.size + 1 + 1, .bool k, .string u), (w.heap.size + 1, .bool m, .string t), (w.heap.size, .bool n, .string s)] w')
    (first | exact hRn.all3 | exact hR.drew.all3)
    (first
      | (go_at_call 10; refine (fixed_any _).mono ?_; rintro e wn ⟨rfl, hbn⟩; (try clear hRn); have hRn := Hold.keep (And.right (And.right (And.right (And.right (And.right (And.right (by assumption))))))) hbn; clear hbn)
      | (go_at_call 17; refine (Cmp2_any _ _ _ _ _ ?_ ?_).mono ?_; omega; omega; (try simp only [iv_Z, e3, e4]); rintro e wn ⟨rfl, hbn⟩; (try clear hRn); have hRn := Hold.keep (And.right (And.right (And.right (And.right (And.right (And.right (by assumption))))))) hbn; clear hbn)
      | (go_at_call 11; refine (Add2_any _ _ _ _ _ ?_ ?_).mono ?_; omega; omega; rintro e wn ⟨rfl, hbn⟩; (try clear hRn); have hRn := Hold.keep (And.right (And.right (And.right (And.right (And.right (And.right (by assumption))))))) hbn; clear hbn)
      | (go_at_call 25; refine (Mul2_any _ _ _ _ _ ?_ ?_).mono ?_; omega; omega; rintro e wn ⟨rfl, hbn⟩; (try clear hRn); have hRn := Hold.keep (And.right (And.right (And.right (And.right (And.right (And.right (by assumption))))))) hbn; clear hbn))
  go_wp2_with fail
  go_ret
  exact ⟨rfl, hRn.below⟩

set_option maxRecDepth 100000 in
set_option maxHeartbeats 16000000 in
theorem order_mg (n m k : Bool) (s t u : ByteArray) (w : World) (c d : Int) (h1 : s.size ≤ 20) (h2 : t.size ≤ 20) (h3 : u.size ≤ 20) (b1 : -1 ≤ c) (b2 : c ≤ 1) (b5 : -1 ≤ d * c) (b6 : d * c ≤ 1)
    (e0 : cmpZ (iv n s) (iv m t) = c) (e1 : cmpZ (iv m t) (iv n s) = -c) (e2 : cmpZ (iv n s - iv m t) 0 = c) (e3 : cmpZ (iv n s + iv k u) (iv m t + iv k u) = c) (e4 : cmpZ (iv n s * iv k u) (iv m t * iv k u) = d * c) (e5 : cmpZ (iv k u) 0 = d)
    (hd : ((mg (iv n s)).toList == (mg (iv m t)).toList) = false) (hc : (c == 0) = false) :
    Calls Try.prog 6 #[I2 n s, I2 m t, I2 k u] w fun e w' => e = .returned (.bool true) ∧ Below w.heap.size w w' := by
  have hR := Hold.start3 w 23 (.bool n) (.string s) (.bool m) (.string t) (.bool k) (.string u)
  have d1 : decide (c < -1) = false := decide_eq_false (by omega)
  have d2 : decide (1 < c) = false := decide_eq_false (by omega)
  have d3 : IntKind.i64.wrap (-c) = -c := by simp [IntKind.wrap, IntKind.bits, IntKind.signed]; omega
  have d4 : wrap64 (-c) = -c := by unfold wrap64; omega
  have p1 := mg_iv_size (n := n) h1
  have p2 := mg_iv_size (n := m) h2
  have p3 := mg_iv_size (n := k) h3
  have q1 := mg_sub_size p1 p2
  have q2 := mg_add_size p1 p3
  have q3 := mg_add_size p2 p3
  have q4 := mg_mul_size p1 p3
  have q5 := mg_mul_size p2 p3
  go_enter Try.func6, Try.ntmps6
  go_wp2_with fail
  refine (Cmp2_any _ _ _ _ _ (by omega) (by omega)).mono ?_
  rw [e0]
  rintro e w1 ⟨rfl, hb1⟩
  replace hR := hR.keep hb1
  clear hb1
  obtain ⟨a1, a2, a3, a4, a5, a6, -⟩ := hR.all3
  go_wp2_with fail
  go_region_held3 (fun w' => w'.cell? ⟨w.heap.size, 0, none⟩ = some (.bool n) ∧ w'.cell? ⟨w.heap.size, 1, none⟩ = some (.string s) ∧ w'.cell? ⟨w.heap.size + 1, 0, none⟩ = some (.bool m) ∧ w'.cell? ⟨w.heap.size + 1, 1, none⟩ = some (.string t) ∧ w'.cell? ⟨w.heap.size + 1 + 1, 0, none⟩ = some (.bool k) ∧ w'.cell? ⟨w.heap.size + 1 + 1, 1, none⟩ = some (.string u) ∧ Hold 23 w [(w.heap.size + 1 + 1, .bool k, .string u), (w.heap.size + 1, .bool m, .string t), (w.heap.size, .bool n, .string s)] w')
    (first | exact hRn.all3 | exact hR.drew.all3)
    (first
      | (go_at_call 17; refine (Cmp2_any _ _ _ _ _ ?_ ?_).mono ?_; omega; omega; (try simp only [e1]); rintro e wn ⟨rfl, hbn⟩; (try clear hRn); have hRn := Hold.keep (And.right (And.right (And.right (And.right (And.right (And.right (by assumption))))))) hbn; clear hbn)
      | (go_at_call 21; refine (Normalize2_any _ _ _ ?_).mono ?_; (simp [maxLen]; omega); rintro e wn ⟨rfl, hbn⟩; (try clear hRn); have hRn := Hold.keep (And.right (And.right (And.right (And.right (And.right (And.right (by assumption))))))) hbn; clear hbn)
      | (go_at_call 13; refine (Sub2_any _ _ _ _ _ ?_ ?_).mono ?_; omega; omega; rintro e wn ⟨rfl, hbn⟩; (try clear hRn); have hRn := Hold.keep (And.right (And.right (And.right (And.right (And.right (And.right (by assumption))))))) hbn; clear hbn)
      | (go_at_call 19; refine (Sign2_any _ _ _ ?_).mono ?_; (simp [maxLen]; omega); (try simp only [iv_Z, e2]); rintro e wn ⟨rfl, hbn⟩; (try clear hRn); have hRn := Hold.keep (And.right (And.right (And.right (And.right (And.right (And.right (by assumption))))))) hbn; clear hbn))
  clear hR a1 a2 a3 a4 a5 a6
  have hR := hRn
  clear hRn
  obtain ⟨a1, a2, a3, a4, a5, a6, -⟩ := hR.all3
  go_wp2_with fail
  refine (Sign2_any _ _ _ (by simp [maxLen]; omega)).mono ?_
  rw [e5]
  rintro e w2 ⟨rfl, hb2⟩
  replace hR := hR.keep hb2
  clear hb2 a1 a2 a3 a4 a5 a6
  go_wp2_with fail
  go_region_held3 (fun w' => w'.cell? ⟨w.heap.size, 0, none⟩ = some (.bool n) ∧ w'.cell? ⟨w.heap.size, 1, none⟩ = some (.string s) ∧ w'.cell? ⟨w.heap.size + 1, 0, none⟩ = some (.bool m) ∧ w'.cell? ⟨w.heap.size + 1, 1, none⟩ = some (.string t) ∧ w'.cell? ⟨w.heap.size + 1 + 1, 0, none⟩ = some (.bool k) ∧ w'.cell? ⟨w.heap.size + 1 + 1, 1, none⟩ = some (.string u) ∧ Hold 23 w [(w.heap.size + 1 + 1, .bool k, .string u), (w.heap.size + 1, .bool m, .string t), (w.heap.size, .bool n, .string s)] w')
    (first | exact hRn.all3 | exact hR.drew.all3)
    (first
      | (go_at_call 10; refine (fixed_any _).mono ?_; rintro e wn ⟨rfl, hbn⟩; (try clear hRn); have hRn := Hold.keep (And.right (And.right (And.right (And.right (And.right (And.right (by assumption))))))) hbn; clear hbn)
      | (go_at_call 17; refine (Cmp2_any _ _ _ _ _ ?_ ?_).mono ?_; omega; omega; (try simp only [iv_Z, e3, e4]); rintro e wn ⟨rfl, hbn⟩; (try clear hRn); have hRn := Hold.keep (And.right (And.right (And.right (And.right (And.right (And.right (by assumption))))))) hbn; clear hbn)
      | (go_at_call 11; refine (Add2_any _ _ _ _ _ ?_ ?_).mono ?_; omega; omega; rintro e wn ⟨rfl, hbn⟩; (try clear hRn); have hRn := Hold.keep (And.right (And.right (And.right (And.right (And.right (And.right (by assumption))))))) hbn; clear hbn)
      | (go_at_call 25; refine (Mul2_any _ _ _ _ _ ?_ ?_).mono ?_; omega; omega; rintro e wn ⟨rfl, hbn⟩; (try clear hRn); have hRn := Hold.keep (And.right (And.right (And.right (And.right (And.right (And.right (by assumption))))))) hbn; clear hbn))
  go_wp2_with fail
  go_ret
  exact ⟨rfl, hRn.below⟩

set_option maxHeartbeats 16000000 in
theorem IntegerOrder_any (n m k : Bool) (s t u : ByteArray) (w : World) (hs : s.size ≤ maxLen) (ht : t.size ≤ maxLen) (hu : u.size ≤ maxLen) :
    Calls Try.prog 6 #[I2 n s, I2 m t, I2 k u] w fun e w' => e = .returned (.bool true) ∧ Below w.heap.size w w' := by
  have hR := Hold.start3 w 23 (.bool n) (.string s) (.bool m) (.string t) (.bool k) (.string u)
  unfold maxLen at hs ht hu
  rcases (show 20 < s.size ∨ (s.size ≤ 20 ∧ 20 < t.size) ∨ (s.size ≤ 20 ∧ t.size ≤ 20 ∧ 20 < u.size) ∨ (s.size ≤ 20 ∧ t.size ≤ 20 ∧ u.size ≤ 20) by omega) with h1 | ⟨h1, h2⟩ | ⟨h1, h2, h3⟩ | ⟨h1, h2, h3⟩
  ·
    go_enter Try.func6, Try.ntmps6
    go_wp2_with fail
    refine (fixed_any _).mono ?_
    rintro e w2 ⟨rfl, hb2⟩
    replace hR := hR.keep hb2
    go_wp2_with fail
    go_ret
    exact ⟨rfl, hR.below⟩
  ·
    go_enter Try.func6, Try.ntmps6
    go_wp2_with fail
    refine (fixed_any _).mono ?_
    rintro e w2 ⟨rfl, hb2⟩
    replace hR := hR.keep hb2
    go_wp2_with fail
    go_ret
    exact ⟨rfl, hR.below⟩
  ·
    go_enter Try.func6, Try.ntmps6
    go_wp2_with fail
    refine (fixed_any _).mono ?_
    rintro e w2 ⟨rfl, hb2⟩
    replace hR := hR.keep hb2
    go_wp2_with fail
    go_ret
    exact ⟨rfl, hR.below⟩
  · clear hR hs ht hu
    have e1 := cmpZ_swap (iv n s) (iv m t)
    have e2 := cmpZ_sub (iv n s) (iv m t)
    have e3 := cmpZ_add (iv n s) (iv m t) (iv k u)
    have e4 := cmpZ_mul (iv n s) (iv m t) (iv k u)
    have b1 := cmpZ_bd (iv n s) (iv m t)
    have b5 : -1 ≤ cmpZ (iv k u) 0 * cmpZ (iv n s) (iv m t) ∧ cmpZ (iv k u) 0 * cmpZ (iv n s) (iv m t) ≤ 1 := by
      rw [← e4]
      exact cmpZ_bd _ _
    by_cases hxy : iv n s = iv m t
    · exact order_eq n m k s t u w _ _ h1 h2 h3 b1.1 b1.2 b5.1 b5.2 rfl e1 e2 e3 e4 rfl hxy (by rw [cmpZ_eq hxy]; rfl)
    · have hc : (cmpZ (iv n s) (iv m t) == 0) = false := by
        rcases Int.lt_or_gt_of_ne hxy with h | h
        · rw [cmpZ_lt h]; rfl
        · rw [cmpZ_gt h]; rfl
      rcases Z_differ hxy with hd | hd
      · exact order_sg n m k s t u w _ _ h1 h2 h3 b1.1 b1.2 b5.1 b5.2 rfl e1 e2 e3 e4 rfl (beq_eq_false_iff_ne.2 hd) hc
      · exact order_mg n m k s t u w _ _ h1 h2 h3 b1.1 b1.2 b5.1 b5.2 rfl e1 e2 e3 e4 rfl (by rw [beq_bytes, decide_eq_false hd]) hc
end Go.Proofs.Ytmfinfnjamgboaa
