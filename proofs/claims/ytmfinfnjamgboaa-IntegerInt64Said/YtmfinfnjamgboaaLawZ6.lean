/- The walk of voussoirlaw02.IntegerInt64. -/
import Derived.Test.YtmfinfnjamgboaaFixed
import Derived.Test.YtmfinfnjamgboaaDecZ
namespace Go.Proofs.Ytmfinfnjamgboaa
open Go.RowKit NM

theorem int_size {z : Int} (h1 : -9223372036854775808 ≤ z) (h2 : z ≤ 9223372036854775807) : (mg z).size ≤ 8 := mg_size_le (by
  have e : (256 : Nat) ^ 8 = 18446744073709551616 := by decide
  omega)
theorem Z_differ2 {x y : Int} (h : x ≠ y) : sg x ≠ sg y ∨ mg x ≠ mg y := by
  by_cases h1 : sg x = sg y
  · exact .inr (fun h2 => h (Z_inj h1 h2))
  · exact .inl h1
theorem decZ_size {z : Int} (h : (mg z).size ≤ 8) : (decZ z).size ≤ 26 := by
  have h1 := decN_size (mg_lt h)
  by_cases hz : z < 0
  · rw [decZ_neg hz, ByteArray.size_append]
    show 1 + _ ≤ _
    omega
  · rw [decZ_pos hz]; omega

set_option maxRecDepth 100000 in
set_option maxHeartbeats 8000000 in
theorem i64_sg_in (x y c : Int) (w : World) (hx1 : -9223372036854775808 ≤ x) (hx2 : x ≤ 9223372036854775807) (hy1 : -9223372036854775808 ≤ y) (hy2 : y ≤ 9223372036854775807) (B : Bool)
    (HC : Hid (cmpZ x y = c)) (d1 : decide (c < 0) = B) (d2 : decide (x < y) = B) (hd : (sg x == sg y) = false) (hc : (x == y) = false) (j1 : -2147483648 < x) (j2 : x < 2147483648) (j3 : -2147483648 < y) (j4 : y < 2147483648) (p1 : -4611686018427387904 ≤ x * y) (p2 : x * y ≤ 4611686018427387904) :
    Calls Try.prog 8 #[.int .i64 x, .int .i64 y] w fun e w' => e = .returned (.bool true) ∧ Below w.heap.size w w' := by
  have s1 := int_size hx1 hx2
  have s2 := int_size hy1 hy2
  have s3 : (decZ x).size ≤ 26 := decZ_size s1
  have HX := Lib.hid (i64Val_yes hx1 hx2)
  have hR := Hold.nil w (E := 23)
  go_enter Try.func8, Try.ntmps8
  go_wp2_with fail
  refine (FromInt64_any x _ hx1 hx2).mono ?_
  rintro e w1 ⟨rfl, hb1⟩
  go_wp2_with fail
  refine (FromInt64_any y _ hy1 hy2).mono ?_
  rintro e w2 ⟨rfl, hb2⟩
  replace hR := ((hR.keep hb1).keep hb2).box2 (.bool (sg x)) (.string (mg x)) (.bool (sg y)) (.string (mg y))
  clear hb1 hb2
  (try clear a1 a2 a3 a4 a5 a6)
  obtain ⟨a1, a2, a3, a4, -⟩ := hR.all2
  go_wp2_with fail
  generalize ((w2.alloc (Obj.cells #[Value.bool (sg x), Value.string (mg x)] 23)).alloc (Obj.cells #[Value.bool (sg y), Value.string (mg y)] 23)) = W at hR a1 a2 a3 a4 ⊢
  (with_reducible refine (Int64_any _ _ _ (by simp [maxLen]; omega)).mono ?_)
  rw [iv_Z, HX.out]
  rintro e w3 ⟨rfl, hb3⟩
  replace hR := hR.keep hb3
  clear hb3
  (try clear a1 a2 a3 a4 a5 a6)
  obtain ⟨a1, a2, a3, a4, -⟩ := hR.all2
  go_wp2_with fail
  refine (Cmp2_any _ _ _ _ _ (by omega) (by omega)).mono ?_
  rw [iv_Z, iv_Z, HC.out]
  rintro e w4 ⟨rfl, hb4⟩
  replace hR := hR.keep hb4
  clear hb4
  (try clear a1 a2 a3 a4 a5 a6)
  obtain ⟨a1, a2, a3, a4, -⟩ := hR.all2
  go_wp2_with fail
  (with_reducible refine (Add2_any _ _ _ _ _ (by omega) (by omega)).mono ?_)
  rw [iv_Z, iv_Z]
  rintro e w30 ⟨rfl, hb30⟩
  replace hR := hR.keep hb30
  clear hb30
  (try clear a1 a2 a3 a4 a5 a6)
  obtain ⟨a1, a2, a3, a4, -⟩ := hR.all2
  go_wp2_with fail
  (with_reducible refine (FromInt64_any (x + y) _ (by omega) (by omega)).mono ?_)
  rintro e w31 ⟨rfl, hb31⟩
  replace hR := hR.keep hb31
  clear hb31
  (try clear a1 a2 a3 a4 a5 a6)
  obtain ⟨a1, a2, a3, a4, -⟩ := hR.all2
  go_wp2_with fail
  (with_reducible refine (Mul2_any _ _ _ _ _ (by omega) (by omega)).mono ?_)
  rw [iv_Z, iv_Z]
  rintro e w32 ⟨rfl, hb32⟩
  replace hR := hR.keep hb32
  clear hb32
  (try clear a1 a2 a3 a4 a5 a6)
  obtain ⟨a1, a2, a3, a4, -⟩ := hR.all2
  go_wp2_with fail
  (with_reducible refine (FromInt64_any (x * y) _ (by omega) (by omega)).mono ?_)
  rintro e w33 ⟨rfl, hb33⟩
  replace hR := hR.keep hb33
  clear hb33
  (try clear a1 a2 a3 a4 a5 a6)
  obtain ⟨a1, a2, a3, a4, -⟩ := hR.all2
  go_wp2_with fail
  (with_reducible refine (Sub2_any _ _ _ _ _ (by omega) (by omega)).mono ?_)
  rw [iv_Z, iv_Z]
  rintro e w34 ⟨rfl, hb34⟩
  replace hR := hR.keep hb34
  clear hb34
  (try clear a1 a2 a3 a4 a5 a6)
  obtain ⟨a1, a2, a3, a4, -⟩ := hR.all2
  go_wp2_with fail
  (with_reducible refine (FromInt64_any (x - y) _ (by omega) (by omega)).mono ?_)
  rintro e w35 ⟨rfl, hb35⟩
  replace hR := hR.keep hb35
  clear hb35
  (try clear a1 a2 a3 a4 a5 a6)
  obtain ⟨a1, a2, a3, a4, -⟩ := hR.all2
  go_wp2_with fail
  refine (Format2_any _ _ _ (by omega)).mono ?_
  rw [iv_Z]
  rintro e w8 ⟨rfl, hb8⟩
  replace hR := hR.keep hb8
  clear hb8 a1 a2 a3 a4
  go_wp2_with fail
  refine (Parse2_any _ _ (by omega)).mono ?_
  rw [parse_decZ]
  rintro e w9 ⟨rfl, hb9⟩
  replace hR := (hR.keep hb9).box (.bool (sg x)) (.string (mg x))
  have hl := (hR.at_ (x := (w9.heap.size, _, _)) (List.mem_cons_self ..))
  clear hb9
  go_wp2_with fail
  refine (fixed_any _).mono ?_
  rintro e w10 ⟨rfl, hb10⟩
  replace hR := hR.keep hb10
  clear hb10 hl
  obtain ⟨a1, a2, a3, a4, a5, a6, -⟩ := hR.all3
  go_wp2_with fail
  go_ret
  exact ⟨rfl, hR.below⟩


set_option maxRecDepth 100000 in
set_option maxHeartbeats 8000000 in
theorem i64_sg_out (x y c : Int) (w : World) (hx1 : -9223372036854775808 ≤ x) (hx2 : x ≤ 9223372036854775807) (hy1 : -9223372036854775808 ≤ y) (hy2 : y ≤ 9223372036854775807) (B : Bool)
    (HC : Hid (cmpZ x y = c)) (d1 : decide (c < 0) = B) (d2 : decide (x < y) = B) (hd : (sg x == sg y) = false) (hc : (x == y) = false) (ho : decide (-2147483648 < x) = false ∨ (decide (-2147483648 < x) = true ∧ decide (x < 2147483648) = false) ∨ (decide (-2147483648 < x) = true ∧ decide (x < 2147483648) = true ∧ decide (-2147483648 < y) = false) ∨ (decide (-2147483648 < x) = true ∧ decide (x < 2147483648) = true ∧ decide (-2147483648 < y) = true ∧ decide (y < 2147483648) = false)) :
    Calls Try.prog 8 #[.int .i64 x, .int .i64 y] w fun e w' => e = .returned (.bool true) ∧ Below w.heap.size w w' := by
  have s1 := int_size hx1 hx2
  have s2 := int_size hy1 hy2
  have s3 : (decZ x).size ≤ 26 := decZ_size s1
  have HX := Lib.hid (i64Val_yes hx1 hx2)
  have hR := Hold.nil w (E := 23)
  go_enter Try.func8, Try.ntmps8
  go_wp2_with fail
  refine (FromInt64_any x _ hx1 hx2).mono ?_
  rintro e w1 ⟨rfl, hb1⟩
  go_wp2_with fail
  refine (FromInt64_any y _ hy1 hy2).mono ?_
  rintro e w2 ⟨rfl, hb2⟩
  replace hR := ((hR.keep hb1).keep hb2).box2 (.bool (sg x)) (.string (mg x)) (.bool (sg y)) (.string (mg y))
  clear hb1 hb2
  (try clear a1 a2 a3 a4 a5 a6)
  obtain ⟨a1, a2, a3, a4, -⟩ := hR.all2
  go_wp2_with fail
  generalize ((w2.alloc (Obj.cells #[Value.bool (sg x), Value.string (mg x)] 23)).alloc (Obj.cells #[Value.bool (sg y), Value.string (mg y)] 23)) = W at hR a1 a2 a3 a4 ⊢
  (with_reducible refine (Int64_any _ _ _ (by simp [maxLen]; omega)).mono ?_)
  rw [iv_Z, HX.out]
  rintro e w3 ⟨rfl, hb3⟩
  replace hR := hR.keep hb3
  clear hb3
  (try clear a1 a2 a3 a4 a5 a6)
  obtain ⟨a1, a2, a3, a4, -⟩ := hR.all2
  go_wp2_with fail
  refine (Cmp2_any _ _ _ _ _ (by omega) (by omega)).mono ?_
  rw [iv_Z, iv_Z, HC.out]
  rintro e w4 ⟨rfl, hb4⟩
  replace hR := hR.keep hb4
  clear hb4
  (try clear a1 a2 a3 a4 a5 a6)
  obtain ⟨a1, a2, a3, a4, -⟩ := hR.all2
  rcases ho with ⟨g1⟩ | ⟨g1, g2⟩ | ⟨g1, g2, g3⟩ | ⟨g1, g2, g3, g4⟩
  all_goals
    go_wp2_with fail
    refine (Format2_any _ _ _ (by omega)).mono ?_
    rw [iv_Z]
    rintro e w8 ⟨rfl, hb8⟩
    replace hR := hR.keep hb8
    clear hb8 a1 a2 a3 a4
    go_wp2_with fail
    refine (Parse2_any _ _ (by omega)).mono ?_
    rw [parse_decZ]
    rintro e w9 ⟨rfl, hb9⟩
    replace hR := (hR.keep hb9).box (.bool (sg x)) (.string (mg x))
    have hl := (hR.at_ (x := (w9.heap.size, _, _)) (List.mem_cons_self ..))
    clear hb9
    go_wp2_with fail
    refine (fixed_any _).mono ?_
    rintro e w10 ⟨rfl, hb10⟩
    replace hR := hR.keep hb10
    clear hb10 hl
    obtain ⟨a1, a2, a3, a4, a5, a6, -⟩ := hR.all3
    go_wp2_with fail
    go_ret
    exact ⟨rfl, hR.below⟩


set_option maxRecDepth 100000 in
set_option maxHeartbeats 8000000 in
theorem i64_mg_in (x y c : Int) (w : World) (hx1 : -9223372036854775808 ≤ x) (hx2 : x ≤ 9223372036854775807) (hy1 : -9223372036854775808 ≤ y) (hy2 : y ≤ 9223372036854775807) (B : Bool)
    (HC : Hid (cmpZ x y = c)) (d1 : decide (c < 0) = B) (d2 : decide (x < y) = B) (hd : ((mg x).toList == (mg y).toList) = false) (hc : (x == y) = false) (j1 : -2147483648 < x) (j2 : x < 2147483648) (j3 : -2147483648 < y) (j4 : y < 2147483648) (p1 : -4611686018427387904 ≤ x * y) (p2 : x * y ≤ 4611686018427387904) :
    Calls Try.prog 8 #[.int .i64 x, .int .i64 y] w fun e w' => e = .returned (.bool true) ∧ Below w.heap.size w w' := by
  have s1 := int_size hx1 hx2
  have s2 := int_size hy1 hy2
  have s3 : (decZ x).size ≤ 26 := decZ_size s1
  have HX := Lib.hid (i64Val_yes hx1 hx2)
  have hR := Hold.nil w (E := 23)
  go_enter Try.func8, Try.ntmps8
  go_wp2_with fail
  refine (FromInt64_any x _ hx1 hx2).mono ?_
  rintro e w1 ⟨rfl, hb1⟩
  go_wp2_with fail
  refine (FromInt64_any y _ hy1 hy2).mono ?_
  rintro e w2 ⟨rfl, hb2⟩
  replace hR := ((hR.keep hb1).keep hb2).box2 (.bool (sg x)) (.string (mg x)) (.bool (sg y)) (.string (mg y))
  clear hb1 hb2
  (try clear a1 a2 a3 a4 a5 a6)
  obtain ⟨a1, a2, a3, a4, -⟩ := hR.all2
  go_wp2_with fail
  generalize ((w2.alloc (Obj.cells #[Value.bool (sg x), Value.string (mg x)] 23)).alloc (Obj.cells #[Value.bool (sg y), Value.string (mg y)] 23)) = W at hR a1 a2 a3 a4 ⊢
  (with_reducible refine (Int64_any _ _ _ (by simp [maxLen]; omega)).mono ?_)
  rw [iv_Z, HX.out]
  rintro e w3 ⟨rfl, hb3⟩
  replace hR := hR.keep hb3
  clear hb3
  (try clear a1 a2 a3 a4 a5 a6)
  obtain ⟨a1, a2, a3, a4, -⟩ := hR.all2
  go_wp2_with fail
  refine (Cmp2_any _ _ _ _ _ (by omega) (by omega)).mono ?_
  rw [iv_Z, iv_Z, HC.out]
  rintro e w4 ⟨rfl, hb4⟩
  replace hR := hR.keep hb4
  clear hb4
  (try clear a1 a2 a3 a4 a5 a6)
  obtain ⟨a1, a2, a3, a4, -⟩ := hR.all2
  go_wp2_with fail
  (with_reducible refine (Add2_any _ _ _ _ _ (by omega) (by omega)).mono ?_)
  rw [iv_Z, iv_Z]
  rintro e w30 ⟨rfl, hb30⟩
  replace hR := hR.keep hb30
  clear hb30
  (try clear a1 a2 a3 a4 a5 a6)
  obtain ⟨a1, a2, a3, a4, -⟩ := hR.all2
  go_wp2_with fail
  (with_reducible refine (FromInt64_any (x + y) _ (by omega) (by omega)).mono ?_)
  rintro e w31 ⟨rfl, hb31⟩
  replace hR := hR.keep hb31
  clear hb31
  (try clear a1 a2 a3 a4 a5 a6)
  obtain ⟨a1, a2, a3, a4, -⟩ := hR.all2
  go_wp2_with fail
  (with_reducible refine (Mul2_any _ _ _ _ _ (by omega) (by omega)).mono ?_)
  rw [iv_Z, iv_Z]
  rintro e w32 ⟨rfl, hb32⟩
  replace hR := hR.keep hb32
  clear hb32
  (try clear a1 a2 a3 a4 a5 a6)
  obtain ⟨a1, a2, a3, a4, -⟩ := hR.all2
  go_wp2_with fail
  (with_reducible refine (FromInt64_any (x * y) _ (by omega) (by omega)).mono ?_)
  rintro e w33 ⟨rfl, hb33⟩
  replace hR := hR.keep hb33
  clear hb33
  (try clear a1 a2 a3 a4 a5 a6)
  obtain ⟨a1, a2, a3, a4, -⟩ := hR.all2
  go_wp2_with fail
  (with_reducible refine (Sub2_any _ _ _ _ _ (by omega) (by omega)).mono ?_)
  rw [iv_Z, iv_Z]
  rintro e w34 ⟨rfl, hb34⟩
  replace hR := hR.keep hb34
  clear hb34
  (try clear a1 a2 a3 a4 a5 a6)
  obtain ⟨a1, a2, a3, a4, -⟩ := hR.all2
  go_wp2_with fail
  (with_reducible refine (FromInt64_any (x - y) _ (by omega) (by omega)).mono ?_)
  rintro e w35 ⟨rfl, hb35⟩
  replace hR := hR.keep hb35
  clear hb35
  (try clear a1 a2 a3 a4 a5 a6)
  obtain ⟨a1, a2, a3, a4, -⟩ := hR.all2
  go_wp2_with fail
  refine (Format2_any _ _ _ (by omega)).mono ?_
  rw [iv_Z]
  rintro e w8 ⟨rfl, hb8⟩
  replace hR := hR.keep hb8
  clear hb8 a1 a2 a3 a4
  go_wp2_with fail
  refine (Parse2_any _ _ (by omega)).mono ?_
  rw [parse_decZ]
  rintro e w9 ⟨rfl, hb9⟩
  replace hR := (hR.keep hb9).box (.bool (sg x)) (.string (mg x))
  have hl := (hR.at_ (x := (w9.heap.size, _, _)) (List.mem_cons_self ..))
  clear hb9
  go_wp2_with fail
  refine (fixed_any _).mono ?_
  rintro e w10 ⟨rfl, hb10⟩
  replace hR := hR.keep hb10
  clear hb10 hl
  obtain ⟨a1, a2, a3, a4, a5, a6, -⟩ := hR.all3
  go_wp2_with fail
  go_ret
  exact ⟨rfl, hR.below⟩


set_option maxRecDepth 100000 in
set_option maxHeartbeats 8000000 in
theorem i64_mg_out (x y c : Int) (w : World) (hx1 : -9223372036854775808 ≤ x) (hx2 : x ≤ 9223372036854775807) (hy1 : -9223372036854775808 ≤ y) (hy2 : y ≤ 9223372036854775807) (B : Bool)
    (HC : Hid (cmpZ x y = c)) (d1 : decide (c < 0) = B) (d2 : decide (x < y) = B) (hd : ((mg x).toList == (mg y).toList) = false) (hc : (x == y) = false) (ho : decide (-2147483648 < x) = false ∨ (decide (-2147483648 < x) = true ∧ decide (x < 2147483648) = false) ∨ (decide (-2147483648 < x) = true ∧ decide (x < 2147483648) = true ∧ decide (-2147483648 < y) = false) ∨ (decide (-2147483648 < x) = true ∧ decide (x < 2147483648) = true ∧ decide (-2147483648 < y) = true ∧ decide (y < 2147483648) = false)) :
    Calls Try.prog 8 #[.int .i64 x, .int .i64 y] w fun e w' => e = .returned (.bool true) ∧ Below w.heap.size w w' := by
  have s1 := int_size hx1 hx2
  have s2 := int_size hy1 hy2
  have s3 : (decZ x).size ≤ 26 := decZ_size s1
  have HX := Lib.hid (i64Val_yes hx1 hx2)
  have hR := Hold.nil w (E := 23)
  go_enter Try.func8, Try.ntmps8
  go_wp2_with fail
  refine (FromInt64_any x _ hx1 hx2).mono ?_
  rintro e w1 ⟨rfl, hb1⟩
  go_wp2_with fail
  refine (FromInt64_any y _ hy1 hy2).mono ?_
  rintro e w2 ⟨rfl, hb2⟩
  replace hR := ((hR.keep hb1).keep hb2).box2 (.bool (sg x)) (.string (mg x)) (.bool (sg y)) (.string (mg y))
  clear hb1 hb2
  (try clear a1 a2 a3 a4 a5 a6)
  obtain ⟨a1, a2, a3, a4, -⟩ := hR.all2
  go_wp2_with fail
  generalize ((w2.alloc (Obj.cells #[Value.bool (sg x), Value.string (mg x)] 23)).alloc (Obj.cells #[Value.bool (sg y), Value.string (mg y)] 23)) = W at hR a1 a2 a3 a4 ⊢
  (with_reducible refine (Int64_any _ _ _ (by simp [maxLen]; omega)).mono ?_)
  rw [iv_Z, HX.out]
  rintro e w3 ⟨rfl, hb3⟩
  replace hR := hR.keep hb3
  clear hb3
  (try clear a1 a2 a3 a4 a5 a6)
  obtain ⟨a1, a2, a3, a4, -⟩ := hR.all2
  go_wp2_with fail
  refine (Cmp2_any _ _ _ _ _ (by omega) (by omega)).mono ?_
  rw [iv_Z, iv_Z, HC.out]
  rintro e w4 ⟨rfl, hb4⟩
  replace hR := hR.keep hb4
  clear hb4
  (try clear a1 a2 a3 a4 a5 a6)
  obtain ⟨a1, a2, a3, a4, -⟩ := hR.all2
  rcases ho with ⟨g1⟩ | ⟨g1, g2⟩ | ⟨g1, g2, g3⟩ | ⟨g1, g2, g3, g4⟩
  all_goals
    go_wp2_with fail
    refine (Format2_any _ _ _ (by omega)).mono ?_
    rw [iv_Z]
    rintro e w8 ⟨rfl, hb8⟩
    replace hR := hR.keep hb8
    clear hb8 a1 a2 a3 a4
    go_wp2_with fail
    refine (Parse2_any _ _ (by omega)).mono ?_
    rw [parse_decZ]
    rintro e w9 ⟨rfl, hb9⟩
    replace hR := (hR.keep hb9).box (.bool (sg x)) (.string (mg x))
    have hl := (hR.at_ (x := (w9.heap.size, _, _)) (List.mem_cons_self ..))
    clear hb9
    go_wp2_with fail
    refine (fixed_any _).mono ?_
    rintro e w10 ⟨rfl, hb10⟩
    replace hR := hR.keep hb10
    clear hb10 hl
    obtain ⟨a1, a2, a3, a4, a5, a6, -⟩ := hR.all3
    go_wp2_with fail
    go_ret
    exact ⟨rfl, hR.below⟩


set_option maxRecDepth 100000 in
set_option maxHeartbeats 8000000 in
theorem i64_eq_in (x y c : Int) (w : World) (hx1 : -9223372036854775808 ≤ x) (hx2 : x ≤ 9223372036854775807) (hy1 : -9223372036854775808 ≤ y) (hy2 : y ≤ 9223372036854775807) (B : Bool)
    (HC : Hid (cmpZ x y = c)) (d1 : decide (c < 0) = B) (d2 : decide (x < y) = B) (hd : (sg x == sg y) = true) (he : ((mg x).toList == (mg y).toList) = true) (hc : (x == y) = true) (j1 : -2147483648 < x) (j2 : x < 2147483648) (j3 : -2147483648 < y) (j4 : y < 2147483648) (p1 : -4611686018427387904 ≤ x * y) (p2 : x * y ≤ 4611686018427387904) :
    Calls Try.prog 8 #[.int .i64 x, .int .i64 y] w fun e w' => e = .returned (.bool true) ∧ Below w.heap.size w w' := by
  have s1 := int_size hx1 hx2
  have s2 := int_size hy1 hy2
  have s3 : (decZ x).size ≤ 26 := decZ_size s1
  have HX := Lib.hid (i64Val_yes hx1 hx2)
  have hR := Hold.nil w (E := 23)
  go_enter Try.func8, Try.ntmps8
  go_wp2_with fail
  refine (FromInt64_any x _ hx1 hx2).mono ?_
  rintro e w1 ⟨rfl, hb1⟩
  go_wp2_with fail
  refine (FromInt64_any y _ hy1 hy2).mono ?_
  rintro e w2 ⟨rfl, hb2⟩
  replace hR := ((hR.keep hb1).keep hb2).box2 (.bool (sg x)) (.string (mg x)) (.bool (sg y)) (.string (mg y))
  clear hb1 hb2
  (try clear a1 a2 a3 a4 a5 a6)
  obtain ⟨a1, a2, a3, a4, -⟩ := hR.all2
  go_wp2_with fail
  generalize ((w2.alloc (Obj.cells #[Value.bool (sg x), Value.string (mg x)] 23)).alloc (Obj.cells #[Value.bool (sg y), Value.string (mg y)] 23)) = W at hR a1 a2 a3 a4 ⊢
  (with_reducible refine (Int64_any _ _ _ (by simp [maxLen]; omega)).mono ?_)
  rw [iv_Z, HX.out]
  rintro e w3 ⟨rfl, hb3⟩
  replace hR := hR.keep hb3
  clear hb3
  (try clear a1 a2 a3 a4 a5 a6)
  obtain ⟨a1, a2, a3, a4, -⟩ := hR.all2
  go_wp2_with fail
  refine (Cmp2_any _ _ _ _ _ (by omega) (by omega)).mono ?_
  rw [iv_Z, iv_Z, HC.out]
  rintro e w4 ⟨rfl, hb4⟩
  replace hR := hR.keep hb4
  clear hb4
  (try clear a1 a2 a3 a4 a5 a6)
  obtain ⟨a1, a2, a3, a4, -⟩ := hR.all2
  go_wp2_with fail
  (with_reducible refine (Add2_any _ _ _ _ _ (by omega) (by omega)).mono ?_)
  rw [iv_Z, iv_Z]
  rintro e w30 ⟨rfl, hb30⟩
  replace hR := hR.keep hb30
  clear hb30
  (try clear a1 a2 a3 a4 a5 a6)
  obtain ⟨a1, a2, a3, a4, -⟩ := hR.all2
  go_wp2_with fail
  (with_reducible refine (FromInt64_any (x + y) _ (by omega) (by omega)).mono ?_)
  rintro e w31 ⟨rfl, hb31⟩
  replace hR := hR.keep hb31
  clear hb31
  (try clear a1 a2 a3 a4 a5 a6)
  obtain ⟨a1, a2, a3, a4, -⟩ := hR.all2
  go_wp2_with fail
  (with_reducible refine (Mul2_any _ _ _ _ _ (by omega) (by omega)).mono ?_)
  rw [iv_Z, iv_Z]
  rintro e w32 ⟨rfl, hb32⟩
  replace hR := hR.keep hb32
  clear hb32
  (try clear a1 a2 a3 a4 a5 a6)
  obtain ⟨a1, a2, a3, a4, -⟩ := hR.all2
  go_wp2_with fail
  (with_reducible refine (FromInt64_any (x * y) _ (by omega) (by omega)).mono ?_)
  rintro e w33 ⟨rfl, hb33⟩
  replace hR := hR.keep hb33
  clear hb33
  (try clear a1 a2 a3 a4 a5 a6)
  obtain ⟨a1, a2, a3, a4, -⟩ := hR.all2
  go_wp2_with fail
  (with_reducible refine (Sub2_any _ _ _ _ _ (by omega) (by omega)).mono ?_)
  rw [iv_Z, iv_Z]
  rintro e w34 ⟨rfl, hb34⟩
  replace hR := hR.keep hb34
  clear hb34
  (try clear a1 a2 a3 a4 a5 a6)
  obtain ⟨a1, a2, a3, a4, -⟩ := hR.all2
  go_wp2_with fail
  (with_reducible refine (FromInt64_any (x - y) _ (by omega) (by omega)).mono ?_)
  rintro e w35 ⟨rfl, hb35⟩
  replace hR := hR.keep hb35
  clear hb35
  (try clear a1 a2 a3 a4 a5 a6)
  obtain ⟨a1, a2, a3, a4, -⟩ := hR.all2
  go_wp2_with fail
  refine (Format2_any _ _ _ (by omega)).mono ?_
  rw [iv_Z]
  rintro e w8 ⟨rfl, hb8⟩
  replace hR := hR.keep hb8
  clear hb8 a1 a2 a3 a4
  go_wp2_with fail
  refine (Parse2_any _ _ (by omega)).mono ?_
  rw [parse_decZ]
  rintro e w9 ⟨rfl, hb9⟩
  replace hR := (hR.keep hb9).box (.bool (sg x)) (.string (mg x))
  have hl := (hR.at_ (x := (w9.heap.size, _, _)) (List.mem_cons_self ..))
  clear hb9
  go_wp2_with fail
  refine (fixed_any _).mono ?_
  rintro e w10 ⟨rfl, hb10⟩
  replace hR := hR.keep hb10
  clear hb10 hl
  obtain ⟨a1, a2, a3, a4, a5, a6, -⟩ := hR.all3
  go_wp2_with fail
  go_ret
  exact ⟨rfl, hR.below⟩


set_option maxRecDepth 100000 in
set_option maxHeartbeats 8000000 in
theorem i64_eq_out (x y c : Int) (w : World) (hx1 : -9223372036854775808 ≤ x) (hx2 : x ≤ 9223372036854775807) (hy1 : -9223372036854775808 ≤ y) (hy2 : y ≤ 9223372036854775807) (B : Bool)
    (HC : Hid (cmpZ x y = c)) (d1 : decide (c < 0) = B) (d2 : decide (x < y) = B) (hd : (sg x == sg y) = true) (he : ((mg x).toList == (mg y).toList) = true) (hc : (x == y) = true) (ho : decide (-2147483648 < x) = false ∨ (decide (-2147483648 < x) = true ∧ decide (x < 2147483648) = false) ∨ (decide (-2147483648 < x) = true ∧ decide (x < 2147483648) = true ∧ decide (-2147483648 < y) = false) ∨ (decide (-2147483648 < x) = true ∧ decide (x < 2147483648) = true ∧ decide (-2147483648 < y) = true ∧ decide (y < 2147483648) = false)) :
    Calls Try.prog 8 #[.int .i64 x, .int .i64 y] w fun e w' => e = .returned (.bool true) ∧ Below w.heap.size w w' := by
  have s1 := int_size hx1 hx2
  have s2 := int_size hy1 hy2
  have s3 : (decZ x).size ≤ 26 := decZ_size s1
  have HX := Lib.hid (i64Val_yes hx1 hx2)
  have hR := Hold.nil w (E := 23)
  go_enter Try.func8, Try.ntmps8
  go_wp2_with fail
  refine (FromInt64_any x _ hx1 hx2).mono ?_
  rintro e w1 ⟨rfl, hb1⟩
  go_wp2_with fail
  refine (FromInt64_any y _ hy1 hy2).mono ?_
  rintro e w2 ⟨rfl, hb2⟩
  replace hR := ((hR.keep hb1).keep hb2).box2 (.bool (sg x)) (.string (mg x)) (.bool (sg y)) (.string (mg y))
  clear hb1 hb2
  (try clear a1 a2 a3 a4 a5 a6)
  obtain ⟨a1, a2, a3, a4, -⟩ := hR.all2
  go_wp2_with fail
  generalize ((w2.alloc (Obj.cells #[Value.bool (sg x), Value.string (mg x)] 23)).alloc (Obj.cells #[Value.bool (sg y), Value.string (mg y)] 23)) = W at hR a1 a2 a3 a4 ⊢
  (with_reducible refine (Int64_any _ _ _ (by simp [maxLen]; omega)).mono ?_)
  rw [iv_Z, HX.out]
  rintro e w3 ⟨rfl, hb3⟩
  replace hR := hR.keep hb3
  clear hb3
  (try clear a1 a2 a3 a4 a5 a6)
  obtain ⟨a1, a2, a3, a4, -⟩ := hR.all2
  go_wp2_with fail
  refine (Cmp2_any _ _ _ _ _ (by omega) (by omega)).mono ?_
  rw [iv_Z, iv_Z, HC.out]
  rintro e w4 ⟨rfl, hb4⟩
  replace hR := hR.keep hb4
  clear hb4
  (try clear a1 a2 a3 a4 a5 a6)
  obtain ⟨a1, a2, a3, a4, -⟩ := hR.all2
  rcases ho with ⟨g1⟩ | ⟨g1, g2⟩ | ⟨g1, g2, g3⟩ | ⟨g1, g2, g3, g4⟩
  all_goals
    go_wp2_with fail
    refine (Format2_any _ _ _ (by omega)).mono ?_
    rw [iv_Z]
    rintro e w8 ⟨rfl, hb8⟩
    replace hR := hR.keep hb8
    clear hb8 a1 a2 a3 a4
    go_wp2_with fail
    refine (Parse2_any _ _ (by omega)).mono ?_
    rw [parse_decZ]
    rintro e w9 ⟨rfl, hb9⟩
    replace hR := (hR.keep hb9).box (.bool (sg x)) (.string (mg x))
    have hl := (hR.at_ (x := (w9.heap.size, _, _)) (List.mem_cons_self ..))
    clear hb9
    go_wp2_with fail
    refine (fixed_any _).mono ?_
    rintro e w10 ⟨rfl, hb10⟩
    replace hR := hR.keep hb10
    clear hb10 hl
    obtain ⟨a1, a2, a3, a4, a5, a6, -⟩ := hR.all3
    go_wp2_with fail
    go_ret
    exact ⟨rfl, hR.below⟩


theorem out_cases {x y : Int} (h : ¬ (-2147483648 < x ∧ x < 2147483648 ∧ -2147483648 < y ∧ y < 2147483648)) : decide (-2147483648 < x) = false ∨ (decide (-2147483648 < x) = true ∧ decide (x < 2147483648) = false) ∨ (decide (-2147483648 < x) = true ∧ decide (x < 2147483648) = true ∧ decide (-2147483648 < y) = false) ∨ (decide (-2147483648 < x) = true ∧ decide (x < 2147483648) = true ∧ decide (-2147483648 < y) = true ∧ decide (y < 2147483648) = false) := by
  by_cases h1 : -2147483648 < x
  · by_cases h2 : x < 2147483648
    · by_cases h3 : -2147483648 < y
      · exact .inr (.inr (.inr ⟨decide_eq_true h1, decide_eq_true h2, decide_eq_true h3, decide_eq_false (fun h4 => h ⟨h1, h2, h3, h4⟩)⟩))
      · exact .inr (.inr (.inl ⟨decide_eq_true h1, decide_eq_true h2, decide_eq_false h3⟩))
    · exact .inr (.inl ⟨decide_eq_true h1, decide_eq_false h2⟩)
  · exact .inl (decide_eq_false h1)
theorem cmp_dec (x y : Int) : decide (cmpZ x y < 0) = decide (x < y) := by
  rcases Int.lt_trichotomy x y with h | h | h
  · rw [cmpZ_lt h, decide_eq_true h]; rfl
  · rw [cmpZ_eq h, show decide (x < y) = false from decide_eq_false (by omega)]; rfl
  · rw [cmpZ_gt h, show decide (x < y) = false from decide_eq_false (by omega)]; rfl
theorem prod_bd {x y : Int} (h1 : -2147483648 < x) (h2 : x < 2147483648) (h3 : -2147483648 < y) (h4 : y < 2147483648) : -4611686018427387904 ≤ x * y ∧ x * y ≤ 4611686018427387904 := by
  have a : x.natAbs ≤ 2147483648 := by omega
  have b : y.natAbs ≤ 2147483648 := by omega
  have c : (x * y).natAbs ≤ 2147483648 * 2147483648 := by
    rw [Int.natAbs_mul]
    exact Nat.mul_le_mul a b
  omega
theorem IntegerInt64_any (x y : Int) (w : World) (hx1 : -9223372036854775808 ≤ x) (hx2 : x ≤ 9223372036854775807) (hy1 : -9223372036854775808 ≤ y) (hy2 : y ≤ 9223372036854775807) :
    Calls Try.prog 8 #[.int .i64 x, .int .i64 y] w fun e w' => e = .returned (.bool true) ∧ Below w.heap.size w w' := by
  by_cases hi : -2147483648 < x ∧ x < 2147483648 ∧ -2147483648 < y ∧ y < 2147483648
  · obtain ⟨j1, j2, j3, j4⟩ := hi
    obtain ⟨p1, p2⟩ := prod_bd j1 j2 j3 j4
    by_cases hxy : x = y
    · exact i64_eq_in x y _ w hx1 hx2 hy1 hy2 _ rfl (cmp_dec x y) rfl (by rw [hxy]; exact beq_self_eq_true _) (by rw [hxy]; exact beq_self_eq_true _) (by rw [hxy]; exact beq_self_eq_true _) j1 j2 j3 j4 p1 p2
    · rcases Z_differ2 hxy with hd | hd
      · exact i64_sg_in x y _ w hx1 hx2 hy1 hy2 _ rfl (cmp_dec x y) rfl (beq_eq_false_iff_ne.2 hd) (beq_eq_false_iff_ne.2 hxy) j1 j2 j3 j4 p1 p2
      · exact i64_mg_in x y _ w hx1 hx2 hy1 hy2 _ rfl (cmp_dec x y) rfl (by rw [beq_bytes, decide_eq_false hd]) (beq_eq_false_iff_ne.2 hxy) j1 j2 j3 j4 p1 p2
  · have ho := out_cases hi
    by_cases hxy : x = y
    · exact i64_eq_out x y _ w hx1 hx2 hy1 hy2 _ rfl (cmp_dec x y) rfl (by rw [hxy]; exact beq_self_eq_true _) (by rw [hxy]; exact beq_self_eq_true _) (by rw [hxy]; exact beq_self_eq_true _) ho
    · rcases Z_differ2 hxy with hd | hd
      · exact i64_sg_out x y _ w hx1 hx2 hy1 hy2 _ rfl (cmp_dec x y) rfl (beq_eq_false_iff_ne.2 hd) (beq_eq_false_iff_ne.2 hxy) ho
      · exact i64_mg_out x y _ w hx1 hx2 hy1 hy2 _ rfl (cmp_dec x y) rfl (by rw [beq_bytes, decide_eq_false hd]) (beq_eq_false_iff_ne.2 hxy) ho
end Go.Proofs.Ytmfinfnjamgboaa
