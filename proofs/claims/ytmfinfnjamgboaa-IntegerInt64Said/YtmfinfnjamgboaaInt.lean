/- integer.Mul, Add, Sub and the reference's. -/
import Derived.Test.YtmfinfnjamgboaaCanon
import Derived.Test.YtmfinfnjamgboaaMul
import Derived.Test.YtmfinfnjamgboaaRefMul
import Derived.Test.YtmfinfnjamgboaaAdd
import Derived.Test.YtmfinfnjamgboaaRef
import Derived.Test.YtmfinfnjamgboaaSub
namespace Go.Proofs.Ytmfinfnjamgboaa
open Go.RowKit NM

/-- Two cells that may be written. -/
def Two (w : World) (g : Nat) (E : TypeId) : Prop := ∃ u v, Blk w g E [u, v]
section
variable {w wn w0 : World} {g g1 g2 g3 : Nat} {E : TypeId} {u v u1 v1 u2 v2 : Value} {cs : List Value}
theorem Two.keep (h : Two w g E) (hb : Below w.heap.size w wn) : Two wn g E := by
  obtain ⟨u, v, h⟩ := h
  exact ⟨u, v, h.keep hb⟩
theorem Two.set (h : Two w g E) (x y : Value) : Two ((w.setCell ⟨g, 0, none⟩ x).setCell ⟨g, 1, none⟩ y) g E := by
  obtain ⟨u, v, h⟩ := h
  exact ⟨x, y, (h.set 0 x).set 1 y⟩
theorem Blk.far (h : Blk w g E cs) (hne : g3 ≠ g) (x y : Value) : Blk ((w.setCell ⟨g3, 0, none⟩ x).setCell ⟨g3, 1, none⟩ y) g E cs := (h.setOther hne x).setOther hne y
/-- Two integers in boxes and a place for the result. -/
def Rest2 (w0 : World) (g1 g2 g3 : Nat) (E : TypeId) (u1 v1 u2 v2 : Value) (w : World) : Prop :=
  (Blk w g1 E [u1, v1] ∧ Blk w g2 E [u2, v2] ∧ Two w g3 E) ∧ Below w0.heap.size w0 w ∧ g3 ≠ g1 ∧ g3 ≠ g2 ∧ w0.heap.size ≤ g3
theorem Rest2.all (h : Rest2 w0 g1 g2 g3 E u1 v1 u2 v2 w) :
    w.cell? ⟨g1, 0, none⟩ = some u1 ∧ w.cell? ⟨g1, 1, none⟩ = some v1 ∧ w.cell? ⟨g2, 0, none⟩ = some u2 ∧ w.cell? ⟨g2, 1, none⟩ = some v2 ∧ Rest2 w0 g1 g2 g3 E u1 v1 u2 v2 w :=
  ⟨h.1.1.two.1, h.1.1.two.2.1, h.1.2.1.two.1, h.1.2.1.two.2.1, h⟩
theorem Rest2.drew (h : Rest2 w0 g1 g2 g3 E u1 v1 u2 v2 w) : Rest2 w0 g1 g2 g3 E u1 v1 u2 v2 w.drew := ⟨h.1, h.2.1.drew, h.2.2⟩
theorem Rest2.keep (h : Rest2 w0 g1 g2 g3 E u1 v1 u2 v2 w) (hb : Below w.heap.size w wn) : Rest2 w0 g1 g2 g3 E u1 v1 u2 v2 wn :=
  ⟨⟨h.1.1.keep hb, h.1.2.1.keep hb, h.1.2.2.keep hb⟩, then_ h.2.1 hb, h.2.2⟩
theorem Rest2.set (h : Rest2 w0 g1 g2 g3 E u1 v1 u2 v2 w) (x y : Value) : Rest2 w0 g1 g2 g3 E u1 v1 u2 v2 ((w.setCell ⟨g3, 0, none⟩ x).setCell ⟨g3, 1, none⟩ y) :=
  ⟨⟨h.1.1.far h.2.2.1 x y, h.1.2.1.far h.2.2.2.1 x y, h.1.2.2.set x y⟩, set2 h.2.1 h.2.2.2.2 x y, h.2.2⟩
theorem Rest2.two (h : Rest2 w0 g1 g2 g3 E u1 v1 u2 v2 w) : ∃ u v, w.cell? ⟨g3, 0, none⟩ = some u ∧ w.cell? ⟨g3, 1, none⟩ = some v ∧ w.frozen? ⟨g3, 0, none⟩ = false ∧ w.frozen? ⟨g3, 1, none⟩ = false := by
  obtain ⟨u, v, h⟩ := h.1.2.2
  exact ⟨u, v, h.two⟩
theorem Rest2.below (h : Rest2 w0 g1 g2 g3 E u1 v1 u2 v2 w) : Below w0.heap.size w0 w := h.2.1
/-- The world in which a function of two integers begins. -/
theorem Rest2.start (w : World) (E : TypeId) (u1 v1 u2 v2 x y : Value) :
    Rest2 w w.heap.size (w.heap.size + 1) (w.heap.size + 1 + 1) E u1 v1 u2 v2 (((w.alloc (.cells #[u1, v1] E)).alloc (.cells #[u2, v2] E)).alloc (.cells #[x, y] E)) :=
  ⟨⟨((Blk.new w #[u1, v1] E).alloc _).alloc _, (Blk.new1 w _ #[u2, v2] E).alloc _, ⟨x, y, Blk.new2 w _ _ #[x, y] E⟩⟩, bel3 w _ _ _ (Below.refl _ _), by omega, by omega, by omega⟩
end

theorem iv_mul (n m : Bool) (s t : ByteArray) : iv (!(n == m)) (can (nat s * nat t)) = iv n s * iv m t := by
  cases n <;> cases m <;> simp [iv, nat_can, Int.neg_mul, Int.mul_neg]
theorem iv_add_same (n : Bool) (s t : ByteArray) : iv n (can (nat s + nat t)) = iv n s + iv n t := by
  cases n <;> simp [iv, nat_can]
  omega
theorem iv_add_ge {n m : Bool} {s t : ByteArray} (hnm : (n == m) = false) (h : nat t ≤ nat s) : iv n s + iv m t = iv n (can (nat s - nat t)) := by
  cases n <;> cases m <;> simp [iv, nat_can] at hnm ⊢ <;> omega
theorem iv_add_lt {n m : Bool} {s t : ByteArray} (hnm : (n == m) = false) (h : nat s < nat t) : iv n s + iv m t = iv m (can (nat t - nat s)) := by
  cases n <;> cases m <;> simp [iv, nat_can] at hnm ⊢ <;> omega
theorem can_mul_size (s t : ByteArray) : (can (nat s * nat t)).size ≤ s.size + t.size := can_size_le (by
  rw [Nat.pow_add]
  exact Nat.mul_lt_mul'' (nat_lt s) (nat_lt t))
theorem can_sub_size (s : ByteArray) (k : Nat) : (can (nat s - k)).size ≤ s.size := can_size_le (Nat.lt_of_le_of_lt (Nat.sub_le _ _) (nat_lt s))
theorem can_add_size (s t : ByteArray) : (can (nat s + nat t)).size ≤ s.size + t.size + 1 := can_size_le (by
  have h1 := Nat.lt_of_lt_of_le (nat_lt s) (Nat.pow_le_pow_right (n := 256) (by omega) (show s.size ≤ s.size + t.size by omega))
  have h2 := Nat.lt_of_lt_of_le (nat_lt t) (Nat.pow_le_pow_right (n := 256) (by omega) (show t.size ≤ s.size + t.size by omega))
  rw [Nat.pow_succ]
  omega)

set_option maxHeartbeats 1000000 in
theorem Mul2_any (n m : Bool) (s t : ByteArray) (w : World) (hs : s.size ≤ 1073741824) (ht : t.size ≤ 1073741824) :
    Calls Try.prog 25 #[I2 n s, I2 m t] w fun e w' => e = .returned (Z (iv n s * iv m t)) ∧ Below w.heap.size w w' := by
  have hst := can_mul_size s t
  rw [← iv_mul]
  have hR := Rest2.start w 23 (.bool n) (.string s) (.bool m) (.string t) (.bool false) (.string ⟨#[]⟩)
  go_enter Try.func25, Try.ntmps25
  go_wp2_with fail
  generalize ((w.alloc (Obj.cells #[Value.bool n, Value.string s] 23)).alloc (Obj.cells #[Value.bool m, Value.string t] 23)).alloc (Obj.cells #[Value.bool false, Value.string ⟨#[]⟩] 23) = W at hR ⊢
  go_region_held3 (fun w' => w'.cell? ⟨w.heap.size, 0, none⟩ = some (.bool n) ∧ w'.cell? ⟨w.heap.size, 1, none⟩ = some (.string s) ∧ w'.cell? ⟨w.heap.size + 1, 0, none⟩ = some (.bool m) ∧ w'.cell? ⟨w.heap.size + 1, 1, none⟩ = some (.string t) ∧ Rest2 w w.heap.size (w.heap.size + 1) (w.heap.size + 1 + 1) 23 (.bool n) (.string s) (.bool m) (.string t) w')
    (first | exact (hR.drew).all | exact hRn.all | exact (hRn.set _ _).all)
    (first
      | (go_at_call 44; refine (Mul_any _ _ _ ?_ ?_).mono ?_; omega; omega; rintro e wn ⟨rfl, hbn⟩; go_split_ands; have hRn := Rest2.keep (by assumption) hbn)
      | (go_at_call 31; refine (canonical_any _ _ _ ?_).mono ?_; (simp [maxLen]; omega); rintro e wn ⟨rfl, hbn⟩; go_split_ands; have hRn := Rest2.keep (by assumption) hbn; obtain ⟨u, v, c1, c2, f1, f2⟩ := hRn.two))
  go_wp2_with fail
  exact bodyPost_ret (by simp [results, Try.results25, go_sem, c1, c2]) rfl ⟨rfl, (hRn.set _ _).below⟩

set_option maxHeartbeats 1000000 in
theorem refMul2_any (n m : Bool) (s t : ByteArray) (w : World) (hs : s.size ≤ 1073741824) (ht : t.size ≤ 1073741824) :
    Calls Try.prog 26 #[I2 n s, I2 m t] w fun e w' => e = .returned (Z (iv n s * iv m t)) ∧ Below w.heap.size w w' := by
  have hst := can_mul_size s t
  rw [← iv_mul]
  have hR := Rest2.start w 23 (.bool n) (.string s) (.bool m) (.string t) (.bool false) (.string ⟨#[]⟩)
  go_enter Try.func26, Try.ntmps26
  go_wp2_with fail
  generalize ((w.alloc (Obj.cells #[Value.bool n, Value.string s] 23)).alloc (Obj.cells #[Value.bool m, Value.string t] 23)).alloc (Obj.cells #[Value.bool false, Value.string ⟨#[]⟩] 23) = W at hR ⊢
  go_region_held3 (fun w' => w'.cell? ⟨w.heap.size, 0, none⟩ = some (.bool n) ∧ w'.cell? ⟨w.heap.size, 1, none⟩ = some (.string s) ∧ w'.cell? ⟨w.heap.size + 1, 0, none⟩ = some (.bool m) ∧ w'.cell? ⟨w.heap.size + 1, 1, none⟩ = some (.string t) ∧ Rest2 w w.heap.size (w.heap.size + 1) (w.heap.size + 1 + 1) 23 (.bool n) (.string s) (.bool m) (.string t) w')
    (first | exact (hR.drew).all | exact hRn.all | exact (hRn.set _ _).all)
    (first
      | (go_at_call 45; refine (refMul_any _ _ _ ?_ ?_).mono ?_; omega; omega; rintro e wn ⟨rfl, hbn⟩; go_split_ands; have hRn := Rest2.keep (by assumption) hbn)
      | (go_at_call 34; refine (of_any _ _ _ ?_).mono ?_; (simp [maxLen]; omega); rintro e wn ⟨rfl, hbn⟩; go_split_ands; have hRn := Rest2.keep (by assumption) hbn; obtain ⟨u, v, c1, c2, f1, f2⟩ := hRn.two))
  go_wp2_with fail
  exact bodyPost_ret (by simp [results, Try.results26, go_sem, c1, c2]) rfl ⟨rfl, (hRn.set _ _).below⟩

set_option maxHeartbeats 1000000 in
theorem Add2_any_same (n : Bool) (s t : ByteArray) (w : World) (hs : s.size ≤ 1073741824) (ht : t.size ≤ 1073741824) :
    Calls Try.prog 11 #[I2 n s, I2 n t] w fun e w' => e = .returned (Z (iv n s + iv n t)) ∧ Below w.heap.size w w' := by
  have hst := can_add_size s t
  rw [← iv_add_same]
  have hnn : (n == n) = true := beq_self_eq_true n
  have hR := Rest2.start w 23 (.bool n) (.string s) (.bool n) (.string t) (.bool false) (.string ⟨#[]⟩)
  go_enter Try.func11, Try.ntmps11
  go_wp2_with fail
  generalize ((w.alloc (Obj.cells #[Value.bool n, Value.string s] 23)).alloc (Obj.cells #[Value.bool n, Value.string t] 23)).alloc (Obj.cells #[Value.bool false, Value.string ⟨#[]⟩] 23) = W at hR ⊢
  go_region_held3 (fun w' => w'.cell? ⟨w.heap.size, 0, none⟩ = some (.bool n) ∧ w'.cell? ⟨w.heap.size, 1, none⟩ = some (.string s) ∧ w'.cell? ⟨w.heap.size + 1, 0, none⟩ = some (.bool n) ∧ w'.cell? ⟨w.heap.size + 1, 1, none⟩ = some (.string t) ∧ Rest2 w w.heap.size (w.heap.size + 1) (w.heap.size + 1 + 1) 23 (.bool n) (.string s) (.bool n) (.string t) w')
    (first | exact (hR.drew).all | exact hRn.all | exact (hRn.set _ _).all)
    (first
      | (go_at_call 32; refine (Add_any _ _ _ ?_ ?_).mono ?_; omega; omega; rintro e wn ⟨rfl, hbn⟩; go_split_ands; have hRn := Rest2.keep (by assumption) hbn)
      | (go_at_call 31; refine (canonical_any _ _ _ ?_).mono ?_; (simp [maxLen]; omega); rintro e wn ⟨rfl, hbn⟩; go_split_ands; have hRn := Rest2.keep (by assumption) hbn; obtain ⟨u, v, c1, c2, f1, f2⟩ := hRn.two))
  go_wp2_with fail
  exact bodyPost_ret (by simp [results, Try.results11, go_sem, c1, c2]) rfl ⟨rfl, (hRn.set _ _).below⟩
set_option maxHeartbeats 1000000 in
theorem Add2_any_other (n m : Bool) (s t : ByteArray) (w : World) (hnm : (n == m) = false) (hs : s.size ≤ 1073741824) (ht : t.size ≤ 1073741824) :
    Calls Try.prog 11 #[I2 n s, I2 m t] w fun e w' => e = .returned (Z (iv n s + iv m t)) ∧ Below w.heap.size w w' := by
  by_cases h : nat t ≤ nat s
  · rw [iv_add_ge hnm h]
    have hst := can_sub_size s (nat t)
    have hv := subVal_ge h
    clear h
    have hR := Rest2.start w 23 (.bool n) (.string s) (.bool m) (.string t) (.bool false) (.string ⟨#[]⟩)
    go_enter Try.func11, Try.ntmps11
    go_wp2_with fail
    refine (Sub_any s t _ (by omega) (by omega)).mono ?_
    rintro e w1 ⟨rfl, hb1⟩
    rw [hv]
    clear hv
    have hR1 := hR.keep hb1
    obtain ⟨a1, a2, a3, a4, -⟩ := hR1.all
    clear hR hb1
    go_wp2_with fail
    refine (canonical_any n _ _ (by simp [maxLen]; omega)).mono ?_
    rintro e w2 ⟨rfl, hb2⟩
    have hRn := hR1.keep hb2
    obtain ⟨u, v, c1, c2, f1, f2⟩ := hRn.two
    go_wp2_with fail
    exact bodyPost_ret (by simp [results, Try.results11, go_sem, c1, c2]) rfl ⟨rfl, (hRn.set _ _).below⟩
  · have h' : nat s < nat t := by omega
    rw [iv_add_lt hnm h']
    have hst := can_sub_size t (nat s)
    have hv := subVal_lt h'
    have hv2 := subVal_ge (Nat.le_of_lt h')
    clear h h'
    have hR := Rest2.start w 23 (.bool n) (.string s) (.bool m) (.string t) (.bool false) (.string ⟨#[]⟩)
    go_enter Try.func11, Try.ntmps11
    go_wp2_with fail
    refine (Sub_any s t _ (by omega) (by omega)).mono ?_
    rintro e w1 ⟨rfl, hb1⟩
    rw [hv]
    clear hv
    have hR1 := hR.keep hb1
    obtain ⟨a1, a2, a3, a4, -⟩ := hR1.all
    clear hR hb1
    go_wp2_with fail
    refine (Sub_any t s _ (by omega) (by omega)).mono ?_
    rintro e w2 ⟨rfl, hb2⟩
    rw [hv2]
    clear hv2
    have hR2 := hR1.keep hb2
    clear a1 a2 a3 a4 hR1 hb2
    obtain ⟨a1, a2, a3, a4, -⟩ := hR2.all
    go_wp2_with fail
    refine (canonical_any m _ _ (by simp [maxLen]; omega)).mono ?_
    rintro e w3 ⟨rfl, hb3⟩
    have hRn := hR2.keep hb3
    obtain ⟨u, v, c1, c2, f1, f2⟩ := hRn.two
    go_wp2_with fail
    exact bodyPost_ret (by simp [results, Try.results11, go_sem, c1, c2]) rfl ⟨rfl, (hRn.set _ _).below⟩
theorem Add2_any (n m : Bool) (s t : ByteArray) (w : World) (hs : s.size ≤ 1073741824) (ht : t.size ≤ 1073741824) :
    Calls Try.prog 11 #[I2 n s, I2 m t] w fun e w' => e = .returned (Z (iv n s + iv m t)) ∧ Below w.heap.size w w' := by
  rcases h : (n == m) with _ | _
  · exact Add2_any_other n m s t w h hs ht
  · obtain rfl : n = m := by simpa using h
    exact Add2_any_same n s t w hs ht

set_option maxHeartbeats 1000000 in
theorem refAdd2_any_same (n : Bool) (s t : ByteArray) (w : World) (hs : s.size ≤ 1073741824) (ht : t.size ≤ 1073741824) :
    Calls Try.prog 12 #[I2 n s, I2 n t] w fun e w' => e = .returned (Z (iv n s + iv n t)) ∧ Below w.heap.size w w' := by
  have hst := can_add_size s t
  rw [← iv_add_same]
  have hnn : (n == n) = true := beq_self_eq_true n
  have hR := Rest2.start w 23 (.bool n) (.string s) (.bool n) (.string t) (.bool false) (.string ⟨#[]⟩)
  go_enter Try.func12, Try.ntmps12
  go_wp2_with fail
  generalize ((w.alloc (Obj.cells #[Value.bool n, Value.string s] 23)).alloc (Obj.cells #[Value.bool n, Value.string t] 23)).alloc (Obj.cells #[Value.bool false, Value.string ⟨#[]⟩] 23) = W at hR ⊢
  go_region_held3 (fun w' => w'.cell? ⟨w.heap.size, 0, none⟩ = some (.bool n) ∧ w'.cell? ⟨w.heap.size, 1, none⟩ = some (.string s) ∧ w'.cell? ⟨w.heap.size + 1, 0, none⟩ = some (.bool n) ∧ w'.cell? ⟨w.heap.size + 1, 1, none⟩ = some (.string t) ∧ Rest2 w w.heap.size (w.heap.size + 1) (w.heap.size + 1 + 1) 23 (.bool n) (.string s) (.bool n) (.string t) w')
    (first | exact (hR.drew).all | exact hRn.all | exact (hRn.set _ _).all)
    (first
      | (go_at_call 35; refine (refAdd_any _ _ _ ?_ ?_).mono ?_; omega; omega; rintro e wn ⟨rfl, hbn⟩; go_split_ands; have hRn := Rest2.keep (by assumption) hbn)
      | (go_at_call 34; refine (of_any _ _ _ ?_).mono ?_; (simp [maxLen]; omega); rintro e wn ⟨rfl, hbn⟩; go_split_ands; have hRn := Rest2.keep (by assumption) hbn; obtain ⟨u, v, c1, c2, f1, f2⟩ := hRn.two))
  go_wp2_with fail
  exact bodyPost_ret (by simp [results, Try.results12, go_sem, c1, c2]) rfl ⟨rfl, (hRn.set _ _).below⟩
set_option maxHeartbeats 1000000 in
theorem refAdd2_any_other (n m : Bool) (s t : ByteArray) (w : World) (hnm : (n == m) = false) (hs : s.size ≤ 1073741824) (ht : t.size ≤ 1073741824) :
    Calls Try.prog 12 #[I2 n s, I2 m t] w fun e w' => e = .returned (Z (iv n s + iv m t)) ∧ Below w.heap.size w w' := by
  by_cases h : nat t ≤ nat s
  · rw [iv_add_ge hnm h]
    have hst := can_sub_size s (nat t)
    have hv := subVal_ge h
    clear h
    have hR := Rest2.start w 23 (.bool n) (.string s) (.bool m) (.string t) (.bool false) (.string ⟨#[]⟩)
    go_enter Try.func12, Try.ntmps12
    go_wp2_with fail
    refine (refSub_any s t _ (by omega) (by omega)).mono ?_
    rintro e w1 ⟨rfl, hb1⟩
    rw [hv]
    clear hv
    have hR1 := hR.keep hb1
    obtain ⟨a1, a2, a3, a4, -⟩ := hR1.all
    clear hR hb1
    go_wp2_with fail
    refine (of_any n _ _ (by simp [maxLen]; omega)).mono ?_
    rintro e w2 ⟨rfl, hb2⟩
    have hRn := hR1.keep hb2
    obtain ⟨u, v, c1, c2, f1, f2⟩ := hRn.two
    go_wp2_with fail
    exact bodyPost_ret (by simp [results, Try.results12, go_sem, c1, c2]) rfl ⟨rfl, (hRn.set _ _).below⟩
  · have h' : nat s < nat t := by omega
    rw [iv_add_lt hnm h']
    have hst := can_sub_size t (nat s)
    have hv := subVal_lt h'
    have hv2 := subVal_ge (Nat.le_of_lt h')
    clear h h'
    have hR := Rest2.start w 23 (.bool n) (.string s) (.bool m) (.string t) (.bool false) (.string ⟨#[]⟩)
    go_enter Try.func12, Try.ntmps12
    go_wp2_with fail
    refine (refSub_any s t _ (by omega) (by omega)).mono ?_
    rintro e w1 ⟨rfl, hb1⟩
    rw [hv]
    clear hv
    have hR1 := hR.keep hb1
    obtain ⟨a1, a2, a3, a4, -⟩ := hR1.all
    clear hR hb1
    go_wp2_with fail
    refine (refSub_any t s _ (by omega) (by omega)).mono ?_
    rintro e w2 ⟨rfl, hb2⟩
    rw [hv2]
    clear hv2
    have hR2 := hR1.keep hb2
    clear a1 a2 a3 a4 hR1 hb2
    obtain ⟨a1, a2, a3, a4, -⟩ := hR2.all
    go_wp2_with fail
    refine (of_any m _ _ (by simp [maxLen]; omega)).mono ?_
    rintro e w3 ⟨rfl, hb3⟩
    have hRn := hR2.keep hb3
    obtain ⟨u, v, c1, c2, f1, f2⟩ := hRn.two
    go_wp2_with fail
    exact bodyPost_ret (by simp [results, Try.results12, go_sem, c1, c2]) rfl ⟨rfl, (hRn.set _ _).below⟩
theorem refAdd2_any (n m : Bool) (s t : ByteArray) (w : World) (hs : s.size ≤ 1073741824) (ht : t.size ≤ 1073741824) :
    Calls Try.prog 12 #[I2 n s, I2 m t] w fun e w' => e = .returned (Z (iv n s + iv m t)) ∧ Below w.heap.size w w' := by
  rcases h : (n == m) with _ | _
  · exact refAdd2_any_other n m s t w h hs ht
  · obtain rfl : n = m := by simpa using h
    exact refAdd2_any_same n s t w hs ht
end Go.Proofs.Ytmfinfnjamgboaa
