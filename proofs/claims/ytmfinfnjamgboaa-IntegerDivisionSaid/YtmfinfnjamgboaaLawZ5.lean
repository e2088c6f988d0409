/- The walk of voussoirlaw02.IntegerDivision. -/
import Derived.Test.YtmfinfnjamgboaaFixed
namespace Go.Proofs.Ytmfinfnjamgboaa
open Go.RowKit NM

theorem Hold.all5p {w w0 : World} {E : TypeId} {g1 g2 g3 g4 g5 : Nat} {u1 v1 u2 v2 u3 v3 u4 v4 u5 v5 : Value} (h : Hold E w0 [(g5, u5, v5), (g4, u4, v4), (g3, u3, v3), (g2, u2, v2), (g1, u1, v1)] w) :
    w.cell? ⟨g1, 0, none⟩ = some u1 ∧ w.cell? ⟨g1, 1, none⟩ = some v1 ∧ w.cell? ⟨g2, 0, none⟩ = some u2 ∧ w.cell? ⟨g2, 1, none⟩ = some v2 ∧ w.cell? ⟨g3, 0, none⟩ = some u3 ∧ w.cell? ⟨g3, 1, none⟩ = some v3 ∧ w.cell? ⟨g4, 0, none⟩ = some u4 ∧ w.cell? ⟨g4, 1, none⟩ = some v4 ∧ w.cell? ⟨g5, 0, none⟩ = some u5 ∧ w.cell? ⟨g5, 1, none⟩ = some v5 ∧ Hold E w0 [(g5, u5, v5), (g4, u4, v4), (g3, u3, v3), (g2, u2, v2), (g1, u1, v1)] w :=
  ⟨(h.at_ (x := (g1, u1, v1)) (by simp)).1, (h.at_ (x := (g1, u1, v1)) (by simp)).2, (h.at_ (x := (g2, u2, v2)) (by simp)).1, (h.at_ (x := (g2, u2, v2)) (by simp)).2, (h.at_ (x := (g3, u3, v3)) (by simp)).1, (h.at_ (x := (g3, u3, v3)) (by simp)).2, (h.at_ (x := (g4, u4, v4)) (by simp)).1, (h.at_ (x := (g4, u4, v4)) (by simp)).2, (h.at_ (x := (g5, u5, v5)) (by simp)).1, (h.at_ (x := (g5, u5, v5)) (by simp)).2, h⟩

theorem Hold.cons {w w0 : World} {E : TypeId} {L : List (Nat × Value × Value)} {g : Nat} {u v : Value} (h : Hold E w0 L w) (hB : Blk w g E [u, v]) : Hold E w0 ((g, u, v) :: L) w := by
  refine ⟨fun x hx => ?_, h.2⟩
  rcases List.mem_cons.1 hx with rfl | hx
  · exact hB
  · exact h.1 x hx
theorem Hold.far2 {w w0 : World} {E : TypeId} {L : List (Nat × Value × Value)} {g : Nat} (h : Hold E w0 L w) (hne : ∀ x ∈ L, g ≠ x.1) (hg : w0.heap.size ≤ g) (u v : Value) : Hold E w0 L ((w.setCell ⟨g, 0, none⟩ u).setCell ⟨g, 1, none⟩ v) :=
  ⟨fun x hx => (h.1 x hx).far (hne x hx) u v, set2 h.2 hg u v⟩
theorem Blk.put2 {w : World} {g : Nat} {E : TypeId} {u v : Value} (h : Blk w g E [u, v]) (x y : Value) : Blk ((w.setCell ⟨g, 0, none⟩ x).setCell ⟨g, 1, none⟩ y) g E [x, y] := (h.set 0 x).set 1 y
theorem Hold.lt2 {w w0 : World} {E : TypeId} {L : List (Nat × Value × Value)} {x : Nat × Value × Value} (h : Hold E w0 L w) (hx : x ∈ L) : x.1 < w.heap.size := (h.1 x hx).lt
theorem far4p {g g1 g2 g3 g4 : Nat} {u1 v1 u2 v2 u3 v3 u4 v4 : Value} (h1 : g ≠ g1) (h2 : g ≠ g2) (h3 : g ≠ g3) (h4 : g ≠ g4) : ∀ x ∈ [(g4, u4, v4), (g3, u3, v3), (g2, u2, v2), (g1, u1, v1)], g ≠ x.1 := by
  intro x hx
  simp only [List.mem_cons, List.not_mem_nil, or_false] at hx
  rcases hx with rfl | rfl | rfl | rfl <;> assumption
set_option maxRecDepth 100000 in
set_option maxHeartbeats 8000000 in
theorem division_zero (n m : Bool) (s t : ByteArray) (w : World) (h1 : s.size ≤ 30) (h2 : t.size ≤ 30) (HD : Hid (divZ (iv n s) (iv m t) = .tuple #[I2 false ⟨#[]⟩, I2 false ⟨#[]⟩, .bool false])) (HS : Hid (cmpZ (iv m t) 0 = 0)) :
    Calls Try.prog 7 #[I2 n s, I2 m t] w fun e w' => e = .returned (.bool true) ∧ Below w.heap.size w w' := by
  have hR := Hold.start2 w 23 (.bool n) (.string s) (.bool m) (.string t)
  go_enter Try.func7, Try.ntmps7
  go_wp2_with fail
  refine (Div2_any _ _ _ _ _ (by omega) (by omega)).mono ?_
  rw [HD.out]
  rintro e w1 ⟨rfl, hb1⟩
  replace hR := (hR.keep hb1).box2 (.bool false) (.string ⟨#[]⟩) (.bool false) (.string ⟨#[]⟩)
  clear hb1
  obtain ⟨a1, a2, a3, a4, a5, a6, a7, a8, -⟩ := hR.all4
  go_wp2_with fail
  refine (Sign2_any m t _ (by simp [maxLen]; omega)).mono ?_
  rw [HS.out]
  rintro e w2 ⟨rfl, hb2⟩
  replace hR := hR.keep hb2
  clear hb2 a1 a2 a3 a4 a5 a6 a7 a8
  obtain ⟨a1, a2, a3, a4, a5, a6, a7, a8, -⟩ := hR.all4
  go_wp2_with fail
  refine (fixed_any _).mono ?_
  rintro e w3 ⟨rfl, hb3⟩
  replace hR := hR.keep hb3
  clear hb3 a1 a2 a3 a4 a5 a6 a7 a8
  obtain ⟨a1, a2, a3, a4, a5, a6, a7, a8, -⟩ := hR.all4
  go_wp2_with fail
  go_ret
  exact ⟨rfl, hR.below⟩

set_option maxRecDepth 100000 in
set_option maxHeartbeats 8000000 in
theorem division_pos (n m : Bool) (s t : ByteArray) (w : World) (Q R : Int) (h1 : s.size ≤ 30) (h2 : t.size ≤ 30) (HD : Hid (divZ (iv n s) (iv m t) = .tuple #[Z Q, Z R, .bool true])) (HS : Hid (cmpZ (iv m t) 0 = 1))
    (hq : (mg Q).size ≤ 40) (hr : (mg R).size ≤ 40) (hqt : (mg (Q * iv m t)).size ≤ 80) (e1 : Q * iv m t + R = iv n s) (e2 : 0 ≤ cmpZ R 0) (e3 : cmpZ R (iv m t) = -1) :
    Calls Try.prog 7 #[I2 n s, I2 m t] w fun e w' => e = .returned (.bool true) ∧ Below w.heap.size w w' := by
  have d2 : decide (0 ≤ cmpZ R 0) = true := decide_eq_true e2
  have hR := Hold.start2 w 23 (.bool n) (.string s) (.bool m) (.string t)
  go_enter Try.func7, Try.ntmps7
  go_wp2_with fail
  refine (Div2_any _ _ _ _ _ (by omega) (by omega)).mono ?_
  rw [HD.out]
  rintro e w1 ⟨rfl, hb1⟩
  replace hR := (hR.keep hb1).box2 (.bool (sg Q)) (.string (mg Q)) (.bool (sg R)) (.string (mg R))
  clear hb1
  obtain ⟨a1, a2, a3, a4, a5, a6, a7, a8, -⟩ := hR.all4
  go_wp2_with fail
  refine (Sign2_any m t _ (by simp [maxLen]; omega)).mono ?_
  rw [HS.out]
  rintro e w2 ⟨rfl, hb2⟩
  replace hR := hR.keep hb2
  clear hb2 a1 a2 a3 a4 a5 a6 a7 a8
  obtain ⟨a1, a2, a3, a4, a5, a6, a7, a8, -⟩ := hR.all4
  have hM := Blk.new w2 #[.bool m, .string t] 23
  have hl := hR.lt2 (x := (w1.heap.size + 1, _, _)) (List.mem_cons_self ..)
  have hl1 := hR.lt2 (x := (w.heap.size + 1, .bool m, .string t)) (by simp)
  have hl2 := hR.below.size
  replace hR := hR.alloc (.cells #[.bool m, .string t] 23)
  obtain ⟨b1, b2, b3, b4, b5, b6, b7, b8, -⟩ := hR.all4
  go_wp2_with fail
  generalize w2.alloc (Obj.cells #[Value.bool m, Value.string t] 23) = W2 at hR hM b1 b2 b3 b4 b5 b6 b7 b8 ⊢
  clear a1 a2 a3 a4 a5 a6 a7 a8
  refine (Sign2_any m t _ (by simp [maxLen]; omega)).mono ?_
  rw [HS.out]
  rintro e w3 ⟨rfl, hb3⟩
  replace hR := hR.keep hb3
  replace hM := hM.keep hb3
  clear hb3 b1 b2 b3 b4 b5 b6 b7 b8
  obtain ⟨a1, a2, a3, a4, a5, a6, a7, a8, -⟩ := hR.all4
  go_wp2_with fail
  clear a1 a2 a3 a4 a5 a6 a7 a8
  replace hR := hR.cons hM
  clear hM
  go_region_held3 (fun w' => w'.cell? ⟨w.heap.size, 0, none⟩ = some (.bool n) ∧ w'.cell? ⟨w.heap.size, 1, none⟩ = some (.string s) ∧ w'.cell? ⟨w.heap.size + 1, 0, none⟩ = some (.bool m) ∧ w'.cell? ⟨w.heap.size + 1, 1, none⟩ = some (.string t) ∧ w'.cell? ⟨w1.heap.size, 0, none⟩ = some (.bool (sg Q)) ∧ w'.cell? ⟨w1.heap.size, 1, none⟩ = some (.string (mg Q)) ∧ w'.cell? ⟨w1.heap.size + 1, 0, none⟩ = some (.bool (sg R)) ∧ w'.cell? ⟨w1.heap.size + 1, 1, none⟩ = some (.string (mg R)) ∧ w'.cell? ⟨w2.heap.size, 0, none⟩ = some (.bool m) ∧ w'.cell? ⟨w2.heap.size, 1, none⟩ = some (.string t) ∧ Hold 23 w [(w2.heap.size, .bool m, .string t), (w1.heap.size + 1, .bool (sg R), .string (mg R)), (w1.heap.size, .bool (sg Q), .string (mg Q)), (w.heap.size + 1, .bool m, .string t), (w.heap.size, .bool n, .string s)] w')
    (first | exact hRn.all5p | exact hR.drew.all5p)
    (first
      | (go_at_call 10; refine (fixed_any _).mono ?_; rintro e wn ⟨rfl, hbn⟩; (try clear hRn); have hRn := Hold.keep (And.right (And.right (And.right (And.right (And.right (And.right (And.right (And.right (And.right (And.right (by assumption))))))))))) hbn; clear hbn)
      | (go_at_call 25; refine (Mul2_any _ _ _ _ _ ?_ ?_).mono ?_; omega; omega; (try simp only [iv_Z]); rintro e wn ⟨rfl, hbn⟩; (try clear hRn); have hRn := Hold.keep (And.right (And.right (And.right (And.right (And.right (And.right (And.right (And.right (And.right (And.right (by assumption))))))))))) hbn; clear hbn)
      | (go_at_call 11; refine (Add2_any _ _ _ _ _ ?_ ?_).mono ?_; omega; omega; (try simp only [iv_Z, e1]); rintro e wn ⟨rfl, hbn⟩; (try clear hRn); have hRn := Hold.keep (And.right (And.right (And.right (And.right (And.right (And.right (And.right (And.right (And.right (And.right (by assumption))))))))))) hbn; clear hbn)
      | (go_at_call 21; refine (Normalize2_any _ _ _ ?_).mono ?_; (simp [maxLen]; omega); rintro e wn ⟨rfl, hbn⟩; (try clear hRn); have hRn := Hold.keep (And.right (And.right (And.right (And.right (And.right (And.right (And.right (And.right (And.right (And.right (by assumption))))))))))) hbn; clear hbn)
      | (go_at_call 19; refine (Sign2_any _ _ _ ?_).mono ?_; (simp [maxLen]; omega); (try simp only [iv_Z]); rintro e wn ⟨rfl, hbn⟩; (try clear hRn); have hRn := Hold.keep (And.right (And.right (And.right (And.right (And.right (And.right (And.right (And.right (And.right (And.right (by assumption))))))))))) hbn; clear hbn)
      | (go_at_call 17; refine (Cmp2_any _ _ _ _ _ ?_ ?_).mono ?_; omega; omega; (try simp only [iv_Z, e3]); rintro e wn ⟨rfl, hbn⟩; (try clear hRn); have hRn := Hold.keep (And.right (And.right (And.right (And.right (And.right (And.right (And.right (And.right (And.right (And.right (by assumption))))))))))) hbn; clear hbn))
  go_wp2_with fail
  go_ret
  exact ⟨rfl, hRn.below⟩

set_option maxRecDepth 100000 in
set_option maxHeartbeats 8000000 in
theorem division_neg (n m : Bool) (s t : ByteArray) (w : World) (Q R : Int) (h1 : s.size ≤ 30) (h2 : t.size ≤ 30) (HD : Hid (divZ (iv n s) (iv m t) = .tuple #[Z Q, Z R, .bool true])) (HS : Hid (cmpZ (iv m t) 0 = -1))
    (hq : (mg Q).size ≤ 40) (hr : (mg R).size ≤ 40) (hqt : (mg (Q * iv m t)).size ≤ 80) (hm : (mg (-iv m t)).size ≤ 30) (e1 : Q * iv m t + R = iv n s) (e2 : 0 ≤ cmpZ R 0) (e3 : cmpZ R (-iv m t) = -1) :
    Calls Try.prog 7 #[I2 n s, I2 m t] w fun e w' => e = .returned (.bool true) ∧ Below w.heap.size w w' := by
  have d2 : decide (0 ≤ cmpZ R 0) = true := decide_eq_true e2
  have hR := Hold.start2 w 23 (.bool n) (.string s) (.bool m) (.string t)
  go_enter Try.func7, Try.ntmps7
  go_wp2_with fail
  refine (Div2_any _ _ _ _ _ (by omega) (by omega)).mono ?_
  rw [HD.out]
  rintro e w1 ⟨rfl, hb1⟩
  replace hR := (hR.keep hb1).box2 (.bool (sg Q)) (.string (mg Q)) (.bool (sg R)) (.string (mg R))
  clear hb1
  obtain ⟨a1, a2, a3, a4, a5, a6, a7, a8, -⟩ := hR.all4
  go_wp2_with fail
  refine (Sign2_any m t _ (by simp [maxLen]; omega)).mono ?_
  rw [HS.out]
  rintro e w2 ⟨rfl, hb2⟩
  replace hR := hR.keep hb2
  clear hb2 a1 a2 a3 a4 a5 a6 a7 a8
  obtain ⟨a1, a2, a3, a4, a5, a6, a7, a8, -⟩ := hR.all4
  have hM := Blk.new w2 #[.bool m, .string t] 23
  have hl := hR.lt2 (x := (w1.heap.size + 1, _, _)) (List.mem_cons_self ..)
  have hl1 := hR.lt2 (x := (w.heap.size + 1, .bool m, .string t)) (by simp)
  have hl2 := hR.below.size
  replace hR := hR.alloc (.cells #[.bool m, .string t] 23)
  obtain ⟨b1, b2, b3, b4, b5, b6, b7, b8, -⟩ := hR.all4
  go_wp2_with fail
  generalize w2.alloc (Obj.cells #[Value.bool m, Value.string t] 23) = W2 at hR hM b1 b2 b3 b4 b5 b6 b7 b8 ⊢
  clear a1 a2 a3 a4 a5 a6 a7 a8
  refine (Sign2_any m t _ (by simp [maxLen]; omega)).mono ?_
  rw [HS.out]
  rintro e w3 ⟨rfl, hb3⟩
  replace hR := hR.keep hb3
  replace hM := hM.keep hb3
  clear hb3 b1 b2 b3 b4 b5 b6 b7 b8
  obtain ⟨a1, a2, a3, a4, a5, a6, a7, a8, -⟩ := hR.all4
  go_wp2_with fail
  refine (Neg2_any m t _ (by simp [maxLen]; omega)).mono ?_
  rintro e w4 ⟨rfl, hb4⟩
  replace hR := hR.keep hb4
  replace hM := hM.keep hb4
  clear hb4 a1 a2 a3 a4 a5 a6 a7 a8
  obtain ⟨x1, x2, x3, x4⟩ := hM.two
  go_wp2_with fail
  replace hR := hR.far2 (g := w2.heap.size) (far4p (by omega) (by omega) (by omega) (by omega)) (by omega) (.bool (sg (-iv m t))) (.string (mg (-iv m t)))
  replace hM := hM.put2 (.bool (sg (-iv m t))) (.string (mg (-iv m t)))
  clear x1 x2 x3 x4
  generalize (World.setCell (World.setCell w4 ⟨w2.heap.size, 0, none⟩ (.bool (sg (-iv m t)))) ⟨w2.heap.size, 1, none⟩ (.string (mg (-iv m t)))) = W4 at hR hM ⊢
  replace hR := hR.cons hM
  clear hM
  go_region_held3 (fun w' => w'.cell? ⟨w.heap.size, 0, none⟩ = some (.bool n) ∧ w'.cell? ⟨w.heap.size, 1, none⟩ = some (.string s) ∧ w'.cell? ⟨w.heap.size + 1, 0, none⟩ = some (.bool m) ∧ w'.cell? ⟨w.heap.size + 1, 1, none⟩ = some (.string t) ∧ w'.cell? ⟨w1.heap.size, 0, none⟩ = some (.bool (sg Q)) ∧ w'.cell? ⟨w1.heap.size, 1, none⟩ = some (.string (mg Q)) ∧ w'.cell? ⟨w1.heap.size + 1, 0, none⟩ = some (.bool (sg R)) ∧ w'.cell? ⟨w1.heap.size + 1, 1, none⟩ = some (.string (mg R)) ∧ w'.cell? ⟨w2.heap.size, 0, none⟩ = some (.bool (sg (-iv m t))) ∧ w'.cell? ⟨w2.heap.size, 1, none⟩ = some (.string (mg (-iv m t))) ∧ Hold 23 w [(w2.heap.size, .bool (sg (-iv m t)), .string (mg (-iv m t))), (w1.heap.size + 1, .bool (sg R), .string (mg R)), (w1.heap.size, .bool (sg Q), .string (mg Q)), (w.heap.size + 1, .bool m, .string t), (w.heap.size, .bool n, .string s)] w')
    (first | exact hRn.all5p | exact hR.drew.all5p)
    (first
      | (go_at_call 10; refine (fixed_any _).mono ?_; rintro e wn ⟨rfl, hbn⟩; (try clear hRn); have hRn := Hold.keep (And.right (And.right (And.right (And.right (And.right (And.right (And.right (And.right (And.right (And.right (by assumption))))))))))) hbn; clear hbn)
      | (go_at_call 25; refine (Mul2_any _ _ _ _ _ ?_ ?_).mono ?_; omega; omega; (try simp only [iv_Z]); rintro e wn ⟨rfl, hbn⟩; (try clear hRn); have hRn := Hold.keep (And.right (And.right (And.right (And.right (And.right (And.right (And.right (And.right (And.right (And.right (by assumption))))))))))) hbn; clear hbn)
      | (go_at_call 11; refine (Add2_any _ _ _ _ _ ?_ ?_).mono ?_; omega; omega; (try simp only [iv_Z, e1]); rintro e wn ⟨rfl, hbn⟩; (try clear hRn); have hRn := Hold.keep (And.right (And.right (And.right (And.right (And.right (And.right (And.right (And.right (And.right (And.right (by assumption))))))))))) hbn; clear hbn)
      | (go_at_call 21; refine (Normalize2_any _ _ _ ?_).mono ?_; (simp [maxLen]; omega); rintro e wn ⟨rfl, hbn⟩; (try clear hRn); have hRn := Hold.keep (And.right (And.right (And.right (And.right (And.right (And.right (And.right (And.right (And.right (And.right (by assumption))))))))))) hbn; clear hbn)
      | (go_at_call 19; refine (Sign2_any _ _ _ ?_).mono ?_; (simp [maxLen]; omega); (try simp only [iv_Z]); rintro e wn ⟨rfl, hbn⟩; (try clear hRn); have hRn := Hold.keep (And.right (And.right (And.right (And.right (And.right (And.right (And.right (And.right (And.right (And.right (by assumption))))))))))) hbn; clear hbn)
      | (go_at_call 17; refine (Cmp2_any _ _ _ _ _ ?_ ?_).mono ?_; omega; omega; (try simp only [iv_Z, e3]); rintro e wn ⟨rfl, hbn⟩; (try clear hRn); have hRn := Hold.keep (And.right (And.right (And.right (And.right (And.right (And.right (And.right (And.right (And.right (And.right (by assumption))))))))))) hbn; clear hbn))
  go_wp2_with fail
  go_ret
  exact ⟨rfl, hRn.below⟩

theorem ediv_size {x y : Int} {k : Nat} (h : (mg x).size ≤ k) : (mg (x / y)).size ≤ k + 1 := by
  have h1 := mg_lt h
  refine mg_size_le ?_
  have h2 := Int.natAbs_ediv_le_natAbs x y
  rw [Nat.pow_succ]
  omega
theorem emod_size {x y : Int} {k : Nat} (hy : y ≠ 0) (h : (mg y).size ≤ k) : (mg (x % y)).size ≤ k := by
  have h1 := mg_lt h
  refine mg_size_le ?_
  have h2 := Int.emod_nonneg x hy
  have h3 := Int.emod_lt x hy
  omega
set_option maxHeartbeats 8000000 in
theorem IntegerDivision_any (n m : Bool) (s t : ByteArray) (w : World) (hs : s.size ≤ maxLen) (ht : t.size ≤ maxLen) :
    Calls Try.prog 7 #[I2 n s, I2 m t] w fun e w' => e = .returned (.bool true) ∧ Below w.heap.size w w' := by
  rcases (show 30 < s.size ∨ (s.size ≤ 30 ∧ 30 < t.size) ∨ (s.size ≤ 30 ∧ t.size ≤ 30) by omega) with h1 | ⟨h1, h2⟩ | ⟨h1, h2⟩
  · have hR := Hold.start2 w 23 (.bool n) (.string s) (.bool m) (.string t)
    unfold maxLen at hs ht
    go_enter Try.func7, Try.ntmps7
    go_wp2_with fail
    refine (fixed_any _).mono ?_
    rintro e w2 ⟨rfl, hb2⟩
    replace hR := hR.keep hb2
    go_wp2_with fail
    go_ret
    exact ⟨rfl, hR.below⟩
  · have hR := Hold.start2 w 23 (.bool n) (.string s) (.bool m) (.string t)
    unfold maxLen at hs ht
    go_enter Try.func7, Try.ntmps7
    go_wp2_with fail
    refine (fixed_any _).mono ?_
    rintro e w2 ⟨rfl, hb2⟩
    replace hR := hR.keep hb2
    go_wp2_with fail
    go_ret
    exact ⟨rfl, hR.below⟩
  · clear hs ht
    have p1 := mg_iv_size (n := n) h1
    have p2 := mg_iv_size (n := m) h2
    rcases Int.lt_trichotomy (iv m t) 0 with h | h | h
    · have hz : iv m t ≠ 0 := by omega
      have hq := ediv_size (y := iv m t) p1
      have hr := emod_size (x := iv n s) hz p2
      have hl := Int.emod_lt (iv n s) hz
      have hp := Int.emod_nonneg (iv n s) hz
      exact division_neg n m s t w (iv n s / iv m t) (iv n s % iv m t) h1 h2 (divZ_pos hz) (cmpZ_lt h) (by omega) (by omega) (by have := mg_mul_size hq p2; omega) (mg_neg_size p2) (by rw [Int.mul_comm]; exact Int.mul_ediv_add_emod _ _) (Int.not_lt.1 (cmpZ_nonneg (by omega))) (cmpZ_lt (by omega))
    · exact division_zero n m s t w h1 h2 ((divZ_zero h).trans rfl) (cmpZ_eq h)
    · have hz : iv m t ≠ 0 := by omega
      have hq := ediv_size (y := iv m t) p1
      have hr := emod_size (x := iv n s) hz p2
      have hl := Int.emod_lt (iv n s) hz
      have hp := Int.emod_nonneg (iv n s) hz
      exact division_pos n m s t w (iv n s / iv m t) (iv n s % iv m t) h1 h2 (divZ_pos hz) (cmpZ_gt h) (by omega) (by omega) (by have := mg_mul_size hq p2; omega) (by rw [Int.mul_comm]; exact Int.mul_ediv_add_emod _ _) (Int.not_lt.1 (cmpZ_nonneg (by omega))) (cmpZ_lt (by omega))
end Go.Proofs.Ytmfinfnjamgboaa
