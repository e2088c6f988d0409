/- voussoirref02.Div. -/
import Derived.Test.YtodcomijjmobdaaGreatDoorDivZ
import Derived.Test.YtodcomijjmobdaaGreatDoorN3
import Derived.RegionTactic
import Derived.BigRegion
set_option linter.unusedVariables false
set_option linter.unusedSimpArgs false
namespace Go.Proofs.YtodcomijjmobdaaGreatDoor
open Go.RowKit NM

theorem Hold.far {w w0 : World} {E : TypeId} {L : List (Nat × Value × Value)} {g : Nat} (h : Hold E w0 L w) (hne : ∀ x ∈ L, g ≠ x.1) (hg : w0.heap.size ≤ g) (u v : Value) : Hold E w0 L ((w.setCell ⟨g, 0, none⟩ u).setCell ⟨g, 1, none⟩ v) :=
  ⟨fun x hx => (h.1 x hx).far (hne x hx) u v, set2 h.2 hg u v⟩
theorem Blk.put {w : World} {g : Nat} {E : TypeId} {u v : Value} (h : Blk w g E [u, v]) (x y : Value) : Blk ((w.setCell ⟨g, 0, none⟩ x).setCell ⟨g, 1, none⟩ y) g E [x, y] := (h.set 0 x).set 1 y
theorem Hold.lt {w w0 : World} {E : TypeId} {L : List (Nat × Value × Value)} {x : Nat × Value × Value} (h : Hold E w0 L w) (hx : x ∈ L) : x.1 < w.heap.size := (h.1 x hx).lt
theorem far4 {b g : Nat} {u1 v1 u2 v2 u3 v3 u4 v4 : Value} (h : b + 1 + 1 + 1 < g) : ∀ x ∈ [(b + 1 + 1 + 1, u4, v4), (b + 1 + 1, u3, v3), (b + 1, u2, v2), (b, u1, v1)], g ≠ x.1 := by
  intro x hx
  simp only [List.mem_cons, List.not_mem_nil, or_false] at hx
  rcases hx with rfl | rfl | rfl | rfl <;> simp <;> omega
/-- The parts of a quotient of which the remainder has the dividend's sign. -/
theorem quo_parts (n m : Bool) {s t : ByteArray} (ht : nat t ≠ 0) (h : n = false ∨ nat s % nat t = 0) :
    iv n s / iv m t = iv (!(n == m)) (can (nat s / nat t)) ∧ iv n s % iv m t = iv n (can (nat s % nat t)) := by
  cases n
  · exact ⟨div_pos_q m s t, div_pos_r m s t⟩
  · have h1 : nat s % nat t = 0 := by simpa using h
    refine ⟨div_neg0_q m ht h1, ?_⟩
    rw [div_neg0_r m ht h1, h1]
    rfl
theorem quo_parts1 (m : Bool) {s t : ByteArray} (ht : nat t ≠ 0) (h : nat s % nat t ≠ 0) :
    iv true s / iv m t = (if m = true then iv (!(true == m)) (can (nat s / nat t)) + 1 else iv (!(true == m)) (can (nat s / nat t)) - 1) ∧ iv true s % iv m t = iv true (can (nat s % nat t)) + iv false t := by
  have hlt := Nat.mod_lt (nat s) (Nat.pos_of_ne_zero ht)
  rw [div_neg1_q m ht h, div_neg1_r m ht h]
  cases m
  · refine ⟨?_, ?_⟩
    · show iv true _ = iv true _ - 1
      rw [iv_true, iv_true, nat_can, nat_can]; omega
    · rw [iv_false, iv_true, iv_false, nat_can, nat_can]; omega
  · refine ⟨?_, ?_⟩
    · show iv false _ = iv false _ + 1
      rw [iv_false, iv_false, nat_can, nat_can]; omega
    · rw [iv_false, iv_true, iv_false, nat_can, nat_can]; omega

set_option maxHeartbeats 1000000 in
theorem refDiv2_zero (n m : Bool) (s t : ByteArray) (w : World) (hs : s.size ≤ 536870912) (ht : t.size ≤ 536870912) (h0 : nat t = 0) :
    Calls Tryz.prog 46 #[I2 n s, I2 m t] w fun e w' => e = .returned (divZ (iv n s) (iv m t)) ∧ Below w.heap.size w w' := by
  rw [divZ_zero (iv_zero.2 h0)]
  have hv := Lib.hid (divVal_zero (m := nat s) h0)
  clear h0
  have hR := Hold.start4 w 27 (.bool n) (.string s) (.bool m) (.string t) (.bool false) (.string ⟨#[]⟩) (.bool false) (.string ⟨#[]⟩)
  go_enter Tryz.func46, Tryz.ntmps46
  go_wp2_with fail
  generalize ((((w.alloc (Obj.cells #[Value.bool n, Value.string s] 27)).alloc (Obj.cells #[Value.bool m, Value.string t] 27)).alloc (Obj.cells #[Value.bool false, Value.string ⟨#[]⟩] 27)).alloc (Obj.cells #[Value.bool false, Value.string ⟨#[]⟩] 27)) = W at hR ⊢
  refine (refDiv_any s t _ (by omega) (by omega)).mono ?_
  rw [hv.out]
  rintro e w1 ⟨rfl, hb1⟩
  replace hR := hR.keep hb1
  clear hb1
  (try clear a1 a2 a3 a4 a5 a6 a7 a8 f1 f2 f3 f4)
  obtain ⟨a1, a2, a3, a4, a5, a6, a7, a8, -⟩ := hR.all4
  obtain ⟨f1, f2, f3, f4⟩ := hR.free34
  go_wp2_with fail
  exact bodyPost_ret (by simp [results, Tryz.results46, go_sem, a5, a6, a7, a8]; exact ⟨rfl, rfl⟩) rfl ⟨rfl, set2 (set2 hR.below (by omega) _ _) (by omega) _ _⟩

set_option maxHeartbeats 2000000 in
theorem refDiv2_plain (n m : Bool) (s t : ByteArray) (w : World) (hs : s.size ≤ 536870912) (ht : t.size ≤ 536870912) (h0 : nat t ≠ 0) (hp : n = false ∨ nat s % nat t = 0) :
    Calls Tryz.prog 46 #[I2 n s, I2 m t] w fun e w' => e = .returned (divZ (iv n s) (iv m t)) ∧ Below w.heap.size w w' := by
  have hnz : iv m t ≠ 0 := fun h => h0 (iv_zero.1 h)
  rw [divZ_pos hnz, (quo_parts n m h0 hp).1, (quo_parts n m h0 hp).2]
  have hv := Lib.hid (divVal_pos (m := nat s) h0)
  have s1 := can_div_size s (nat t)
  have s2 := can_mod_size s (nat t)
  obtain ⟨X, hXe⟩ : ∃ X, X = iv n (can (nat s % nat t)) := ⟨_, rfl⟩
  obtain ⟨Y, hYe⟩ : ∃ Y, Y = iv (!(n == m)) (can (nat s / nat t)) := ⟨_, rfl⟩
  have s3 : (mg X).size ≤ 536870912 := by rw [hXe]; exact mg_iv_size (by omega)
  have s4 : (mg Y).size ≤ 536870912 := by rw [hYe]; exact mg_iv_size (by omega)
  have hlt : ¬ cmpZ X 0 < 0 := by
    rw [hXe]
    rcases hp with rfl | hp
    · unfold cmpZ
      rw [iv_false, if_neg (by omega)]
      by_cases h : ((nat (can (nat s % nat t)) : Nat) : Int) = 0
      · rw [if_pos h]; omega
      · rw [if_neg h]; omega
    · rw [hp, show iv n (can 0) = 0 by cases n <;> rfl]; decide
  rw [← hXe, ← hYe]
  have HX := Lib.hid hXe
  have HY := Lib.hid hYe
  clear h0 hp hnz hXe hYe
  have hR := Hold.start4 w 27 (.bool n) (.string s) (.bool m) (.string t) (.bool false) (.string ⟨#[]⟩) (.bool false) (.string ⟨#[]⟩)
  go_enter Tryz.func46, Tryz.ntmps46
  go_wp2_with fail
  generalize ((((w.alloc (Obj.cells #[Value.bool n, Value.string s] 27)).alloc (Obj.cells #[Value.bool m, Value.string t] 27)).alloc (Obj.cells #[Value.bool false, Value.string ⟨#[]⟩] 27)).alloc (Obj.cells #[Value.bool false, Value.string ⟨#[]⟩] 27)) = W at hR ⊢
  refine (refDiv_any s t _ (by omega) (by omega)).mono ?_
  rw [hv.out]
  rintro e w1 ⟨rfl, hb1⟩
  replace hR := hR.keep hb1
  clear hb1
  (try clear a1 a2 a3 a4 a5 a6 a7 a8 f1 f2 f3 f4)
  obtain ⟨a1, a2, a3, a4, a5, a6, a7, a8, -⟩ := hR.all4
  obtain ⟨f1, f2, f3, f4⟩ := hR.free34
  go_wp2_with fail
  refine (of_any _ _ _ (by simp [maxLen]; omega)).mono ?_
  rw [← HX.out]
  rintro e w2 ⟨rfl, hb2⟩
  have hg1 : w.heap.size + 1 + 1 + 1 < w2.heap.size := (hR.keep hb2).lt (x := (w.heap.size + 1 + 1 + 1, _, _)) (List.mem_cons_self ..)
  have hX := Blk.new w2 #[.bool (sg X), .string (mg X)] 27
  replace hR := (hR.keep hb2).alloc (.cells #[.bool (sg X), .string (mg X)] 27)
  clear hb2
  (try clear a1 a2 a3 a4 a5 a6 a7 a8 f1 f2 f3 f4)
  obtain ⟨a1, a2, a3, a4, a5, a6, a7, a8, -⟩ := hR.all4
  obtain ⟨f1, f2, f3, f4⟩ := hR.free34
  (try clear x1 x2 x3 x4)
  obtain ⟨x1, x2, x3, x4⟩ := hX.two
  go_wp2_with fail
  refine (of_any _ _ _ (by simp [maxLen]; omega)).mono ?_
  rw [← HY.out]
  rintro e w3 ⟨rfl, hb3⟩
  replace hX := hX.keep hb3
  have hg2 : w2.heap.size < w3.heap.size := hX.lt
  have hY := Blk.new w3 #[.bool (sg Y), .string (mg Y)] 27
  replace hX := hX.alloc (.cells #[.bool (sg Y), .string (mg Y)] 27)
  replace hR := (hR.keep hb3).alloc (.cells #[.bool (sg Y), .string (mg Y)] 27)
  clear hb3
  (try clear a1 a2 a3 a4 a5 a6 a7 a8 f1 f2 f3 f4)
  obtain ⟨a1, a2, a3, a4, a5, a6, a7, a8, -⟩ := hR.all4
  obtain ⟨f1, f2, f3, f4⟩ := hR.free34
  (try clear x1 x2 x3 x4)
  obtain ⟨x1, x2, x3, x4⟩ := hX.two
  (try clear y1 y2 y3 y4)
  obtain ⟨y1, y2, y3, y4⟩ := hY.two
  go_wp2_with fail
  refine (refSign2_any _ _ _ (by simp [maxLen]; omega)).mono ?_
  rw [iv_Z]
  rintro e w4 ⟨rfl, hb4⟩
  replace hR := hR.keep hb4
  replace hX := hX.keep hb4
  replace hY := hY.keep hb4
  clear hb4
  (try clear a1 a2 a3 a4 a5 a6 a7 a8 f1 f2 f3 f4)
  obtain ⟨a1, a2, a3, a4, a5, a6, a7, a8, -⟩ := hR.all4
  obtain ⟨f1, f2, f3, f4⟩ := hR.free34
  (try clear x1 x2 x3 x4)
  obtain ⟨x1, x2, x3, x4⟩ := hX.two
  (try clear y1 y2 y3 y4)
  obtain ⟨y1, y2, y3, y4⟩ := hY.two
  go_wp2_with fail
  go_region
  all_goals go_wp2_with fail
  all_goals exact bodyPost_ret (by simp [results, Tryz.results46, go_sem, a5, a6, a7, a8]) rfl ⟨rfl, (set2 (set2 hR.below (by omega) _ _) (by omega) _ _).drew⟩

set_option maxHeartbeats 2000000 in
theorem refDiv2_neg_false (s t : ByteArray) (w : World) (hs : s.size ≤ 536870912) (ht : t.size ≤ 536870912) (h0 : nat t ≠ 0) (h1 : nat s % nat t ≠ 0) :
    Calls Tryz.prog 46 #[I2 true s, I2 false t] w fun e w' => e = .returned (divZ (iv true s) (iv false t)) ∧ Below w.heap.size w w' := by
  have hnz : iv false t ≠ 0 := fun h => h0 (iv_zero.1 h)
  have hq : iv true s / iv false t = iv true (can (nat s / nat t)) - 1 := (quo_parts1 false h0 h1).1
  rw [divZ_pos hnz, hq, (quo_parts1 false h0 h1).2]
  have hv := Lib.hid (divVal_pos (m := nat s) h0)
  have s1 := can_div_size s (nat t)
  have s2 := can_mod_size s (nat t)
  obtain ⟨X, hXe⟩ : ∃ X, X = iv true (can (nat s % nat t)) := ⟨_, rfl⟩
  obtain ⟨Y, hYe⟩ : ∃ Y, Y = iv true (can (nat s / nat t)) := ⟨_, rfl⟩
  have s3 : (mg X).size ≤ 536870912 := by rw [hXe]; exact mg_iv_size (by omega)
  have s4 : (mg Y).size ≤ 536870912 := by rw [hYe]; exact mg_iv_size (by omega)
  have hlt : cmpZ X 0 < 0 := by
    rw [hXe, cmpZ_lt (by rw [iv_true, nat_can]; omega)]; decide
  have hsg : cmpZ (iv false t) 0 = 1 := cmpZ_gt (by rw [iv_false]; omega)
  have s5 : (mg (iv false t)).size ≤ 536870912 := mg_iv_size ht
  have s6 : (mg 1).size ≤ 1 := mg_size_le (by decide)
  rw [← hXe, ← hYe]
  have HX := Lib.hid hXe
  have HY := Lib.hid hYe
  have HS := Lib.hid hsg
  clear h0 h1 hnz hXe hYe hq hsg
  have hR := Hold.start4 w 27 (.bool true) (.string s) (.bool false) (.string t) (.bool false) (.string ⟨#[]⟩) (.bool false) (.string ⟨#[]⟩)
  go_enter Tryz.func46, Tryz.ntmps46
  go_wp2_with fail
  generalize ((((w.alloc (Obj.cells #[Value.bool true, Value.string s] 27)).alloc (Obj.cells #[Value.bool false, Value.string t] 27)).alloc (Obj.cells #[Value.bool false, Value.string ⟨#[]⟩] 27)).alloc (Obj.cells #[Value.bool false, Value.string ⟨#[]⟩] 27)) = W at hR ⊢
  refine (refDiv_any s t _ (by omega) (by omega)).mono ?_
  rw [hv.out]
  rintro e w1 ⟨rfl, hb1⟩
  replace hR := hR.keep hb1
  clear hb1
  (try clear a1 a2 a3 a4 a5 a6 a7 a8 f1 f2 f3 f4)
  obtain ⟨a1, a2, a3, a4, a5, a6, a7, a8, -⟩ := hR.all4
  obtain ⟨f1, f2, f3, f4⟩ := hR.free34
  go_wp2_with fail
  refine (of_any _ _ _ (by simp [maxLen]; omega)).mono ?_
  rw [← HX.out]
  rintro e w2 ⟨rfl, hb2⟩
  have hg1 : w.heap.size + 1 + 1 + 1 < w2.heap.size := (hR.keep hb2).lt (x := (w.heap.size + 1 + 1 + 1, _, _)) (List.mem_cons_self ..)
  have hX := Blk.new w2 #[.bool (sg X), .string (mg X)] 27
  replace hR := (hR.keep hb2).alloc (.cells #[.bool (sg X), .string (mg X)] 27)
  clear hb2
  (try clear a1 a2 a3 a4 a5 a6 a7 a8 f1 f2 f3 f4)
  obtain ⟨a1, a2, a3, a4, a5, a6, a7, a8, -⟩ := hR.all4
  obtain ⟨f1, f2, f3, f4⟩ := hR.free34
  (try clear x1 x2 x3 x4)
  obtain ⟨x1, x2, x3, x4⟩ := hX.two
  go_wp2_with fail
  refine (of_any _ _ _ (by simp [maxLen]; omega)).mono ?_
  rw [← HY.out]
  rintro e w3 ⟨rfl, hb3⟩
  replace hX := hX.keep hb3
  have hg2 : w2.heap.size < w3.heap.size := hX.lt
  have hY := Blk.new w3 #[.bool (sg Y), .string (mg Y)] 27
  replace hX := hX.alloc (.cells #[.bool (sg Y), .string (mg Y)] 27)
  replace hR := (hR.keep hb3).alloc (.cells #[.bool (sg Y), .string (mg Y)] 27)
  clear hb3
  (try clear a1 a2 a3 a4 a5 a6 a7 a8 f1 f2 f3 f4)
  obtain ⟨a1, a2, a3, a4, a5, a6, a7, a8, -⟩ := hR.all4
  obtain ⟨f1, f2, f3, f4⟩ := hR.free34
  (try clear x1 x2 x3 x4)
  obtain ⟨x1, x2, x3, x4⟩ := hX.two
  (try clear y1 y2 y3 y4)
  obtain ⟨y1, y2, y3, y4⟩ := hY.two
  go_wp2_with fail
  refine (refSign2_any _ _ _ (by simp [maxLen]; omega)).mono ?_
  rw [iv_Z]
  rintro e w4 ⟨rfl, hb4⟩
  replace hR := hR.keep hb4
  replace hX := hX.keep hb4
  replace hY := hY.keep hb4
  clear hb4
  (try clear a1 a2 a3 a4 a5 a6 a7 a8 f1 f2 f3 f4)
  obtain ⟨a1, a2, a3, a4, a5, a6, a7, a8, -⟩ := hR.all4
  obtain ⟨f1, f2, f3, f4⟩ := hR.free34
  (try clear x1 x2 x3 x4)
  obtain ⟨x1, x2, x3, x4⟩ := hX.two
  (try clear y1 y2 y3 y4)
  obtain ⟨y1, y2, y3, y4⟩ := hY.two
  go_wp2_with fail
  go_region_with (first
    | (go_at_call 101; refine (of_any _ _ _ ?_).mono ?_; (simp [maxLen]; omega); rintro e wn ⟨rfl, hbn⟩; replace hR := hR.drew.keep hbn; replace hX := hX.drew.keep hbn; replace hY := hY.drew.keep hbn; obtain ⟨a1, a2, a3, a4, a5, a6, a7, a8, -⟩ := hR.all4; obtain ⟨x1, x2, x3, x4⟩ := hX.two; obtain ⟨y1, y2, y3, y4⟩ := hY.two; clear hbn)
    | (go_at_call 106; refine (refAdd2_any _ _ _ _ _ ?_ ?_).mono ?_; omega; omega; simp only [iv_Z]; rintro e wn ⟨rfl, hbn⟩; replace hR := hR.keep hbn; replace hX := hX.keep hbn; replace hY := hY.keep hbn; obtain ⟨a1, a2, a3, a4, a5, a6, a7, a8, -⟩ := hR.all4; obtain ⟨x1, x2, x3, x4⟩ := hX.two; obtain ⟨y1, y2, y3, y4⟩ := hY.two; clear hbn))
  all_goals
    have hRn := hR.far (far4 hg1) (by omega) (.bool (sg (X + iv false t))) (.string (mg (X + iv false t)))
    have hXn := hX.put (.bool (sg (X + iv false t))) (.string (mg (X + iv false t)))
    have hYn := hY.far (g3 := w2.heap.size) (by omega) (.bool (sg (X + iv false t))) (.string (mg (X + iv false t)))
    generalize (World.setCell (World.setCell _ ⟨w2.heap.size, 0, none⟩ (.bool (sg (X + iv false t)))) ⟨w2.heap.size, 1, none⟩ (.string (mg (X + iv false t)))) = W5 at hRn hXn hYn ⊢
    clear hR hX hY
    (try clear a1 a2 a3 a4 a5 a6 a7 a8 f1 f2 f3 f4 x1 x2 x3 x4 y1 y2 y3 y4)
    obtain ⟨a1, a2, a3, a4, a5, a6, a7, a8, -⟩ := hRn.all4
    obtain ⟨x1, x2, x3, x4⟩ := hXn.two
    obtain ⟨y1, y2, y3, y4⟩ := hYn.two
    go_wp2_with fail
    refine (refSign2_any _ _ _ (by simp [maxLen]; omega)).mono ?_
    rw [HS.out]
    rintro e w6 ⟨rfl, hb6⟩
    have hR := hRn.keep hb6
    have hX := hXn.keep hb6
    have hY := hYn.keep hb6
    clear hRn hXn hYn hb6
    (try clear a1 a2 a3 a4 a5 a6 a7 a8 f1 f2 f3 f4 x1 x2 x3 x4 y1 y2 y3 y4)
    obtain ⟨a1, a2, a3, a4, a5, a6, a7, a8, -⟩ := hR.all4
    obtain ⟨x1, x2, x3, x4⟩ := hX.two
    obtain ⟨y1, y2, y3, y4⟩ := hY.two
    go_wp2_with fail
    go_region_with (first
      | (go_at_call 43; refine (From_any 1 _ ?_ ?_).mono ?_; omega; omega; rintro e wn ⟨rfl, hbn⟩; replace hR := hR.drew.keep hbn; replace hX := hX.drew.keep hbn; replace hY := hY.drew.keep hbn; obtain ⟨a1, a2, a3, a4, a5, a6, a7, a8, -⟩ := hR.all4; obtain ⟨x1, x2, x3, x4⟩ := hX.two; obtain ⟨y1, y2, y3, y4⟩ := hY.two; clear hbn)
      | (go_at_call 107; refine (refSub2_any _ _ _ _ _ ?_ ?_).mono ?_; omega; omega; simp only [iv_Z]; rintro e wn ⟨rfl, hbn⟩; replace hR := hR.keep hbn; replace hX := hX.keep hbn; replace hY := hY.keep hbn; obtain ⟨a1, a2, a3, a4, a5, a6, a7, a8, -⟩ := hR.all4; obtain ⟨x1, x2, x3, x4⟩ := hX.two; obtain ⟨y1, y2, y3, y4⟩ := hY.two; clear hbn))
  all_goals
    have hRn := hR.far (far4 (g := w3.heap.size) (by omega)) (by omega) (.bool (sg (Y - 1))) (.string (mg (Y - 1)))
    have hXn := hX.far (g3 := w3.heap.size) (by omega) (.bool (sg (Y - 1))) (.string (mg (Y - 1)))
    have hYn := hY.put (.bool (sg (Y - 1))) (.string (mg (Y - 1)))
    generalize (World.setCell (World.setCell _ ⟨w3.heap.size, 0, none⟩ (.bool (sg (Y - 1)))) ⟨w3.heap.size, 1, none⟩ (.string (mg (Y - 1)))) = W7 at hRn hXn hYn ⊢
    clear hR hX hY
    (try clear a1 a2 a3 a4 a5 a6 a7 a8 f1 f2 f3 f4 x1 x2 x3 x4 y1 y2 y3 y4)
    obtain ⟨a1, a2, a3, a4, a5, a6, a7, a8, -⟩ := hRn.all4
    obtain ⟨f1, f2, f3, f4⟩ := hRn.free34
    obtain ⟨x1, x2, x3, x4⟩ := hXn.two
    obtain ⟨y1, y2, y3, y4⟩ := hYn.two
    go_wp2_with fail
    go_region
    all_goals go_wp2_with fail
    all_goals exact bodyPost_ret (by simp [results, Tryz.results46, go_sem, a5, a6, a7, a8]) rfl ⟨rfl, (set2 (set2 hRn.below (by omega) _ _) (by omega) _ _).drew⟩

set_option maxHeartbeats 2000000 in
theorem refDiv2_neg_true (s t : ByteArray) (w : World) (hs : s.size ≤ 536870912) (ht : t.size ≤ 536870912) (h0 : nat t ≠ 0) (h1 : nat s % nat t ≠ 0) :
    Calls Tryz.prog 46 #[I2 true s, I2 true t] w fun e w' => e = .returned (divZ (iv true s) (iv true t)) ∧ Below w.heap.size w w' := by
  have hnz : iv true t ≠ 0 := fun h => h0 (iv_zero.1 h)
  have hq : iv true s / iv true t = iv false (can (nat s / nat t)) + 1 := (quo_parts1 true h0 h1).1
  rw [divZ_pos hnz, hq, (quo_parts1 true h0 h1).2]
  have hv := Lib.hid (divVal_pos (m := nat s) h0)
  have s1 := can_div_size s (nat t)
  have s2 := can_mod_size s (nat t)
  obtain ⟨X, hXe⟩ : ∃ X, X = iv true (can (nat s % nat t)) := ⟨_, rfl⟩
  obtain ⟨Y, hYe⟩ : ∃ Y, Y = iv false (can (nat s / nat t)) := ⟨_, rfl⟩
  have s3 : (mg X).size ≤ 536870912 := by rw [hXe]; exact mg_iv_size (by omega)
  have s4 : (mg Y).size ≤ 536870912 := by rw [hYe]; exact mg_iv_size (by omega)
  have hlt : cmpZ X 0 < 0 := by
    rw [hXe, cmpZ_lt (by rw [iv_true, nat_can]; omega)]; decide
  have hsg : cmpZ (iv true t) 0 = -1 := cmpZ_lt (by rw [iv_true]; omega)
  have s5 : (mg (iv false t)).size ≤ 536870912 := mg_iv_size ht
  have s6 : (mg 1).size ≤ 1 := mg_size_le (by decide)
  rw [← hXe, ← hYe]
  have HX := Lib.hid hXe
  have HY := Lib.hid hYe
  have HS := Lib.hid hsg
  clear h0 h1 hnz hXe hYe hq hsg
  have hR := Hold.start4 w 27 (.bool true) (.string s) (.bool true) (.string t) (.bool false) (.string ⟨#[]⟩) (.bool false) (.string ⟨#[]⟩)
  go_enter Tryz.func46, Tryz.ntmps46
  go_wp2_with fail
  generalize ((((w.alloc (Obj.cells #[Value.bool true, Value.string s] 27)).alloc (Obj.cells #[Value.bool true, Value.string t] 27)).alloc (Obj.cells #[Value.bool false, Value.string ⟨#[]⟩] 27)).alloc (Obj.cells #[Value.bool false, Value.string ⟨#[]⟩] 27)) = W at hR ⊢
  refine (refDiv_any s t _ (by omega) (by omega)).mono ?_
  rw [hv.out]
  rintro e w1 ⟨rfl, hb1⟩
  replace hR := hR.keep hb1
  clear hb1
  (try clear a1 a2 a3 a4 a5 a6 a7 a8 f1 f2 f3 f4)
  obtain ⟨a1, a2, a3, a4, a5, a6, a7, a8, -⟩ := hR.all4
  obtain ⟨f1, f2, f3, f4⟩ := hR.free34
  go_wp2_with fail
  refine (of_any _ _ _ (by simp [maxLen]; omega)).mono ?_
  rw [← HX.out]
  rintro e w2 ⟨rfl, hb2⟩
  have hg1 : w.heap.size + 1 + 1 + 1 < w2.heap.size := (hR.keep hb2).lt (x := (w.heap.size + 1 + 1 + 1, _, _)) (List.mem_cons_self ..)
  have hX := Blk.new w2 #[.bool (sg X), .string (mg X)] 27
  replace hR := (hR.keep hb2).alloc (.cells #[.bool (sg X), .string (mg X)] 27)
  clear hb2
  (try clear a1 a2 a3 a4 a5 a6 a7 a8 f1 f2 f3 f4)
  obtain ⟨a1, a2, a3, a4, a5, a6, a7, a8, -⟩ := hR.all4
  obtain ⟨f1, f2, f3, f4⟩ := hR.free34
  (try clear x1 x2 x3 x4)
  obtain ⟨x1, x2, x3, x4⟩ := hX.two
  go_wp2_with fail
  refine (of_any _ _ _ (by simp [maxLen]; omega)).mono ?_
  rw [← HY.out]
  rintro e w3 ⟨rfl, hb3⟩
  replace hX := hX.keep hb3
  have hg2 : w2.heap.size < w3.heap.size := hX.lt
  have hY := Blk.new w3 #[.bool (sg Y), .string (mg Y)] 27
  replace hX := hX.alloc (.cells #[.bool (sg Y), .string (mg Y)] 27)
  replace hR := (hR.keep hb3).alloc (.cells #[.bool (sg Y), .string (mg Y)] 27)
  clear hb3
  (try clear a1 a2 a3 a4 a5 a6 a7 a8 f1 f2 f3 f4)
  obtain ⟨a1, a2, a3, a4, a5, a6, a7, a8, -⟩ := hR.all4
  obtain ⟨f1, f2, f3, f4⟩ := hR.free34
  (try clear x1 x2 x3 x4)
  obtain ⟨x1, x2, x3, x4⟩ := hX.two
  (try clear y1 y2 y3 y4)
  obtain ⟨y1, y2, y3, y4⟩ := hY.two
  go_wp2_with fail
  refine (refSign2_any _ _ _ (by simp [maxLen]; omega)).mono ?_
  rw [iv_Z]
  rintro e w4 ⟨rfl, hb4⟩
  replace hR := hR.keep hb4
  replace hX := hX.keep hb4
  replace hY := hY.keep hb4
  clear hb4
  (try clear a1 a2 a3 a4 a5 a6 a7 a8 f1 f2 f3 f4)
  obtain ⟨a1, a2, a3, a4, a5, a6, a7, a8, -⟩ := hR.all4
  obtain ⟨f1, f2, f3, f4⟩ := hR.free34
  (try clear x1 x2 x3 x4)
  obtain ⟨x1, x2, x3, x4⟩ := hX.two
  (try clear y1 y2 y3 y4)
  obtain ⟨y1, y2, y3, y4⟩ := hY.two
  go_wp2_with fail
  go_region_with (first
    | (go_at_call 101; refine (of_any _ _ _ ?_).mono ?_; (simp [maxLen]; omega); rintro e wn ⟨rfl, hbn⟩; replace hR := hR.drew.keep hbn; replace hX := hX.drew.keep hbn; replace hY := hY.drew.keep hbn; obtain ⟨a1, a2, a3, a4, a5, a6, a7, a8, -⟩ := hR.all4; obtain ⟨x1, x2, x3, x4⟩ := hX.two; obtain ⟨y1, y2, y3, y4⟩ := hY.two; clear hbn)
    | (go_at_call 106; refine (refAdd2_any _ _ _ _ _ ?_ ?_).mono ?_; omega; omega; simp only [iv_Z]; rintro e wn ⟨rfl, hbn⟩; replace hR := hR.keep hbn; replace hX := hX.keep hbn; replace hY := hY.keep hbn; obtain ⟨a1, a2, a3, a4, a5, a6, a7, a8, -⟩ := hR.all4; obtain ⟨x1, x2, x3, x4⟩ := hX.two; obtain ⟨y1, y2, y3, y4⟩ := hY.two; clear hbn))
  all_goals
    have hRn := hR.far (far4 hg1) (by omega) (.bool (sg (X + iv false t))) (.string (mg (X + iv false t)))
    have hXn := hX.put (.bool (sg (X + iv false t))) (.string (mg (X + iv false t)))
    have hYn := hY.far (g3 := w2.heap.size) (by omega) (.bool (sg (X + iv false t))) (.string (mg (X + iv false t)))
    generalize (World.setCell (World.setCell _ ⟨w2.heap.size, 0, none⟩ (.bool (sg (X + iv false t)))) ⟨w2.heap.size, 1, none⟩ (.string (mg (X + iv false t)))) = W5 at hRn hXn hYn ⊢
    clear hR hX hY
    (try clear a1 a2 a3 a4 a5 a6 a7 a8 f1 f2 f3 f4 x1 x2 x3 x4 y1 y2 y3 y4)
    obtain ⟨a1, a2, a3, a4, a5, a6, a7, a8, -⟩ := hRn.all4
    obtain ⟨x1, x2, x3, x4⟩ := hXn.two
    obtain ⟨y1, y2, y3, y4⟩ := hYn.two
    go_wp2_with fail
    refine (refSign2_any _ _ _ (by simp [maxLen]; omega)).mono ?_
    rw [HS.out]
    rintro e w6 ⟨rfl, hb6⟩
    have hR := hRn.keep hb6
    have hX := hXn.keep hb6
    have hY := hYn.keep hb6
    clear hRn hXn hYn hb6
    (try clear a1 a2 a3 a4 a5 a6 a7 a8 f1 f2 f3 f4 x1 x2 x3 x4 y1 y2 y3 y4)
    obtain ⟨a1, a2, a3, a4, a5, a6, a7, a8, -⟩ := hR.all4
    obtain ⟨x1, x2, x3, x4⟩ := hX.two
    obtain ⟨y1, y2, y3, y4⟩ := hY.two
    go_wp2_with fail
    go_region_with (first
      | (go_at_call 43; refine (From_any 1 _ ?_ ?_).mono ?_; omega; omega; rintro e wn ⟨rfl, hbn⟩; replace hR := hR.drew.keep hbn; replace hX := hX.drew.keep hbn; replace hY := hY.drew.keep hbn; obtain ⟨a1, a2, a3, a4, a5, a6, a7, a8, -⟩ := hR.all4; obtain ⟨x1, x2, x3, x4⟩ := hX.two; obtain ⟨y1, y2, y3, y4⟩ := hY.two; clear hbn)
      | (go_at_call 106; refine (refAdd2_any _ _ _ _ _ ?_ ?_).mono ?_; omega; omega; simp only [iv_Z]; rintro e wn ⟨rfl, hbn⟩; replace hR := hR.keep hbn; replace hX := hX.keep hbn; replace hY := hY.keep hbn; obtain ⟨a1, a2, a3, a4, a5, a6, a7, a8, -⟩ := hR.all4; obtain ⟨x1, x2, x3, x4⟩ := hX.two; obtain ⟨y1, y2, y3, y4⟩ := hY.two; clear hbn))
  all_goals
    have hRn := hR.far (far4 (g := w3.heap.size) (by omega)) (by omega) (.bool (sg (Y + 1))) (.string (mg (Y + 1)))
    have hXn := hX.far (g3 := w3.heap.size) (by omega) (.bool (sg (Y + 1))) (.string (mg (Y + 1)))
    have hYn := hY.put (.bool (sg (Y + 1))) (.string (mg (Y + 1)))
    generalize (World.setCell (World.setCell _ ⟨w3.heap.size, 0, none⟩ (.bool (sg (Y + 1)))) ⟨w3.heap.size, 1, none⟩ (.string (mg (Y + 1)))) = W7 at hRn hXn hYn ⊢
    clear hR hX hY
    (try clear a1 a2 a3 a4 a5 a6 a7 a8 f1 f2 f3 f4 x1 x2 x3 x4 y1 y2 y3 y4)
    obtain ⟨a1, a2, a3, a4, a5, a6, a7, a8, -⟩ := hRn.all4
    obtain ⟨f1, f2, f3, f4⟩ := hRn.free34
    obtain ⟨x1, x2, x3, x4⟩ := hXn.two
    obtain ⟨y1, y2, y3, y4⟩ := hYn.two
    go_wp2_with fail
    go_region
    all_goals go_wp2_with fail
    all_goals exact bodyPost_ret (by simp [results, Tryz.results46, go_sem, a5, a6, a7, a8]) rfl ⟨rfl, (set2 (set2 hRn.below (by omega) _ _) (by omega) _ _).drew⟩

theorem refDiv2_any (n m : Bool) (s t : ByteArray) (w : World) (hs : s.size ≤ 536870912) (ht : t.size ≤ 536870912) :
    Calls Tryz.prog 46 #[I2 n s, I2 m t] w fun e w' => e = .returned (divZ (iv n s) (iv m t)) ∧ Below w.heap.size w w' := by
  by_cases h0 : nat t = 0
  · exact refDiv2_zero n m s t w hs ht h0
  · by_cases hp : n = false ∨ nat s % nat t = 0
    · exact refDiv2_plain n m s t w hs ht h0 hp
    · obtain rfl : n = true := by
        cases n
        · exact absurd (.inl rfl) hp
        · rfl
      have h1 : nat s % nat t ≠ 0 := fun h => hp (.inr h)
      cases m
      · exact refDiv2_neg_false s t w hs ht h0 h1
      · exact refDiv2_neg_true s t w hs ht h0 h1
end Go.Proofs.YtodcomijjmobdaaGreatDoor
