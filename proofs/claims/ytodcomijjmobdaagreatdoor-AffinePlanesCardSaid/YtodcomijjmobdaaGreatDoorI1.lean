/- Integers as a sign and a magnitude: the integer that a pair stands for, the canonical pair, the walk's words for both. -/
import Derived.Test.YtodcomijjmobdaaGreatDoorN2
import Derived.Test.YtodcomijjmobdaaGreatDoorN4
import Derived.Deep.RegionHeld3
import Derived.Test.YtodcomijjmobdaaGreatDoorN3
set_option linter.unusedVariables false
set_option linter.unusedSimpArgs false
namespace Go.Proofs.YtodcomijjmobdaaGreatDoor
open Go.RowKit NM

/-- The integer that a sign and a string of bytes stand for. -/
def iv (n : Bool) (s : ByteArray) : Int := if n then -(nat s : Int) else (nat s : Int)
/-- Sign and magnitude of the canonical form. -/
def sg (z : Int) : Bool := decide (z < 0)
def mg (z : Int) : ByteArray := can z.natAbs
/-- The value of an integer in any form, and in canonical form. -/
abbrev I2 (n : Bool) (s : ByteArray) : Value := .agg #[.bool n, .string s]
abbrev Z (z : Int) : Value := .agg #[.bool (sg z), .string (mg z)]

theorem iv_true (s : ByteArray) : iv true s = -(nat s : Int) := rfl
theorem iv_false (s : ByteArray) : iv false s = (nat s : Int) := rfl
theorem iv_abs (n : Bool) (s : ByteArray) : (iv n s).natAbs = nat s := by cases n <;> simp [iv]
theorem iv_Z (z : Int) : iv (sg z) (mg z) = z := by
  unfold iv sg mg
  rw [nat_can]
  by_cases h : z < 0
  · rw [decide_eq_true h, if_pos rfl]; omega
  · rw [decide_eq_false h, if_neg (by simp)]; omega
theorem nat_mg (z : Int) : nat (mg z) = z.natAbs := nat_can _
theorem mg_iv (n : Bool) (s : ByteArray) : mg (iv n s) = can (nat s) := by unfold mg; rw [iv_abs]
theorem sg_iv (n : Bool) (s : ByteArray) : sg (iv n s) = (n && !decide (nat s = 0)) := by
  cases n
  · rw [iv_false, Bool.false_and]
    exact decide_eq_false (by omega)
  · rw [iv_true, Bool.true_and]
    unfold sg
    by_cases h : nat s = 0
    · rw [decide_eq_true h, decide_eq_false (by omega)]; rfl
    · rw [decide_eq_false h, decide_eq_true (by omega)]; rfl
theorem Z_inj {x y : Int} (h1 : sg x = sg y) (h2 : mg x = mg y) : x = y := by rw [← iv_Z x, h1, h2, iv_Z]
theorem sg_natCast (n : Nat) : sg (n : Int) = false := by unfold sg; simp
theorem mg_neg (z : Int) : mg (-z) = mg z := by unfold mg; rw [Int.natAbs_neg]
theorem beq_bytes {a b : ByteArray} : (a.toList == b.toList) = decide (a = b) := by
  rw [Bool.eq_iff_iff]
  simp only [beq_iff_eq, decide_eq_true_eq]
  refine ⟨fun h => ?_, fun h => by rw [h]⟩
  rw [ByteArray.toList_eq, ByteArray.toList_eq] at h
  obtain ⟨⟨x⟩⟩ := a
  obtain ⟨⟨y⟩⟩ := b
  simpa using h
theorem eq_Z (x y : Int) : ((sg x == sg y) && ((mg x).toList == (mg y).toList)) = decide (x = y) := by
  rw [beq_bytes, Bool.eq_iff_iff]
  simp only [Bool.and_eq_true, beq_iff_eq, decide_eq_true_eq]
  exact ⟨fun h => Z_inj h.1 h.2, fun h => by rw [h]; exact ⟨rfl, rfl⟩⟩

/-- -1, 0 or 1. -/
def cmpZ (x y : Int) : Int := if x < y then -1 else if x = y then 0 else 1
theorem cmpZ_lt {x y : Int} (h : x < y) : cmpZ x y = -1 := if_pos h
theorem cmpZ_gt {x y : Int} (h : y < x) : cmpZ x y = 1 := by unfold cmpZ; rw [if_neg (by omega), if_neg (by omega)]
/-! Sizes. -/
theorem mg_size_le {z : Int} {k : Nat} (h : z.natAbs < 256 ^ k) : (mg z).size ≤ k := can_size_le h
theorem mg_lt {z : Int} {k : Nat} (h : (mg z).size ≤ k) : z.natAbs < 256 ^ k := (len_le_iff (by omega) k _).1 (by rw [← can_size]; exact h)
theorem mg_iv_size {n : Bool} {s : ByteArray} {k : Nat} (h : s.size ≤ k) : (mg (iv n s)).size ≤ k := by
  refine mg_size_le ?_
  rw [iv_abs]
  exact Nat.lt_of_lt_of_le (nat_lt s) (Nat.pow_le_pow_right (by omega) h)
theorem mg_neg_size {z : Int} {k : Nat} (h : (mg z).size ≤ k) : (mg (-z)).size ≤ k := by rw [mg_neg]; exact h
theorem mg_add_size {x y : Int} {k : Nat} (hx : (mg x).size ≤ k) (hy : (mg y).size ≤ k) : (mg (x + y)).size ≤ k + 1 := by
  have h1 := mg_lt hx
  have h2 := mg_lt hy
  refine mg_size_le ?_
  rw [Nat.pow_succ]
  have := Int.natAbs_add_le x y
  omega
theorem mg_sub_size {x y : Int} {k : Nat} (hx : (mg x).size ≤ k) (hy : (mg y).size ≤ k) : (mg (x - y)).size ≤ k + 1 := by
  rw [Int.sub_eq_add_neg]
  exact mg_add_size hx (mg_neg_size hy)
theorem mg_mul_size {x y : Int} {j k : Nat} (hx : (mg x).size ≤ j) (hy : (mg y).size ≤ k) : (mg (x * y)).size ≤ j + k := by
  have h1 := mg_lt hx
  have h2 := mg_lt hy
  refine mg_size_le ?_
  rw [Int.natAbs_mul, Nat.pow_add]
  exact Nat.mul_lt_mul'' h1 h2
/-! Blocks of one integer. -/
section
variable {w : World} {g : Nat} {E : TypeId} {u v : Value}
theorem Blk.two (h : Blk w g E [u, v]) : w.cell? ⟨g, 0, none⟩ = some u ∧ w.cell? ⟨g, 1, none⟩ = some v ∧ w.frozen? ⟨g, 0, none⟩ = false ∧ w.frozen? ⟨g, 1, none⟩ = false :=
  ⟨h.cell rfl, h.cell rfl, h.free (by simp), h.free (by simp)⟩
end
end Go.Proofs.YtodcomijjmobdaaGreatDoor

/- integer.canonical, Normalize, Neg, and the reference's of, Norm, Neg. -/
namespace Go.Proofs.YtodcomijjmobdaaGreatDoor
open Go.RowKit NM

theorem canonV (n : Bool) (s : ByteArray) : Z (iv n s) = (I2 (n && !decide (nat s = 0)) (can (nat s))) := by
  show Value.agg #[.bool (sg (iv n s)), .string (mg (iv n s))] = _
  rw [sg_iv, mg_iv]
theorem below_alloc (w : World) (o : Obj) : Below w.heap.size w (w.alloc o) := (Below.refl _ _).alloc (Nat.le_refl _) _

set_option maxHeartbeats 400000 in
theorem canonical_any (n : Bool) (s : ByteArray) (w : World) (hs : s.size ≤ maxLen) :
    Calls Tryz.prog 117 #[.bool n, .string s] w fun e w' => e = .returned (Z (iv n s)) ∧ Below w.heap.size w w' := by
  rw [canonV]
  have h1 := isEmpty_can (nat s)
  generalize decide (nat s = 0) = b at h1 ⊢
  cases b <;> cases n
  all_goals
    go_enter Tryz.func117, Tryz.ntmps117
    go_wp2_with (go_at_call 140; refine (Normalize_any _ _ hs).mono ?_; rintro e wn ⟨rfl, rfl⟩)
    exact bodyPost_ret (by simp [results, Tryz.results117, go_sem]) rfl ⟨rfl, below_alloc _ _⟩

set_option maxHeartbeats 400000 in
theorem of_any (n : Bool) (s : ByteArray) (w : World) (hs : s.size ≤ maxLen) :
    Calls Tryz.prog 101 #[.bool n, .string s] w fun e w' => e = .returned (Z (iv n s)) ∧ Below w.heap.size w w' := by
  rw [canonV]
  have h1 := isEmpty_can (nat s)
  generalize decide (nat s = 0) = b at h1 ⊢
  cases b <;> cases n
  all_goals
    go_enter Tryz.func101, Tryz.ntmps101
    go_wp2_with (go_at_call 102; refine (Norm_any _ _ hs).mono ?_; rintro e wn ⟨rfl, rfl⟩)
    exact bodyPost_ret (by simp [results, Tryz.results101, go_sem]) rfl ⟨rfl, below_alloc _ _⟩

theorem Blk.new1 (w : World) (o : Obj) (cs : Array Value) (E : TypeId) : Blk ((w.alloc o).alloc (.cells cs E)) (w.heap.size + 1) E cs.toList := by
  have h := Blk.new (w.alloc o) cs E
  simpa using h
theorem Blk.new2 (w : World) (o o' : Obj) (cs : Array Value) (E : TypeId) : Blk (((w.alloc o).alloc o').alloc (.cells cs E)) (w.heap.size + 1 + 1) E cs.toList := by
  have h := Blk.new ((w.alloc o).alloc o') cs E
  simpa using h

theorem bel1 (w : World) (o : Obj) {wn : World} (h : Below (w.alloc o).heap.size (w.alloc o) wn) : Below w.heap.size w wn := then_ (below_alloc w o) h
theorem bel2 (w : World) (o o' : Obj) {wn : World} (h : Below ((w.alloc o).alloc o').heap.size ((w.alloc o).alloc o') wn) : Below w.heap.size w wn := bel1 w o (bel1 _ o' h)
theorem bel3 (w : World) (o o' o'' : Obj) {wn : World} (h : Below (((w.alloc o).alloc o').alloc o'').heap.size (((w.alloc o).alloc o').alloc o'') wn) : Below w.heap.size w wn := bel1 w o (bel2 _ o' o'' h)
theorem set2 {a b : World} {B g : Nat} (h : Below B a b) (hp : B ≤ g) (u v : Value) : Below B a ((b.setCell ⟨g, 0, none⟩ u).setCell ⟨g, 1, none⟩ v) := (h.setCell hp u).setCell hp v

/-! One integer comes in, a result lies behind it: the walk of Normalize, Norm, Neg. -/
set_option maxHeartbeats 400000 in
theorem Normalize2_any (n : Bool) (s : ByteArray) (w : World) (hs : s.size ≤ maxLen) :
    Calls Tryz.prog 126 #[I2 n s] w fun e w' => e = .returned (Z (iv n s)) ∧ Below w.heap.size w w' := by
  go_enter Tryz.func126, Tryz.ntmps126
  go_wp2_with fail
  refine (canonical_any n s _ hs).mono ?_
  rintro e wn ⟨rfl, hbn⟩
  obtain ⟨c1, c2, f1, f2⟩ := ((Blk.new1 _ _ _ _).keep hbn).two
  go_wp2_with fail
  exact bodyPost_ret (by simp [results, Tryz.results126, go_sem, c1, c2]) rfl ⟨rfl, set2 (bel2 _ _ _ hbn) (by omega) _ _⟩
set_option maxHeartbeats 400000 in
theorem refNorm2_any (n : Bool) (s : ByteArray) (w : World) (hs : s.size ≤ maxLen) :
    Calls Tryz.prog 41 #[I2 n s] w fun e w' => e = .returned (Z (iv n s)) ∧ Below w.heap.size w w' := by
  go_enter Tryz.func41, Tryz.ntmps41
  go_wp2_with fail
  refine (of_any n s _ hs).mono ?_
  rintro e wn ⟨rfl, hbn⟩
  obtain ⟨c1, c2, f1, f2⟩ := ((Blk.new1 _ _ _ _).keep hbn).two
  go_wp2_with fail
  exact bodyPost_ret (by simp [results, Tryz.results41, go_sem, c1, c2]) rfl ⟨rfl, set2 (bel2 _ _ _ hbn) (by omega) _ _⟩

theorem iv_not (n : Bool) (s : ByteArray) : iv (!n) s = -iv n s := by cases n <;> simp [iv]
set_option maxHeartbeats 400000 in
theorem Neg2_any (n : Bool) (s : ByteArray) (w : World) (hs : s.size ≤ maxLen) :
    Calls Tryz.prog 77 #[I2 n s] w fun e w' => e = .returned (Z (-iv n s)) ∧ Below w.heap.size w w' := by
  rw [← iv_not]
  go_enter Tryz.func77, Tryz.ntmps77
  go_wp2_with fail
  refine (canonical_any (!n) s _ hs).mono ?_
  rintro e wn ⟨rfl, hbn⟩
  obtain ⟨c1, c2, f1, f2⟩ := ((Blk.new1 _ _ _ _).keep hbn).two
  go_wp2_with fail
  exact bodyPost_ret (by simp [results, Tryz.results77, go_sem, c1, c2]) rfl ⟨rfl, set2 (bel2 _ _ _ hbn) (by omega) _ _⟩
set_option maxHeartbeats 400000 in
theorem refNeg2_any (n : Bool) (s : ByteArray) (w : World) (hs : s.size ≤ maxLen) :
    Calls Tryz.prog 45 #[I2 n s] w fun e w' => e = .returned (Z (-iv n s)) ∧ Below w.heap.size w w' := by
  rw [← iv_not]
  go_enter Tryz.func45, Tryz.ntmps45
  go_wp2_with fail
  refine (of_any (!n) s _ hs).mono ?_
  rintro e wn ⟨rfl, hbn⟩
  obtain ⟨c1, c2, f1, f2⟩ := ((Blk.new1 _ _ _ _).keep hbn).two
  go_wp2_with fail
  exact bodyPost_ret (by simp [results, Tryz.results45, go_sem, c1, c2]) rfl ⟨rfl, set2 (bel2 _ _ _ hbn) (by omega) _ _⟩
end Go.Proofs.YtodcomijjmobdaaGreatDoor

/- integer.Mul, Add, Sub and the reference's. -/
namespace Go.Proofs.YtodcomijjmobdaaGreatDoor
open Go.RowKit NM

/-- TwoB cells that may be written. -/
def TwoB (w : World) (g : Nat) (E : TypeId) : Prop := ∃ u v, Blk w g E [u, v]
section
variable {w wn w0 : World} {g g1 g2 g3 : Nat} {E : TypeId} {u v u1 v1 u2 v2 : Value} {cs : List Value}
theorem TwoB.keep (h : TwoB w g E) (hb : Below w.heap.size w wn) : TwoB wn g E := by
  obtain ⟨u, v, h⟩ := h
  exact ⟨u, v, h.keep hb⟩
theorem TwoB.set (h : TwoB w g E) (x y : Value) : TwoB ((w.setCell ⟨g, 0, none⟩ x).setCell ⟨g, 1, none⟩ y) g E := by
  obtain ⟨u, v, h⟩ := h
  exact ⟨x, y, (h.set 0 x).set 1 y⟩
theorem Blk.far (h : Blk w g E cs) (hne : g3 ≠ g) (x y : Value) : Blk ((w.setCell ⟨g3, 0, none⟩ x).setCell ⟨g3, 1, none⟩ y) g E cs := (h.setOther hne x).setOther hne y
/-- TwoB integers in boxes and a place for the result. -/
def Rest2 (w0 : World) (g1 g2 g3 : Nat) (E : TypeId) (u1 v1 u2 v2 : Value) (w : World) : Prop :=
  (Blk w g1 E [u1, v1] ∧ Blk w g2 E [u2, v2] ∧ TwoB w g3 E) ∧ Below w0.heap.size w0 w ∧ g3 ≠ g1 ∧ g3 ≠ g2 ∧ w0.heap.size ≤ g3
theorem Rest2.all (h : Rest2 w0 g1 g2 g3 E u1 v1 u2 v2 w) :
    w.cell? ⟨g1, 0, none⟩ = some u1 ∧ w.cell? ⟨g1, 1, none⟩ = some v1 ∧ w.cell? ⟨g2, 0, none⟩ = some u2 ∧ w.cell? ⟨g2, 1, none⟩ = some v2 ∧ Rest2 w0 g1 g2 g3 E u1 v1 u2 v2 w :=
  ⟨h.1.1.two.1, h.1.1.two.2.1, h.1.2.1.two.1, h.1.2.1.two.2.1, h⟩
theorem Rest2.drew (h : Rest2 w0 g1 g2 g3 E u1 v1 u2 v2 w) : Rest2 w0 g1 g2 g3 E u1 v1 u2 v2 w.drew := ⟨h.1, h.2.1.drew, h.2.2⟩
theorem Rest2.keep (h : Rest2 w0 g1 g2 g3 E u1 v1 u2 v2 w) (hb : Below w.heap.size w wn) : Rest2 w0 g1 g2 g3 E u1 v1 u2 v2 wn :=
  ⟨⟨h.1.1.keep hb, h.1.2.1.keep hb, h.1.2.2.keep hb⟩, then_ h.2.1 hb, h.2.2⟩
theorem Rest2.set (h : Rest2 w0 g1 g2 g3 E u1 v1 u2 v2 w) (x y : Value) : Rest2 w0 g1 g2 g3 E u1 v1 u2 v2 ((w.setCell ⟨g3, 0, none⟩ x).setCell ⟨g3, 1, none⟩ y) :=
  ⟨⟨h.1.1.far h.2.2.1 x y, h.1.2.1.far h.2.2.2.1 x y, h.1.2.2.set x y⟩, set2 h.2.1 h.2.2.2.2 x y, h.2.2⟩
theorem Rest2.two (h : Rest2 w0 g1 g2 g3 E u1 v1 u2 v2 w) : ∃ u v, w.cell? ⟨g3, 0, none⟩ = some u ∧ w.cell? ⟨g3, 1, none⟩ = some v ∧ w.frozen? ⟨g3, 0, none⟩ = false ∧ w.frozen? ⟨g3, 1, none⟩ = false := by
  obtain ⟨u, v, h⟩ := h.1.2.2
  exact ⟨u, v, h.two⟩
theorem Rest2.below (h : Rest2 w0 g1 g2 g3 E u1 v1 u2 v2 w) : Below w0.heap.size w0 w := h.2.1
/-- The world in which a function of two integers begins. -/
theorem Rest2.start (w : World) (E : TypeId) (u1 v1 u2 v2 x y : Value) :
    Rest2 w w.heap.size (w.heap.size + 1) (w.heap.size + 1 + 1) E u1 v1 u2 v2 (((w.alloc (.cells #[u1, v1] E)).alloc (.cells #[u2, v2] E)).alloc (.cells #[x, y] E)) :=
  ⟨⟨((Blk.new w #[u1, v1] E).alloc _).alloc _, (Blk.new1 w _ #[u2, v2] E).alloc _, ⟨x, y, Blk.new2 w _ _ #[x, y] E⟩⟩, bel3 w _ _ _ (Below.refl _ _), by omega, by omega, by omega⟩
end

theorem iv_mul (n m : Bool) (s t : ByteArray) : iv (!(n == m)) (can (nat s * nat t)) = iv n s * iv m t := by
  cases n <;> cases m <;> simp [iv, nat_can, Int.neg_mul, Int.mul_neg]
theorem iv_add_same (n : Bool) (s t : ByteArray) : iv n (can (nat s + nat t)) = iv n s + iv n t := by
  cases n <;> simp [iv, nat_can]
  omega
theorem iv_add_ge {n m : Bool} {s t : ByteArray} (hnm : (n == m) = false) (h : nat t ≤ nat s) : iv n s + iv m t = iv n (can (nat s - nat t)) := by
  cases n <;> cases m <;> simp [iv, nat_can] at hnm ⊢ <;> omega
theorem iv_add_lt {n m : Bool} {s t : ByteArray} (hnm : (n == m) = false) (h : nat s < nat t) : iv n s + iv m t = iv m (can (nat t - nat s)) := by
  cases n <;> cases m <;> simp [iv, nat_can] at hnm ⊢ <;> omega
theorem can_mul_size (s t : ByteArray) : (can (nat s * nat t)).size ≤ s.size + t.size := can_size_le (by
  rw [Nat.pow_add]
  exact Nat.mul_lt_mul'' (nat_lt s) (nat_lt t))
theorem can_sub_size (s : ByteArray) (k : Nat) : (can (nat s - k)).size ≤ s.size := can_size_le (Nat.lt_of_le_of_lt (Nat.sub_le _ _) (nat_lt s))
theorem can_add_size (s t : ByteArray) : (can (nat s + nat t)).size ≤ s.size + t.size + 1 := can_size_le (by
  have h1 := Nat.lt_of_lt_of_le (nat_lt s) (Nat.pow_le_pow_right (n := 256) (by omega) (show s.size ≤ s.size + t.size by omega))
  have h2 := Nat.lt_of_lt_of_le (nat_lt t) (Nat.pow_le_pow_right (n := 256) (by omega) (show t.size ≤ s.size + t.size by omega))
  rw [Nat.pow_succ]
  omega)

set_option maxHeartbeats 1000000 in
theorem Mul2_any (n m : Bool) (s t : ByteArray) (w : World) (hs : s.size ≤ 1073741824) (ht : t.size ≤ 1073741824) :
    Calls Tryz.prog 59 #[I2 n s, I2 m t] w fun e w' => e = .returned (Z (iv n s * iv m t)) ∧ Below w.heap.size w w' := by
  have hst := can_mul_size s t
  rw [← iv_mul]
  have hR := Rest2.start w 27 (.bool n) (.string s) (.bool m) (.string t) (.bool false) (.string ⟨#[]⟩)
  go_enter Tryz.func59, Tryz.ntmps59
  go_wp2_with fail
  generalize ((w.alloc (Obj.cells #[Value.bool n, Value.string s] 27)).alloc (Obj.cells #[Value.bool m, Value.string t] 27)).alloc (Obj.cells #[Value.bool false, Value.string ⟨#[]⟩] 27) = W at hR ⊢
  go_region_held3 (fun w' => w'.cell? ⟨w.heap.size, 0, none⟩ = some (.bool n) ∧ w'.cell? ⟨w.heap.size, 1, none⟩ = some (.string s) ∧ w'.cell? ⟨w.heap.size + 1, 0, none⟩ = some (.bool m) ∧ w'.cell? ⟨w.heap.size + 1, 1, none⟩ = some (.string t) ∧ Rest2 w w.heap.size (w.heap.size + 1) (w.heap.size + 1 + 1) 27 (.bool n) (.string s) (.bool m) (.string t) w')
    (first | exact (hR.drew).all | exact hRn.all | exact (hRn.set _ _).all)
    (first
      | (go_at_call 118; refine (Mul_any _ _ _ ?_ ?_).mono ?_; omega; omega; rintro e wn ⟨rfl, hbn⟩; go_split_ands; have hRn := Rest2.keep (by assumption) hbn)
      | (go_at_call 117; refine (canonical_any _ _ _ ?_).mono ?_; (simp [maxLen]; omega); rintro e wn ⟨rfl, hbn⟩; go_split_ands; have hRn := Rest2.keep (by assumption) hbn; obtain ⟨u, v, c1, c2, f1, f2⟩ := hRn.two))
  go_wp2_with fail
  exact bodyPost_ret (by simp [results, Tryz.results59, go_sem, c1, c2]) rfl ⟨rfl, (hRn.set _ _).below⟩

set_option maxHeartbeats 1000000 in
theorem refMul2_any (n m : Bool) (s t : ByteArray) (w : World) (hs : s.size ≤ 1073741824) (ht : t.size ≤ 1073741824) :
    Calls Tryz.prog 115 #[I2 n s, I2 m t] w fun e w' => e = .returned (Z (iv n s * iv m t)) ∧ Below w.heap.size w w' := by
  have hst := can_mul_size s t
  rw [← iv_mul]
  have hR := Rest2.start w 27 (.bool n) (.string s) (.bool m) (.string t) (.bool false) (.string ⟨#[]⟩)
  go_enter Tryz.func115, Tryz.ntmps115
  go_wp2_with fail
  generalize ((w.alloc (Obj.cells #[Value.bool n, Value.string s] 27)).alloc (Obj.cells #[Value.bool m, Value.string t] 27)).alloc (Obj.cells #[Value.bool false, Value.string ⟨#[]⟩] 27) = W at hR ⊢
  go_region_held3 (fun w' => w'.cell? ⟨w.heap.size, 0, none⟩ = some (.bool n) ∧ w'.cell? ⟨w.heap.size, 1, none⟩ = some (.string s) ∧ w'.cell? ⟨w.heap.size + 1, 0, none⟩ = some (.bool m) ∧ w'.cell? ⟨w.heap.size + 1, 1, none⟩ = some (.string t) ∧ Rest2 w w.heap.size (w.heap.size + 1) (w.heap.size + 1 + 1) 27 (.bool n) (.string s) (.bool m) (.string t) w')
    (first | exact (hR.drew).all | exact hRn.all | exact (hRn.set _ _).all)
    (first
      | (go_at_call 139; refine (refMul_any _ _ _ ?_ ?_).mono ?_; omega; omega; rintro e wn ⟨rfl, hbn⟩; go_split_ands; have hRn := Rest2.keep (by assumption) hbn)
      | (go_at_call 101; refine (of_any _ _ _ ?_).mono ?_; (simp [maxLen]; omega); rintro e wn ⟨rfl, hbn⟩; go_split_ands; have hRn := Rest2.keep (by assumption) hbn; obtain ⟨u, v, c1, c2, f1, f2⟩ := hRn.two))
  go_wp2_with fail
  exact bodyPost_ret (by simp [results, Tryz.results115, go_sem, c1, c2]) rfl ⟨rfl, (hRn.set _ _).below⟩

set_option maxHeartbeats 1000000 in
theorem Add2_any_same (n : Bool) (s t : ByteArray) (w : World) (hs : s.size ≤ 1073741824) (ht : t.size ≤ 1073741824) :
    Calls Tryz.prog 87 #[I2 n s, I2 n t] w fun e w' => e = .returned (Z (iv n s + iv n t)) ∧ Below w.heap.size w w' := by
  have hst := can_add_size s t
  rw [← iv_add_same]
  have hnn : (n == n) = true := beq_self_eq_true n
  have hR := Rest2.start w 27 (.bool n) (.string s) (.bool n) (.string t) (.bool false) (.string ⟨#[]⟩)
  go_enter Tryz.func87, Tryz.ntmps87
  go_wp2_with fail
  generalize ((w.alloc (Obj.cells #[Value.bool n, Value.string s] 27)).alloc (Obj.cells #[Value.bool n, Value.string t] 27)).alloc (Obj.cells #[Value.bool false, Value.string ⟨#[]⟩] 27) = W at hR ⊢
  go_region_held3 (fun w' => w'.cell? ⟨w.heap.size, 0, none⟩ = some (.bool n) ∧ w'.cell? ⟨w.heap.size, 1, none⟩ = some (.string s) ∧ w'.cell? ⟨w.heap.size + 1, 0, none⟩ = some (.bool n) ∧ w'.cell? ⟨w.heap.size + 1, 1, none⟩ = some (.string t) ∧ Rest2 w w.heap.size (w.heap.size + 1) (w.heap.size + 1 + 1) 27 (.bool n) (.string s) (.bool n) (.string t) w')
    (first | exact (hR.drew).all | exact hRn.all | exact (hRn.set _ _).all)
    (first
      | (go_at_call 129; refine (Add_any _ _ _ ?_ ?_).mono ?_; omega; omega; rintro e wn ⟨rfl, hbn⟩; go_split_ands; have hRn := Rest2.keep (by assumption) hbn)
      | (go_at_call 117; refine (canonical_any _ _ _ ?_).mono ?_; (simp [maxLen]; omega); rintro e wn ⟨rfl, hbn⟩; go_split_ands; have hRn := Rest2.keep (by assumption) hbn; obtain ⟨u, v, c1, c2, f1, f2⟩ := hRn.two))
  go_wp2_with fail
  exact bodyPost_ret (by simp [results, Tryz.results87, go_sem, c1, c2]) rfl ⟨rfl, (hRn.set _ _).below⟩
set_option maxHeartbeats 1000000 in
theorem Add2_any_other (n m : Bool) (s t : ByteArray) (w : World) (hnm : (n == m) = false) (hs : s.size ≤ 1073741824) (ht : t.size ≤ 1073741824) :
    Calls Tryz.prog 87 #[I2 n s, I2 m t] w fun e w' => e = .returned (Z (iv n s + iv m t)) ∧ Below w.heap.size w w' := by
  by_cases h : nat t ≤ nat s
  · rw [iv_add_ge hnm h]
    have hst := can_sub_size s (nat t)
    have hv := subVal_ge h
    clear h
    have hR := Rest2.start w 27 (.bool n) (.string s) (.bool m) (.string t) (.bool false) (.string ⟨#[]⟩)
    go_enter Tryz.func87, Tryz.ntmps87
    go_wp2_with fail
    refine (Sub_any s t _ (by omega) (by omega)).mono ?_
    rintro e w1 ⟨rfl, hb1⟩
    rw [hv]
    clear hv
    have hR1 := hR.keep hb1
    obtain ⟨a1, a2, a3, a4, -⟩ := hR1.all
    clear hR hb1
    go_wp2_with fail
    refine (canonical_any n _ _ (by simp [maxLen]; omega)).mono ?_
    rintro e w2 ⟨rfl, hb2⟩
    have hRn := hR1.keep hb2
    obtain ⟨u, v, c1, c2, f1, f2⟩ := hRn.two
    go_wp2_with fail
    exact bodyPost_ret (by simp [results, Tryz.results87, go_sem, c1, c2]) rfl ⟨rfl, (hRn.set _ _).below⟩
  · have h' : nat s < nat t := by omega
    rw [iv_add_lt hnm h']
    have hst := can_sub_size t (nat s)
    have hv := subVal_lt h'
    have hv2 := subVal_ge (Nat.le_of_lt h')
    clear h h'
    have hR := Rest2.start w 27 (.bool n) (.string s) (.bool m) (.string t) (.bool false) (.string ⟨#[]⟩)
    go_enter Tryz.func87, Tryz.ntmps87
    go_wp2_with fail
    refine (Sub_any s t _ (by omega) (by omega)).mono ?_
    rintro e w1 ⟨rfl, hb1⟩
    rw [hv]
    clear hv
    have hR1 := hR.keep hb1
    obtain ⟨a1, a2, a3, a4, -⟩ := hR1.all
    clear hR hb1
    go_wp2_with fail
    refine (Sub_any t s _ (by omega) (by omega)).mono ?_
    rintro e w2 ⟨rfl, hb2⟩
    rw [hv2]
    clear hv2
    have hR2 := hR1.keep hb2
    clear a1 a2 a3 a4 hR1 hb2
    obtain ⟨a1, a2, a3, a4, -⟩ := hR2.all
    go_wp2_with fail
    refine (canonical_any m _ _ (by simp [maxLen]; omega)).mono ?_
    rintro e w3 ⟨rfl, hb3⟩
    have hRn := hR2.keep hb3
    obtain ⟨u, v, c1, c2, f1, f2⟩ := hRn.two
    go_wp2_with fail
    exact bodyPost_ret (by simp [results, Tryz.results87, go_sem, c1, c2]) rfl ⟨rfl, (hRn.set _ _).below⟩
theorem Add2_any (n m : Bool) (s t : ByteArray) (w : World) (hs : s.size ≤ 1073741824) (ht : t.size ≤ 1073741824) :
    Calls Tryz.prog 87 #[I2 n s, I2 m t] w fun e w' => e = .returned (Z (iv n s + iv m t)) ∧ Below w.heap.size w w' := by
  rcases h : (n == m) with _ | _
  · exact Add2_any_other n m s t w h hs ht
  · obtain rfl : n = m := by simpa using h
    exact Add2_any_same n s t w hs ht

set_option maxHeartbeats 1000000 in
theorem refAdd2_any_same (n : Bool) (s t : ByteArray) (w : World) (hs : s.size ≤ 1073741824) (ht : t.size ≤ 1073741824) :
    Calls Tryz.prog 106 #[I2 n s, I2 n t] w fun e w' => e = .returned (Z (iv n s + iv n t)) ∧ Below w.heap.size w w' := by
  have hst := can_add_size s t
  rw [← iv_add_same]
  have hnn : (n == n) = true := beq_self_eq_true n
  have hR := Rest2.start w 27 (.bool n) (.string s) (.bool n) (.string t) (.bool false) (.string ⟨#[]⟩)
  go_enter Tryz.func106, Tryz.ntmps106
  go_wp2_with fail
  generalize ((w.alloc (Obj.cells #[Value.bool n, Value.string s] 27)).alloc (Obj.cells #[Value.bool n, Value.string t] 27)).alloc (Obj.cells #[Value.bool false, Value.string ⟨#[]⟩] 27) = W at hR ⊢
  go_region_held3 (fun w' => w'.cell? ⟨w.heap.size, 0, none⟩ = some (.bool n) ∧ w'.cell? ⟨w.heap.size, 1, none⟩ = some (.string s) ∧ w'.cell? ⟨w.heap.size + 1, 0, none⟩ = some (.bool n) ∧ w'.cell? ⟨w.heap.size + 1, 1, none⟩ = some (.string t) ∧ Rest2 w w.heap.size (w.heap.size + 1) (w.heap.size + 1 + 1) 27 (.bool n) (.string s) (.bool n) (.string t) w')
    (first | exact (hR.drew).all | exact hRn.all | exact (hRn.set _ _).all)
    (first
      | (go_at_call 137; refine (refAdd_any _ _ _ ?_ ?_).mono ?_; omega; omega; rintro e wn ⟨rfl, hbn⟩; go_split_ands; have hRn := Rest2.keep (by assumption) hbn)
      | (go_at_call 101; refine (of_any _ _ _ ?_).mono ?_; (simp [maxLen]; omega); rintro e wn ⟨rfl, hbn⟩; go_split_ands; have hRn := Rest2.keep (by assumption) hbn; obtain ⟨u, v, c1, c2, f1, f2⟩ := hRn.two))
  go_wp2_with fail
  exact bodyPost_ret (by simp [results, Tryz.results106, go_sem, c1, c2]) rfl ⟨rfl, (hRn.set _ _).below⟩
set_option maxHeartbeats 1000000 in
theorem refAdd2_any_other (n m : Bool) (s t : ByteArray) (w : World) (hnm : (n == m) = false) (hs : s.size ≤ 1073741824) (ht : t.size ≤ 1073741824) :
    Calls Tryz.prog 106 #[I2 n s, I2 m t] w fun e w' => e = .returned (Z (iv n s + iv m t)) ∧ Below w.heap.size w w' := by
  by_cases h : nat t ≤ nat s
  · rw [iv_add_ge hnm h]
    have hst := can_sub_size s (nat t)
    have hv := subVal_ge h
    clear h
    have hR := Rest2.start w 27 (.bool n) (.string s) (.bool m) (.string t) (.bool false) (.string ⟨#[]⟩)
    go_enter Tryz.func106, Tryz.ntmps106
    go_wp2_with fail
    refine (refSub_any s t _ (by omega) (by omega)).mono ?_
    rintro e w1 ⟨rfl, hb1⟩
    rw [hv]
    clear hv
    have hR1 := hR.keep hb1
    obtain ⟨a1, a2, a3, a4, -⟩ := hR1.all
    clear hR hb1
    go_wp2_with fail
    refine (of_any n _ _ (by simp [maxLen]; omega)).mono ?_
    rintro e w2 ⟨rfl, hb2⟩
    have hRn := hR1.keep hb2
    obtain ⟨u, v, c1, c2, f1, f2⟩ := hRn.two
    go_wp2_with fail
    exact bodyPost_ret (by simp [results, Tryz.results106, go_sem, c1, c2]) rfl ⟨rfl, (hRn.set _ _).below⟩
  · have h' : nat s < nat t := by omega
    rw [iv_add_lt hnm h']
    have hst := can_sub_size t (nat s)
    have hv := subVal_lt h'
    have hv2 := subVal_ge (Nat.le_of_lt h')
    clear h h'
    have hR := Rest2.start w 27 (.bool n) (.string s) (.bool m) (.string t) (.bool false) (.string ⟨#[]⟩)
    go_enter Tryz.func106, Tryz.ntmps106
    go_wp2_with fail
    refine (refSub_any s t _ (by omega) (by omega)).mono ?_
    rintro e w1 ⟨rfl, hb1⟩
    rw [hv]
    clear hv
    have hR1 := hR.keep hb1
    obtain ⟨a1, a2, a3, a4, -⟩ := hR1.all
    clear hR hb1
    go_wp2_with fail
    refine (refSub_any t s _ (by omega) (by omega)).mono ?_
    rintro e w2 ⟨rfl, hb2⟩
    rw [hv2]
    clear hv2
    have hR2 := hR1.keep hb2
    clear a1 a2 a3 a4 hR1 hb2
    obtain ⟨a1, a2, a3, a4, -⟩ := hR2.all
    go_wp2_with fail
    refine (of_any m _ _ (by simp [maxLen]; omega)).mono ?_
    rintro e w3 ⟨rfl, hb3⟩
    have hRn := hR2.keep hb3
    obtain ⟨u, v, c1, c2, f1, f2⟩ := hRn.two
    go_wp2_with fail
    exact bodyPost_ret (by simp [results, Tryz.results106, go_sem, c1, c2]) rfl ⟨rfl, (hRn.set _ _).below⟩
theorem refAdd2_any (n m : Bool) (s t : ByteArray) (w : World) (hs : s.size ≤ 1073741824) (ht : t.size ≤ 1073741824) :
    Calls Tryz.prog 106 #[I2 n s, I2 m t] w fun e w' => e = .returned (Z (iv n s + iv m t)) ∧ Below w.heap.size w w' := by
  rcases h : (n == m) with _ | _
  · exact refAdd2_any_other n m s t w h hs ht
  · obtain rfl : n = m := by simpa using h
    exact refAdd2_any_same n s t w hs ht
end Go.Proofs.YtodcomijjmobdaaGreatDoor

/- integer.Sub, Sign, FromInt64 and the reference's Sub, Sign, From. -/
namespace Go.Proofs.YtodcomijjmobdaaGreatDoor
open Go.RowKit NM

/-- Integers in boxes. -/
def Hold (E : TypeId) (w0 : World) (L : List (Nat × Value × Value)) (w : World) : Prop := (∀ x ∈ L, Blk w x.1 E [x.2.1, x.2.2]) ∧ Below w0.heap.size w0 w
section
variable {w wn w0 : World} {E : TypeId} {L : List (Nat × Value × Value)} {g g1 g2 g3 g4 g5 : Nat} {u v u1 v1 u2 v2 u3 v3 u4 v4 u5 v5 : Value}
theorem Hold.below (h : Hold E w0 L w) : Below w0.heap.size w0 w := h.2
theorem Hold.keep (h : Hold E w0 L w) (hb : Below w.heap.size w wn) : Hold E w0 L wn := ⟨fun x hx => (h.1 x hx).keep hb, then_ h.2 hb⟩
theorem Hold.drew (h : Hold E w0 L w) : Hold E w0 L w.drew := ⟨h.1, h.2.drew⟩
theorem Hold.nil (w : World) : Hold E w [] w := ⟨fun x hx => by simp at hx, Below.refl _ _⟩
theorem Hold.box (h : Hold E w0 L w) (u v : Value) : Hold E w0 ((w.heap.size, u, v) :: L) (w.alloc (.cells #[u, v] E)) := by
  refine ⟨fun x hx => ?_, then_ h.2 (below_alloc _ _)⟩
  rcases List.mem_cons.1 hx with rfl | hx
  · exact Blk.new w #[u, v] E
  · exact (h.1 x hx).alloc _
theorem Hold.alloc (h : Hold E w0 L w) (o : Obj) : Hold E w0 L (w.alloc o) := ⟨fun x hx => (h.1 x hx).alloc _, then_ h.2 (below_alloc _ _)⟩
theorem Hold.start1 (w : World) (E : TypeId) (u1 v1 : Value) : Hold E w [(w.heap.size, u1, v1)] (w.alloc (.cells #[u1, v1] E)) := (Hold.nil w).box u1 v1
theorem Hold.start2 (w : World) (E : TypeId) (u1 v1 u2 v2 : Value) : Hold E w [(w.heap.size + 1, u2, v2), (w.heap.size, u1, v1)] ((w.alloc (.cells #[u1, v1] E)).alloc (.cells #[u2, v2] E)) := by
  have h := (Hold.start1 w E u1 v1).box u2 v2
  simpa using h
theorem Hold.start3 (w : World) (E : TypeId) (u1 v1 u2 v2 u3 v3 : Value) : Hold E w [(w.heap.size + 1 + 1, u3, v3), (w.heap.size + 1, u2, v2), (w.heap.size, u1, v1)] (((w.alloc (.cells #[u1, v1] E)).alloc (.cells #[u2, v2] E)).alloc (.cells #[u3, v3] E)) := by
  have h := (Hold.start2 w E u1 v1 u2 v2).box u3 v3
  simpa using h
theorem Hold.at_ (h : Hold E w0 L w) {x : Nat × Value × Value} (hx : x ∈ L) : w.cell? ⟨x.1, 0, none⟩ = some x.2.1 ∧ w.cell? ⟨x.1, 1, none⟩ = some x.2.2 := ⟨(h.1 x hx).two.1, (h.1 x hx).two.2.1⟩
theorem Hold.all4 (h : Hold E w0 [(g4, u4, v4), (g3, u3, v3), (g2, u2, v2), (g1, u1, v1)] w) :
    w.cell? ⟨g1, 0, none⟩ = some u1 ∧ w.cell? ⟨g1, 1, none⟩ = some v1 ∧ w.cell? ⟨g2, 0, none⟩ = some u2 ∧ w.cell? ⟨g2, 1, none⟩ = some v2 ∧ w.cell? ⟨g3, 0, none⟩ = some u3 ∧ w.cell? ⟨g3, 1, none⟩ = some v3 ∧ w.cell? ⟨g4, 0, none⟩ = some u4 ∧ w.cell? ⟨g4, 1, none⟩ = some v4 ∧ Hold E w0 [(g4, u4, v4), (g3, u3, v3), (g2, u2, v2), (g1, u1, v1)] w :=
  ⟨(h.at_ (x := (g1, u1, v1)) (by simp)).1, (h.at_ (x := (g1, u1, v1)) (by simp)).2, (h.at_ (x := (g2, u2, v2)) (by simp)).1, (h.at_ (x := (g2, u2, v2)) (by simp)).2, (h.at_ (x := (g3, u3, v3)) (by simp)).1, (h.at_ (x := (g3, u3, v3)) (by simp)).2, (h.at_ (x := (g4, u4, v4)) (by simp)).1, (h.at_ (x := (g4, u4, v4)) (by simp)).2, h⟩
end

set_option maxHeartbeats 1000000 in
theorem Sub2_any (n m : Bool) (s t : ByteArray) (w : World) (hs : s.size ≤ 1073741824) (ht : t.size ≤ 1073741824) :
    Calls Tryz.prog 85 #[I2 n s, I2 m t] w fun e w' => e = .returned (Z (iv n s - iv m t)) ∧ Below w.heap.size w w' := by
  have hst := mg_neg_size (mg_iv_size (n := m) ht)
  rw [Int.sub_eq_add_neg]
  have hR := Rest2.start w 27 (.bool n) (.string s) (.bool m) (.string t) (.bool false) (.string ⟨#[]⟩)
  go_enter Tryz.func85, Tryz.ntmps85
  go_wp2_with fail
  generalize ((w.alloc (Obj.cells #[Value.bool n, Value.string s] 27)).alloc (Obj.cells #[Value.bool m, Value.string t] 27)).alloc (Obj.cells #[Value.bool false, Value.string ⟨#[]⟩] 27) = W at hR ⊢
  go_region_held3 (fun w' => w'.cell? ⟨w.heap.size, 0, none⟩ = some (.bool n) ∧ w'.cell? ⟨w.heap.size, 1, none⟩ = some (.string s) ∧ w'.cell? ⟨w.heap.size + 1, 0, none⟩ = some (.bool m) ∧ w'.cell? ⟨w.heap.size + 1, 1, none⟩ = some (.string t) ∧ Rest2 w w.heap.size (w.heap.size + 1) (w.heap.size + 1 + 1) 27 (.bool n) (.string s) (.bool m) (.string t) w')
    (first | exact (hR.drew).all | exact hRn.all | exact (hRn.set _ _).all)
    (first
      | (go_at_call 77; refine (Neg2_any _ _ _ ?_).mono ?_; (simp [maxLen]; omega); rintro e wn ⟨rfl, hbn⟩; go_split_ands; have hRn := Rest2.keep (by assumption) hbn)
      | (go_at_call 87; refine (Add2_any _ _ _ _ _ ?_ ?_).mono ?_; omega; omega; simp only [iv_Z]; rintro e wn ⟨rfl, hbn⟩; go_split_ands; have hRn := Rest2.keep (by assumption) hbn; obtain ⟨u, v, c1, c2, f1, f2⟩ := hRn.two))
  go_wp2_with fail
  exact bodyPost_ret (by simp [results, Tryz.results85, go_sem, c1, c2]) rfl ⟨rfl, (hRn.set _ _).below⟩
set_option maxHeartbeats 1000000 in
theorem refSub2_any (n m : Bool) (s t : ByteArray) (w : World) (hs : s.size ≤ 1073741824) (ht : t.size ≤ 1073741824) :
    Calls Tryz.prog 107 #[I2 n s, I2 m t] w fun e w' => e = .returned (Z (iv n s - iv m t)) ∧ Below w.heap.size w w' := by
  have hst := mg_neg_size (mg_iv_size (n := m) ht)
  rw [Int.sub_eq_add_neg]
  have hR := Rest2.start w 27 (.bool n) (.string s) (.bool m) (.string t) (.bool false) (.string ⟨#[]⟩)
  go_enter Tryz.func107, Tryz.ntmps107
  go_wp2_with fail
  generalize ((w.alloc (Obj.cells #[Value.bool n, Value.string s] 27)).alloc (Obj.cells #[Value.bool m, Value.string t] 27)).alloc (Obj.cells #[Value.bool false, Value.string ⟨#[]⟩] 27) = W at hR ⊢
  go_region_held3 (fun w' => w'.cell? ⟨w.heap.size, 0, none⟩ = some (.bool n) ∧ w'.cell? ⟨w.heap.size, 1, none⟩ = some (.string s) ∧ w'.cell? ⟨w.heap.size + 1, 0, none⟩ = some (.bool m) ∧ w'.cell? ⟨w.heap.size + 1, 1, none⟩ = some (.string t) ∧ Rest2 w w.heap.size (w.heap.size + 1) (w.heap.size + 1 + 1) 27 (.bool n) (.string s) (.bool m) (.string t) w')
    (first | exact (hR.drew).all | exact hRn.all | exact (hRn.set _ _).all)
    (first
      | (go_at_call 45; refine (refNeg2_any _ _ _ ?_).mono ?_; (simp [maxLen]; omega); rintro e wn ⟨rfl, hbn⟩; go_split_ands; have hRn := Rest2.keep (by assumption) hbn)
      | (go_at_call 106; refine (refAdd2_any _ _ _ _ _ ?_ ?_).mono ?_; omega; omega; simp only [iv_Z]; rintro e wn ⟨rfl, hbn⟩; go_split_ands; have hRn := Rest2.keep (by assumption) hbn; obtain ⟨u, v, c1, c2, f1, f2⟩ := hRn.two))
  go_wp2_with fail
  exact bodyPost_ret (by simp [results, Tryz.results107, go_sem, c1, c2]) rfl ⟨rfl, (hRn.set _ _).below⟩

theorem sgn_case (z : Int) : (sg z = false ∧ (mg z).toList.isEmpty = true ∧ cmpZ z 0 = 0) ∨ (sg z = false ∧ (mg z).toList.isEmpty = false ∧ cmpZ z 0 = 1) ∨ (sg z = true ∧ (mg z).toList.isEmpty = false ∧ cmpZ z 0 = -1) := by
  have he : (mg z).toList.isEmpty = decide (z.natAbs = 0) := isEmpty_can _
  rw [he]
  rcases Int.lt_trichotomy z 0 with h | h | h
  · exact .inr (.inr ⟨decide_eq_true h, decide_eq_false (by omega), cmpZ_lt h⟩)
  · subst h
    exact .inl ⟨rfl, rfl, rfl⟩
  · exact .inr (.inl ⟨decide_eq_false (by omega), decide_eq_false (by omega), cmpZ_gt h⟩)

set_option maxHeartbeats 1000000 in
theorem Sign2_any (n : Bool) (s : ByteArray) (w : World) (hs : s.size ≤ maxLen) :
    Calls Tryz.prog 78 #[I2 n s] w fun e w' => e = .returned (.int .i64 (cmpZ (iv n s) 0)) ∧ Below w.heap.size w w' := by
  have hz := sgn_case (iv n s)
  rcases hz with ⟨z1, z2, z3⟩ | ⟨z1, z2, z3⟩ | ⟨z1, z2, z3⟩
  all_goals
    rw [z3]
    have hR := (Hold.nil w (E := 27)).box (.bool n) (.string s)
    go_enter Tryz.func78, Tryz.ntmps78
    go_wp2_with fail
    refine (Normalize2_any n s _ hs).mono ?_
    rintro e wn ⟨rfl, hbn⟩
    have hB := ((hR.keep hbn).1 _ (List.mem_cons_self ..))
    obtain ⟨c1, c2, f1, f2⟩ := hB.two
    go_wp2_with fail
    go_ret
    exact ⟨rfl, set2 (hR.keep hbn).below (Nat.le_refl _) _ _⟩
set_option maxHeartbeats 1000000 in
theorem refSign2_any (n : Bool) (s : ByteArray) (w : World) (hs : s.size ≤ maxLen) :
    Calls Tryz.prog 42 #[I2 n s] w fun e w' => e = .returned (.int .i64 (cmpZ (iv n s) 0)) ∧ Below w.heap.size w w' := by
  have h1 := isEmpty_can (nat s)
  have h2 : cmpZ (iv n s) 0 = if decide (nat s = 0) = true then 0 else if n = true then -1 else 1 := by
    unfold cmpZ iv
    cases n <;> by_cases h : nat s = 0 <;> simp [h] <;> omega
  rw [h2]
  generalize decide (nat s = 0) = b at h1 ⊢
  clear h2
  cases b <;> cases n
  all_goals
    go_enter Tryz.func42, Tryz.ntmps42
    go_wp2_with (go_at_call 102; refine (Norm_any _ _ hs).mono ?_; rintro e wn ⟨rfl, rfl⟩)
    go_ret
    exact ⟨rfl, below_alloc _ _⟩

end Go.Proofs.YtodcomijjmobdaaGreatDoor

/- integer.FromInt64, voussoirref02.From, integer.Int64. -/
namespace Go.Proofs.YtodcomijjmobdaaGreatDoor
open Go.RowKit NM

theorem two_case (z : Int) (h1 : -9223372036854775808 ≤ z) (h2 : z ≤ 9223372036854775807) : (∃ k : Nat, z = (k : Int) ∧ k ≤ 9223372036854775807) ∨ (∃ k : Nat, z = -(k : Int) ∧ 0 < k ∧ k ≤ 9223372036854775808) := by
  by_cases h : 0 ≤ z
  · exact .inl ⟨z.toNat, by omega, by omega⟩
  · exact .inr ⟨(-z).toNat, by omega, by omega, by omega⟩
theorem from_neg {k : Nat} (h0 : 0 < k) (h : k ≤ 9223372036854775808) : IntKind.u64.wrap (-(IntKind.u64.wrap (-(k : Int)))) = (k : Int) := by
  simp [IntKind.wrap, IntKind.bits, IntKind.signed]; omega

set_option maxHeartbeats 1000000 in
theorem FromInt64_any (z : Int) (w : World) (hz1 : -9223372036854775808 ≤ z) (hz2 : z ≤ 9223372036854775807) :
    Calls Tryz.prog 89 #[.int .i64 z] w fun e w' => e = .returned (Z z) ∧ Below w.heap.size w w' := by
  rcases two_case z hz1 hz2 with ⟨k, rfl, hk⟩ | ⟨k, rfl, hk0, hk⟩
  · have hlt : ¬ (k : Int) < 0 := by omega
    have e : (k : Int) = iv false (can k) := by rw [iv_false, nat_can]
    have hsz : (can k).size ≤ 8 := can_size_8.2 (by omega)
    have HE := Lib.hid e
    clear e
    go_enter Tryz.func89, Tryz.ntmps89
    go_wp2_with fail
    refine (FromUint64_any k _ (by omega)).mono ?_
    rintro e w1 ⟨rfl, hb1⟩
    go_wp2_with fail
    refine (canonical_any false (can k) _ (by simp [maxLen]; omega)).mono ?_
    rintro e wn ⟨rfl, hb2⟩
    rw [← HE.out]
    obtain ⟨c1, c2, f1, f2⟩ := (((Blk.new w _ _).keep hb1).keep hb2).two
    go_wp2_with fail
    exact bodyPost_ret (by simp [results, Tryz.results89, go_sem, c1, c2]) rfl ⟨rfl, set2 (bel1 _ _ (then_ hb1 hb2)) (Nat.le_refl _) _ _⟩
  · have hlt : -(k : Int) < 0 := by omega
    have e : -(k : Int) = iv true (can k) := by rw [iv_true, nat_can]
    have hsz : (can k).size ≤ 8 := can_size_8.2 (by omega)
    have HE := Lib.hid e
    have HW := Lib.hid (from_neg hk0 hk)
    clear e
    go_enter Tryz.func89, Tryz.ntmps89
    go_wp2_with fail
    rw [HW.out]
    refine (FromUint64_any k _ (by omega)).mono ?_
    rintro e w1 ⟨rfl, hb1⟩
    go_wp2_with fail
    refine (canonical_any true (can k) _ (by simp [maxLen]; omega)).mono ?_
    rintro e wn ⟨rfl, hb2⟩
    rw [← HE.out]
    obtain ⟨c1, c2, f1, f2⟩ := (((Blk.new w _ _).keep hb1).keep hb2).two
    go_wp2_with fail
    exact bodyPost_ret (by simp [results, Tryz.results89, go_sem, c1, c2]) rfl ⟨rfl, set2 (bel1 _ _ (then_ hb1 hb2)) (Nat.le_refl _) _ _⟩

set_option maxHeartbeats 1000000 in
theorem From_any (z : Int) (w : World) (hz1 : -9223372036854775808 ≤ z) (hz2 : z ≤ 9223372036854775807) :
    Calls Tryz.prog 43 #[.int .i64 z] w fun e w' => e = .returned (Z z) ∧ Below w.heap.size w w' := by
  rcases two_case z hz1 hz2 with ⟨k, rfl, hk⟩ | ⟨k, rfl, hk0, hk⟩
  · have hlt : ¬ (k : Int) < 0 := by omega
    have e : (k : Int) = iv false (can k) := by rw [iv_false, nat_can]
    have hsz : (can k).size ≤ 8 := can_size_8.2 (by omega)
    have HE := Lib.hid e
    clear e
    go_enter Tryz.func43, Tryz.ntmps43
    go_wp2_with fail
    refine (Of_any k _ (by omega)).mono ?_
    rintro e w1 ⟨rfl, hb1⟩
    go_wp2_with fail
    refine (of_any false (can k) _ (by simp [maxLen]; omega)).mono ?_
    rintro e wn ⟨rfl, hb2⟩
    rw [← HE.out]
    obtain ⟨c1, c2, f1, f2⟩ := (((Blk.new w _ _).keep hb1).keep hb2).two
    go_wp2_with fail
    exact bodyPost_ret (by simp [results, Tryz.results43, go_sem, c1, c2]) rfl ⟨rfl, set2 (bel1 _ _ (then_ hb1 hb2)) (Nat.le_refl _) _ _⟩
  · have hlt : -(k : Int) < 0 := by omega
    have e : -(k : Int) = iv true (can k) := by rw [iv_true, nat_can]
    have hsz : (can k).size ≤ 8 := can_size_8.2 (by omega)
    have HE := Lib.hid e
    clear e
    go_enter Tryz.func43, Tryz.ntmps43
    go_wp2_with fail
    rw [show (-(-(k : Int) + 1) + 1) = (k : Int) from by omega]
    refine (Of_any k _ (by omega)).mono ?_
    rintro e w1 ⟨rfl, hb1⟩
    go_wp2_with fail
    refine (of_any true (can k) _ (by simp [maxLen]; omega)).mono ?_
    rintro e wn ⟨rfl, hb2⟩
    rw [← HE.out]
    obtain ⟨c1, c2, f1, f2⟩ := (((Blk.new w _ _).keep hb1).keep hb2).two
    go_wp2_with fail
    exact bodyPost_ret (by simp [results, Tryz.results43, go_sem, c1, c2]) rfl ⟨rfl, set2 (bel1 _ _ (then_ hb1 hb2)) (Nat.le_refl _) _ _⟩

end Go.Proofs.YtodcomijjmobdaaGreatDoor

/- integer.Cmp and the reference's. -/
namespace Go.Proofs.YtodcomijjmobdaaGreatDoor
open Go.RowKit NM

end Go.Proofs.YtodcomijjmobdaaGreatDoor
