/- integer.canonical, Normalize, Neg, and the reference's of, Norm, Neg. -/
import Derived.Test.YtmfinfnjamgboaaDoorZ
import Derived.Test.YtmfinfnjamgboaaDoorNorm
import Derived.Test.YtmfinfnjamgboaaDoorAlive
import Derived.Deep.RegionHeld3
namespace Go.Proofs.YtmfinfnjamgboaaDoor
open Go.RowKit NM

theorem canonV (n : Bool) (s : ByteArray) : Z (iv n s) = (I2 (n && !decide (nat s = 0)) (can (nat s))) := by
  show Value.agg #[.bool (sg (iv n s)), .string (mg (iv n s))] = _
  rw [sg_iv, mg_iv]
theorem below_alloc (w : World) (o : Obj) : Below w.heap.size w (w.alloc o) := (Below.refl _ _).alloc (Nat.le_refl _) _

set_option maxHeartbeats 400000 in
theorem canonical_any (n : Bool) (s : ByteArray) (w : World) (hs : s.size ≤ maxLen) :
    Calls Tryd.prog 20 #[.bool n, .string s] w fun e w' => e = .returned (Z (iv n s)) ∧ Below w.heap.size w w' := by
  rw [canonV]
  have h1 := isEmpty_can (nat s)
  generalize decide (nat s = 0) = b at h1 ⊢
  cases b <;> cases n
  all_goals
    go_enter Tryd.func20, Tryd.ntmps20
    go_wp2_with (go_at_call 39; refine (Normalize_any _ _ hs).mono ?_; rintro e wn ⟨rfl, rfl⟩)
    exact bodyPost_ret (by simp [results, Tryd.results20, go_sem]) rfl ⟨rfl, below_alloc _ _⟩

set_option maxHeartbeats 400000 in
theorem of_any (n : Bool) (s : ByteArray) (w : World) (hs : s.size ≤ maxLen) :
    Calls Tryd.prog 23 #[.bool n, .string s] w fun e w' => e = .returned (Z (iv n s)) ∧ Below w.heap.size w w' := by
  rw [canonV]
  have h1 := isEmpty_can (nat s)
  generalize decide (nat s = 0) = b at h1 ⊢
  cases b <;> cases n
  all_goals
    go_enter Tryd.func23, Tryd.ntmps23
    go_wp2_with (go_at_call 22; refine (Norm_any _ _ hs).mono ?_; rintro e wn ⟨rfl, rfl⟩)
    exact bodyPost_ret (by simp [results, Tryd.results23, go_sem]) rfl ⟨rfl, below_alloc _ _⟩

theorem Blk.new1 (w : World) (o : Obj) (cs : Array Value) (E : TypeId) : Blk ((w.alloc o).alloc (.cells cs E)) (w.heap.size + 1) E cs.toList := by
  have h := Blk.new (w.alloc o) cs E
  simpa using h
theorem Blk.new2 (w : World) (o o' : Obj) (cs : Array Value) (E : TypeId) : Blk (((w.alloc o).alloc o').alloc (.cells cs E)) (w.heap.size + 1 + 1) E cs.toList := by
  have h := Blk.new ((w.alloc o).alloc o') cs E
  simpa using h

theorem bel1 (w : World) (o : Obj) {wn : World} (h : Below (w.alloc o).heap.size (w.alloc o) wn) : Below w.heap.size w wn := then_ (below_alloc w o) h
theorem bel2 (w : World) (o o' : Obj) {wn : World} (h : Below ((w.alloc o).alloc o').heap.size ((w.alloc o).alloc o') wn) : Below w.heap.size w wn := bel1 w o (bel1 _ o' h)
theorem bel3 (w : World) (o o' o'' : Obj) {wn : World} (h : Below (((w.alloc o).alloc o').alloc o'').heap.size (((w.alloc o).alloc o').alloc o'') wn) : Below w.heap.size w wn := bel1 w o (bel2 _ o' o'' h)
theorem bel4 (w : World) (o o' o'' o3 : Obj) {wn : World} (h : Below ((((w.alloc o).alloc o').alloc o'').alloc o3).heap.size ((((w.alloc o).alloc o').alloc o'').alloc o3) wn) : Below w.heap.size w wn := bel1 w o (bel3 _ o' o'' o3 h)
theorem set2 {a b : World} {B g : Nat} (h : Below B a b) (hp : B ≤ g) (u v : Value) : Below B a ((b.setCell ⟨g, 0, none⟩ u).setCell ⟨g, 1, none⟩ v) := (h.setCell hp u).setCell hp v

/-! One integer comes in, a result lies behind it: the walk of Normalize, Norm, Neg. -/
set_option maxHeartbeats 400000 in
theorem Normalize2_any (n : Bool) (s : ByteArray) (w : World) (hs : s.size ≤ maxLen) :
    Calls Tryd.prog 31 #[I2 n s] w fun e w' => e = .returned (Z (iv n s)) ∧ Below w.heap.size w w' := by
  go_enter Tryd.func31, Tryd.ntmps31
  go_wp2_with fail
  refine (canonical_any n s _ hs).mono ?_
  rintro e wn ⟨rfl, hbn⟩
  obtain ⟨c1, c2, f1, f2⟩ := ((Blk.new1 _ _ _ _).keep hbn).two
  go_wp2_with fail
  exact bodyPost_ret (by simp [results, Tryd.results31, go_sem, c1, c2]) rfl ⟨rfl, set2 (bel2 _ _ _ hbn) (by omega) _ _⟩
set_option maxHeartbeats 400000 in
theorem refNorm2_any (n : Bool) (s : ByteArray) (w : World) (hs : s.size ≤ maxLen) :
    Calls Tryd.prog 27 #[I2 n s] w fun e w' => e = .returned (Z (iv n s)) ∧ Below w.heap.size w w' := by
  go_enter Tryd.func27, Tryd.ntmps27
  go_wp2_with fail
  refine (of_any n s _ hs).mono ?_
  rintro e wn ⟨rfl, hbn⟩
  obtain ⟨c1, c2, f1, f2⟩ := ((Blk.new1 _ _ _ _).keep hbn).two
  go_wp2_with fail
  exact bodyPost_ret (by simp [results, Tryd.results27, go_sem, c1, c2]) rfl ⟨rfl, set2 (bel2 _ _ _ hbn) (by omega) _ _⟩

theorem iv_not (n : Bool) (s : ByteArray) : iv (!n) s = -iv n s := by cases n <;> simp [iv]
end Go.Proofs.YtmfinfnjamgboaaDoor
