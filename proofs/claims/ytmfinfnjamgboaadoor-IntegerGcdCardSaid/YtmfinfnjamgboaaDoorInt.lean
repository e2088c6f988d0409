/- integer.Mul, Add, Sub and the reference's. -/
import Derived.Test.YtmfinfnjamgboaaDoorCanon
import Derived.Test.YtmfinfnjamgboaaDoorMul
import Derived.Test.YtmfinfnjamgboaaDoorRefMul
import Derived.Test.YtmfinfnjamgboaaDoorAdd
import Derived.Test.YtmfinfnjamgboaaDoorRef
import Derived.Test.YtmfinfnjamgboaaDoorSub
namespace Go.Proofs.YtmfinfnjamgboaaDoor
open Go.RowKit NM

/-- TwoB cells that may be written. -/
def TwoB (w : World) (g : Nat) (E : TypeId) : Prop := ∃ u v, Blk w g E [u, v]
section
variable {w wn w0 : World} {g g1 g2 g3 : Nat} {E : TypeId} {u v u1 v1 u2 v2 : Value} {cs : List Value}
theorem TwoB.keep (h : TwoB w g E) (hb : Below w.heap.size w wn) : TwoB wn g E := by
  obtain ⟨u, v, h⟩ := h
  exact ⟨u, v, h.keep hb⟩
theorem TwoB.set (h : TwoB w g E) (x y : Value) : TwoB ((w.setCell ⟨g, 0, none⟩ x).setCell ⟨g, 1, none⟩ y) g E := by
  obtain ⟨u, v, h⟩ := h
  exact ⟨x, y, (h.set 0 x).set 1 y⟩
theorem Blk.far (h : Blk w g E cs) (hne : g3 ≠ g) (x y : Value) : Blk ((w.setCell ⟨g3, 0, none⟩ x).setCell ⟨g3, 1, none⟩ y) g E cs := (h.setOther hne x).setOther hne y
/-- TwoB integers in boxes and a place for the result. -/
def Rest2 (w0 : World) (g1 g2 g3 : Nat) (E : TypeId) (u1 v1 u2 v2 : Value) (w : World) : Prop :=
  (Blk w g1 E [u1, v1] ∧ Blk w g2 E [u2, v2] ∧ TwoB w g3 E) ∧ Below w0.heap.size w0 w ∧ g3 ≠ g1 ∧ g3 ≠ g2 ∧ w0.heap.size ≤ g3
theorem Rest2.all (h : Rest2 w0 g1 g2 g3 E u1 v1 u2 v2 w) :
    w.cell? ⟨g1, 0, none⟩ = some u1 ∧ w.cell? ⟨g1, 1, none⟩ = some v1 ∧ w.cell? ⟨g2, 0, none⟩ = some u2 ∧ w.cell? ⟨g2, 1, none⟩ = some v2 ∧ Rest2 w0 g1 g2 g3 E u1 v1 u2 v2 w :=
  ⟨h.1.1.two.1, h.1.1.two.2.1, h.1.2.1.two.1, h.1.2.1.two.2.1, h⟩
theorem Rest2.drew (h : Rest2 w0 g1 g2 g3 E u1 v1 u2 v2 w) : Rest2 w0 g1 g2 g3 E u1 v1 u2 v2 w.drew := ⟨h.1, h.2.1.drew, h.2.2⟩
theorem Rest2.keep (h : Rest2 w0 g1 g2 g3 E u1 v1 u2 v2 w) (hb : Below w.heap.size w wn) : Rest2 w0 g1 g2 g3 E u1 v1 u2 v2 wn :=
  ⟨⟨h.1.1.keep hb, h.1.2.1.keep hb, h.1.2.2.keep hb⟩, then_ h.2.1 hb, h.2.2⟩
theorem Rest2.set (h : Rest2 w0 g1 g2 g3 E u1 v1 u2 v2 w) (x y : Value) : Rest2 w0 g1 g2 g3 E u1 v1 u2 v2 ((w.setCell ⟨g3, 0, none⟩ x).setCell ⟨g3, 1, none⟩ y) :=
  ⟨⟨h.1.1.far h.2.2.1 x y, h.1.2.1.far h.2.2.2.1 x y, h.1.2.2.set x y⟩, set2 h.2.1 h.2.2.2.2 x y, h.2.2⟩
theorem Rest2.two (h : Rest2 w0 g1 g2 g3 E u1 v1 u2 v2 w) : ∃ u v, w.cell? ⟨g3, 0, none⟩ = some u ∧ w.cell? ⟨g3, 1, none⟩ = some v ∧ w.frozen? ⟨g3, 0, none⟩ = false ∧ w.frozen? ⟨g3, 1, none⟩ = false := by
  obtain ⟨u, v, h⟩ := h.1.2.2
  exact ⟨u, v, h.two⟩
theorem Rest2.below (h : Rest2 w0 g1 g2 g3 E u1 v1 u2 v2 w) : Below w0.heap.size w0 w := h.2.1
/-- The world in which a function of two integers begins. -/
theorem Rest2.start (w : World) (E : TypeId) (u1 v1 u2 v2 x y : Value) :
    Rest2 w w.heap.size (w.heap.size + 1) (w.heap.size + 1 + 1) E u1 v1 u2 v2 (((w.alloc (.cells #[u1, v1] E)).alloc (.cells #[u2, v2] E)).alloc (.cells #[x, y] E)) :=
  ⟨⟨((Blk.new w #[u1, v1] E).alloc _).alloc _, (Blk.new1 w _ #[u2, v2] E).alloc _, ⟨x, y, Blk.new2 w _ _ #[x, y] E⟩⟩, bel3 w _ _ _ (Below.refl _ _), by omega, by omega, by omega⟩
end

theorem iv_mul (n m : Bool) (s t : ByteArray) : iv (!(n == m)) (can (nat s * nat t)) = iv n s * iv m t := by
  cases n <;> cases m <;> simp [iv, nat_can, Int.neg_mul, Int.mul_neg]
theorem iv_add_same (n : Bool) (s t : ByteArray) : iv n (can (nat s + nat t)) = iv n s + iv n t := by
  cases n <;> simp [iv, nat_can]
  omega
theorem iv_add_ge {n m : Bool} {s t : ByteArray} (hnm : (n == m) = false) (h : nat t ≤ nat s) : iv n s + iv m t = iv n (can (nat s - nat t)) := by
  cases n <;> cases m <;> simp [iv, nat_can] at hnm ⊢ <;> omega
theorem iv_add_lt {n m : Bool} {s t : ByteArray} (hnm : (n == m) = false) (h : nat s < nat t) : iv n s + iv m t = iv m (can (nat t - nat s)) := by
  cases n <;> cases m <;> simp [iv, nat_can] at hnm ⊢ <;> omega
theorem can_mul_size (s t : ByteArray) : (can (nat s * nat t)).size ≤ s.size + t.size := can_size_le (by
  rw [Nat.pow_add]
  exact Nat.mul_lt_mul'' (nat_lt s) (nat_lt t))
theorem can_sub_size (s : ByteArray) (k : Nat) : (can (nat s - k)).size ≤ s.size := can_size_le (Nat.lt_of_le_of_lt (Nat.sub_le _ _) (nat_lt s))
theorem can_add_size (s t : ByteArray) : (can (nat s + nat t)).size ≤ s.size + t.size + 1 := can_size_le (by
  have h1 := Nat.lt_of_lt_of_le (nat_lt s) (Nat.pow_le_pow_right (n := 256) (by omega) (show s.size ≤ s.size + t.size by omega))
  have h2 := Nat.lt_of_lt_of_le (nat_lt t) (Nat.pow_le_pow_right (n := 256) (by omega) (show t.size ≤ s.size + t.size by omega))
  rw [Nat.pow_succ]
  omega)

end Go.Proofs.YtmfinfnjamgboaaDoor
