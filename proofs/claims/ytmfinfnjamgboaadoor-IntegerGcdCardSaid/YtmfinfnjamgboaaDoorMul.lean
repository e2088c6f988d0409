/- nat.multiply and nat.Mul. -/
import Derived.Test.YtmfinfnjamgboaaDoorLimbs
namespace Go.Proofs.YtmfinfnjamgboaaDoor
open Go.RowKit NM

theorem LB.lt {w : World} {g : Nat} {l : List Nat} (h : LB w g l) : g < w.heap.size := Blk.lt h
theorem LB.at_ {w : World} {g : Nat} {l : List Nat} (h : LB w g l) {j : Nat} (hj : j < l.length) : w.cell? ⟨g, j, none⟩ = some (.int .u32 (l.getD j 0 : Nat)) := Blk.cell h (cv_getElem? _ _ _ hj)
theorem LB.free {w : World} {g : Nat} {l : List Nat} (h : LB w g l) {j : Nat} (hj : j < l.length) : w.frozen? ⟨g, j, none⟩ = false := Blk.free h (by rw [cv_length]; exact hj)
theorem LB.set {w : World} {g : Nat} {l : List Nat} (h : LB w g l) (j : Nat) {v : Value} {d : Nat} (hv : v = .int .u32 (d : Int)) : LB (w.setCell ⟨g, j, none⟩ v) g (l.set j d) := by
  subst hv
  have := Blk.set h j (.int .u32 (d : Int))
  rw [cv_set] at this
  exact this
theorem LB.drewN {w : World} {g : Nat} {l : List Nat} (h : LB w g l) (n : Nat) : LB (w.drewN n) g l := h

theorem lim_size (a : ByteArray) : (lim (nat a)).length ≤ a.size := by
  rw [lim_length, llen_can]
  have := can_size_le_size a
  omega
/-- A new slice of n limbs of value N. -/
def MulPost (n N : Nat) (w : World) (e : Ending) (w' : World) : Prop := ∃ l, l.length = n ∧ llt l ∧ lval l = N ∧ NewL l w e w'
theorem mul_end {x y P : List Nat} {w wr : World} {n i : Nat} (hn : n = x.length + y.length) (hPl : P.length = n) (hPt : llt P) (hi : x.length ≤ i) (hv : lval P = lval (x.take i) * lval y) (hB : LB wr w.heap.size P) (hb : Below w.heap.size w wr) :
    MulPost (x.length + y.length) (lval x * lval y) w (.returned (.slice (some ⟨w.heap.size, 0, none⟩) n n)) wr := by
  refine ⟨P, by omega, hPt, by rw [hv, List.take_of_length_le hi], w.heap.size, Nat.le_refl _, by rw [hPl], hB, hb⟩

end Go.Proofs.YtmfinfnjamgboaaDoor
