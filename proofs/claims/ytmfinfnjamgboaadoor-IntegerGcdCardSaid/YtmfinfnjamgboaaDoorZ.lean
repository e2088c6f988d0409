/- Integers as a sign and a magnitude: the integer that a pair stands for, the canonical pair, the walk's words for both. -/
import Derived.Test.YtmfinfnjamgboaaDoorMem
namespace Go.Proofs.YtmfinfnjamgboaaDoor
open Go.RowKit NM

/-- The integer that a sign and a string of bytes stand for. -/
def iv (n : Bool) (s : ByteArray) : Int := if n then -(nat s : Int) else (nat s : Int)
/-- Sign and magnitude of the canonical form. -/
def sg (z : Int) : Bool := decide (z < 0)
def mg (z : Int) : ByteArray := can z.natAbs
/-- The value of an integer in any form, and in canonical form. -/
abbrev I2 (n : Bool) (s : ByteArray) : Value := .agg #[.bool n, .string s]
abbrev Z (z : Int) : Value := .agg #[.bool (sg z), .string (mg z)]

theorem iv_true (s : ByteArray) : iv true s = -(nat s : Int) := rfl
theorem iv_false (s : ByteArray) : iv false s = (nat s : Int) := rfl
theorem iv_abs (n : Bool) (s : ByteArray) : (iv n s).natAbs = nat s := by cases n <;> simp [iv]
theorem iv_Z (z : Int) : iv (sg z) (mg z) = z := by
  unfold iv sg mg
  rw [nat_can]
  by_cases h : z < 0
  · rw [decide_eq_true h, if_pos rfl]; omega
  · rw [decide_eq_false h, if_neg (by simp)]; omega
theorem nat_mg (z : Int) : nat (mg z) = z.natAbs := nat_can _
theorem mg_iv (n : Bool) (s : ByteArray) : mg (iv n s) = can (nat s) := by unfold mg; rw [iv_abs]
theorem sg_iv (n : Bool) (s : ByteArray) : sg (iv n s) = (n && !decide (nat s = 0)) := by
  cases n
  · rw [iv_false, Bool.false_and]
    exact decide_eq_false (by omega)
  · rw [iv_true, Bool.true_and]
    unfold sg
    by_cases h : nat s = 0
    · rw [decide_eq_true h, decide_eq_false (by omega)]; rfl
    · rw [decide_eq_false h, decide_eq_true (by omega)]; rfl
theorem Z_inj {x y : Int} (h1 : sg x = sg y) (h2 : mg x = mg y) : x = y := by rw [← iv_Z x, h1, h2, iv_Z]
theorem mg_zero : mg 0 = ⟨#[]⟩ := rfl
theorem sg_zero : sg 0 = false := rfl
theorem mg_natCast (n : Nat) : mg (n : Int) = can n := rfl
theorem sg_natCast (n : Nat) : sg (n : Int) = false := by unfold sg; simp
theorem mg_neg (z : Int) : mg (-z) = mg z := by unfold mg; rw [Int.natAbs_neg]
theorem mg_natAbs (z : Int) : mg (z.natAbs : Int) = mg z := rfl

theorem beq_bytes {a b : ByteArray} : (a.toList == b.toList) = decide (a = b) := by
  rw [Bool.eq_iff_iff]
  simp only [beq_iff_eq, decide_eq_true_eq]
  refine ⟨fun h => ?_, fun h => by rw [h]⟩
  rw [ByteArray.toList_eq, ByteArray.toList_eq] at h
  obtain ⟨⟨x⟩⟩ := a
  obtain ⟨⟨y⟩⟩ := b
  simpa using h
theorem eq_Z (x y : Int) : ((sg x == sg y) && ((mg x).toList == (mg y).toList)) = decide (x = y) := by
  rw [beq_bytes, Bool.eq_iff_iff]
  simp only [Bool.and_eq_true, beq_iff_eq, decide_eq_true_eq]
  exact ⟨fun h => Z_inj h.1 h.2, fun h => by rw [h]; exact ⟨rfl, rfl⟩⟩

/-- -1, 0 or 1. -/
def cmpZ (x y : Int) : Int := if x < y then -1 else if x = y then 0 else 1
theorem cmpZ_lt {x y : Int} (h : x < y) : cmpZ x y = -1 := if_pos h
theorem cmpZ_gt {x y : Int} (h : y < x) : cmpZ x y = 1 := by unfold cmpZ; rw [if_neg (by omega), if_neg (by omega)]
theorem cmpZ_eq {x y : Int} (h : x = y) : cmpZ x y = 0 := by unfold cmpZ; rw [if_neg (by omega), if_pos h]
theorem cmpZ_zero (x : Int) : cmpZ x 0 = if x < 0 then -1 else if x = 0 then 0 else 1 := rfl

/-! Sizes. -/
theorem mg_size_le {z : Int} {k : Nat} (h : z.natAbs < 256 ^ k) : (mg z).size ≤ k := can_size_le h
theorem mg_lt {z : Int} {k : Nat} (h : (mg z).size ≤ k) : z.natAbs < 256 ^ k := (len_le_iff (by omega) k _).1 (by rw [← can_size]; exact h)
theorem mg_iv_size {n : Bool} {s : ByteArray} {k : Nat} (h : s.size ≤ k) : (mg (iv n s)).size ≤ k := by
  refine mg_size_le ?_
  rw [iv_abs]
  exact Nat.lt_of_lt_of_le (nat_lt s) (Nat.pow_le_pow_right (by omega) h)
theorem mg_neg_size {z : Int} {k : Nat} (h : (mg z).size ≤ k) : (mg (-z)).size ≤ k := by rw [mg_neg]; exact h
theorem mg_add_size {x y : Int} {k : Nat} (hx : (mg x).size ≤ k) (hy : (mg y).size ≤ k) : (mg (x + y)).size ≤ k + 1 := by
  have h1 := mg_lt hx
  have h2 := mg_lt hy
  refine mg_size_le ?_
  rw [Nat.pow_succ]
  have := Int.natAbs_add_le x y
  omega
theorem mg_sub_size {x y : Int} {k : Nat} (hx : (mg x).size ≤ k) (hy : (mg y).size ≤ k) : (mg (x - y)).size ≤ k + 1 := by
  rw [Int.sub_eq_add_neg]
  exact mg_add_size hx (mg_neg_size hy)
theorem mg_mul_size {x y : Int} {j k : Nat} (hx : (mg x).size ≤ j) (hy : (mg y).size ≤ k) : (mg (x * y)).size ≤ j + k := by
  have h1 := mg_lt hx
  have h2 := mg_lt hy
  refine mg_size_le ?_
  rw [Int.natAbs_mul, Nat.pow_add]
  exact Nat.mul_lt_mul'' h1 h2
theorem mg_le_size {x y : Int} {k : Nat} (hy : (mg y).size ≤ k) (h : x.natAbs ≤ y.natAbs) : (mg x).size ≤ k := mg_size_le (Nat.lt_of_le_of_lt h (mg_lt hy))

/-! Blocks of one integer. -/
section
variable {w : World} {g : Nat} {E : TypeId} {u v : Value}
theorem Blk.two (h : Blk w g E [u, v]) : w.cell? ⟨g, 0, none⟩ = some u ∧ w.cell? ⟨g, 1, none⟩ = some v ∧ w.frozen? ⟨g, 0, none⟩ = false ∧ w.frozen? ⟨g, 1, none⟩ = false :=
  ⟨h.cell rfl, h.cell rfl, h.free (by simp), h.free (by simp)⟩
end
end Go.Proofs.YtmfinfnjamgboaaDoor
