/- integer.Cmp and the reference's. -/
import Derived.Test.YtmfinfnjamgboaaDoorInt2
import Derived.Test.YtmfinfnjamgboaaDoorCmp
namespace Go.Proofs.YtmfinfnjamgboaaDoor
open Go.RowKit NM

theorem cmpZ_sub (x y : Int) : cmpZ (x - y) 0 = cmpZ x y := by
  unfold cmpZ
  by_cases h1 : x < y
  · rw [if_pos (by omega), if_pos h1]
  · rw [if_neg (by omega), if_neg h1]
    by_cases h2 : x = y
    · rw [if_pos (by omega), if_pos h2]
    · rw [if_neg (by omega), if_neg h2]
theorem cmpZ_nat (x y : Nat) : cmpZ (x : Int) (y : Int) = cmpN x y := by
  unfold cmpZ cmpN
  by_cases h1 : x < y
  · rw [if_pos (by omega), if_pos h1]
  · rw [if_neg (by omega), if_neg h1]
    by_cases h2 : x = y
    · rw [if_pos (by omega), if_pos h2]
    · rw [if_neg (by omega), if_neg h2]
theorem cmpZ_neg_nat (x y : Nat) : cmpZ (-(x : Int)) (-(y : Int)) = cmpN y x := by
  rw [← cmpZ_nat]
  unfold cmpZ
  by_cases h1 : (y : Int) < x
  · rw [if_pos (by omega), if_pos h1]
  · rw [if_neg (by omega), if_neg h1]
    by_cases h2 : x = y
    · rw [if_pos (by omega), if_pos (by omega)]
    · rw [if_neg (by omega), if_neg (by omega)]
theorem iv_pos_eq {n : Bool} {s : ByteArray} (h : 0 ≤ iv n s) : iv n s = (nat s : Int) := by
  cases n
  · rfl
  · rw [iv_true] at h ⊢; omega
theorem iv_neg_eq {n : Bool} {s : ByteArray} (h : iv n s ≤ 0) : iv n s = -(nat s : Int) := by
  cases n
  · rw [iv_false] at h ⊢; omega
  · rfl

end Go.Proofs.YtmfinfnjamgboaaDoor
