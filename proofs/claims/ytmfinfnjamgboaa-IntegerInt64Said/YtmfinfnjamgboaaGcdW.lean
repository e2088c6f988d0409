/- nat.gcdOfWords, and nat.Gcd where both numbers fit into a word. -/
import Derived.Test.YtmfinfnjamgboaaU64
namespace Go.Proofs.Ytmfinfnjamgboaa
open Go.RowKit NM

theorem gcd_less {p q : Nat} (h : 0 < q) : (intOf (.int .u64 ((p : Int) % (q : Int)))).toNat < (intOf (.int .u64 (q : Int))).toNat := by
  have h1 := Nat.mod_lt p h
  have e : (p : Int) % (q : Int) = ((p % q : Nat) : Int) := rfl
  rw [e]
  generalize p % q = r at h1
  simp [intOf]
  exact h1
theorem ret_u64 {a b : Nat} (h : a = b) : Ending.returned (.int .u64 (a : Int)) = .returned (.int .u64 (b : Int)) := by rw [h]

theorem gcd_lt {m n B : Nat} (hm : m < B) (hn : n < B) : Nat.gcd m n < B := by
  rcases Nat.eq_zero_or_pos m with h | h
  · rw [h, Nat.gcd_zero_left]
    exact hn
  · exact Nat.lt_of_le_of_lt (Nat.gcd_le_left n h) hm

end Go.Proofs.Ytmfinfnjamgboaa
