/- nat.gcdOfWords, and nat.Gcd where both numbers fit into a word. -/
import Derived.Test.YtmfinfnjamgboaaDoorU64
namespace Go.Proofs.YtmfinfnjamgboaaDoor
open Go.RowKit NM

theorem gcd_less {p q : Nat} (h : 0 < q) : (intOf (.int .u64 ((p : Int) % (q : Int)))).toNat < (intOf (.int .u64 (q : Int))).toNat := by
  have h1 := Nat.mod_lt p h
  have e : (p : Int) % (q : Int) = ((p % q : Nat) : Int) := rfl
  rw [e]
  generalize p % q = r at h1
  simp [intOf]
  exact h1
theorem ret_u64 {a b : Nat} (h : a = b) : Ending.returned (.int .u64 (a : Int)) = .returned (.int .u64 (b : Int)) := by rw [h]

set_option maxHeartbeats 400000 in
theorem gcdOfWords_any (m n : Nat) (w : World) (hm : m < 18446744073709551616) (hn : n < 18446744073709551616) :
    Calls Tryd.prog 50 #[.int .u64 (m : Int), .int .u64 (n : Int)] w fun e w' => e = .returned (.int .u64 (Nat.gcd m n : Nat)) ∧ Below w.heap.size w w' := by
  have Hm := Lib.hid hm
  have Hn := Lib.hid hn
  clear hm hn
  go_enter Tryd.func50, Tryd.ntmps50
  go_wp2
  go_loopw [0, 1] (fun x y wr => ∃ p q : Nat, x = .int .u64 p ∧ y = .int .u64 q ∧ p < 18446744073709551616 ∧ q < 18446744073709551616 ∧ Nat.gcd p q = Nat.gcd m n ∧ Below w.heap.size w wr) (fun _ y _ => (intOf y).toNat)
  case atStart => exact ⟨m, n, rfl, rfl, Hm.out, Hn.out, rfl, Below.refl _ _⟩
  case round =>
    obtain ⟨p, q, rfl, rfl, hp, hq, hg, hb⟩ := hrel
    have Hg := Lib.hid hg
    clear hg
    by_cases hz : q = 0
    · subst hz
      go_wp2
      go_ret
      exact ⟨ret_u64 (by rw [← Hg.out, Nat.gcd_zero_right]), hb⟩
    · have hq0 : ((q : Int) != 0) = true := by simp; omega
      have hpos : 0 < q := Nat.pos_of_ne_zero hz
      clear hz
      go_wp2
      go_quiet (fail)
      go_wp2
      go_roundw
      case rel => exact ⟨q, p % q, rfl, rfl, hq, by have := Nat.mod_lt p hpos; omega, by rw [← Hg.out, Nat.gcd_comm q, ← Nat.gcd_rec, Nat.gcd_comm], below_drewN hb _⟩
      case measure => exact gcd_less hpos

theorem gcd_lt {m n B : Nat} (hm : m < B) (hn : n < B) : Nat.gcd m n < B := by
  rcases Nat.eq_zero_or_pos m with h | h
  · rw [h, Nat.gcd_zero_left]
    exact hn
  · exact Nat.lt_of_le_of_lt (Nat.gcd_le_left n h) hm

set_option maxHeartbeats 400000 in
theorem Gcd_word (a b : ByteArray) (w : World) (ha : a.size ≤ maxLen) (hb : b.size ≤ maxLen) (h1 : nat a < 18446744073709551616) (h2 : nat b < 18446744073709551616) :
    Calls Tryd.prog 29 #[.string a, .string b] w fun e w' => e = .returned (.string (can (Nat.gcd (nat a) (nat b)))) ∧ Below w.heap.size w w' := by
  have Hg := Lib.hid (gcd_lt h1 h2)
  have H1 := Lib.hid h1
  have H2 := Lib.hid h2
  clear h1 h2
  go_enter Tryd.func29, Tryd.ntmps29
  go_wp2_with fail
  refine (Uint64_any a _ ha).mono ?_
  rintro e w1 ⟨rfl, rfl⟩
  rw [u64Val_lt H1.out]
  go_wp2_with fail
  refine (Uint64_any b _ hb).mono ?_
  rintro e w1 ⟨rfl, rfl⟩
  rw [u64Val_lt H2.out]
  go_wp2_with fail
  refine (gcdOfWords_any _ _ _ H1.out H2.out).mono ?_
  rintro e w1 ⟨rfl, hb1⟩
  go_wp2_with fail
  refine (FromUint64_any _ _ Hg.out).mono ?_
  rintro e w2 ⟨rfl, hb2⟩
  go_wp2_with fail
  go_ret
  exact ⟨rfl, hb1.trans (hb2.mono hb1.size)⟩
end Go.Proofs.YtmfinfnjamgboaaDoor
