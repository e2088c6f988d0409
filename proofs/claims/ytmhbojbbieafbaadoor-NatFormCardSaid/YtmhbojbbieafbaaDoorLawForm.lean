/- The walk of voussoirlaw01.NatForm. -/
import Derived.Test.YtmhbojbbieafbaaDoorLawGcds
import Derived.Test.YtmhbojbbieafbaaDoorLawStrings
import Derived.Test.YtmhbojbbieafbaaDoorShelf
namespace Go.Proofs.YtmhbojbbieafbaaDoor
open Go.RowKit NM

/-- m zero bytes. -/
def zerosStr (m : Nat) : ByteArray := ⟨(Lib.repeatL (⟨#[0]⟩ : ByteArray).data.toList m).toArray⟩
theorem zerosStr_nat : ∀ m, m ≤ 8 → nat (zerosStr m) = 0 ∧ (zerosStr m).size = m := by
  intro m hm
  rcases (show m = 0 ∨ m = 1 ∨ m = 2 ∨ m = 3 ∨ m = 4 ∨ m = 5 ∨ m = 6 ∨ m = 7 ∨ m = 8 from by omega) with e | e | e | e | e | e | e | e | e <;> subst e <;> decide +kernel
theorem repeat_any (m : Nat) (w : World) (hm : m ≤ 8) :
    Calls Tryd.prog 35 #[.string ⟨#[0]⟩, .int .i64 (m : Int)] w fun e w' => e = .returned (.string (zerosStr m)) ∧ Below w.heap.size w w' :=
  Tryd.strings_Repeat ⟨#[0]⟩ m w (by omega) (by show 1 * m ≤ _; omega)
theorem nat_zeros (a : ByteArray) {m : Nat} (hm : m ≤ 8) : nat (a ++ zerosStr m) = nat a ∧ (a ++ zerosStr m).size = a.size + m := by
  refine ⟨by rw [nat_append, (zerosStr_nat m hm).1, Nat.mul_zero, Nat.add_zero], by rw [ByteArray.size_append, (zerosStr_nat m hm).2]⟩
theorem dec_inj {m n : Nat} (h : dec m = dec n) : m = n := by rw [← decVal_decs m, ← bts_dec, h, bts_dec, decVal_decs]
theorem can_ne {m n : Nat} (h : m ≠ n) : ((can m).toList == (can n).toList) = false := by
  rw [Bool.eq_false_iff]
  exact fun e => h (can_inj (beq_str.1 e))
theorem dec_ne {m n : Nat} (h : m ≠ n) : ((dec m).toList == (dec n).toList) = false := by
  rw [Bool.eq_false_iff]
  exact fun e => h (dec_inj (beq_str.1 e))

attribute [local go_sem] nat_can
set_option maxHeartbeats 4000000 in
theorem NatForm_main (a b : ByteArray) (n : Nat) (w : World) (hT : TabC w) (ha : a.size ≤ 40) (hb : b.size ≤ 40) (hn : n < 256) (hw : wideB [a, b] = false)
    (hcase : nat b = nat a ∨ (((can (nat a)).toList == (can (nat b)).toList) = false ∧ ((dec (nat a)).toList == (dec (nat b)).toList) = false ∧ ((cmpN (nat a) (nat b) = -1 ∧ cmpN (nat b) (nat a) = 1) ∨ (cmpN (nat a) (nat b) = 1 ∧ cmpN (nat b) (nat a) = -1)))) :
    Calls Tryd.prog 10 #[.string a, .string b, .int .u8 (n : Int)] w fun e w' => e = .returned (.bool true) ∧ Below w.heap.size w w' := by
  have hs := two_le (n := maxLen) (a := a) (b := b) (by simp [maxLen]; omega) (by simp [maxLen]; omega)
  have Hs := Lib.hid hs
  have Hw := Lib.hid hw
  have HT := Lib.hid (And.intro hT hT.lt)
  clear hs hT hw
  obtain ⟨m, hm⟩ : ∃ m, m = n % 9 := ⟨_, rfl⟩
  have e1 : (n : Int) % 9 = (m : Int) := by omega
  have hm8 : m ≤ 8 := by omega
  obtain ⟨z1, z2⟩ := nat_zeros a hm8
  have z3 := (zerosStr_nat m hm8).2
  have h1 := subVal_eq (nat a) (nat b)
  have h2 := divVal_eq (nat a) (nat b)
  have t6 : (⟨#[6]⟩ : ByteArray).size ≤ 1 := by decide
  clear hm
  rcases hcase with hab | ⟨hc1, hc2, hc3⟩
  rotate_left
  rcases hc3 with ⟨hc3, hc4⟩ | ⟨hc3, hc4⟩
  rotate_left 2
  have hc3 := cmpN_eq (rfl : nat a = nat a)
  rw [hab] at h1 h2
  all_goals
    go_enter Tryd.func10, Tryd.ntmps10
    go_wp2_with fail
    refine (natAlive_any _).mono ?_
    rintro e w1 ⟨rfl, hb1⟩
    go_wp2_with fail
    refine (wide_any _ _ [a, b] 2 2 _ rfl (by simp) Hs.out (Blk.new w1 #[.string a, .string b] _)).mono ?_
    rintro e w2 ⟨rfl, rfl⟩
    rw [Hw.out]
    have hbb := then_ hb1 (alloc_below w1 (.cells #[.string a, .string b] 9))
    generalize w1.alloc (.cells #[.string a, .string b] 9) = w2 at hbb ⊢
    clear hb1
    go_wp2_with (first
      | (go_at_call 35; refine (repeat_any m _ hm8).mono ?_; rintro e wn ⟨rfl, hbn⟩; replace hbb := then_ hbb hbn; clear hbn)
      | (go_at_call 12; refine (Sub_any _ _ _ (by omega) (by omega)).mono ?_; rintro e wn ⟨rfl, hbn⟩; replace hbb := then_ hbb hbn; clear hbn)
      | (go_at_call 21; refine (Div_any _ _ _ (by omega) (by omega)).mono ?_; rintro e wn ⟨rfl, hbn⟩; replace hbb := then_ hbb hbn; clear hbn)
      | (go_at_call 18; refine (Add_any _ _ _ (by omega) (by omega)).mono ?_; rintro e wn ⟨rfl, hbn⟩; replace hbb := then_ hbb hbn; clear hbn)
      | (go_at_call 23; refine (Mul_any _ _ _ (by omega) (by omega)).mono ?_; rintro e wn ⟨rfl, hbn⟩; replace hbb := then_ hbb hbn; clear hbn)
      | (go_at_call 25; refine (Gcd_any _ _ _ (by omega) (by omega) (HT.out.1.below hbb HT.out.2)).mono ?_; rintro e wn ⟨rfl, hbn⟩; replace hbb := then_ hbb hbn; clear hbn)
      | (go_at_call 31; refine (Format_any _ _ (by omega)).mono ?_; rintro e wn ⟨rfl, hbn⟩; replace hbb := then_ hbb hbn; clear hbn)
      | (go_at_call 16; refine (Cmp_any _ _ _ (by simp [maxLen]; omega) (by simp [maxLen]; omega)).mono ?_; rintro e wn ⟨rfl, hbn⟩; replace hbb := then_ hbb hbn; clear hbn)
      | (go_at_call 14; refine (Normalize_any _ _ (by simp [maxLen]; omega)).mono ?_; rintro e wn ⟨rfl, rfl⟩))
    go_ret
    exact ⟨rfl, hbb⟩

set_option maxHeartbeats 1000000 in
theorem NatForm_any (a b : ByteArray) (n : Nat) (w : World) (hT0 : Tab w) (ha : a.size ≤ maxLen) (hb : b.size ≤ maxLen) (hn : n < 256) :
    Calls Tryd.prog 10 #[.string a, .string b, .int .u8 (n : Int)] w fun e w' => e = .returned (.bool true) ∧ Below w.heap.size w w' := by
  rcases hw : wideB [a, b] with _ | _
  · have hz := wide_sizes hw
    refine NatForm_main a b n w hT0.cells (hz a (by simp)) (hz b (by simp)) hn hw ?_
    by_cases h : nat b = nat a
    · exact .inl h
    · refine .inr ⟨can_ne (fun e => h e.symm), dec_ne (fun e => h e.symm), ?_⟩
      rcases Nat.lt_or_ge (nat a) (nat b) with h1 | h1
      · exact .inl ⟨cmpN_lt h1, cmpN_gt h1⟩
      · exact .inr ⟨cmpN_gt (by omega), cmpN_lt (by omega)⟩
  · have hs := two_le ha hb
    have Hs := Lib.hid hs
    clear hs
    go_enter Tryd.func10, Tryd.ntmps10
    go_wp2_with fail
    refine (natAlive_any _).mono ?_
    rintro e w1 ⟨rfl, hb1⟩
    go_wp2_with fail
    refine (wide_any _ _ [a, b] 2 2 _ rfl (by simp) Hs.out (Blk.new w1 #[.string a, .string b] _)).mono ?_
    rintro e w2 ⟨rfl, rfl⟩
    rw [hw]
    go_wp2_with fail
    go_ret
    exact ⟨rfl, then_ hb1 (alloc_below _ _)⟩
end Go.Proofs.YtmhbojbbieafbaaDoor
