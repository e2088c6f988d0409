/- The walks of voussoirlaw01.NatMuls, NatDivides, NatRing. -/
import Derived.Test.YtmhbojbbieafbaaDoorAlive
import Derived.Test.YtmhbojbbieafbaaDoorWide
import Derived.Test.YtmhbojbbieafbaaDoorSub
namespace Go.Proofs.YtmhbojbbieafbaaDoor
open Go.RowKit NM

theorem two_le {a b : ByteArray} {n : Nat} (ha : a.size ≤ n) (hb : b.size ≤ n) : ∀ s ∈ [a, b], s.size ≤ n := by
  intro s hs
  simp only [List.mem_cons, List.not_mem_nil, or_false] at hs
  rcases hs with rfl | rfl
  · exact ha
  · exact hb
theorem three_le {a b c : ByteArray} {n : Nat} (ha : a.size ≤ n) (hb : b.size ≤ n) (hc : c.size ≤ n) : ∀ s ∈ [a, b, c], s.size ≤ n := by
  intro s hs
  simp only [List.mem_cons, List.not_mem_nil, or_false] at hs
  rcases hs with rfl | rfl | rfl
  · exact ha
  · exact hb
  · exact hc
theorem alloc_below (w : World) (o : Obj) : Below w.heap.size w (w.alloc o) := (Below.refl _ _).alloc (Nat.le_refl _) _

set_option maxHeartbeats 1000000 in
theorem NatMuls_any (a b : ByteArray) (w : World) (ha : a.size ≤ maxLen) (hb : b.size ≤ maxLen) :
    Calls Tryd.prog 4 #[.string a, .string b] w fun e w' => e = .returned (.bool true) ∧ Below w.heap.size w w' := by
  have hs := two_le ha hb
  have Hs := Lib.hid hs
  clear hs
  rcases hw : wideB [a, b] with _ | _
  · have hz := wide_sizes hw
    have ha4 : a.size ≤ 40 := hz a (by simp)
    have hb4 : b.size ≤ 40 := hz b (by simp)
    clear hz ha hb
    go_enter Tryd.func4, Tryd.ntmps4
    go_wp2_with fail
    refine (natAlive_any _).mono ?_
    rintro e w1 ⟨rfl, hb1⟩
    go_wp2_with fail
    refine (wide_any _ _ [a, b] 2 2 _ rfl (by simp) Hs.out (Blk.new w1 #[.string a, .string b] _)).mono ?_
    rintro e w2 ⟨rfl, rfl⟩
    rw [hw]
    go_wp2_with fail
    refine (Div_any a b _ (by omega) (by omega)).mono ?_
    rintro e w2 ⟨rfl, hb2⟩
    rw [divVal_eq]
    go_wp2_with fail
    refine (refDiv_any a b _ (by omega) (by omega)).mono ?_
    rintro e w3 ⟨rfl, hb3⟩
    rw [divVal_eq]
    go_wp2_with fail
    refine (Mul_any a b _ (by omega) (by omega)).mono ?_
    rintro e w4 ⟨rfl, hb4'⟩
    go_wp2_with fail
    refine (refMul_any a b _ (by omega) (by omega)).mono ?_
    rintro e w5 ⟨rfl, hb5⟩
    go_wp2_with fail
    go_ret
    refine ⟨rfl, then_ hb1 (then_ (alloc_below _ _) (then_ hb2 (then_ hb3 (then_ hb4' hb5))))⟩
  · go_enter Tryd.func4, Tryd.ntmps4
    go_wp2_with fail
    refine (natAlive_any _).mono ?_
    rintro e w1 ⟨rfl, hb1⟩
    go_wp2_with fail
    refine (wide_any _ _ [a, b] 2 2 _ rfl (by simp) Hs.out (Blk.new w1 #[.string a, .string b] _)).mono ?_
    rintro e w2 ⟨rfl, rfl⟩
    rw [hw]
    go_wp2_with fail
    go_ret
    exact ⟨rfl, then_ hb1 (alloc_below _ _)⟩

theorem one_nat : nat ⟨#[1]⟩ = 1 := by decide +kernel
theorem nil_nat : nat ⟨#[]⟩ = 0 := rfl
theorem mul_lt {x y m n : Nat} (hx : x < 256 ^ m) (hy : y < 256 ^ n) : x * y < 256 ^ (m + n) := by
  rw [Nat.pow_add]
  exact Nat.mul_lt_mul'' hx hy
theorem add_lt {x y m : Nat} (hx : x < 256 ^ m) (hy : y < 256 ^ m) : x + y < 256 ^ (m + 1) := by
  rw [Nat.pow_succ]
  omega
theorem nat_lt_of {a : ByteArray} {k : Nat} (h : a.size ≤ k) : nat a < 256 ^ k := Nat.lt_of_lt_of_le (nat_lt a) (pow_le_pow h)
theorem sub_add (m n : Nat) : subVal (m + n) n = .tuple #[.string (can m), .bool true] := by rw [subVal_ge (by omega), Nat.add_sub_cancel]

attribute [local go_sem] nat_can
set_option maxHeartbeats 2000000 in
theorem NatRing_any (a b c : ByteArray) (w : World) (ha : a.size ≤ maxLen) (hb : b.size ≤ maxLen) (hc : c.size ≤ maxLen) :
    Calls Tryd.prog 7 #[.string a, .string b, .string c] w fun e w' => e = .returned (.bool true) ∧ Below w.heap.size w w' := by
  have hs := three_le ha hb hc
  have Hs := Lib.hid hs
  clear hs
  rcases hw : wideB [a, b, c] with _ | _
  · have hz := wide_sizes hw
    have ha4 : a.size ≤ 40 := hz a (by simp)
    have hb4 : b.size ≤ 40 := hz b (by simp)
    have hc4 : c.size ≤ 40 := hz c (by simp)
    have la := nat_lt_of ha4
    have lb := nat_lt_of hb4
    have lc := nat_lt_of hc4
    have s1 : (can (nat a + nat b)).size ≤ 41 := can_size_le (add_lt la lb)
    have s2 : (can (nat b + nat c)).size ≤ 41 := can_size_le (add_lt lb lc)
    have s3 : (can (nat a * nat b)).size ≤ 80 := can_size_le (mul_lt la lb)
    have s4 : (can (nat b * nat c)).size ≤ 80 := can_size_le (mul_lt lb lc)
    have s5 : (can (nat a * nat c)).size ≤ 80 := can_size_le (mul_lt la lc)
    have h1 : nat b + nat a = nat a + nat b := Nat.add_comm _ _
    have h2 : nat b * nat a = nat a * nat b := Nat.mul_comm _ _
    have h3 : nat a + (nat b + nat c) = nat a + nat b + nat c := (Nat.add_assoc _ _ _).symm
    have h4 : nat a * (nat b * nat c) = nat a * nat b * nat c := (Nat.mul_assoc _ _ _).symm
    have h5 : nat a * (nat b + nat c) = nat a * nat b + nat a * nat c := Nat.mul_add _ _ _
    have h6 : nat a * nat ⟨#[1]⟩ = nat a := by rw [one_nat, Nat.mul_one]
    have h7 : nat a * nat ⟨#[]⟩ = 0 := by rw [nil_nat, Nat.mul_zero]
    have h8 := sub_add (nat a) (nat b)
    have h9 := isEmpty_pos (n := 0) rfl
    have t1 : (⟨#[1]⟩ : ByteArray).size ≤ 1 := by decide
    have t0 : (⟨#[]⟩ : ByteArray).size ≤ 1 := by decide
    clear hz ha hb hc la lb lc
    go_enter Tryd.func7, Tryd.ntmps7
    go_wp2_with fail
    refine (natAlive_any _).mono ?_
    rintro e w1 ⟨rfl, hb1⟩
    go_wp2_with fail
    refine (wide_any _ _ [a, b, c] 3 3 _ rfl (by simp) Hs.out (Blk.new w1 #[.string a, .string b, .string c] _)).mono ?_
    rintro e w2 ⟨rfl, rfl⟩
    rw [hw]
    have hbb := then_ hb1 (alloc_below w1 (.cells #[.string a, .string b, .string c] 9))
    generalize w1.alloc (.cells #[.string a, .string b, .string c] 9) = w2 at hbb ⊢
    clear hb1
    go_wp2_with (first
      | (go_at_call 18; refine (Add_any _ _ _ (by omega) (by omega)).mono ?_; rintro e wn ⟨rfl, hbn⟩; replace hbb := then_ hbb hbn; clear hbn)
      | (go_at_call 23; refine (Mul_any _ _ _ (by omega) (by omega)).mono ?_; rintro e wn ⟨rfl, hbn⟩; replace hbb := then_ hbb hbn; clear hbn)
      | (go_at_call 12; refine (Sub_any _ _ _ (by omega) (by omega)).mono ?_; rintro e wn ⟨rfl, hbn⟩; replace hbb := then_ hbb hbn; clear hbn)
      | (go_at_call 14; refine (Normalize_any _ _ (by simp [maxLen]; omega)).mono ?_; rintro e wn ⟨rfl, rfl⟩))
    go_ret
    exact ⟨rfl, hbb⟩
  · go_enter Tryd.func7, Tryd.ntmps7
    go_wp2_with fail
    refine (natAlive_any _).mono ?_
    rintro e w1 ⟨rfl, hb1⟩
    go_wp2_with fail
    refine (wide_any _ _ [a, b, c] 3 3 _ rfl (by simp) Hs.out (Blk.new w1 #[.string a, .string b, .string c] _)).mono ?_
    rintro e w2 ⟨rfl, rfl⟩
    rw [hw]
    go_wp2_with fail
    go_ret
    exact ⟨rfl, then_ hb1 (alloc_below _ _)⟩

theorem div_lt' {m n k : Nat} (h : m < 256 ^ k) : m / n < 256 ^ k := Nat.lt_of_le_of_lt (Nat.div_le_self _ _) h
theorem mod_lt' {m n k : Nat} (h : m < 256 ^ k) : m % n < 256 ^ k := Nat.lt_of_le_of_lt (Nat.mod_le _ _) h

set_option maxHeartbeats 2000000 in
theorem NatDivides_any (a b : ByteArray) (w : World) (ha : a.size ≤ maxLen) (hb : b.size ≤ maxLen) :
    Calls Tryd.prog 8 #[.string a, .string b] w fun e w' => e = .returned (.bool true) ∧ Below w.heap.size w w' := by
  have hs := two_le ha hb
  have Hs := Lib.hid hs
  clear hs
  rcases hw : wideB [a, b] with _ | _
  · have hz := wide_sizes hw
    have ha4 : a.size ≤ 40 := hz a (by simp)
    have hb4 : b.size ≤ 40 := hz b (by simp)
    have la := nat_lt_of ha4
    have lb := nat_lt_of hb4
    have s1 : (can (nat a / nat b)).size ≤ 40 := can_size_le (div_lt' la)
    have s2 : (can (nat a % nat b)).size ≤ 40 := can_size_le (mod_lt' la)
    have s3 : (can (nat a * nat b)).size ≤ 80 := can_size_le (mul_lt la lb)
    have s4 : (can (nat a / nat b * nat b)).size ≤ 80 := can_size_le (mul_lt (div_lt' la) lb)
    have t0 := isEmpty_pos (n := 0) rfl
    by_cases hb0 : nat b = 0
    · have h1 := divVal_zero (m := nat a) hb0
      have h2 := isEmpty_pos hb0
      have t1 : (⟨#[]⟩ : ByteArray).toList.isEmpty = true := by decide +kernel
      clear hz ha hb la lb hb0
      go_enter Tryd.func8, Tryd.ntmps8
      go_wp2_with fail
      refine (natAlive_any _).mono ?_
      rintro e w1 ⟨rfl, hb1⟩
      go_wp2_with fail
      refine (wide_any _ _ [a, b] 2 2 _ rfl (by simp) Hs.out (Blk.new w1 #[.string a, .string b] _)).mono ?_
      rintro e w2 ⟨rfl, rfl⟩
      rw [hw]
      have hbb := then_ hb1 (alloc_below w1 (.cells #[.string a, .string b] 9))
      generalize w1.alloc (.cells #[.string a, .string b] 9) = w2 at hbb ⊢
      clear hb1
      go_wp2_with (first
        | (go_at_call 21; refine (Div_any _ _ _ (by omega) (by omega)).mono ?_; rintro e wn ⟨rfl, hbn⟩; replace hbb := then_ hbb hbn; clear hbn)
        | (go_at_call 14; refine (Normalize_any _ _ (by simp [maxLen]; omega)).mono ?_; rintro e wn ⟨rfl, rfl⟩))
      go_ret
      exact ⟨rfl, hbb⟩
    · have h1 := divVal_pos (m := nat a) hb0
      have h2 := isEmpty_neg hb0
      have hpos : 0 < nat b := Nat.pos_of_ne_zero hb0
      have h3 : divVal (nat a * nat b) (nat b) = .tuple #[.string (can (nat a)), .string (can 0), .bool true] := by rw [divVal_pos hb0, Nat.mul_div_cancel _ hpos, Nat.mul_mod_left]
      have h4 : nat a / nat b * nat b + nat a % nat b = nat a := by rw [Nat.mul_comm]; exact Nat.div_add_mod _ _
      have h5 := decide_eq_true (cmpN_neg (Nat.mod_lt (nat a) hpos))
      clear hz ha hb la lb hb0 hpos
      go_enter Tryd.func8, Tryd.ntmps8
      go_wp2_with fail
      refine (natAlive_any _).mono ?_
      rintro e w1 ⟨rfl, hb1⟩
      go_wp2_with fail
      refine (wide_any _ _ [a, b] 2 2 _ rfl (by simp) Hs.out (Blk.new w1 #[.string a, .string b] _)).mono ?_
      rintro e w2 ⟨rfl, rfl⟩
      rw [hw]
      have hbb := then_ hb1 (alloc_below w1 (.cells #[.string a, .string b] 9))
      generalize w1.alloc (.cells #[.string a, .string b] 9) = w2 at hbb ⊢
      clear hb1
      go_wp2_with (first
        | (go_at_call 18; refine (Add_any _ _ _ (by omega) (by omega)).mono ?_; rintro e wn ⟨rfl, hbn⟩; replace hbb := then_ hbb hbn; clear hbn)
        | (go_at_call 23; refine (Mul_any _ _ _ (by omega) (by omega)).mono ?_; rintro e wn ⟨rfl, hbn⟩; replace hbb := then_ hbb hbn; clear hbn)
        | (go_at_call 21; refine (Div_any _ _ _ (by omega) (by omega)).mono ?_; rintro e wn ⟨rfl, hbn⟩; replace hbb := then_ hbb hbn; clear hbn)
        | (go_at_call 16; refine (Cmp_any _ _ _ (by simp [maxLen]; omega) (by simp [maxLen]; omega)).mono ?_; rintro e wn ⟨rfl, hbn⟩; replace hbb := then_ hbb hbn; clear hbn)
        | (go_at_call 14; refine (Normalize_any _ _ (by simp [maxLen]; omega)).mono ?_; rintro e wn ⟨rfl, rfl⟩))
      go_ret
      exact ⟨rfl, hbb⟩
  · go_enter Tryd.func8, Tryd.ntmps8
    go_wp2_with fail
    refine (natAlive_any _).mono ?_
    rintro e w1 ⟨rfl, hb1⟩
    go_wp2_with fail
    refine (wide_any _ _ [a, b] 2 2 _ rfl (by simp) Hs.out (Blk.new w1 #[.string a, .string b] _)).mono ?_
    rintro e w2 ⟨rfl, rfl⟩
    rw [hw]
    go_wp2_with fail
    go_ret
    exact ⟨rfl, then_ hb1 (alloc_below _ _)⟩
end Go.Proofs.YtmhbojbbieafbaaDoor
