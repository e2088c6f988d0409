/- The walk of voussoirlaw01.NatStrings. -/
import Derived.Test.YtmhbojbbieafbaaDoorLawMuls
import Derived.Test.YtmhbojbbieafbaaDoorRefParse
import Derived.Test.YtmhbojbbieafbaaDoorRefText
import Derived.Test.YtmhbojbbieafbaaDoorDec
namespace Go.Proofs.YtmhbojbbieafbaaDoor
open Go.RowKit NM

theorem dec_size_le {N k : Nat} (hN : N < 256 ^ k) : (dec N).size ≤ 3 * k + 1 := by
  have hs : (dec N).size = (decs N).length := size_ofBts _
  rw [hs]
  by_cases h : N = 0
  · subst h
    simp [decs]
  · rw [(tens_rev h (lt_pow_len (B := 10) (by omega) N)).2.2.1]
    have h : len 10 N ≤ 3 * k := (len_le_iff (by omega) _ _).2 (by
      rw [Nat.pow_mul]
      exact Nat.lt_of_lt_of_le hN (Nat.pow_le_pow_left (by omega) _))
    omega
theorem decVal_size {s : ByteArray} (h : Decimal s) : (can (decVal (bts s))).size ≤ s.size := by
  have h1 := dec_size (s := s) (k := s.size) (Nat.le_refl _) h.2.1
  rwa [List.take_of_length_le (by rw [bts_length]; exact Nat.le_refl _)] at h1
theorem one_le {a : ByteArray} {n : Nat} (ha : a.size ≤ n) : ∀ s ∈ [a], s.size ≤ n := by
  intro s hs
  simp only [List.mem_cons, List.not_mem_nil, or_false] at hs
  exact hs ▸ ha

attribute [local go_sem] nat_can
set_option maxHeartbeats 4000000 in
theorem NatStrings_any (a s : ByteArray) (n : Nat) (w : World) (ha : a.size ≤ maxLen) (hs : s.size ≤ maxLen) (hn : n < 18446744073709551616) :
    Calls Tryd.prog 6 #[.string a, .string s, .int .u64 (n : Int)] w fun e w' => e = .returned (.bool true) ∧ Below w.heap.size w w' := by
  have hall := one_le ha
  have Hs := Lib.hid hall
  clear hall
  have hs' : s.size ≤ 9223372036854775807 := by simpa [maxLen] using hs
  rcases hw : wideB [a] with _ | _
  · have ha4 : a.size ≤ 40 := wide_sizes hw a (by simp)
    by_cases h90 : 90 < s.size
    · clear ha hs
      go_enter Tryd.func6, Tryd.ntmps6
      go_wp2_with fail
      refine (natAlive_any _).mono ?_
      rintro e w1 ⟨rfl, hb1⟩
      go_wp2_with fail
      refine (wide_any _ _ [a] 1 1 _ rfl (by simp) Hs.out (Blk.new w1 #[.string a] _)).mono ?_
      rintro e w2 ⟨rfl, rfl⟩
      rw [hw]
      have hbb := then_ hb1 (alloc_below w1 (.cells #[.string a] 9))
      generalize w1.alloc (.cells #[.string a] 9) = w2 at hbb ⊢
      clear hb1
      go_wp2_with fail
      go_ret
      exact ⟨rfl, hbb⟩
    · have la := nat_lt_of ha4
      have h3 := parse_dec (nat a)
      have h4 := u64Val_lt hn
      have h5 := u64Val_eq (nat a)
      have h6 : (dec (nat a)).size ≤ 121 := dec_size_le la
      have h7 : (can n).size ≤ 8 := can_size_8.2 hn
      clear ha hs la
      by_cases hd : Decimal s
      · have h1 := parseVal_yes hd
        have h2 := dec_decVal hd
        have h8 := decVal_size hd
        generalize decVal (bts s) = V at h1 h2 h8
        clear hd
        go_enter Tryd.func6, Tryd.ntmps6
        go_wp2_with fail
        refine (natAlive_any _).mono ?_
        rintro e w1 ⟨rfl, hb1⟩
        go_wp2_with fail
        refine (wide_any _ _ [a] 1 1 _ rfl (by simp) Hs.out (Blk.new w1 #[.string a] _)).mono ?_
        rintro e w2 ⟨rfl, rfl⟩
        rw [hw]
        have hbb := then_ hb1 (alloc_below w1 (.cells #[.string a] 9))
        generalize w1.alloc (.cells #[.string a] 9) = w2 at hbb ⊢
        clear hb1
        go_wp2_with (first
          | (go_at_call 27; refine (Parse_any _ _ (by omega)).mono ?_; rintro e wn ⟨rfl, hbn⟩; replace hbb := then_ hbb hbn; clear hbn)
          | (go_at_call 28; refine (refParse_any _ _ (by omega)).mono ?_; rintro e wn ⟨rfl, hbn⟩; replace hbb := then_ hbb hbn; clear hbn)
          | (go_at_call 29; refine (Uint64_any _ _ (by simp [maxLen]; omega)).mono ?_; rintro e wn ⟨rfl, rfl⟩)
          | (go_at_call 30; refine (Num_any _ _ (by simp [maxLen]; omega)).mono ?_; rintro e wn ⟨rfl, rfl⟩)
          | (go_at_call 31; refine (Format_any _ _ (by omega)).mono ?_; rintro e wn ⟨rfl, hbn⟩; replace hbb := then_ hbb hbn; clear hbn)
          | (go_at_call 33; refine (refText_any _ _ (by omega)).mono ?_; rintro e wn ⟨rfl, hbn⟩; replace hbb := then_ hbb hbn; clear hbn)
          | (go_at_call 32; refine (FromUint64_any _ _ hn).mono ?_; rintro e wn ⟨rfl, hbn⟩; replace hbb := then_ hbb hbn; clear hbn)
          | (go_at_call 34; refine (Of_any _ _ hn).mono ?_; rintro e wn ⟨rfl, hbn⟩; replace hbb := then_ hbb hbn; clear hbn)
          | (go_at_call 14; refine (Normalize_any _ _ (by simp [maxLen]; omega)).mono ?_; rintro e wn ⟨rfl, rfl⟩))
        go_ret
        exact ⟨rfl, hbb⟩
      · have h1 := parseVal_no hd
        clear hd
        go_enter Tryd.func6, Tryd.ntmps6
        go_wp2_with fail
        refine (natAlive_any _).mono ?_
        rintro e w1 ⟨rfl, hb1⟩
        go_wp2_with fail
        refine (wide_any _ _ [a] 1 1 _ rfl (by simp) Hs.out (Blk.new w1 #[.string a] _)).mono ?_
        rintro e w2 ⟨rfl, rfl⟩
        rw [hw]
        have hbb := then_ hb1 (alloc_below w1 (.cells #[.string a] 9))
        generalize w1.alloc (.cells #[.string a] 9) = w2 at hbb ⊢
        clear hb1
        go_wp2_with (first
          | (go_at_call 27; refine (Parse_any _ _ (by omega)).mono ?_; rintro e wn ⟨rfl, hbn⟩; replace hbb := then_ hbb hbn; clear hbn)
          | (go_at_call 28; refine (refParse_any _ _ (by omega)).mono ?_; rintro e wn ⟨rfl, hbn⟩; replace hbb := then_ hbb hbn; clear hbn)
          | (go_at_call 29; refine (Uint64_any _ _ (by simp [maxLen]; omega)).mono ?_; rintro e wn ⟨rfl, rfl⟩)
          | (go_at_call 30; refine (Num_any _ _ (by simp [maxLen]; omega)).mono ?_; rintro e wn ⟨rfl, rfl⟩)
          | (go_at_call 31; refine (Format_any _ _ (by omega)).mono ?_; rintro e wn ⟨rfl, hbn⟩; replace hbb := then_ hbb hbn; clear hbn)
          | (go_at_call 33; refine (refText_any _ _ (by omega)).mono ?_; rintro e wn ⟨rfl, hbn⟩; replace hbb := then_ hbb hbn; clear hbn)
          | (go_at_call 32; refine (FromUint64_any _ _ hn).mono ?_; rintro e wn ⟨rfl, hbn⟩; replace hbb := then_ hbb hbn; clear hbn)
          | (go_at_call 34; refine (Of_any _ _ hn).mono ?_; rintro e wn ⟨rfl, hbn⟩; replace hbb := then_ hbb hbn; clear hbn)
          | (go_at_call 14; refine (Normalize_any _ _ (by simp [maxLen]; omega)).mono ?_; rintro e wn ⟨rfl, rfl⟩))
        go_ret
        exact ⟨rfl, hbb⟩
  · clear ha hs
    go_enter Tryd.func6, Tryd.ntmps6
    go_wp2_with fail
    refine (natAlive_any _).mono ?_
    rintro e w1 ⟨rfl, hb1⟩
    go_wp2_with fail
    refine (wide_any _ _ [a] 1 1 _ rfl (by simp) Hs.out (Blk.new w1 #[.string a] _)).mono ?_
    rintro e w2 ⟨rfl, rfl⟩
    rw [hw]
    go_wp2_with fail
    go_ret
    exact ⟨rfl, then_ hb1 (alloc_below _ _)⟩
end Go.Proofs.YtmhbojbbieafbaaDoor
