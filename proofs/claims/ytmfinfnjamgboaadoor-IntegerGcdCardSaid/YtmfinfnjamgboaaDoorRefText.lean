/- voussoirref01.Text. -/
import Derived.Test.YtmfinfnjamgboaaDoorParse
import Derived.Test.YtmfinfnjamgboaaDoorAlive
namespace Go.Proofs.YtmfinfnjamgboaaDoor
open Go.RowKit NM
attribute [local go_sem] nat_can

/-- The bytes of a string value. -/
def strOf : Value → ByteArray | .string s => s | _ => ⟨#[]⟩
theorem refDiv_ten (M : Nat) (w : World) (ha : (can M).size ≤ 1073741824) :
    Calls Tryd.prog 49 #[.string (can M), .string ⟨#[10]⟩] w fun e w' => e = .returned (.tuple #[.string (can (M / 10)), .string (can (M % 10)), .bool true]) ∧ Below w.heap.size w w' := by
  have h := refDiv_any (can M) ⟨#[10]⟩ w ha (by show 1 ≤ _; omega)
  rw [show nat ⟨#[10]⟩ = 10 from rfl, nat_can, divVal_pos (by omega)] at h
  exact h
theorem Num_digit (d : Nat) (w : World) (hd : d < 10) :
    Calls Tryd.prog 25 #[.string (can d)] w fun e w' => e = .returned (.tuple #[.int .u64 (d : Int), .bool true]) ∧ w = w' := by
  have h := Num_any (can d) w (by have := can_size_le (k := 1) (n := d) (by omega); simp [maxLen]; omega)
  rw [nat_can, u64Val_lt (by omega)] at h
  exact h
theorem ofBts_append (l m : List Nat) : ofBts l ++ ofBts m = ofBts (l ++ m) := by
  apply ByteArray.ext
  simp [ofBts, ByteArray.data_append]
theorem text_step {N t : Nat} : Value.string (ofBts [48 + N / 10 ^ t % 10] ++ ofBts (tens t N).reverse) = .string (ofBts (tens (t + 1) N).reverse) := by
  rw [ofBts_append, tens_succ, List.reverse_append]
  rfl
theorem text_more {N t : Nat} (h : ¬ N / 10 ^ t = 0) : t + 1 ≤ len 10 N := by
  rcases Nat.lt_or_ge t (len 10 N) with h1 | h1
  · exact h1
  · exact absurd (Nat.div_eq_of_lt ((len_le_iff (by omega) t N).1 h1)) h
theorem text_len {N t k : Nat} (ht : t ≤ len 10 N) (hN : N < 256 ^ k) (hk : k ≤ 1073741824) : t ≤ 3221225472 := by
  have h : len 10 N ≤ 3 * k := (len_le_iff (by omega) _ _).2 (by
    rw [Nat.pow_mul]
    exact Nat.lt_of_lt_of_le hN (Nat.pow_le_pow_left (by omega) _))
  omega
theorem text_less {N t d : Nat} (h : ¬ N / 10 ^ t = 0) : len 10 N - (strOf (.string (ofBts [d] ++ ofBts (tens t N).reverse))).size < len 10 N - (strOf (.string (ofBts (tens t N).reverse))).size := by
  have := text_more h
  simp only [strOf]
  rw [ofBts_append, size_ofBts, size_ofBts, List.length_append, List.length_reverse, tens_length]
  simp only [List.length_cons, List.length_nil]
  omega
theorem text_fin {N t : Nat} (h0 : N ≠ 0) (hz : N / 10 ^ t = 0) (ht : t ≤ len 10 N) : ofBts (tens t N).reverse = dec N := by
  have h1 : N < 10 ^ t := by
    rcases Nat.lt_or_ge N (10 ^ t) with h | h
    · exact h
    · exact absurd hz (Nat.ne_of_gt (Nat.div_pos h (Nat.pow_pos (by omega))))
  have h2 := (tens_rev h0 h1).1
  rw [show t - len 10 N = 0 from by omega] at h2
  rw [h2]
  rfl
theorem dec_size_pos {N : Nat} (h : N ≠ 0) : decide ((dec N).size = 0) = false := by
  have h1 := (tens_rev h (lt_pow_len (B := 10) (by omega) N)).2.2.1
  have h2 := len_pos (B := 10) (by omega) h
  unfold dec
  rw [size_ofBts]
  exact decide_eq_false (by omega)

set_option maxHeartbeats 4000000 in
theorem refText_any (a : ByteArray) (w : World) (ha : a.size ≤ 1073741824) :
    Calls Tryd.prog 28 #[.string a] w fun e w' => e = .returned (.string (dec (nat a))) ∧ Below w.heap.size w w' := by
  have hN := nat_lt a
  obtain ⟨N, eN⟩ : ∃ N, N = nat a := ⟨_, rfl⟩
  rw [← eN] at hN ⊢
  have hst := fun (W : World) (d : Nat) => run_str_blk (P := Tryd.prog) (src := 59) (dst := 9) (l := [48 + d]) (post := []) (Blk.new W #[.int .u8 (48 + (d : Int))] 5) 1 1 rfl Tryd.underlying59 Tryd.underlying5 Tryd.underlying9
  have Hst := Lib.hid hst
  have HN := Lib.hid hN
  clear hst hN
  go_enter Tryd.func28, Tryd.ntmps28
  go_wp2_with (go_at_call 22; refine (Norm_any _ _ (by simp [maxLen]; omega)).mono ?_; rintro e w' ⟨rfl, rfl⟩)
  rw [← eN]
  clear eN
  go_loopw [3, 4] (fun x o wr => ∃ t : Nat, x = .string (can (N / 10 ^ t)) ∧ o = .string (ofBts (tens t N).reverse) ∧ t ≤ len 10 N ∧ Below w.heap.size w wr) (fun _ o _ => len 10 N - (strOf o).size)
  case atStart => exact ⟨0, by rw [Nat.pow_zero, Nat.div_one], rfl, Nat.zero_le _, Below.refl _ _⟩
  case round =>
    obtain ⟨t, rfl, rfl, ht, hb⟩ := hrel
    have hsz : (can (N / 10 ^ t)).size ≤ 1073741824 := Nat.le_trans (can_size_le (Nat.lt_of_le_of_lt (Nat.div_le_self _ _) HN.out)) ha
    by_cases hz : N / 10 ^ t = 0
    · by_cases h0 : N = 0
      · subst h0
        obtain rfl : t = 0 := by rw [len_zero] at ht; omega
        have hc := isEmpty_pos hz
        have hne : (ofBts (tens 0 0).reverse).toList.isEmpty = true := by decide +kernel
        go_wp2
        go_ret
        exact ⟨rfl, hb⟩
      · have e := text_fin h0 hz ht
        have hne : (dec N).toList.isEmpty = false := by rw [isEmpty_str, dec_size_pos h0]
        rw [e]
        have hc := isEmpty_pos hz
        clear e hz
        go_wp2
        go_ret
        exact ⟨rfl, hb⟩
    · have hc := isEmpty_neg hz
      have hd : N / 10 ^ t % 10 < 10 := Nat.mod_lt _ (by omega)
      obtain ⟨d, ed⟩ : ∃ d, d = N / 10 ^ t % 10 := ⟨_, rfl⟩
      have Hd := Lib.hid ed
      clear ed
      rw [← Hd.out] at hd
      have hz' := Lib.hid hz
      have l1 : (ofBts [48 + d]).size = 1 := size_ofBts _
      have l2 : (ofBts (tens t N).reverse).size = t := by rw [size_ofBts, List.length_reverse, tens_length]
      have l3 := text_len ht HN.out ha
      clear hz
      go_wp2_with (first
        | (go_at_call 49; refine (refDiv_ten _ _ hsz).mono ?_; rintro e w1 ⟨rfl, hb1⟩; replace hb := then_ hb hb1; clear hb1; rw [← Hd.out])
        | (go_at_call 25; refine (Num_digit _ _ hd).mono ?_; rintro e w2 ⟨rfl, rfl⟩; have hs1 := Hst.out w1 d; have hb2 := hb.alloc hb.size (Obj.cells #[Value.int IntKind.u8 (48 + (d : Int))] 5)))
      all_goals (refine ⟨⟨t + 1, by rw [Nat.div_div_eq_div_mul, Nat.pow_succ], by rw [Hd.out]; exact text_step, text_more hz'.out, by first | exact hb2 | exact below_drewN hb2 _⟩, ?_⟩; exact text_less hz'.out)
end Go.Proofs.YtmfinfnjamgboaaDoor
