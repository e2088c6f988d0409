/- integer.Format; the law's Great. -/
import Derived.Test.YtpmfaommooneiaaGreatDoorDivZ
import Derived.Test.YtpmfaommooneiaaGreatDoorN4
set_option linter.unusedVariables false
set_option linter.unusedSimpArgs false
namespace Go.Proofs.YtpmfaommooneiaaGreatDoor
open Go.RowKit NM

/-- An integer in decimal. -/
def decZ (z : Int) : ByteArray := if z < 0 then ⟨#[45]⟩ ++ dec z.natAbs else dec z.natAbs
theorem decZ_neg {z : Int} (h : z < 0) : decZ z = ⟨#[45]⟩ ++ dec z.natAbs := if_pos h
theorem decZ_pos {z : Int} (h : ¬ z < 0) : decZ z = dec z.natAbs := if_neg h
theorem decN_size {N k : Nat} (hN : N < 256 ^ k) : (dec N).size ≤ 3 * k + 1 := by
  have hs : (dec N).size = (decs N).length := size_ofBts _
  rw [hs]
  by_cases h : N = 0
  · subst h
    simp [decs]
  · rw [(tens_rev h (lt_pow_len (B := 10) (by omega) N)).2.2.1]
    have h : len 10 N ≤ 3 * k := (len_le_iff (by omega) _ _).2 (by
      rw [Nat.pow_mul]
      exact Nat.lt_of_lt_of_le hN (Nat.pow_le_pow_left (by omega) _))
    omega
theorem cmpZ_nonneg {z : Int} (h : ¬ z < 0) : ¬ cmpZ z 0 < 0 := by
  unfold cmpZ
  rw [if_neg h]
  by_cases h2 : z = 0
  · rw [if_pos h2]; omega
  · rw [if_neg h2]; omega

set_option maxHeartbeats 1000000 in
theorem Format2_any (n : Bool) (s : ByteArray) (w : World) (hs : s.size ≤ 1073741824) :
    Calls Tryz.prog 92 #[I2 n s] w fun e w' => e = .returned (.string (decZ (iv n s))) ∧ Below w.heap.size w w' := by
  have hd := decN_size (nat_lt s)
  by_cases h : iv n s < 0
  · rw [decZ_neg h, iv_abs]
    have h1 : cmpZ (iv n s) 0 = -1 := cmpZ_lt h
    clear h
    have hR := Hold.start1 w 23 (.bool n) (.string s)
    go_enter Tryz.func92, Tryz.ntmps92
    go_wp2_with fail
    refine (Sign2_any n s _ (by simp [maxLen]; omega)).mono ?_
    rintro e w1 ⟨rfl, hb1⟩
    replace hR := hR.keep hb1
    clear hb1
    obtain ⟨a1, a2, -⟩ := hR.all1
    go_wp2_with fail
    refine (Format_any s _ hs).mono ?_
    rintro e w2 ⟨rfl, hb2⟩
    replace hR := hR.keep hb2
    go_wp2_with fail
    go_ret
    exact ⟨rfl, hR.below⟩
  · rw [decZ_pos h, iv_abs]
    have h1 := cmpZ_nonneg h
    clear h
    have hR := Hold.start1 w 23 (.bool n) (.string s)
    go_enter Tryz.func92, Tryz.ntmps92
    go_wp2_with fail
    refine (Sign2_any n s _ (by simp [maxLen]; omega)).mono ?_
    rintro e w1 ⟨rfl, hb1⟩
    replace hR := hR.keep hb1
    clear hb1
    obtain ⟨a1, a2, -⟩ := hR.all1
    go_wp2_with fail
    refine (Format_any s _ hs).mono ?_
    rintro e w2 ⟨rfl, hb2⟩
    replace hR := hR.keep hb2
    go_wp2_with fail
    go_ret
    exact ⟨rfl, hR.below⟩

end Go.Proofs.YtpmfaommooneiaaGreatDoor
