/- voussoirref02.Small, Text, Parse. -/
import Derived.Test.YtpmfaommooneiaaGreatDoorDecZ
import Derived.Test.YtpmfaommooneiaaGreatDoorN4
set_option linter.unusedVariables false
set_option linter.unusedSimpArgs false
namespace Go.Proofs.YtpmfaommooneiaaGreatDoor
open Go.RowKit NM

set_option maxHeartbeats 1000000 in
theorem refText2_neg (n : Bool) (s : ByteArray) (w : World) (hs : s.size ≤ 1048576) (hz : sg (iv n s) = true) :
    Calls Tryz.prog 94 #[I2 n s] w fun e w' => e = .returned (.string (decZ (iv n s))) ∧ Below w.heap.size w w' := by
  have p1 := mg_iv_size (n := n) hs
  have hd := decN_size (mg_lt p1)
  rw [decZ_neg (by simpa [sg] using hz)]
  have hR := Hold.start1 w 23 (.bool n) (.string s)
  go_enter Tryz.func94, Tryz.ntmps94
  go_wp2_with fail
  refine (refNorm2_any n s _ (by simp [maxLen]; omega)).mono ?_
  rintro e w1 ⟨rfl, hb1⟩
  replace hR := (hR.keep hb1).box (.bool true) (.string (mg (iv n s)))
  clear hb1
  go_wp2_with fail
  refine (refText_any _ _ (by omega)).mono ?_
  rw [nat_mg]
  rintro e w2 ⟨rfl, hb2⟩
  replace hR := hR.keep hb2
  go_wp2_with fail
  go_ret
  exact ⟨rfl, hR.below⟩

set_option maxHeartbeats 1000000 in
theorem refText2_pos (n : Bool) (s : ByteArray) (w : World) (hs : s.size ≤ 1048576) (hz : sg (iv n s) = false) :
    Calls Tryz.prog 94 #[I2 n s] w fun e w' => e = .returned (.string (decZ (iv n s))) ∧ Below w.heap.size w w' := by
  have p1 := mg_iv_size (n := n) hs
  have hd := decN_size (mg_lt p1)
  rw [decZ_pos (by simpa [sg] using hz)]
  have hR := Hold.start1 w 23 (.bool n) (.string s)
  go_enter Tryz.func94, Tryz.ntmps94
  go_wp2_with fail
  refine (refNorm2_any n s _ (by simp [maxLen]; omega)).mono ?_
  rintro e w1 ⟨rfl, hb1⟩
  replace hR := (hR.keep hb1).box (.bool false) (.string (mg (iv n s)))
  clear hb1
  go_wp2_with fail
  refine (refText_any _ _ (by omega)).mono ?_
  rw [nat_mg]
  rintro e w2 ⟨rfl, hb2⟩
  replace hR := hR.keep hb2
  go_wp2_with fail
  go_ret
  exact ⟨rfl, hR.below⟩
theorem refText2_any (n : Bool) (s : ByteArray) (w : World) (hs : s.size ≤ 1048576) :
    Calls Tryz.prog 94 #[I2 n s] w fun e w' => e = .returned (.string (decZ (iv n s))) ∧ Below w.heap.size w w' := by
  cases hz : sg (iv n s)
  · exact refText2_pos n s w hs hz
  · exact refText2_neg n s w hs hz
end Go.Proofs.YtpmfaommooneiaaGreatDoor
