/- The walk of voussoirlaw01.NatSums. -/
import Derived.Test.YtmhbojbbieafbaaDoorAlive
import Derived.Test.YtmhbojbbieafbaaDoorSub
namespace Go.Proofs.YtmhbojbbieafbaaDoor
open Go.RowKit NM

set_option maxHeartbeats 1000000 in
theorem NatSums_any (a b : ByteArray) (w : World) (ha : a.size ≤ maxLen) (hb : b.size ≤ maxLen) :
    Calls Tryd.prog 3 #[.string a, .string b] w fun e w' => e = .returned (.bool true) ∧ Below w.heap.size w w' := by
  rcases (show 300 < a.size ∨ (¬ 300 < a.size ∧ 300 < b.size) ∨ (¬ 300 < a.size ∧ ¬ 300 < b.size) from by omega) with h | ⟨h, h2⟩ | ⟨h, h2⟩
  · unfold maxLen at ha hb
    go_enter Tryd.func3, Tryd.ntmps3
    go_wp2_with (go_at_call 11; refine (natAlive_any _).mono ?_; rintro e w1 ⟨rfl, hb1⟩)
    go_ret
    exact ⟨rfl, hb1⟩
  · unfold maxLen at ha hb
    go_enter Tryd.func3, Tryd.ntmps3
    go_wp2_with (go_at_call 11; refine (natAlive_any _).mono ?_; rintro e w1 ⟨rfl, hb1⟩)
    go_ret
    exact ⟨rfl, hb1⟩
  · have ha4 : a.size ≤ 4294967296 := by omega
    have hb4 : b.size ≤ 4294967296 := by omega
    go_enter Tryd.func3, Tryd.ntmps3
    go_wp2_with fail
    refine (natAlive_any _).mono ?_
    rintro e w1 ⟨rfl, hb1⟩
    go_wp2_with fail
    refine (Sub_any a b _ ha4 hb4).mono ?_
    rintro e w2 ⟨rfl, hb2⟩
    rw [subVal_eq]
    go_wp2_with fail
    refine (refSub_any a b _ ha4 hb4).mono ?_
    rintro e w3 ⟨rfl, hb3⟩
    rw [subVal_eq]
    go_wp2_with fail
    refine (Normalize_any a _ ha).mono ?_
    rintro e w4 ⟨rfl, rfl⟩
    go_wp2_with fail
    refine (Norm_any a _ ha).mono ?_
    rintro e w5 ⟨rfl, rfl⟩
    go_wp2_with fail
    refine (Cmp_any a b _ ha hb).mono ?_
    rintro e w6 ⟨rfl, hb6⟩
    go_wp2_with fail
    refine (refCmp_any a b _ ha hb).mono ?_
    rintro e w7 ⟨rfl, hb7⟩
    go_wp2_with fail
    refine (Add_any a b _ ha4 hb4).mono ?_
    rintro e w8 ⟨rfl, hb8⟩
    go_wp2_with fail
    refine (refAdd_any a b _ ha4 hb4).mono ?_
    rintro e w9 ⟨rfl, hb9⟩
    go_wp2_with fail
    go_ret
    refine ⟨?_, then_ hb1 (then_ hb2 (then_ hb3 (then_ hb6 (then_ hb7 (then_ hb8 hb9)))))⟩
    rfl
end Go.Proofs.YtmhbojbbieafbaaDoor
