/- voussoirlaw01.natAlive returns true. -/
import Derived.Test.YtmhbojbbieafbaaDoorGcdW
import Derived.Test.YtmhbojbbieafbaaDoorDiv
import Derived.Test.YtmhbojbbieafbaaDoorFmt
namespace Go.Proofs.YtmhbojbbieafbaaDoor
open Go.RowKit NM

/-- One call behind another. -/
theorem then_ {a b c : World} (h : Below a.heap.size a b) (k : Below b.heap.size b c) : Below a.heap.size a c := Below.trans h (Below.mono k h.size)

set_option maxRecDepth 100000 in
set_option maxHeartbeats 1000000 in
theorem natAlive_any (w : World) : Calls Tryd.prog 11 #[] w fun e w' => e = .returned (.bool true) ∧ Below w.heap.size w w' := by
  go_enter Tryd.func11, Tryd.ntmps11
  go_wp2_with fail
  refine (FromUint64_any 1000 _ (by omega)).mono ?_
  rintro e w1 ⟨rfl, hb1⟩
  go_wp2_with fail
  refine (FromUint64_any 7 _ (by omega)).mono ?_
  rintro e w2 ⟨rfl, hb2⟩
  go_wp2_with fail
  refine (Div_any _ _ _ (by rw [can_size]; decide +kernel) (by rw [can_size]; decide +kernel)).mono ?_
  rintro e w3 ⟨rfl, hb3⟩
  rw [nat_can, nat_can, divVal_pos (by decide), show can (1000 / 7) = ⟨#[142]⟩ from by decide +kernel, show can (1000 % 7) = ⟨#[6]⟩ from by decide +kernel]
  go_wp2_with fail
  refine (Add_any _ _ _ (by decide +kernel) (by decide +kernel)).mono ?_
  rintro e w4 ⟨rfl, hb4⟩
  rw [show can (nat ⟨#[255]⟩ + nat ⟨#[1]⟩) = ⟨#[0, 1]⟩ from by decide +kernel]
  go_wp2_with fail
  refine (Gcd_word _ _ _ (by decide +kernel) (by decide +kernel) (by decide +kernel) (by decide +kernel)).mono ?_
  rintro e w5 ⟨rfl, hb5⟩
  rw [show can (Nat.gcd (nat ⟨#[12]⟩) (nat ⟨#[18]⟩)) = ⟨#[6]⟩ from by decide +kernel]
  go_wp2_with fail
  refine (Format_any _ _ (by decide +kernel)).mono ?_
  rintro e w6 ⟨rfl, hb6⟩
  rw [show dec (nat ⟨#[0, 1]⟩) = ⟨#[50, 53, 54]⟩ from by decide +kernel]
  go_wp2_with fail
  go_ret
  refine ⟨?_, then_ hb1 (then_ hb2 (then_ hb3 (then_ hb4 (then_ hb5 hb6))))⟩
  rfl
end Go.Proofs.YtmhbojbbieafbaaDoor
