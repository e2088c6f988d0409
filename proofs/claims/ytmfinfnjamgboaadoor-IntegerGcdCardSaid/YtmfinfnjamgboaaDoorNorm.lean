/- nat.Normalize and voussoirref01.Norm return the canonical string of the number. -/
import Derived.Test.YtmfinfnjamgboaaDoorChecked
import Derived.Test.YtmfinfnjamgboaaDoorB
import Derived.WalkKit
import Derived.WalkSpells
import Derived.WalkLawsBesides
namespace Go.Proofs.YtmfinfnjamgboaaDoor
open Go.RowKit

theorem byte_ne {a : ByteArray} {j : Nat} (h : j < a.size) (h0 : ((a[j].toNat : Int) != 0) = true) : a[j] ≠ 0 := by
  intro e
  rw [e] at h0
  revert h0
  decide
theorem byte_eq {a : ByteArray} {j : Nat} (h : j < a.size) (h0 : ((a[j].toNat : Int) != 0) = false) : a[j] = 0 := by
  apply UInt8.toNat_inj.1
  have h1 : (a[j].toNat : Int) = 0 := by simpa using h0
  have h2 : a[j].toNat = 0 := by omega
  rw [h2]
  rfl
theorem zeros_step {a : ByteArray} {k : Nat} (hk : k < a.size) (hz : ∀ j, (h : j < a.size) → a.size - k ≤ j → a[j] = 0) (h0 : a[a.size - k - 1] = 0) : ∀ j, (h : j < a.size) → a.size - (k + 1) ≤ j → a[j] = 0 := by
  intro j h hj
  by_cases e : j = a.size - k - 1
  · subst e; exact h0
  · exact hz j h (by omega)

theorem zeros_down {a : ByteArray} {k : Nat} (hk : k ≤ a.size) (h1 : 0 < k) (hz : ∀ j, (h : j < a.size) → k ≤ j → a[j] = 0) (h0 : a[k - 1] = 0) : ∀ j, (h : j < a.size) → k - 1 ≤ j → a[j] = 0 := by
  intro j h hj
  by_cases e : j = k - 1
  · subst e; exact h0
  · exact hz j h (by omega)

set_option maxHeartbeats 400000 in
theorem Normalize_any (a : ByteArray) (w : World) (ha : a.size ≤ maxLen) :
    Calls Tryd.prog 39 #[.string a] w fun e w' => e = .returned (.string (can (nat a))) ∧ w = w' := by
  unfold maxLen at ha
  go_enter Tryd.func39, Tryd.ntmps39
  go_wp2
  go_loop [3, 4, 7] (fun _ _ i => ∃ k : Nat, k ≤ a.size ∧ i = .int .i64 k ∧ ∀ j, (h : j < a.size) → a.size - k ≤ j → a[j] = 0) (fun _ _ i => a.size - (intOf i).toNat)
  case atStart => exact ⟨0, Nat.zero_le _, rfl, fun j h hj => by omega⟩
  case round =>
    obtain ⟨k, hk, rfl, hz⟩ := hrel
    by_cases hlt : k < a.size
    · go_wp2
      · go_ret
        have h0 : ((a[a.size - k - 1].toNat : Int) != 0) = true := by assumption
        refine ⟨?_, rfl⟩
        show Ending.returned (Value.string (a.extract 0 (a.size - k))) = _
        rw [extract_can a (a.size - k) (by omega) hz (.inr ⟨by omega, byte_ne (by omega) h0⟩)]
      · go_round
        have h0 : ((a[a.size - k - 1].toNat : Int) != 0) = false := by assumption
        case rel => exact ⟨k + 1, by omega, by go_num, zeros_step hlt hz (byte_eq (by omega) h0)⟩
        case measure => simp [intOf]; omega
    · go_wp2
      go_ret
      refine ⟨?_, rfl⟩
      rw [zero_can a (fun j h => hz j h (by omega))]
      rfl

set_option maxHeartbeats 400000 in
theorem Norm_any (a : ByteArray) (w : World) (ha : a.size ≤ maxLen) :
    Calls Tryd.prog 22 #[.string a] w fun e w' => e = .returned (.string (can (nat a))) ∧ w = w' := by
  unfold maxLen at ha
  go_enter Tryd.func22, Tryd.ntmps22
  go_wp2
  go_loop [3] (fun i => ∃ k : Nat, k ≤ a.size ∧ i = .int .i64 k ∧ ∀ j, (h : j < a.size) → k ≤ j → a[j] = 0) (fun i => (intOf i).toNat)
  case atStart => exact ⟨a.size, Nat.le_refl _, rfl, fun j h hj => by omega⟩
  case round =>
    obtain ⟨k, hk, rfl, hz⟩ := hrel
    by_cases hlt : 0 < k
    · go_wp2
      · go_round
        have h0 : ((a[k - 1].toNat : Int) == 0) = true := by assumption
        case rel => exact ⟨k - 1, by omega, by go_num, zeros_down hk hlt hz (byte_eq (by omega) (by rw [bne, h0]; rfl))⟩
        case measure => simp [intOf]; omega
      · go_ret
        have h0 : ((a[k - 1].toNat : Int) == 0) = false := by assumption
        refine ⟨?_, rfl⟩
        show Ending.returned (Value.string (a.extract 0 k)) = _
        rw [extract_can a k (by omega) hz (.inr ⟨by omega, byte_ne (by omega) (by rw [bne, h0]; rfl)⟩)]
    · go_wp2
      go_ret
      refine ⟨?_, rfl⟩
      show Ending.returned (Value.string (a.extract 0 k)) = _
      rw [extract_can a k (by omega) hz (.inl (by omega))]
end Go.Proofs.YtmfinfnjamgboaaDoor
