/- voussoirlaw01.wide: whether some string is longer than 40 bytes. -/
import Derived.Test.YtmhbojbbieafbaaDoorMem
namespace Go.Proofs.YtmhbojbbieafbaaDoor
open Go.RowKit

/-- Whether some string of the list is longer than 40 bytes. -/
def wideB (L : List ByteArray) : Bool := L.any fun s => decide (40 < s.size)

theorem strs_at {L : List ByteArray} {j : Nat} (h : j < L.length) : (L.map Value.string)[j]? = some (.string L[j]) := by simp [h]

set_option maxHeartbeats 400000 in
theorem wide_any (g : Nat) (E : TypeId) (L : List ByteArray) (n c : Nat) (w : World) (hn : n = L.length) (hL : L.length ≤ 1000) (hs : ∀ s ∈ L, s.size ≤ maxLen) (hB : Blk w g E (L.map Value.string)) :
    Calls Tryd.prog 20 #[.slice (some ⟨g, 0, none⟩) n c] w fun e w' => e = .returned (.bool (wideB L)) ∧ w = w' := by
  subst hn
  have Hs := Lib.hid hs
  clear hs
  go_enter Tryd.func20, Tryd.ntmps20
  go_wp2
  go_loop [4, 7] (fun _ i => ∃ k : Nat, k ≤ L.length ∧ i = .int .i64 k ∧ wideB (L.take k) = false) (fun _ i => L.length - (intOf i).toNat)
  case atStart => exact ⟨0, Nat.zero_le _, rfl, rfl⟩
  case round =>
    obtain ⟨k, hk, rfl, hz⟩ := hrel
    have Hz := Lib.hid hz
    clear hz
    by_cases hlt : k < L.length
    · have hc := hB.cell (strs_at hlt)
      have hs := Hs.out L[k] (List.getElem_mem hlt)
      unfold maxLen at hs
      have ht : wideB (L.take (k + 1)) = (wideB (L.take k) || decide (40 < (L[k]).size)) := by
        unfold wideB
        rw [List.take_succ_eq_append_getElem hlt, List.any_append]
        simp
      have hdrop : 40 < (L[k]).size → wideB L = true := fun h => by
        unfold wideB
        rw [List.any_eq_true]
        exact ⟨L[k], List.getElem_mem hlt, decide_eq_true h⟩
      have Ht := Lib.hid ht
      have Hdrop := Lib.hid hdrop
      clear ht hdrop
      generalize L[k] = s at hc hs Ht Hdrop
      by_cases h40 : 40 < s.size
      · go_wp2
        go_ret
        exact ⟨by rw [Hdrop.out h40]; rfl, rfl⟩
      · go_wp2
        go_round
        case rel => exact ⟨k + 1, by omega, by go_num, by rw [Ht.out, Hz.out, decide_eq_false h40]; rfl⟩
        case measure => simp [intOf]; omega
    · have hall : wideB L = false := by
        have := Hz.out
        rwa [List.take_of_length_le (by omega)] at this
      have Hall := Lib.hid hall
      clear hall
      go_wp2
      go_ret
      exact ⟨by rw [Hall.out]; rfl, rfl⟩

theorem wide_sizes {L : List ByteArray} (h : wideB L = false) : ∀ s ∈ L, s.size ≤ 40 := by
  intro s hs
  unfold wideB at h
  rw [List.any_eq_false] at h
  have := h s hs
  simpa using this
end Go.Proofs.YtmhbojbbieafbaaDoor
