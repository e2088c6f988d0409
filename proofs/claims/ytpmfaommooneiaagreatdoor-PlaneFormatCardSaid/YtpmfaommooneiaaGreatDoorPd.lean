/- Package point: arithmetic. -/
import Derived.Test.YtpmfaommooneiaaGreatDoorPu
set_option linter.unusedVariables false
set_option linter.unusedSimpArgs false
namespace Go.Proofs.YtpmfaommooneiaaGreatDoor
open Go.RowKit NM SX
theorem rdz4 {w : World} {g : Nat} {a0 a1 a2 a3 : Bool} {s0 s1 s2 s3 : ByteArray} (h0 : w.cell? ⟨g, 0, none⟩ = some (.bool a0)) (h1 : w.cell? ⟨g, 1, none⟩ = some (.string s0)) (h2 : w.cell? ⟨g, 2, none⟩ = some (.bool a1)) (h3 : w.cell? ⟨g, 3, none⟩ = some (.string s1))
    (h4 : w.cell? ⟨g, 4, none⟩ = some (.bool a2)) (h5 : w.cell? ⟨g, 5, none⟩ = some (.string s2)) (h6 : w.cell? ⟨g, 6, none⟩ = some (.bool a3)) (h7 : w.cell? ⟨g, 7, none⟩ = some (.string s3)) : RdZ w (some ⟨g, 0, none⟩) [(a0, s0), (a1, s1), (a2, s2), (a3, s3)] := by
  have hg : g < w.heap.size := by
    unfold World.cell? at h0
    split at h0
    · rename_i hb; exact (Array.getElem?_eq_some_iff.1 hb).1
    · simp at h0
  intro k hk
  match k, hk with
  | 0, _ => exact ⟨g, rfl, h0, h1, hg⟩
  | 1, _ => exact ⟨g, rfl, h2, h3, hg⟩
  | 2, _ => exact ⟨g, rfl, h4, h5, hg⟩
  | 3, _ => exact ⟨g, rfl, h6, h7, hg⟩
theorem abs_iv (n : Bool) (s : ByteArray) : (iv n s).natAbs = nat s := by
  cases n
  · rw [iv_false]; rfl
  · show (iv (!false) s).natAbs = _
    rw [iv_not, Int.natAbs_neg, iv_false]; rfl
end Go.Proofs.YtpmfaommooneiaaGreatDoor
