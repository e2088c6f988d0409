/- point.Parse where the brackets or the number of pieces are wrong. -/
import Derived.Test.YtdgppfccolhaeaaGreatDoorPw
import Derived.Test.YtdgppfccolhaeaaGreatDoorPs
import Derived.Test.YtdgppfccolhaeaaGreatDoorRows
import Derived.Test.YtdgppfccolhaeaaGreatDoorI1
import Derived.Test.YtdgppfccolhaeaaGreatDoorN5
import Derived.Lib.SmallJoins
set_option linter.unusedVariables false
set_option linter.unusedSimpArgs false
namespace Go.Proofs.YtdgppfccolhaeaaGreatDoor
open Go.RowKit NM

/-- What strings.Split reads of memory. -/
def MaxL (m : Int) (w : World) : Prop := w.cell? ⟨0, 0, none⟩ = some (.int .i64 m)
theorem MaxL.lt {m : Int} {w : World} (h : MaxL m w) : 0 < w.heap.size := by
  unfold MaxL World.cell? at h
  split at h
  · rename_i hb
    exact (Array.getElem?_eq_some_iff.1 hb).1
  · simp at h
theorem MaxL.later {m : Int} {w w' : World} (h : MaxL m w) (hb : Below w.heap.size w w') : MaxL m w' := (hb.cell (p := ⟨0, 0, none⟩) h.lt).trans h

set_option maxRecDepth 100000 in
set_option maxHeartbeats 4000000 in
theorem pNo_open (s : ByteArray) (m : Int) (w : World) (hs : s.size ≤ 1000) (hM : MaxL m w) (ho : opened s = false) :
    Calls Tryz.prog 27 #[.string s] w fun e w' => e = .returned (.tuple #[P0, .bool false]) ∧ Below w.heap.size w w' := by
  obtain ⟨z1, z2⟩ := inner_size s
  have HM := Lib.hid hM
  clear hM
  go_enter Tryz.func27, Tryz.ntmps27
  go_wp2_with fail
  refine (Tryz.strings_CutPrefix s ⟨#[40]⟩ _).mono ?_
  rw [show Lib.hasPrefix s.data.toList (⟨#[40]⟩ : ByteArray).data.toList = false from ho]
  rintro e w1 ⟨rfl, rfl⟩
  go_wp2_with fail
  refine (Tryz.strings_CutSuffix (behind s) ⟨#[41]⟩ _ (by omega)).mono ?_
  generalize Lib.hasSuffix (behind s).data.toList (⟨#[41]⟩ : ByteArray).data.toList = b2
  rintro e w1 ⟨rfl, rfl⟩
  go_wp2_with fail
  refine (Tryz.strings_Split (inner s) ⟨#[44, 32]⟩ m _ (by omega) (HM.out.later (below_alloc _ _)) (by decide)).mono ?_
  rintro e w1 ⟨rfl, rfl⟩
  go_wp2_with fail
  refine bodyPost_ret (by simp [results, Tryz.results27, go_sem]) rfl ⟨rfl, ?_⟩
  exact bel3 _ _ _ _ (Below.refl _ _)
set_option maxRecDepth 100000 in
set_option maxHeartbeats 4000000 in
theorem pNo_close (s : ByteArray) (m : Int) (w : World) (hs : s.size ≤ 1000) (hM : MaxL m w) (ho : opened s = true) (hc : closed s = false) :
    Calls Tryz.prog 27 #[.string s] w fun e w' => e = .returned (.tuple #[P0, .bool false]) ∧ Below w.heap.size w w' := by
  obtain ⟨z1, z2⟩ := inner_size s
  have HM := Lib.hid hM
  clear hM
  go_enter Tryz.func27, Tryz.ntmps27
  go_wp2_with fail
  refine (Tryz.strings_CutPrefix s ⟨#[40]⟩ _).mono ?_
  rw [show Lib.hasPrefix s.data.toList (⟨#[40]⟩ : ByteArray).data.toList = true from ho]
  rintro e w1 ⟨rfl, rfl⟩
  go_wp2_with fail
  refine (Tryz.strings_CutSuffix (behind s) ⟨#[41]⟩ _ (by omega)).mono ?_
  rw [show Lib.hasSuffix (behind s).data.toList (⟨#[41]⟩ : ByteArray).data.toList = false from hc]
  rintro e w1 ⟨rfl, rfl⟩
  go_wp2_with fail
  refine (Tryz.strings_Split (inner s) ⟨#[44, 32]⟩ m _ (by omega) (HM.out.later (below_alloc _ _)) (by decide)).mono ?_
  rintro e w1 ⟨rfl, rfl⟩
  go_wp2_with fail
  refine bodyPost_ret (by simp [results, Tryz.results27, go_sem]) rfl ⟨rfl, ?_⟩
  exact bel3 _ _ _ _ (Below.refl _ _)
set_option maxRecDepth 100000 in
set_option maxHeartbeats 4000000 in
theorem pNo_count (s : ByteArray) (m : Int) (w : World) (hs : s.size ≤ 1000) (hM : MaxL m w) (ho : opened s = true) (hc : closed s = true) (hn : Lib.countB (inner s) sepB ≠ 2) :
    Calls Tryz.prog 27 #[.string s] w fun e w' => e = .returned (.tuple #[P0, .bool false]) ∧ Below w.heap.size w w' := by
  obtain ⟨z1, z2⟩ := inner_size s
  have HM := Lib.hid hM
  clear hM
  go_enter Tryz.func27, Tryz.ntmps27
  go_wp2_with fail
  refine (Tryz.strings_CutPrefix s ⟨#[40]⟩ _).mono ?_
  rw [show Lib.hasPrefix s.data.toList (⟨#[40]⟩ : ByteArray).data.toList = true from ho]
  rintro e w1 ⟨rfl, rfl⟩
  go_wp2_with fail
  refine (Tryz.strings_CutSuffix (behind s) ⟨#[41]⟩ _ (by omega)).mono ?_
  rw [show Lib.hasSuffix (behind s).data.toList (⟨#[41]⟩ : ByteArray).data.toList = true from hc]
  rintro e w1 ⟨rfl, rfl⟩
  go_wp2_with fail
  refine (Tryz.strings_Split (inner s) ⟨#[44, 32]⟩ m _ (by omega) (HM.out.later (below_alloc _ _)) (by decide)).mono ?_
  rintro e w1 ⟨rfl, rfl⟩
  generalize hl : (Obj.cells (List.map Value.string (Lib.splitB { data := #[44, 32] } 0 (Lib.countB (inner s) { data := #[44, 32] }) (inner s))).toArray 9) = ob
  have hk : Lib.countB (inner s) ⟨#[44, 32]⟩ ≠ 2 := hn
  generalize Lib.countB (inner s) ⟨#[44, 32]⟩ = k at hk ⊢
  have hk2 : ¬ ((k : Int) + 1 = 3) := by omega
  go_wp2_with fail
  refine bodyPost_ret (by simp [results, Tryz.results27, go_sem]) rfl ⟨rfl, ?_⟩
  exact bel3 _ _ _ _ (Below.refl _ _)
end Go.Proofs.YtdgppfccolhaeaaGreatDoor
