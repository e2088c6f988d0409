/- plane.Parse where the brackets or the number of pieces are wrong. -/
import Derived.Test.YtpmfaommooneiaaGreatDoorVw
import Derived.Test.YtpmfaommooneiaaGreatDoorPy
set_option linter.unusedVariables false
set_option linter.unusedSimpArgs false
namespace Go.Proofs.YtpmfaommooneiaaGreatDoor
open Go.RowKit NM

set_option maxRecDepth 100000 in
set_option maxHeartbeats 4000000 in
theorem plNo_open (s : ByteArray) (m : Int) (w : World) (hs : s.size ≤ 1000) (hM : MaxL m w) (ho : opened5 s = false) :
    Calls Tryz.prog 37 #[.string s] w fun e w' => e = .returned (.tuple #[P0, .bool false]) ∧ Below w.heap.size w w' := by
  obtain ⟨z1, z2⟩ := inner5_size s
  have HM := Lib.hid hM
  clear hM
  go_enter Tryz.func37, Tryz.ntmps37
  go_wp2_with fail
  refine (Tryz.strings_CutPrefix s ⟨#[91]⟩ _).mono ?_
  rw [show Lib.hasPrefix s.data.toList (⟨#[91]⟩ : ByteArray).data.toList = false from ho]
  rintro e w1 ⟨rfl, rfl⟩
  go_wp2_with fail
  refine (Tryz.strings_CutSuffix (behind5 s) ⟨#[93]⟩ _ (by omega)).mono ?_
  generalize Lib.hasSuffix (behind5 s).data.toList (⟨#[93]⟩ : ByteArray).data.toList = b2
  rintro e w1 ⟨rfl, rfl⟩
  go_wp2_with fail
  refine (Tryz.strings_Split (inner5 s) ⟨#[32]⟩ m _ (by omega) (HM.out.later (below_alloc _ _)) (by decide)).mono ?_
  rintro e w1 ⟨rfl, rfl⟩
  go_wp2_with fail
  refine bodyPost_ret (by simp [results, Tryz.results37, go_sem]) rfl ⟨rfl, ?_⟩
  exact bel3 _ _ _ _ (Below.refl _ _)
set_option maxRecDepth 100000 in
set_option maxHeartbeats 4000000 in
theorem plNo_close (s : ByteArray) (m : Int) (w : World) (hs : s.size ≤ 1000) (hM : MaxL m w) (ho : opened5 s = true) (hc : closed5 s = false) :
    Calls Tryz.prog 37 #[.string s] w fun e w' => e = .returned (.tuple #[P0, .bool false]) ∧ Below w.heap.size w w' := by
  obtain ⟨z1, z2⟩ := inner5_size s
  have HM := Lib.hid hM
  clear hM
  go_enter Tryz.func37, Tryz.ntmps37
  go_wp2_with fail
  refine (Tryz.strings_CutPrefix s ⟨#[91]⟩ _).mono ?_
  rw [show Lib.hasPrefix s.data.toList (⟨#[91]⟩ : ByteArray).data.toList = true from ho]
  rintro e w1 ⟨rfl, rfl⟩
  go_wp2_with fail
  refine (Tryz.strings_CutSuffix (behind5 s) ⟨#[93]⟩ _ (by omega)).mono ?_
  rw [show Lib.hasSuffix (behind5 s).data.toList (⟨#[93]⟩ : ByteArray).data.toList = false from hc]
  rintro e w1 ⟨rfl, rfl⟩
  go_wp2_with fail
  refine (Tryz.strings_Split (inner5 s) ⟨#[32]⟩ m _ (by omega) (HM.out.later (below_alloc _ _)) (by decide)).mono ?_
  rintro e w1 ⟨rfl, rfl⟩
  go_wp2_with fail
  refine bodyPost_ret (by simp [results, Tryz.results37, go_sem]) rfl ⟨rfl, ?_⟩
  exact bel3 _ _ _ _ (Below.refl _ _)
set_option maxRecDepth 100000 in
set_option maxHeartbeats 4000000 in
theorem plNo_count (s : ByteArray) (m : Int) (w : World) (hs : s.size ≤ 1000) (hM : MaxL m w) (ho : opened5 s = true) (hc : closed5 s = true) (hn : Lib.countB (inner5 s) spB ≠ 3) :
    Calls Tryz.prog 37 #[.string s] w fun e w' => e = .returned (.tuple #[P0, .bool false]) ∧ Below w.heap.size w w' := by
  obtain ⟨z1, z2⟩ := inner5_size s
  have HM := Lib.hid hM
  clear hM
  go_enter Tryz.func37, Tryz.ntmps37
  go_wp2_with fail
  refine (Tryz.strings_CutPrefix s ⟨#[91]⟩ _).mono ?_
  rw [show Lib.hasPrefix s.data.toList (⟨#[91]⟩ : ByteArray).data.toList = true from ho]
  rintro e w1 ⟨rfl, rfl⟩
  go_wp2_with fail
  refine (Tryz.strings_CutSuffix (behind5 s) ⟨#[93]⟩ _ (by omega)).mono ?_
  rw [show Lib.hasSuffix (behind5 s).data.toList (⟨#[93]⟩ : ByteArray).data.toList = true from hc]
  rintro e w1 ⟨rfl, rfl⟩
  go_wp2_with fail
  refine (Tryz.strings_Split (inner5 s) ⟨#[32]⟩ m _ (by omega) (HM.out.later (below_alloc _ _)) (by decide)).mono ?_
  rintro e w1 ⟨rfl, rfl⟩
  generalize hl : (Obj.cells (List.map Value.string (Lib.splitB { data := #[32] } 0 (Lib.countB (inner5 s) { data := #[32] }) (inner5 s))).toArray 9) = ob
  have hk : Lib.countB (inner5 s) ⟨#[32]⟩ ≠ 3 := hn
  generalize Lib.countB (inner5 s) ⟨#[32]⟩ = k at hk ⊢
  have hk2 : ¬ ((k : Int) + 1 = 4) := by omega
  go_wp2_with fail
  refine bodyPost_ret (by simp [results, Tryz.results37, go_sem]) rfl ⟨rfl, ?_⟩
  exact bel3 _ _ _ _ (Below.refl _ _)
end Go.Proofs.YtpmfaommooneiaaGreatDoor
