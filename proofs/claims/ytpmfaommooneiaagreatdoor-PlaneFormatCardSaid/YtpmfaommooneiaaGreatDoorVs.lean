/- voussoirlaw05.small of the numbers that the chapter's examples use. -/
import Derived.Test.YtpmfaommooneiaaGreatDoorVa
import Derived.Test.YtpmfaommooneiaaGreatDoorRows
import Derived.Test.YtpmfaommooneiaaGreatDoorI1
import Derived.Test.YtpmfaommooneiaaGreatDoorN5
import Derived.Lib.SmallJoins
set_option linter.unusedVariables false
set_option linter.unusedSimpArgs false
namespace Go.Proofs.YtpmfaommooneiaaGreatDoor
open Go.RowKit NM
set_option maxRecDepth 100000 in
theorem small_0 (w : World) : Calls Tryz.prog 44 #[.int .i64 0] w fun e w' => e = .returned (.agg #[.bool false, .string ⟨#[]⟩]) ∧ Below w.heap.size w w' := by
  go_enter Tryz.func44, Tryz.ntmps44
  go_wp2
  refine bodyPost_ret (by simp [results, Tryz.results44, go_sem]) rfl ⟨rfl, ?_⟩
  exact below_alloc _ _
set_option maxRecDepth 100000 in
theorem small_1 (w : World) : Calls Tryz.prog 44 #[.int .i64 1] w fun e w' => e = .returned (.agg #[.bool false, .string ⟨#[1]⟩]) ∧ Below w.heap.size w w' := by
  go_enter Tryz.func44, Tryz.ntmps44
  have hB : Blk ((w.alloc (.cells #[.bool false, .string ⟨#[]⟩] 23)).alloc (.cells #[.int .u8 1] 5)) (w.heap.size + 1) 5 (cv .u8 [1] ++ []) := by
    have h := Blk.new (w.alloc (.cells #[.bool false, .string ⟨#[]⟩] 23)) #[.int .u8 1] 5
    simpa [cv] using h
  have hst := run_str_blk (P := Tryz.prog) (src := 103) (dst := 9) hB 1 1 rfl Tryz.underlying103 Tryz.underlying5 Tryz.underlying9
  go_wp2
  refine bodyPost_ret (by simp [results, Tryz.results44, go_sem]; rfl) rfl ⟨rfl, ?_⟩
  exact bel2 _ _ _ (Below.refl _ _)
set_option maxRecDepth 100000 in
theorem small_m1 (w : World) : Calls Tryz.prog 44 #[.int .i64 (-1)] w fun e w' => e = .returned (.agg #[.bool true, .string ⟨#[1]⟩]) ∧ Below w.heap.size w w' := by
  go_enter Tryz.func44, Tryz.ntmps44
  have hB : Blk ((w.alloc (.cells #[.bool false, .string ⟨#[]⟩] 23)).alloc (.cells #[.int .u8 1] 5)) (w.heap.size + 1) 5 (cv .u8 [1] ++ []) := by
    have h := Blk.new (w.alloc (.cells #[.bool false, .string ⟨#[]⟩] 23)) #[.int .u8 1] 5
    simpa [cv] using h
  have hst := run_str_blk (P := Tryz.prog) (src := 103) (dst := 9) hB 1 1 rfl Tryz.underlying103 Tryz.underlying5 Tryz.underlying9
  go_wp2
  refine bodyPost_ret (by simp [results, Tryz.results44, go_sem]; rfl) rfl ⟨rfl, ?_⟩
  exact bel2 _ _ _ (Below.refl _ _)
set_option maxRecDepth 100000 in
theorem small_2 (w : World) : Calls Tryz.prog 44 #[.int .i64 2] w fun e w' => e = .returned (.agg #[.bool false, .string ⟨#[2]⟩]) ∧ Below w.heap.size w w' := by
  go_enter Tryz.func44, Tryz.ntmps44
  have hB : Blk ((w.alloc (.cells #[.bool false, .string ⟨#[]⟩] 23)).alloc (.cells #[.int .u8 2] 5)) (w.heap.size + 1) 5 (cv .u8 [2] ++ []) := by
    have h := Blk.new (w.alloc (.cells #[.bool false, .string ⟨#[]⟩] 23)) #[.int .u8 2] 5
    simpa [cv] using h
  have hst := run_str_blk (P := Tryz.prog) (src := 103) (dst := 9) hB 1 1 rfl Tryz.underlying103 Tryz.underlying5 Tryz.underlying9
  go_wp2
  refine bodyPost_ret (by simp [results, Tryz.results44, go_sem]; rfl) rfl ⟨rfl, ?_⟩
  exact bel2 _ _ _ (Below.refl _ _)
set_option maxRecDepth 100000 in
theorem small_4 (w : World) : Calls Tryz.prog 44 #[.int .i64 4] w fun e w' => e = .returned (.agg #[.bool false, .string ⟨#[4]⟩]) ∧ Below w.heap.size w w' := by
  go_enter Tryz.func44, Tryz.ntmps44
  have hB : Blk ((w.alloc (.cells #[.bool false, .string ⟨#[]⟩] 23)).alloc (.cells #[.int .u8 4] 5)) (w.heap.size + 1) 5 (cv .u8 [4] ++ []) := by
    have h := Blk.new (w.alloc (.cells #[.bool false, .string ⟨#[]⟩] 23)) #[.int .u8 4] 5
    simpa [cv] using h
  have hst := run_str_blk (P := Tryz.prog) (src := 103) (dst := 9) hB 1 1 rfl Tryz.underlying103 Tryz.underlying5 Tryz.underlying9
  go_wp2
  refine bodyPost_ret (by simp [results, Tryz.results44, go_sem]; rfl) rfl ⟨rfl, ?_⟩
  exact bel2 _ _ _ (Below.refl _ _)
end Go.Proofs.YtpmfaommooneiaaGreatDoor
