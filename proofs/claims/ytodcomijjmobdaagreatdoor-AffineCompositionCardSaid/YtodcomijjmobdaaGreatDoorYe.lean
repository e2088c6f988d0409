/- The examples of layer 7's chapter. -/
import Derived.Test.YtodcomijjmobdaaGreatDoorYd
import Derived.Test.YtodcomijjmobdaaGreatDoorVd
set_option linter.unusedVariables false
set_option linter.unusedSimpArgs false
namespace Go.Proofs.YtodcomijjmobdaaGreatDoor
open Go.RowKit NM SX
theorem can7_1_0_0 : can4 (P3.mk 1 0 0) = (Z4.mk 1 0 0 1) := by decide +kernel
theorem zat7_1_0_0 : Pk (P3.mk 1 0 0) 1 := by
  unfold Pk
  rw [can7_1_0_0]
  exact ⟨by decide +kernel, by decide +kernel, by decide +kernel, by decide +kernel⟩
theorem at7_1_0_0 (w : World) (hT : TabC w) :
    Calls Tryz.prog 40 #[.int .i64 1, .int .i64 0, .int .i64 0] w fun e w' => e = .returned (PV (P3.mk 1 0 0)) ∧ Below w.heap.size w w' := by
  have f1 : Rk (1 : Rat) 8 := ⟨by decide +kernel, by decide +kernel⟩
  have f2 : Rk (0 : Rat) 8 := ⟨by decide +kernel, by decide +kernel⟩
  have f3 : Pk (P3.mk (1 : Rat) (0 : Rat) (0 : Rat)) 24 := Pk.up ((Pk.ofV (Vk.mk f1 f2 f2))) (by decide)
  have H := SX.runX (w := w) (List.flatten [qc (1 : Rat), [.bool (sg (0 : Rat).num), .string (mg (0 : Rat).num), .string (dm (0 : Rat).den), .bool (sg (0 : Rat).num), .string (mg (0 : Rat).num), .string (dm (0 : Rat).den)], pc (P3.mk (1 : Rat) (0 : Rat) (0 : Rat))]) [] [] [.c (.p (.lit (.int .i64 (1)))), .c (.p (.lit (.int .i64 (0)))), .c (.p (.lit (.int .i64 (0))))] 0 [] (.one (.ga 9 8)) [.call 34 [.c (.p (.lit (.int .i64 1)))] (.one (.ga 0 3)) [], .call 34 [.c (.p (.lit (.int .i64 0)))] (.one (.ga 3 3)) [], .call 34 [.c (.p (.lit (.int .i64 0)))] (.one (.ga 6 3)) [], .call 91 [.ga 0 9] (.one (.ga 9 8)) []] ⟨rfl, fun b t l h => by simp at h⟩ Tryz.func40 (by kernel_rfl) rfl rfl (by kernel_rfl)
    ⟨fun γ w' _ _ => FromQ_any 1 w' (by first | decide | omega) (by first | decide | omega),
     fun γ w' _ _ => FromQ_any 0 w' (by first | decide | omega) (by first | decide | omega),
     fun γ w' _ _ => FromQ_any 0 w' (by first | decide | omega) (by first | decide | omega),
     fun γ w' bw _ => pFromCoords (IsV.mk (IsQ.can f1) (IsQ.can f2) (IsQ.can f2)) (by decide) w' (hT.later bw)⟩
  exact H
theorem can7_0_1_0 : can4 (P3.mk 0 1 0) = (Z4.mk 0 1 0 1) := by decide +kernel
theorem zat7_0_1_0 : Pk (P3.mk 0 1 0) 1 := by
  unfold Pk
  rw [can7_0_1_0]
  exact ⟨by decide +kernel, by decide +kernel, by decide +kernel, by decide +kernel⟩
theorem at7_0_1_0 (w : World) (hT : TabC w) :
    Calls Tryz.prog 40 #[.int .i64 0, .int .i64 1, .int .i64 0] w fun e w' => e = .returned (PV (P3.mk 0 1 0)) ∧ Below w.heap.size w w' := by
  have f1 : Rk (0 : Rat) 8 := ⟨by decide +kernel, by decide +kernel⟩
  have f2 : Rk (1 : Rat) 8 := ⟨by decide +kernel, by decide +kernel⟩
  have f3 : Pk (P3.mk (0 : Rat) (1 : Rat) (0 : Rat)) 24 := Pk.up ((Pk.ofV (Vk.mk f1 f2 f1))) (by decide)
  have H := SX.runX (w := w) (List.flatten [[.bool (sg (0 : Rat).num), .string (mg (0 : Rat).num), .string (dm (0 : Rat).den)], qc (1 : Rat), [.bool (sg (0 : Rat).num), .string (mg (0 : Rat).num), .string (dm (0 : Rat).den)], pc (P3.mk (0 : Rat) (1 : Rat) (0 : Rat))]) [] [] [.c (.p (.lit (.int .i64 (0)))), .c (.p (.lit (.int .i64 (1)))), .c (.p (.lit (.int .i64 (0))))] 0 [] (.one (.ga 9 8)) [.call 34 [.c (.p (.lit (.int .i64 0)))] (.one (.ga 0 3)) [], .call 34 [.c (.p (.lit (.int .i64 1)))] (.one (.ga 3 3)) [], .call 34 [.c (.p (.lit (.int .i64 0)))] (.one (.ga 6 3)) [], .call 91 [.ga 0 9] (.one (.ga 9 8)) []] ⟨rfl, fun b t l h => by simp at h⟩ Tryz.func40 (by kernel_rfl) rfl rfl (by kernel_rfl)
    ⟨fun γ w' _ _ => FromQ_any 0 w' (by first | decide | omega) (by first | decide | omega),
     fun γ w' _ _ => FromQ_any 1 w' (by first | decide | omega) (by first | decide | omega),
     fun γ w' _ _ => FromQ_any 0 w' (by first | decide | omega) (by first | decide | omega),
     fun γ w' bw _ => pFromCoords (IsV.mk (IsQ.can f1) (IsQ.can f2) (IsQ.can f1)) (by decide) w' (hT.later bw)⟩
  exact H
theorem can7_0_0_3 : can4 (P3.mk 0 0 3) = (Z4.mk 0 0 3 1) := by decide +kernel
theorem zat7_0_0_3 : Pk (P3.mk 0 0 3) 1 := by
  unfold Pk
  rw [can7_0_0_3]
  exact ⟨by decide +kernel, by decide +kernel, by decide +kernel, by decide +kernel⟩
theorem at7_0_0_3 (w : World) (hT : TabC w) :
    Calls Tryz.prog 40 #[.int .i64 0, .int .i64 0, .int .i64 3] w fun e w' => e = .returned (PV (P3.mk 0 0 3)) ∧ Below w.heap.size w w' := by
  have f1 : Rk (0 : Rat) 8 := ⟨by decide +kernel, by decide +kernel⟩
  have f2 : Rk (3 : Rat) 8 := ⟨by decide +kernel, by decide +kernel⟩
  have f3 : Pk (P3.mk (0 : Rat) (0 : Rat) (3 : Rat)) 24 := Pk.up ((Pk.ofV (Vk.mk f1 f1 f2))) (by decide)
  have H := SX.runX (w := w) (List.flatten [[.bool (sg (0 : Rat).num), .string (mg (0 : Rat).num), .string (dm (0 : Rat).den), .bool (sg (0 : Rat).num), .string (mg (0 : Rat).num), .string (dm (0 : Rat).den)], qc (3 : Rat), pc (P3.mk (0 : Rat) (0 : Rat) (3 : Rat))]) [] [] [.c (.p (.lit (.int .i64 (0)))), .c (.p (.lit (.int .i64 (0)))), .c (.p (.lit (.int .i64 (3))))] 0 [] (.one (.ga 9 8)) [.call 34 [.c (.p (.lit (.int .i64 0)))] (.one (.ga 0 3)) [], .call 34 [.c (.p (.lit (.int .i64 0)))] (.one (.ga 3 3)) [], .call 34 [.c (.p (.lit (.int .i64 3)))] (.one (.ga 6 3)) [], .call 91 [.ga 0 9] (.one (.ga 9 8)) []] ⟨rfl, fun b t l h => by simp at h⟩ Tryz.func40 (by kernel_rfl) rfl rfl (by kernel_rfl)
    ⟨fun γ w' _ _ => FromQ_any 0 w' (by first | decide | omega) (by first | decide | omega),
     fun γ w' _ _ => FromQ_any 0 w' (by first | decide | omega) (by first | decide | omega),
     fun γ w' _ _ => FromQ_any 3 w' (by first | decide | omega) (by first | decide | omega),
     fun γ w' bw _ => pFromCoords (IsV.mk (IsQ.can f1) (IsQ.can f1) (IsQ.can f2)) (by decide) w' (hT.later bw)⟩
  exact H
theorem can7_0_0_m1 : can4 (P3.mk 0 0 (-1)) = (Z4.mk 0 0 (-1) 1) := by decide +kernel
theorem zat7_0_0_m1 : Pk (P3.mk 0 0 (-1)) 1 := by
  unfold Pk
  rw [can7_0_0_m1]
  exact ⟨by decide +kernel, by decide +kernel, by decide +kernel, by decide +kernel⟩
theorem at7_0_0_m1 (w : World) (hT : TabC w) :
    Calls Tryz.prog 40 #[.int .i64 0, .int .i64 0, .int .i64 (-1)] w fun e w' => e = .returned (PV (P3.mk 0 0 (-1))) ∧ Below w.heap.size w w' := by
  have f1 : Rk (0 : Rat) 8 := ⟨by decide +kernel, by decide +kernel⟩
  have f2 : Rk (-1 : Rat) 8 := ⟨by decide +kernel, by decide +kernel⟩
  have f3 : Pk (P3.mk (0 : Rat) (0 : Rat) (-1 : Rat)) 24 := Pk.up ((Pk.ofV (Vk.mk f1 f1 f2))) (by decide)
  have H := SX.runX (w := w) (List.flatten [[.bool (sg (0 : Rat).num), .string (mg (0 : Rat).num), .string (dm (0 : Rat).den), .bool (sg (0 : Rat).num), .string (mg (0 : Rat).num), .string (dm (0 : Rat).den)], qc (-1 : Rat), pc (P3.mk (0 : Rat) (0 : Rat) (-1 : Rat))]) [] [] [.c (.p (.lit (.int .i64 (0)))), .c (.p (.lit (.int .i64 (0)))), .c (.p (.lit (.int .i64 (-1))))] 0 [] (.one (.ga 9 8)) [.call 34 [.c (.p (.lit (.int .i64 0)))] (.one (.ga 0 3)) [], .call 34 [.c (.p (.lit (.int .i64 0)))] (.one (.ga 3 3)) [], .call 34 [.c (.p (.lit (.int .i64 (-1))))] (.one (.ga 6 3)) [], .call 91 [.ga 0 9] (.one (.ga 9 8)) []] ⟨rfl, fun b t l h => by simp at h⟩ Tryz.func40 (by kernel_rfl) rfl rfl (by kernel_rfl)
    ⟨fun γ w' _ _ => FromQ_any 0 w' (by first | decide | omega) (by first | decide | omega),
     fun γ w' _ _ => FromQ_any 0 w' (by first | decide | omega) (by first | decide | omega),
     fun γ w' _ _ => FromQ_any (-1) w' (by first | decide | omega) (by first | decide | omega),
     fun γ w' bw _ => pFromCoords (IsV.mk (IsQ.can f1) (IsQ.can f1) (IsQ.can f2)) (by decide) w' (hT.later bw)⟩
  exact H
theorem can7_1_2_3 : can4 (P3.mk 1 2 3) = (Z4.mk 1 2 3 1) := by decide +kernel
theorem zat7_1_2_3 : Pk (P3.mk 1 2 3) 1 := by
  unfold Pk
  rw [can7_1_2_3]
  exact ⟨by decide +kernel, by decide +kernel, by decide +kernel, by decide +kernel⟩
theorem at7_1_2_3 (w : World) (hT : TabC w) :
    Calls Tryz.prog 40 #[.int .i64 1, .int .i64 2, .int .i64 3] w fun e w' => e = .returned (PV (P3.mk 1 2 3)) ∧ Below w.heap.size w w' := by
  have f1 : Rk (1 : Rat) 8 := ⟨by decide +kernel, by decide +kernel⟩
  have f2 : Rk (2 : Rat) 8 := ⟨by decide +kernel, by decide +kernel⟩
  have f3 : Rk (3 : Rat) 8 := ⟨by decide +kernel, by decide +kernel⟩
  have f4 : Pk (P3.mk (1 : Rat) (2 : Rat) (3 : Rat)) 24 := Pk.up ((Pk.ofV (Vk.mk f1 f2 f3))) (by decide)
  have H := SX.runX (w := w) (List.flatten [qc (1 : Rat), qc (2 : Rat), qc (3 : Rat), pc (P3.mk (1 : Rat) (2 : Rat) (3 : Rat))]) [] [] [.c (.p (.lit (.int .i64 (1)))), .c (.p (.lit (.int .i64 (2)))), .c (.p (.lit (.int .i64 (3))))] 0 [] (.one (.ga 9 8)) [.call 34 [.c (.p (.lit (.int .i64 1)))] (.one (.ga 0 3)) [], .call 34 [.c (.p (.lit (.int .i64 2)))] (.one (.ga 3 3)) [], .call 34 [.c (.p (.lit (.int .i64 3)))] (.one (.ga 6 3)) [], .call 91 [.ga 0 9] (.one (.ga 9 8)) []] ⟨rfl, fun b t l h => by simp at h⟩ Tryz.func40 (by kernel_rfl) rfl rfl (by kernel_rfl)
    ⟨fun γ w' _ _ => FromQ_any 1 w' (by first | decide | omega) (by first | decide | omega),
     fun γ w' _ _ => FromQ_any 2 w' (by first | decide | omega) (by first | decide | omega),
     fun γ w' _ _ => FromQ_any 3 w' (by first | decide | omega) (by first | decide | omega),
     fun γ w' bw _ => pFromCoords (IsV.mk (IsQ.can f1) (IsQ.can f2) (IsQ.can f3)) (by decide) w' (hT.later bw)⟩
  exact H
set_option maxRecDepth 100000 in
theorem awake7 (w : World) (hT : TabC w) :
    Calls Tryz.prog 12 #[] w fun e w' => e = .returned (.bool true) ∧ Below w.heap.size w w' := by
  have f1 : Mk (M3.mk (Q4.mk 0 (-1) 0 0) (Q4.mk 1 0 0 0) (Q4.mk 0 0 1 0)) 1 := Mk.up ((⟨⟨⟨by decide +kernel, by decide +kernel⟩, ⟨by decide +kernel, by decide +kernel⟩, ⟨by decide +kernel, by decide +kernel⟩, ⟨by decide +kernel, by decide +kernel⟩⟩, ⟨⟨by decide +kernel, by decide +kernel⟩, ⟨by decide +kernel, by decide +kernel⟩, ⟨by decide +kernel, by decide +kernel⟩, ⟨by decide +kernel, by decide +kernel⟩⟩, ⟨⟨by decide +kernel, by decide +kernel⟩, ⟨by decide +kernel, by decide +kernel⟩, ⟨by decide +kernel, by decide +kernel⟩, ⟨by decide +kernel, by decide +kernel⟩⟩⟩ : Mk (M3.mk (Q4.mk 0 (-1) 0 0) (Q4.mk 1 0 0 0) (Q4.mk 0 0 1 0)) 1)) (by decide)
  have f2 : Rk (0 : Rat) 8 := ⟨by decide +kernel, by decide +kernel⟩
  have f3 : Rk (1 : Rat) 8 := ⟨by decide +kernel, by decide +kernel⟩
  have f4 : Fk (Z4.mk 0 0 1 1) 1 := Fk.up ((⟨by decide +kernel, by decide +kernel, by decide +kernel, by decide +kernel⟩ : Fk (Z4.mk 0 0 1 1) 1)) (by decide)
  have f5 : Pk (P3.mk 1 0 0) 1 := Pk.up (zat7_1_0_0) (by decide)
  have f6 : Pk (vecM (M3.mk (Q4.mk 0 (-1) 0 0) (Q4.mk 1 0 0 0) (Q4.mk 0 0 1 0)) (P3.mk 1 0 0)) 30 := Pk.up ((Pk.vecM f1 f5)) (by decide)
  have f7 : Pk (P3.mk 0 1 0) 1 := Pk.up (zat7_0_1_0) (by decide)
  have f8 : Mk (mirM (Z4.mk 0 0 1 1)) 16 := Mk.up ((Mk.mirM f4)) (by decide)
  have f9 : Pk (P3.mk 0 0 3) 1 := Pk.up (zat7_0_0_3) (by decide)
  have f10 : Pk (vecM (mirM (Z4.mk 0 0 1 1)) (P3.mk 0 0 3)) 210 := Pk.up ((Pk.vecM f8 f9)) (by decide)
  have f11 : Pk (P3.mk 0 0 (-1)) 1 := Pk.up (zat7_0_0_m1) (by decide)
  have f12 : Mk idM 1 := Mk.up (Mk.idM) (by decide)
  have f13 : Pk (P3.mk 1 2 3) 1 := Pk.up (zat7_1_2_3) (by decide)
  have f14 : Pk (vecM idM (P3.mk 1 2 3)) 30 := Pk.up ((Pk.vecM f12 f13)) (by decide)
  have H := SX.run (w := w) (List.flatten [mc (M3.mk (Q4.mk 0 (-1) 0 0) (Q4.mk 1 0 0 0) (Q4.mk 0 0 1 0)), [.bool true, .bool (sg (0 : Rat).num), .string (mg (0 : Rat).num), .string (dm (0 : Rat).den), .bool (sg (0 : Rat).num), .string (mg (0 : Rat).num), .string (dm (0 : Rat).den)], qc (1 : Rat), qc (1 : Rat), fc (Z4.mk 0 0 1 1), [.bool true], pc (P3.mk 1 0 0), pc (vecM (M3.mk (Q4.mk 0 (-1) 0 0) (Q4.mk 1 0 0 0) (Q4.mk 0 0 1 0)) (P3.mk 1 0 0)), pc (P3.mk 0 1 0), [.bool true], mc (mirM (Z4.mk 0 0 1 1)), pc (P3.mk 0 0 3), pc (vecM (mirM (Z4.mk 0 0 1 1)) (P3.mk 0 0 3)), pc (P3.mk 0 0 (-1)), [.bool true], mc idM, pc (P3.mk 1 2 3), pc (vecM idM (P3.mk 1 2 3)), pc (P3.mk 1 2 3), [.bool true]]) [.b true, .b true, .b true, .b true] [] 0 (.one (.ca 204)) [.call 30 [.c (.p (.lit (.int .i64 2))), .c (.p (.lit (.int .i64 1)))] (.tup [.ga 0 36, .ca 36]) [], .call 34 [.c (.p (.lit (.int .i64 0)))] (.one (.ga 37 3)) [], .call 34 [.c (.p (.lit (.int .i64 0)))] (.one (.ga 40 3)) [], .call 34 [.c (.p (.lit (.int .i64 1)))] (.one (.ga 43 3)) [], .call 34 [.c (.p (.lit (.int .i64 1)))] (.one (.ga 46 3)) [], .call 39 [.ga 37 9, .ga 46 3] (.tup [.ga 49 8, .ca 57]) [], .isB 36 true, .isB 57 true, .call 40 [.c (.p (.lit (.int .i64 1))), .c (.p (.lit (.int .i64 0))), .c (.p (.lit (.int .i64 0)))] (.one (.ga 58 8)) [], .call 16 [.ga 0 36, .ga 58 8] (.one (.ga 66 8)) [], .call 40 [.c (.p (.lit (.int .i64 0))), .c (.p (.lit (.int .i64 1))), .c (.p (.lit (.int .i64 0)))] (.one (.ga 74 8)) [], .eqs false [.b, .s, .b, .s, .b, .s, .b, .s] [.pa 66, .pa 67, .pa 68, .pa 69, .pa 70, .pa 71, .pa 72, .pa 73] [.pa 74, .pa 75, .pa 76, .pa 77, .pa 78, .pa 79, .pa 80, .pa 81] 82, .isB 82 true, .call 27 [.ga 49 8] (.one (.ga 83 36)) [], .call 40 [.c (.p (.lit (.int .i64 0))), .c (.p (.lit (.int .i64 0))), .c (.p (.lit (.int .i64 3)))] (.one (.ga 119 8)) [], .call 16 [.ga 83 36, .ga 119 8] (.one (.ga 127 8)) [], .call 40 [.c (.p (.lit (.int .i64 0))), .c (.p (.lit (.int .i64 0))), .c (.p (.lit (.int .i64 (-1))))] (.one (.ga 135 8)) [], .eqs false [.b, .s, .b, .s, .b, .s, .b, .s] [.pa 127, .pa 128, .pa 129, .pa 130, .pa 131, .pa 132, .pa 133, .pa 134] [.pa 135, .pa 136, .pa 137, .pa 138, .pa 139, .pa 140, .pa 141, .pa 142] 143, .isB 143 true, .call 22 [] (.one (.ga 144 36)) [], .call 40 [.c (.p (.lit (.int .i64 1))), .c (.p (.lit (.int .i64 2))), .c (.p (.lit (.int .i64 3)))] (.one (.ga 180 8)) [], .call 16 [.ga 144 36, .ga 180 8] (.one (.ga 188 8)) [], .call 40 [.c (.p (.lit (.int .i64 1))), .c (.p (.lit (.int .i64 2))), .c (.p (.lit (.int .i64 3)))] (.one (.ga 196 8)) [], .eqs false [.b, .s, .b, .s, .b, .s, .b, .s] [.pa 188, .pa 189, .pa 190, .pa 191, .pa 192, .pa 193, .pa 194, .pa 195] [.pa 196, .pa 197, .pa 198, .pa 199, .pa 200, .pa 201, .pa 202, .pa 203] 204] Tryz.func12 (by kernel_rfl) rfl (by kernel_rfl) rfl (by kernel_rfl)
    ⟨fun γ w' bw _ => by have h := afRot_21 1 w' (hT.later bw) (by decide +kernel); rw [(by decide +kernel : rotM 2 1 = (M3.mk (Q4.mk 0 (-1) 0 0) (Q4.mk 1 0 0 0) (Q4.mk 0 0 1 0)))] at h; exact h,
     fun γ w' _ _ => FromQ_any 0 w' (by first | decide | omega) (by first | decide | omega),
     fun γ w' _ _ => FromQ_any 0 w' (by first | decide | omega) (by first | decide | omega),
     fun γ w' _ _ => FromQ_any 1 w' (by first | decide | omega) (by first | decide | omega),
     fun γ w' _ _ => FromQ_any 1 w' (by first | decide | omega) (by first | decide | omega),
     fun γ w' bw _ => by have h := plFrom_any (IsV.mk (IsQ.can f2) (IsQ.can f2) (IsQ.can f3)) (by decide) (IsQ.can f3) (by decide) w' (hT.later bw); rw [planeV, if_neg (by decide +kernel : ¬ flatQ (Q4.mk (0 : Rat) (0 : Rat) (1 : Rat) (1 : Rat))), (by decide +kernel : canQ (Q4.mk (0 : Rat) (0 : Rat) (1 : Rat) (1 : Rat)) = (Z4.mk 0 0 1 1))] at h; exact h,
     rfl,
     rfl,
     fun γ w' bw _ => at7_1_0_0 w' (hT.later bw),
     fun γ w' bw _ => by have h := afPoint (IsM.can f1) (by decide) f5 (by decide) w' (hT.later bw); exact h,
     fun γ w' bw _ => at7_0_1_0 w' (hT.later bw),
     ⟨rfl, rfl, eqv_yes (eqL_P (vecM (M3.mk (Q4.mk 0 (-1) 0 0) (Q4.mk 1 0 0 0) (Q4.mk 0 0 1 0)) (P3.mk 1 0 0)) (P3.mk 0 1 0)) (by decide +kernel) rfl⟩,
     rfl,
     fun γ w' bw _ => afReflection f4 (by decide) w' (hT.later bw) (by decide +kernel),
     fun γ w' bw _ => at7_0_0_3 w' (hT.later bw),
     fun γ w' bw _ => by have h := afPoint (IsM.can f8) (by decide) f9 (by decide) w' (hT.later bw); exact h,
     fun γ w' bw _ => at7_0_0_m1 w' (hT.later bw),
     ⟨rfl, rfl, eqv_yes (eqL_P (vecM (mirM (Z4.mk 0 0 1 1)) (P3.mk 0 0 3)) (P3.mk 0 0 (-1))) (by decide +kernel) rfl⟩,
     rfl,
     fun γ w' bw _ => by have h := afIdentity  w' (hT.later bw); exact h,
     fun γ w' bw _ => at7_1_2_3 w' (hT.later bw),
     fun γ w' bw _ => by have h := afPoint (IsM.can f12) (by decide) f13 (by decide) w' (hT.later bw); exact h,
     fun γ w' bw _ => at7_1_2_3 w' (hT.later bw),
     ⟨rfl, rfl, eqv_yes (eqL_P (vecM idM (P3.mk 1 2 3)) (P3.mk 1 2 3)) (by decide +kernel) rfl⟩⟩
  exact H
end Go.Proofs.YtodcomijjmobdaaGreatDoor
