/- The chapter's examples. -/
import Derived.Test.YtpmfaommooneiaaGreatDoorVf
import Derived.Test.YtpmfaommooneiaaGreatDoorVs
set_option linter.unusedVariables false
set_option linter.unusedSimpArgs false
namespace Go.Proofs.YtpmfaommooneiaaGreatDoor
open Go.RowKit NM SX
theorem smallZ_0 (w : World) : Calls Tryz.prog 44 #[.int .i64 0] w fun e w' => e = .returned (Z (0 : Int)) ∧ Below w.heap.size w w' := by
  have h := small_0 w
  have e : mg (0 : Int) = ⟨#[]⟩ := by decide +kernel
  have e2 : sg (0 : Int) = false := by decide +kernel
  rw [← e, ← e2] at h
  exact h
theorem smallZ_1 (w : World) : Calls Tryz.prog 44 #[.int .i64 1] w fun e w' => e = .returned (Z (1 : Int)) ∧ Below w.heap.size w w' := by
  have h := small_1 w
  have e : mg (1 : Int) = ⟨#[1]⟩ := by decide +kernel
  have e2 : sg (1 : Int) = false := by decide +kernel
  rw [← e, ← e2] at h
  exact h
theorem smallZ_2 (w : World) : Calls Tryz.prog 44 #[.int .i64 2] w fun e w' => e = .returned (Z (2 : Int)) ∧ Below w.heap.size w w' := by
  have h := small_2 w
  have e : mg (2 : Int) = ⟨#[2]⟩ := by decide +kernel
  have e2 : sg (2 : Int) = false := by decide +kernel
  rw [← e, ← e2] at h
  exact h
theorem smallZ_4 (w : World) : Calls Tryz.prog 44 #[.int .i64 4] w fun e w' => e = .returned (Z (4 : Int)) ∧ Below w.heap.size w w' := by
  have h := small_4 w
  have e : mg (4 : Int) = ⟨#[4]⟩ := by decide +kernel
  have e2 : sg (4 : Int) = false := by decide +kernel
  rw [← e, ← e2] at h
  exact h
theorem smallZ_m1 (w : World) : Calls Tryz.prog 44 #[.int .i64 (-1)] w fun e w' => e = .returned (Z (-1 : Int)) ∧ Below w.heap.size w w' := by
  have h := small_m1 w
  have e : mg (-1 : Int) = ⟨#[1]⟩ := by decide +kernel
  have e2 : sg (-1 : Int) = true := by decide +kernel
  rw [← e, ← e2] at h
  exact h
theorem can_000 : can4 (P3.mk 0 0 0) = (Z4.mk 0 0 0 1) := by decide +kernel
theorem zpt_000 : Pk (P3.mk 0 0 0) 1 := by
  unfold Pk
  rw [can_000]
  exact ⟨by decide +kernel, by decide +kernel, by decide +kernel, by decide +kernel⟩
theorem at_000 (w : World) :
    Calls Tryz.prog 43 #[.int .i64 0, .int .i64 0, .int .i64 0] w fun e w' => e = .returned (PV (P3.mk 0 0 0)) ∧ Below w.heap.size w w' := by
  have f1 : Zk (0 : Int) 1 := Zk.up ((show (mg (0 : Int)).size ≤ 1 by decide +kernel)) (by decide)
  have f2 : Zk (1 : Int) 1 := Zk.up ((show (mg (1 : Int)).size ≤ 1 by decide +kernel)) (by decide)
  have H := SX.runX (w := w) (List.flatten [[.bool (sg (0 : Int)), .string (mg (0 : Int)), .bool (sg (0 : Int)), .string (mg (0 : Int)), .bool (sg (0 : Int)), .string (mg (0 : Int))], zc (1 : Int)]) [] [] [.c (.p (.lit (.int .i64 (0)))), .c (.p (.lit (.int .i64 (0)))), .c (.p (.lit (.int .i64 (0))))] 0 [] (.one (.ga 0 8)) [.call 44 [.c (.p (.lit (.int .i64 0)))] (.one (.ga 0 2)) [], .call 44 [.c (.p (.lit (.int .i64 0)))] (.one (.ga 2 2)) [], .call 44 [.c (.p (.lit (.int .i64 0)))] (.one (.ga 4 2)) [], .call 44 [.c (.p (.lit (.int .i64 1)))] (.one (.ga 6 2)) []] ⟨rfl, fun b t l h => by simp at h⟩ Tryz.func43 (by kernel_rfl) rfl rfl (by kernel_rfl)
    ⟨fun γ w' _ _ => smallZ_0 w',
     fun γ w' _ _ => smallZ_0 w',
     fun γ w' _ _ => smallZ_0 w',
     fun γ w' _ _ => smallZ_1 w'⟩
  rw [show PV (P3.mk 0 0 0) = FV (Z4.mk 0 0 0 1) by rw [PV, can_000]]
  exact H
theorem can_100 : can4 (P3.mk 1 0 0) = (Z4.mk 1 0 0 1) := by decide +kernel
theorem zpt_100 : Pk (P3.mk 1 0 0) 1 := by
  unfold Pk
  rw [can_100]
  exact ⟨by decide +kernel, by decide +kernel, by decide +kernel, by decide +kernel⟩
theorem at_100 (w : World) :
    Calls Tryz.prog 43 #[.int .i64 1, .int .i64 0, .int .i64 0] w fun e w' => e = .returned (PV (P3.mk 1 0 0)) ∧ Below w.heap.size w w' := by
  have f1 : Zk (1 : Int) 1 := Zk.up ((show (mg (1 : Int)).size ≤ 1 by decide +kernel)) (by decide)
  have f2 : Zk (0 : Int) 1 := Zk.up ((show (mg (0 : Int)).size ≤ 1 by decide +kernel)) (by decide)
  have H := SX.runX (w := w) (List.flatten [zc (1 : Int), [.bool (sg (0 : Int)), .string (mg (0 : Int)), .bool (sg (0 : Int)), .string (mg (0 : Int))], zc (1 : Int)]) [] [] [.c (.p (.lit (.int .i64 (1)))), .c (.p (.lit (.int .i64 (0)))), .c (.p (.lit (.int .i64 (0))))] 0 [] (.one (.ga 0 8)) [.call 44 [.c (.p (.lit (.int .i64 1)))] (.one (.ga 0 2)) [], .call 44 [.c (.p (.lit (.int .i64 0)))] (.one (.ga 2 2)) [], .call 44 [.c (.p (.lit (.int .i64 0)))] (.one (.ga 4 2)) [], .call 44 [.c (.p (.lit (.int .i64 1)))] (.one (.ga 6 2)) []] ⟨rfl, fun b t l h => by simp at h⟩ Tryz.func43 (by kernel_rfl) rfl rfl (by kernel_rfl)
    ⟨fun γ w' _ _ => smallZ_1 w',
     fun γ w' _ _ => smallZ_0 w',
     fun γ w' _ _ => smallZ_0 w',
     fun γ w' _ _ => smallZ_1 w'⟩
  rw [show PV (P3.mk 1 0 0) = FV (Z4.mk 1 0 0 1) by rw [PV, can_100]]
  exact H
theorem can_010 : can4 (P3.mk 0 1 0) = (Z4.mk 0 1 0 1) := by decide +kernel
theorem zpt_010 : Pk (P3.mk 0 1 0) 1 := by
  unfold Pk
  rw [can_010]
  exact ⟨by decide +kernel, by decide +kernel, by decide +kernel, by decide +kernel⟩
theorem at_010 (w : World) :
    Calls Tryz.prog 43 #[.int .i64 0, .int .i64 1, .int .i64 0] w fun e w' => e = .returned (PV (P3.mk 0 1 0)) ∧ Below w.heap.size w w' := by
  have f1 : Zk (0 : Int) 1 := Zk.up ((show (mg (0 : Int)).size ≤ 1 by decide +kernel)) (by decide)
  have f2 : Zk (1 : Int) 1 := Zk.up ((show (mg (1 : Int)).size ≤ 1 by decide +kernel)) (by decide)
  have H := SX.runX (w := w) (List.flatten [[.bool (sg (0 : Int)), .string (mg (0 : Int))], zc (1 : Int), [.bool (sg (0 : Int)), .string (mg (0 : Int))], zc (1 : Int)]) [] [] [.c (.p (.lit (.int .i64 (0)))), .c (.p (.lit (.int .i64 (1)))), .c (.p (.lit (.int .i64 (0))))] 0 [] (.one (.ga 0 8)) [.call 44 [.c (.p (.lit (.int .i64 0)))] (.one (.ga 0 2)) [], .call 44 [.c (.p (.lit (.int .i64 1)))] (.one (.ga 2 2)) [], .call 44 [.c (.p (.lit (.int .i64 0)))] (.one (.ga 4 2)) [], .call 44 [.c (.p (.lit (.int .i64 1)))] (.one (.ga 6 2)) []] ⟨rfl, fun b t l h => by simp at h⟩ Tryz.func43 (by kernel_rfl) rfl rfl (by kernel_rfl)
    ⟨fun γ w' _ _ => smallZ_0 w',
     fun γ w' _ _ => smallZ_1 w',
     fun γ w' _ _ => smallZ_0 w',
     fun γ w' _ _ => smallZ_1 w'⟩
  rw [show PV (P3.mk 0 1 0) = FV (Z4.mk 0 1 0 1) by rw [PV, can_010]]
  exact H
theorem can_001 : can4 (P3.mk 0 0 1) = (Z4.mk 0 0 1 1) := by decide +kernel
theorem zpt_001 : Pk (P3.mk 0 0 1) 1 := by
  unfold Pk
  rw [can_001]
  exact ⟨by decide +kernel, by decide +kernel, by decide +kernel, by decide +kernel⟩
theorem at_001 (w : World) :
    Calls Tryz.prog 43 #[.int .i64 0, .int .i64 0, .int .i64 1] w fun e w' => e = .returned (PV (P3.mk 0 0 1)) ∧ Below w.heap.size w w' := by
  have f1 : Zk (0 : Int) 1 := Zk.up ((show (mg (0 : Int)).size ≤ 1 by decide +kernel)) (by decide)
  have f2 : Zk (1 : Int) 1 := Zk.up ((show (mg (1 : Int)).size ≤ 1 by decide +kernel)) (by decide)
  have H := SX.runX (w := w) (List.flatten [[.bool (sg (0 : Int)), .string (mg (0 : Int)), .bool (sg (0 : Int)), .string (mg (0 : Int))], zc (1 : Int), zc (1 : Int)]) [] [] [.c (.p (.lit (.int .i64 (0)))), .c (.p (.lit (.int .i64 (0)))), .c (.p (.lit (.int .i64 (1))))] 0 [] (.one (.ga 0 8)) [.call 44 [.c (.p (.lit (.int .i64 0)))] (.one (.ga 0 2)) [], .call 44 [.c (.p (.lit (.int .i64 0)))] (.one (.ga 2 2)) [], .call 44 [.c (.p (.lit (.int .i64 1)))] (.one (.ga 4 2)) [], .call 44 [.c (.p (.lit (.int .i64 1)))] (.one (.ga 6 2)) []] ⟨rfl, fun b t l h => by simp at h⟩ Tryz.func43 (by kernel_rfl) rfl rfl (by kernel_rfl)
    ⟨fun γ w' _ _ => smallZ_0 w',
     fun γ w' _ _ => smallZ_0 w',
     fun γ w' _ _ => smallZ_1 w',
     fun γ w' _ _ => smallZ_1 w'⟩
  rw [show PV (P3.mk 0 0 1) = FV (Z4.mk 0 0 1 1) by rw [PV, can_001]]
  exact H
theorem qv_three : QV (3 : Rat) = .agg #[.bool false, .string ⟨#[3]⟩, .string ⟨#[]⟩] := by
  unfold QV
  rw [(by decide +kernel : sg (3 : Rat).num = false), (by decide +kernel : mg (3 : Rat).num = ⟨#[3]⟩), (by decide +kernel : dm (3 : Rat).den = ⟨#[]⟩)]
theorem alive5_any (w : World) (hT : TabC w) :
    Calls Tryz.prog 10 #[] w fun e w' => e = .returned (.bool true) ∧ Below w.heap.size w w' := by
  have f1 : Pk (P3.mk 0 0 0) 1 := Pk.up (zpt_000) (by decide)
  have f2 : Pk (P3.mk 1 0 0) 1 := Pk.up (zpt_100) (by decide)
  have f3 : Pk (P3.mk 0 1 0) 1 := Pk.up (zpt_010) (by decide)
  have f4 : Fk (Z4.mk 0 0 1 0) 1 := Fk.up ((⟨by decide +kernel, by decide +kernel, by decide +kernel, by decide +kernel⟩ : Fk (Z4.mk 0 0 1 0) 1)) (by decide)
  have f5 : Zk (2 : Int) 1 := Zk.up ((show (mg (2 : Int)).size ≤ 1 by decide +kernel)) (by decide)
  have f6 : Zk (4 : Int) 1 := Zk.up ((show (mg (4 : Int)).size ≤ 1 by decide +kernel)) (by decide)
  have f7 : Fk (Z4.mk 1 0 0 2) 1 := Fk.up ((⟨by decide +kernel, by decide +kernel, by decide +kernel, by decide +kernel⟩ : Fk (Z4.mk 1 0 0 2) 1)) (by decide)
  have f8 : Zk (-1 : Int) 1 := Zk.up ((show (mg (-1 : Int)).size ≤ 1 by decide +kernel)) (by decide)
  have f9 : Zk (1 : Int) 1 := Zk.up ((show (mg (1 : Int)).size ≤ 1 by decide +kernel)) (by decide)
  have f10 : Fk (Z4.mk 0 0 (-1) 3) 1 := Fk.up ((⟨by decide +kernel, by decide +kernel, by decide +kernel, by decide +kernel⟩ : Fk (Z4.mk 0 0 (-1) 3) 1)) (by decide)
  have f11 : Pk (P3.mk 0 0 1) 1 := Pk.up (zpt_001) (by decide)
  exact SX.run (w := w) (List.flatten [pc (P3.mk 0 0 0), pc (P3.mk 1 0 0), pc (P3.mk 0 1 0), fc (Z4.mk 0 0 1 0), [.bool true], zc (2 : Int), zc (4 : Int), fc (Z4.mk 1 0 0 2), [.bool true], zc (-1 : Int), zc (1 : Int), [.bool true, .string (textF (Z4.mk 1 0 0 2)), .bool true], fc (Z4.mk 0 0 (-1) 3), [.string (textF (Z4.mk 0 0 (-1) 3)), .bool true], pc (P3.mk 0 0 1), [.int .i64 (sideF (Z4.mk 0 0 1 0) (P3.mk 0 0 1)), .bool true]]) [.b true, .b true, .b true, .b true, .b true, .b true] [] 0 (.one (.ca 72)) [.call 43 [.c (.p (.lit (.int .i64 0))), .c (.p (.lit (.int .i64 0))), .c (.p (.lit (.int .i64 0)))] (.one (.ga 0 8)) [], .call 43 [.c (.p (.lit (.int .i64 1))), .c (.p (.lit (.int .i64 0))), .c (.p (.lit (.int .i64 0)))] (.one (.ga 8 8)) [], .call 43 [.c (.p (.lit (.int .i64 0))), .c (.p (.lit (.int .i64 1))), .c (.p (.lit (.int .i64 0)))] (.one (.ga 16 8)) [], .call 18 [.ga 0 8, .ga 8 8, .ga 16 8] (.tup [.ga 24 8, .ca 32]) [], .call 44 [.c (.p (.lit (.int .i64 2)))] (.one (.ga 33 2)) [], .call 44 [.c (.p (.lit (.int .i64 4)))] (.one (.ga 35 2)) [], .call 13 [.agg [.pa 33, .pa 34, .p (.lit (.bool false)), .p (.lit (.string ⟨#[]⟩)), .p (.lit (.bool false)), .p (.lit (.string ⟨#[]⟩)), .pa 35, .pa 36]] (.tup [.ga 37 8, .ca 45]) [], .call 44 [.c (.p (.lit (.int .i64 (-1))))] (.one (.ga 46 2)) [], .isB 32 true, .call 44 [.c (.p (.lit (.int .i64 1)))] (.one (.ga 48 2)) [], .eqs false [.b, .s, .b, .s, .b, .s, .b, .s] [.pa 24, .pa 25, .pa 26, .pa 27, .pa 28, .pa 29, .pa 30, .pa 31] [.p (.lit (.bool false)), .p (.lit (.string ⟨#[]⟩)), .p (.lit (.bool false)), .p (.lit (.string ⟨#[]⟩)), .pa 48, .pa 49, .p (.lit (.bool false)), .p (.lit (.string ⟨#[]⟩))] 50, .isB 50 true, .isB 45 true, .call 39 [.ga 37 8] (.one (.ca 51)) [], .op2 false .eql (.pa 51) (.p (.lit (.string ⟨#[91, 49, 32, 48, 32, 48, 32, 50, 93]⟩))) 52, .isB 52 true, .call 29 [.agg [.p (.lit (.bool false)), .p (.lit (.string ⟨#[]⟩)), .p (.lit (.bool false)), .p (.lit (.string ⟨#[]⟩)), .pa 46, .pa 47, .p (.lit (.bool false)), .p (.lit (.string ⟨#[]⟩))], .agg [.p (.lit (.bool false)), .p (.lit (.string ⟨#[3]⟩)), .p (.lit (.string ⟨#[]⟩))]] (.one (.ga 53 8)) [], .call 39 [.ga 53 8] (.one (.ca 61)) [], .op2 false .eql (.pa 61) (.p (.lit (.string ⟨#[91, 48, 32, 48, 32, 45, 49, 32, 51, 93]⟩))) 62, .isB 62 true, .call 43 [.c (.p (.lit (.int .i64 0))), .c (.p (.lit (.int .i64 0))), .c (.p (.lit (.int .i64 1)))] (.one (.ga 63 8)) [], .call 21 [.ga 24 8, .ga 63 8] (.one (.ca 71)) [], .op2 false .eql (.pa 71) (.p (.lit (.int .i64 1))) 72] Tryz.func10 (by kernel_rfl) rfl (by kernel_rfl) rfl (by kernel_rfl)
    ⟨fun γ w' _ _ => at_000 w',
     fun γ w' _ _ => at_100 w',
     fun γ w' _ _ => at_010 w',
     fun γ w' bw _ => by have h := plThrough_any zpt_000 (by decide) zpt_100 (by decide) zpt_010 (by decide) w' (hT.later bw); rw [planeV, if_neg (by decide +kernel : ¬ flatQ (thrQ (P3.mk 0 0 0) (P3.mk 1 0 0) (P3.mk 0 1 0))), (by decide +kernel : canQ (thrQ (P3.mk 0 0 0) (P3.mk 1 0 0) (P3.mk 0 1 0)) = (Z4.mk 0 0 1 0))] at h; exact h,
     fun γ w' _ _ => smallZ_2 w',
     fun γ w' _ _ => smallZ_4 w',
     fun γ w' bw _ => by have h := plNormalize_any (IsF.mk (IsZ.can f5) IsZ.zero IsZ.zero (IsZ.can f6)) (by decide) w' (hT.later bw); rw [normV, if_neg (by decide +kernel : ¬ flatF (Z4.mk (2 : Int) (0 : Int) (0 : Int) (4 : Int))), (by decide +kernel : prim (Z4.mk (2 : Int) (0 : Int) (0 : Int) (4 : Int)) = (Z4.mk 1 0 0 2))] at h; exact h,
     fun γ w' _ _ => smallZ_m1 w',
     rfl,
     fun γ w' _ _ => smallZ_1 w',
     ⟨rfl, rfl, eqv_yes (eqL_F (Z4.mk 0 0 1 0) (Z4.mk (0 : Int) (0 : Int) (1 : Int) (0 : Int))) (rfl) rfl⟩,
     rfl,
     rfl,
     fun γ w' _ _ => plFormat f7 (by decide) w',
     congrArg (fun z => some (Value.bool z)) (by decide +kernel : ((textF (Z4.mk 1 0 0 2)).toList == (⟨#[91, 49, 32, 48, 32, 48, 32, 50, 93]⟩ : ByteArray).toList) = true),
     rfl,
     fun γ w' bw _ => by have h := plOffset (x0 := (Z4.mk 0 0 (-1) 0)) (kx0 := 1) ⟨by decide +kernel, by decide +kernel, by decide +kernel, by decide +kernel⟩ (by decide) (x1 := (3 : Rat)) (kx1 := 1) ⟨by decide +kernel, by decide +kernel⟩ (by decide) w' (hT.later bw) (by decide +kernel); rw [(by decide +kernel : shiftF (Z4.mk 0 0 (-1) 0) (3 : Rat) = (Z4.mk 0 0 (-1) 3)), qv_three] at h; exact h,
     fun γ w' _ _ => plFormat f10 (by decide) w',
     congrArg (fun z => some (Value.bool z)) (by decide +kernel : ((textF (Z4.mk 0 0 (-1) 3)).toList == (⟨#[91, 48, 32, 48, 32, 45, 49, 32, 51, 93]⟩ : ByteArray).toList) = true),
     rfl,
     fun γ w' _ _ => at_001 w',
     fun γ w' _ _ => plSide f4 (by decide) f11 (by decide) w',
     congrArg (fun z => some (Value.bool z)) (by decide +kernel : ((sideF (Z4.mk 0 0 1 0) (P3.mk 0 0 1)) == (1 : Int)) = true)⟩
end Go.Proofs.YtpmfaommooneiaaGreatDoor
