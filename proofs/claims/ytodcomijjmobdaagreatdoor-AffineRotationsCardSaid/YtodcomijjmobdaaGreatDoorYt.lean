/- voussoirref07.Turn. -/
import Derived.Test.YtodcomijjmobdaaGreatDoorYr
set_option linter.unusedVariables false
set_option linter.unusedSimpArgs false
namespace Go.Proofs.YtodcomijjmobdaaGreatDoor
open Go.RowKit NM SX
theorem u7Turn_l (x0 : Int) (x1 : Int) (w : World) (h : x0 < 0) :
    Calls Tryz.prog 31 #[.int .i64 x0, .int .i64 x1] w fun e w' => e = .returned (.tuple #[.agg #[.bool false, .string ⟨#[]⟩, .string ⟨#[]⟩, .bool false, .string ⟨#[]⟩, .string ⟨#[]⟩, .bool false, .string ⟨#[]⟩, .string ⟨#[]⟩, .bool false, .string ⟨#[]⟩, .string ⟨#[]⟩, .bool false, .string ⟨#[]⟩, .string ⟨#[]⟩, .bool false, .string ⟨#[]⟩, .string ⟨#[]⟩, .bool false, .string ⟨#[]⟩, .string ⟨#[]⟩, .bool false, .string ⟨#[]⟩, .string ⟨#[]⟩, .bool false, .string ⟨#[]⟩, .string ⟨#[]⟩, .bool false, .string ⟨#[]⟩, .string ⟨#[]⟩, .bool false, .string ⟨#[]⟩, .string ⟨#[]⟩, .bool false, .string ⟨#[]⟩, .string ⟨#[]⟩], .bool false]) ∧ Below w.heap.size w w' := by
  have H := SX.run (w := w) [.int .i64 x0, .int .i64 x1, .bool true] [.b true] [.ca 0, .ca 1] 2 (.tup [.agg [.p (.lit (.bool false)), .p (.lit (.string ⟨#[]⟩)), .p (.lit (.string ⟨#[]⟩)), .p (.lit (.bool false)), .p (.lit (.string ⟨#[]⟩)), .p (.lit (.string ⟨#[]⟩)), .p (.lit (.bool false)), .p (.lit (.string ⟨#[]⟩)), .p (.lit (.string ⟨#[]⟩)), .p (.lit (.bool false)), .p (.lit (.string ⟨#[]⟩)), .p (.lit (.string ⟨#[]⟩)), .p (.lit (.bool false)), .p (.lit (.string ⟨#[]⟩)), .p (.lit (.string ⟨#[]⟩)), .p (.lit (.bool false)), .p (.lit (.string ⟨#[]⟩)), .p (.lit (.string ⟨#[]⟩)), .p (.lit (.bool false)), .p (.lit (.string ⟨#[]⟩)), .p (.lit (.string ⟨#[]⟩)), .p (.lit (.bool false)), .p (.lit (.string ⟨#[]⟩)), .p (.lit (.string ⟨#[]⟩)), .p (.lit (.bool false)), .p (.lit (.string ⟨#[]⟩)), .p (.lit (.string ⟨#[]⟩)), .p (.lit (.bool false)), .p (.lit (.string ⟨#[]⟩)), .p (.lit (.string ⟨#[]⟩)), .p (.lit (.bool false)), .p (.lit (.string ⟨#[]⟩)), .p (.lit (.string ⟨#[]⟩)), .p (.lit (.bool false)), .p (.lit (.string ⟨#[]⟩)), .p (.lit (.string ⟨#[]⟩))], .c (.p (.lit (.bool false)))]) [.op2 false .lss (.pa 0) (.p (.lit (.int .i64 0))) 2, .isB 2 true] Tryz.func31 (by kernel_rfl) rfl (by kernel_rfl) rfl (by kernel_rfl)
    ⟨congrArg (fun z => some (Value.bool z)) (decide_eq_true h : decide (x0 < (0 : Int)) = true),
     rfl⟩
  exact H
theorem u7Turn_g (x0 : Int) (x1 : Int) (w : World) (h0 : ¬ x0 < 0) (h : 2 < x0) :
    Calls Tryz.prog 31 #[.int .i64 x0, .int .i64 x1] w fun e w' => e = .returned (.tuple #[.agg #[.bool false, .string ⟨#[]⟩, .string ⟨#[]⟩, .bool false, .string ⟨#[]⟩, .string ⟨#[]⟩, .bool false, .string ⟨#[]⟩, .string ⟨#[]⟩, .bool false, .string ⟨#[]⟩, .string ⟨#[]⟩, .bool false, .string ⟨#[]⟩, .string ⟨#[]⟩, .bool false, .string ⟨#[]⟩, .string ⟨#[]⟩, .bool false, .string ⟨#[]⟩, .string ⟨#[]⟩, .bool false, .string ⟨#[]⟩, .string ⟨#[]⟩, .bool false, .string ⟨#[]⟩, .string ⟨#[]⟩, .bool false, .string ⟨#[]⟩, .string ⟨#[]⟩, .bool false, .string ⟨#[]⟩, .string ⟨#[]⟩, .bool false, .string ⟨#[]⟩, .string ⟨#[]⟩], .bool false]) ∧ Below w.heap.size w w' := by
  have H := SX.run (w := w) [.int .i64 x0, .int .i64 x1, .bool false, .bool true] [.b false, .b true] [.ca 0, .ca 1] 2 (.tup [.agg [.p (.lit (.bool false)), .p (.lit (.string ⟨#[]⟩)), .p (.lit (.string ⟨#[]⟩)), .p (.lit (.bool false)), .p (.lit (.string ⟨#[]⟩)), .p (.lit (.string ⟨#[]⟩)), .p (.lit (.bool false)), .p (.lit (.string ⟨#[]⟩)), .p (.lit (.string ⟨#[]⟩)), .p (.lit (.bool false)), .p (.lit (.string ⟨#[]⟩)), .p (.lit (.string ⟨#[]⟩)), .p (.lit (.bool false)), .p (.lit (.string ⟨#[]⟩)), .p (.lit (.string ⟨#[]⟩)), .p (.lit (.bool false)), .p (.lit (.string ⟨#[]⟩)), .p (.lit (.string ⟨#[]⟩)), .p (.lit (.bool false)), .p (.lit (.string ⟨#[]⟩)), .p (.lit (.string ⟨#[]⟩)), .p (.lit (.bool false)), .p (.lit (.string ⟨#[]⟩)), .p (.lit (.string ⟨#[]⟩)), .p (.lit (.bool false)), .p (.lit (.string ⟨#[]⟩)), .p (.lit (.string ⟨#[]⟩)), .p (.lit (.bool false)), .p (.lit (.string ⟨#[]⟩)), .p (.lit (.string ⟨#[]⟩)), .p (.lit (.bool false)), .p (.lit (.string ⟨#[]⟩)), .p (.lit (.string ⟨#[]⟩)), .p (.lit (.bool false)), .p (.lit (.string ⟨#[]⟩)), .p (.lit (.string ⟨#[]⟩))], .c (.p (.lit (.bool false)))]) [.op2 false .lss (.pa 0) (.p (.lit (.int .i64 0))) 2, .isB 2 false, .op2 false .gtr (.pa 0) (.p (.lit (.int .i64 2))) 3, .isB 3 true] Tryz.func31 (by kernel_rfl) rfl (by kernel_rfl) rfl (by kernel_rfl)
    ⟨congrArg (fun z => some (Value.bool z)) (decide_eq_false h0 : decide (x0 < (0 : Int)) = false),
     rfl,
     congrArg (fun z => some (Value.bool z)) (decide_eq_true h : decide (x0 > (2 : Int)) = true),
     rfl⟩
  exact H
theorem u7Turn_00 (x1 : Int) (w : World) (hn : Int.tmod (Int.tmod x1 4 + 4) 4 = 0) :
    Calls Tryz.prog 31 #[.int .i64 0, .int .i64 x1] w fun e w' => e = .returned (.tuple #[MV (rotM 0 0), .bool true]) ∧ Below w.heap.size w w' := by
  have f1 : Mk idM 1 := Mk.up (Mk.idM) (by decide)
  have f2 : Rk (0 : Rat) 1 := Rk.up ((⟨by decide +kernel, by decide +kernel⟩ : Rk (0 : Rat) 1)) (by decide)
  have f3 : Rk (1 : Rat) 1 := Rk.up ((⟨by decide +kernel, by decide +kernel⟩ : Rk (1 : Rat) 1)) (by decide)
  have f4 : Rk (-1 : Rat) 1 := Rk.up ((⟨by decide +kernel, by decide +kernel⟩ : Rk (-1 : Rat) 1)) (by decide)
  have H := SX.runX (w := w) (List.flatten [[.int .i64 x1], mc idM, [.bool (sg (0 : Rat).num), .string (mg (0 : Rat).num), .string (dm (0 : Rat).den), .bool (sg (0 : Rat).num), .string (mg (0 : Rat).num), .string (dm (0 : Rat).den)], qc (1 : Rat), qc (-1 : Rat), mc idM, [.int .i64 (Int.tmod x1 4), .int .i64 (Int.tmod x1 4 + 4), .int .i64 0, .bool false]]) [] [] [.c (.p (.lit (.int .i64 (0)))), .c (.p (.at 0))] 1 [.b false] (.tup [.ga 49 36, .c (.p (.lit (.bool true)))]) [.call 23 [] (.one (.ga 1 36)) [], .call 65 [.c (.p (.lit (.int .i64 0)))] (.one (.ga 37 3)) [], .call 65 [.c (.p (.lit (.int .i64 0)))] (.one (.ga 40 3)) [], .call 65 [.c (.p (.lit (.int .i64 1)))] (.one (.ga 43 3)) [], .call 65 [.c (.p (.lit (.int .i64 (-1))))] (.one (.ga 46 3)) [], .call 23 [] (.one (.ga 49 36)) [], .op2 false .rem (.pa 0) (.p (.lit (.int .i64 4))) 85, .op2 false .add (.pa 85) (.p (.lit (.int .i64 4))) 86, .op2 false .rem (.pa 86) (.p (.lit (.int .i64 4))) 87, .op2 false .lss (.p (.lit (.int .i64 0))) (.pa 87) 88, .isB 88 false] ⟨rfl, fun b t l h => by simp at h⟩ Tryz.func31 (by kernel_rfl) rfl rfl (by kernel_rfl)
    ⟨fun γ w' _ _ => by have h := u7Same  w'; exact h,
     fun γ w' _ _ => by have h := u7num_0 w'; exact h,
     fun γ w' _ _ => by have h := u7num_0 w'; exact h,
     fun γ w' _ _ => by have h := u7num_1 w'; exact h,
     fun γ w' _ _ => by have h := u7num_m1 w'; exact h,
     fun γ w' _ _ => by have h := u7Same  w'; exact h,
     rem4 _,
     congrArg (fun z => some (Value.int .i64 z)) (by have := tmod_bd x1; rw [IntKind.wrap_i64]; omega : IntKind.wrap .i64 ((Int.tmod x1 4) + (4 : Int)) = (Int.tmod x1 4 + 4)),
     (rem4 _).trans (congrArg (fun z => some (Value.int .i64 z)) hn),
     congrArg (fun z => some (Value.bool z)) (by decide : decide ((0 : Int) < (0 : Int)) = false),
     rfl⟩
  exact H
theorem u7Turn_01 (x1 : Int) (w : World) (hn : Int.tmod (Int.tmod x1 4 + 4) 4 = 1) :
    Calls Tryz.prog 31 #[.int .i64 0, .int .i64 x1] w fun e w' => e = .returned (.tuple #[MV (rotM 0 1), .bool true]) ∧ Below w.heap.size w w' := by
  have f1 : Mk idM 1 := Mk.up (Mk.idM) (by decide)
  have f2 : Rk (0 : Rat) 1 := Rk.up ((⟨by decide +kernel, by decide +kernel⟩ : Rk (0 : Rat) 1)) (by decide)
  have f3 : Rk (1 : Rat) 1 := Rk.up ((⟨by decide +kernel, by decide +kernel⟩ : Rk (1 : Rat) 1)) (by decide)
  have f4 : Rk (-1 : Rat) 1 := Rk.up ((⟨by decide +kernel, by decide +kernel⟩ : Rk (-1 : Rat) 1)) (by decide)
  have f5 : Rk idM.x.a 1 := Rk.up (f1.1.1) (by decide)
  have f6 : Rk idM.x.b 1 := Rk.up (f1.1.2.1) (by decide)
  have f7 : Rk idM.x.c 1 := Rk.up (f1.1.2.2.1) (by decide)
  have f8 : Rk idM.x.d 1 := Rk.up (f1.1.2.2.2) (by decide)
  have f9 : Rk idM.y.a 1 := Rk.up (f1.2.1.1) (by decide)
  have f10 : Rk idM.y.d 1 := Rk.up (f1.2.1.2.2.2) (by decide)
  have f11 : Rk idM.z.a 1 := Rk.up (f1.2.2.1) (by decide)
  have f12 : Rk idM.z.d 1 := Rk.up (f1.2.2.2.2.2) (by decide)
  have f13 : Mk (rotM 0 1) 1 := Mk.up ((Mk.rot (a := 0) (n := 1) (by decide) (by decide))) (by decide)
  have H := SX.runX (w := w) (List.flatten [[.int .i64 x1], mc idM, [.bool (sg (0 : Rat).num), .string (mg (0 : Rat).num), .string (dm (0 : Rat).den), .bool (sg (0 : Rat).num), .string (mg (0 : Rat).num), .string (dm (0 : Rat).den)], qc (1 : Rat), qc (-1 : Rat), mc idM, [.int .i64 (Int.tmod x1 4), .int .i64 (Int.tmod x1 4 + 4), .int .i64 1, .bool true], mc (rotM 0 1), [.int .i64 (Int.tmod x1 4), .int .i64 (Int.tmod x1 4 + 4), .int .i64 1, .bool false]]) [] [] [.c (.p (.lit (.int .i64 (0)))), .c (.p (.at 0))] 1 [.b true, .b false] (.tup [.ga 89 36, .c (.p (.lit (.bool true)))]) [.call 23 [] (.one (.ga 1 36)) [], .call 65 [.c (.p (.lit (.int .i64 0)))] (.one (.ga 37 3)) [], .call 65 [.c (.p (.lit (.int .i64 0)))] (.one (.ga 40 3)) [], .call 65 [.c (.p (.lit (.int .i64 1)))] (.one (.ga 43 3)) [], .call 65 [.c (.p (.lit (.int .i64 (-1))))] (.one (.ga 46 3)) [], .call 23 [] (.one (.ga 49 36)) [], .op2 false .rem (.pa 0) (.p (.lit (.int .i64 4))) 85, .op2 false .add (.pa 85) (.p (.lit (.int .i64 4))) 86, .op2 false .rem (.pa 86) (.p (.lit (.int .i64 4))) 87, .op2 false .lss (.p (.lit (.int .i64 0))) (.pa 87) 88, .isB 88 true, .call 21 [.agg [.pa 1, .pa 2, .pa 3, .pa 4, .pa 5, .pa 6, .pa 7, .pa 8, .pa 9, .pa 10, .pa 11, .pa 12, .pa 13, .pa 14, .pa 15, .pa 37, .pa 38, .pa 39, .pa 46, .pa 47, .pa 48, .pa 22, .pa 23, .pa 24, .pa 25, .pa 26, .pa 27, .pa 43, .pa 44, .pa 45, .pa 40, .pa 41, .pa 42, .pa 34, .pa 35, .pa 36], .ga 49 36] (.one (.ga 89 36)) [], .op2 false .rem (.pa 0) (.p (.lit (.int .i64 4))) 125, .op2 false .add (.pa 125) (.p (.lit (.int .i64 4))) 126, .op2 false .rem (.pa 126) (.p (.lit (.int .i64 4))) 127, .op2 false .lss (.p (.lit (.int .i64 1))) (.pa 127) 128, .isB 128 false] ⟨rfl, fun b t l h => by simp at h⟩ Tryz.func31 (by kernel_rfl) rfl rfl (by kernel_rfl)
    ⟨fun γ w' _ _ => by have h := u7Same  w'; exact h,
     fun γ w' _ _ => by have h := u7num_0 w'; exact h,
     fun γ w' _ _ => by have h := u7num_0 w'; exact h,
     fun γ w' _ _ => by have h := u7num_1 w'; exact h,
     fun γ w' _ _ => by have h := u7num_m1 w'; exact h,
     fun γ w' _ _ => by have h := u7Same  w'; exact h,
     rem4 _,
     congrArg (fun z => some (Value.int .i64 z)) (by have := tmod_bd x1; rw [IntKind.wrap_i64]; omega : IntKind.wrap .i64 ((Int.tmod x1 4) + (4 : Int)) = (Int.tmod x1 4 + 4)),
     (rem4 _).trans (congrArg (fun z => some (Value.int .i64 z)) hn),
     congrArg (fun z => some (Value.bool z)) (by decide : decide ((0 : Int) < (1 : Int)) = true),
     rfl,
     fun γ w' _ _ => by have h := u7After (x0 := oneM 0) (x1 := rotM 0 0) (IsM.mk (IsQ.up (IsQ.can f5) (by decide : 1 ≤ 1)) (IsQ.up (IsQ.can f6) (by decide : 1 ≤ 1)) (IsQ.up (IsQ.can f7) (by decide : 1 ≤ 1)) (IsQ.up (IsQ.can f8) (by decide : 1 ≤ 1)) (IsQ.up (IsQ.can f9) (by decide : 1 ≤ 1)) (IsQ.up (IsQ.can f2) (by decide : 1 ≤ 1)) (IsQ.up (IsQ.can f4) (by decide : 1 ≤ 1)) (IsQ.up (IsQ.can f10) (by decide : 1 ≤ 1)) (IsQ.up (IsQ.can f11) (by decide : 1 ≤ 1)) (IsQ.up (IsQ.can f3) (by decide : 1 ≤ 1)) (IsQ.up (IsQ.can f2) (by decide : 1 ≤ 1)) (IsQ.up (IsQ.can f12) (by decide : 1 ≤ 1))) (by decide) (IsM.can f1) (by decide) w'; exact h,
     rem4 _,
     congrArg (fun z => some (Value.int .i64 z)) (by have := tmod_bd x1; rw [IntKind.wrap_i64]; omega : IntKind.wrap .i64 ((Int.tmod x1 4) + (4 : Int)) = (Int.tmod x1 4 + 4)),
     (rem4 _).trans (congrArg (fun z => some (Value.int .i64 z)) hn),
     congrArg (fun z => some (Value.bool z)) (by decide : decide ((1 : Int) < (1 : Int)) = false),
     rfl⟩
  exact H
set_option maxRecDepth 100000 in
theorem u7Turn_02 (x1 : Int) (w : World) (hn : Int.tmod (Int.tmod x1 4 + 4) 4 = 2) :
    Calls Tryz.prog 31 #[.int .i64 0, .int .i64 x1] w fun e w' => e = .returned (.tuple #[MV (rotM 0 2), .bool true]) ∧ Below w.heap.size w w' := by
  have f1 : Mk idM 1 := Mk.up (Mk.idM) (by decide)
  have f2 : Rk (0 : Rat) 1 := Rk.up ((⟨by decide +kernel, by decide +kernel⟩ : Rk (0 : Rat) 1)) (by decide)
  have f3 : Rk (1 : Rat) 1 := Rk.up ((⟨by decide +kernel, by decide +kernel⟩ : Rk (1 : Rat) 1)) (by decide)
  have f4 : Rk (-1 : Rat) 1 := Rk.up ((⟨by decide +kernel, by decide +kernel⟩ : Rk (-1 : Rat) 1)) (by decide)
  have f5 : Rk idM.x.a 1 := Rk.up (f1.1.1) (by decide)
  have f6 : Rk idM.x.b 1 := Rk.up (f1.1.2.1) (by decide)
  have f7 : Rk idM.x.c 1 := Rk.up (f1.1.2.2.1) (by decide)
  have f8 : Rk idM.x.d 1 := Rk.up (f1.1.2.2.2) (by decide)
  have f9 : Rk idM.y.a 1 := Rk.up (f1.2.1.1) (by decide)
  have f10 : Rk idM.y.d 1 := Rk.up (f1.2.1.2.2.2) (by decide)
  have f11 : Rk idM.z.a 1 := Rk.up (f1.2.2.1) (by decide)
  have f12 : Rk idM.z.d 1 := Rk.up (f1.2.2.2.2.2) (by decide)
  have f13 : Mk (rotM 0 1) 1 := Mk.up ((Mk.rot (a := 0) (n := 1) (by decide) (by decide))) (by decide)
  have f14 : Mk (rotM 0 2) 1 := Mk.up ((Mk.rot (a := 0) (n := 2) (by decide) (by decide))) (by decide)
  have H := SX.runX (w := w) (List.flatten [[.int .i64 x1], mc idM, [.bool (sg (0 : Rat).num), .string (mg (0 : Rat).num), .string (dm (0 : Rat).den), .bool (sg (0 : Rat).num), .string (mg (0 : Rat).num), .string (dm (0 : Rat).den)], qc (1 : Rat), qc (-1 : Rat), mc idM, [.int .i64 (Int.tmod x1 4), .int .i64 (Int.tmod x1 4 + 4), .int .i64 2, .bool true], mc (rotM 0 1), [.int .i64 (Int.tmod x1 4), .int .i64 (Int.tmod x1 4 + 4), .int .i64 2, .bool true], mc (rotM 0 2), [.int .i64 (Int.tmod x1 4), .int .i64 (Int.tmod x1 4 + 4), .int .i64 2, .bool false]]) [] [] [.c (.p (.lit (.int .i64 (0)))), .c (.p (.at 0))] 1 [.b true, .b true, .b false] (.tup [.ga 129 36, .c (.p (.lit (.bool true)))]) [.call 23 [] (.one (.ga 1 36)) [], .call 65 [.c (.p (.lit (.int .i64 0)))] (.one (.ga 37 3)) [], .call 65 [.c (.p (.lit (.int .i64 0)))] (.one (.ga 40 3)) [], .call 65 [.c (.p (.lit (.int .i64 1)))] (.one (.ga 43 3)) [], .call 65 [.c (.p (.lit (.int .i64 (-1))))] (.one (.ga 46 3)) [], .call 23 [] (.one (.ga 49 36)) [], .op2 false .rem (.pa 0) (.p (.lit (.int .i64 4))) 85, .op2 false .add (.pa 85) (.p (.lit (.int .i64 4))) 86, .op2 false .rem (.pa 86) (.p (.lit (.int .i64 4))) 87, .op2 false .lss (.p (.lit (.int .i64 0))) (.pa 87) 88, .isB 88 true, .call 21 [.agg [.pa 1, .pa 2, .pa 3, .pa 4, .pa 5, .pa 6, .pa 7, .pa 8, .pa 9, .pa 10, .pa 11, .pa 12, .pa 13, .pa 14, .pa 15, .pa 37, .pa 38, .pa 39, .pa 46, .pa 47, .pa 48, .pa 22, .pa 23, .pa 24, .pa 25, .pa 26, .pa 27, .pa 43, .pa 44, .pa 45, .pa 40, .pa 41, .pa 42, .pa 34, .pa 35, .pa 36], .ga 49 36] (.one (.ga 89 36)) [], .op2 false .rem (.pa 0) (.p (.lit (.int .i64 4))) 125, .op2 false .add (.pa 125) (.p (.lit (.int .i64 4))) 126, .op2 false .rem (.pa 126) (.p (.lit (.int .i64 4))) 127, .op2 false .lss (.p (.lit (.int .i64 1))) (.pa 127) 128, .isB 128 true, .call 21 [.agg [.pa 1, .pa 2, .pa 3, .pa 4, .pa 5, .pa 6, .pa 7, .pa 8, .pa 9, .pa 10, .pa 11, .pa 12, .pa 13, .pa 14, .pa 15, .pa 37, .pa 38, .pa 39, .pa 46, .pa 47, .pa 48, .pa 22, .pa 23, .pa 24, .pa 25, .pa 26, .pa 27, .pa 43, .pa 44, .pa 45, .pa 40, .pa 41, .pa 42, .pa 34, .pa 35, .pa 36], .ga 89 36] (.one (.ga 129 36)) [], .op2 false .rem (.pa 0) (.p (.lit (.int .i64 4))) 165, .op2 false .add (.pa 165) (.p (.lit (.int .i64 4))) 166, .op2 false .rem (.pa 166) (.p (.lit (.int .i64 4))) 167, .op2 false .lss (.p (.lit (.int .i64 2))) (.pa 167) 168, .isB 168 false] ⟨rfl, fun b t l h => by simp at h⟩ Tryz.func31 (by kernel_rfl) rfl rfl (by kernel_rfl)
    ⟨fun γ w' _ _ => by have h := u7Same  w'; exact h,
     fun γ w' _ _ => by have h := u7num_0 w'; exact h,
     fun γ w' _ _ => by have h := u7num_0 w'; exact h,
     fun γ w' _ _ => by have h := u7num_1 w'; exact h,
     fun γ w' _ _ => by have h := u7num_m1 w'; exact h,
     fun γ w' _ _ => by have h := u7Same  w'; exact h,
     rem4 _,
     congrArg (fun z => some (Value.int .i64 z)) (by have := tmod_bd x1; rw [IntKind.wrap_i64]; omega : IntKind.wrap .i64 ((Int.tmod x1 4) + (4 : Int)) = (Int.tmod x1 4 + 4)),
     (rem4 _).trans (congrArg (fun z => some (Value.int .i64 z)) hn),
     congrArg (fun z => some (Value.bool z)) (by decide : decide ((0 : Int) < (2 : Int)) = true),
     rfl,
     fun γ w' _ _ => by have h := u7After (x0 := oneM 0) (x1 := rotM 0 0) (IsM.mk (IsQ.up (IsQ.can f5) (by decide : 1 ≤ 1)) (IsQ.up (IsQ.can f6) (by decide : 1 ≤ 1)) (IsQ.up (IsQ.can f7) (by decide : 1 ≤ 1)) (IsQ.up (IsQ.can f8) (by decide : 1 ≤ 1)) (IsQ.up (IsQ.can f9) (by decide : 1 ≤ 1)) (IsQ.up (IsQ.can f2) (by decide : 1 ≤ 1)) (IsQ.up (IsQ.can f4) (by decide : 1 ≤ 1)) (IsQ.up (IsQ.can f10) (by decide : 1 ≤ 1)) (IsQ.up (IsQ.can f11) (by decide : 1 ≤ 1)) (IsQ.up (IsQ.can f3) (by decide : 1 ≤ 1)) (IsQ.up (IsQ.can f2) (by decide : 1 ≤ 1)) (IsQ.up (IsQ.can f12) (by decide : 1 ≤ 1))) (by decide) (IsM.can f1) (by decide) w'; exact h,
     rem4 _,
     congrArg (fun z => some (Value.int .i64 z)) (by have := tmod_bd x1; rw [IntKind.wrap_i64]; omega : IntKind.wrap .i64 ((Int.tmod x1 4) + (4 : Int)) = (Int.tmod x1 4 + 4)),
     (rem4 _).trans (congrArg (fun z => some (Value.int .i64 z)) hn),
     congrArg (fun z => some (Value.bool z)) (by decide : decide ((1 : Int) < (2 : Int)) = true),
     rfl,
     fun γ w' _ _ => by have h := u7After (x0 := oneM 0) (x1 := rotM 0 1) (IsM.mk (IsQ.up (IsQ.can f5) (by decide : 1 ≤ 1)) (IsQ.up (IsQ.can f6) (by decide : 1 ≤ 1)) (IsQ.up (IsQ.can f7) (by decide : 1 ≤ 1)) (IsQ.up (IsQ.can f8) (by decide : 1 ≤ 1)) (IsQ.up (IsQ.can f9) (by decide : 1 ≤ 1)) (IsQ.up (IsQ.can f2) (by decide : 1 ≤ 1)) (IsQ.up (IsQ.can f4) (by decide : 1 ≤ 1)) (IsQ.up (IsQ.can f10) (by decide : 1 ≤ 1)) (IsQ.up (IsQ.can f11) (by decide : 1 ≤ 1)) (IsQ.up (IsQ.can f3) (by decide : 1 ≤ 1)) (IsQ.up (IsQ.can f2) (by decide : 1 ≤ 1)) (IsQ.up (IsQ.can f12) (by decide : 1 ≤ 1))) (by decide) (IsM.can f13) (by decide) w'; exact h,
     rem4 _,
     congrArg (fun z => some (Value.int .i64 z)) (by have := tmod_bd x1; rw [IntKind.wrap_i64]; omega : IntKind.wrap .i64 ((Int.tmod x1 4) + (4 : Int)) = (Int.tmod x1 4 + 4)),
     (rem4 _).trans (congrArg (fun z => some (Value.int .i64 z)) hn),
     congrArg (fun z => some (Value.bool z)) (by decide : decide ((2 : Int) < (2 : Int)) = false),
     rfl⟩
  exact H
set_option maxRecDepth 100000 in
theorem u7Turn_03 (x1 : Int) (w : World) (hn : Int.tmod (Int.tmod x1 4 + 4) 4 = 3) :
    Calls Tryz.prog 31 #[.int .i64 0, .int .i64 x1] w fun e w' => e = .returned (.tuple #[MV (rotM 0 3), .bool true]) ∧ Below w.heap.size w w' := by
  have f1 : Mk idM 1 := Mk.up (Mk.idM) (by decide)
  have f2 : Rk (0 : Rat) 1 := Rk.up ((⟨by decide +kernel, by decide +kernel⟩ : Rk (0 : Rat) 1)) (by decide)
  have f3 : Rk (1 : Rat) 1 := Rk.up ((⟨by decide +kernel, by decide +kernel⟩ : Rk (1 : Rat) 1)) (by decide)
  have f4 : Rk (-1 : Rat) 1 := Rk.up ((⟨by decide +kernel, by decide +kernel⟩ : Rk (-1 : Rat) 1)) (by decide)
  have f5 : Rk idM.x.a 1 := Rk.up (f1.1.1) (by decide)
  have f6 : Rk idM.x.b 1 := Rk.up (f1.1.2.1) (by decide)
  have f7 : Rk idM.x.c 1 := Rk.up (f1.1.2.2.1) (by decide)
  have f8 : Rk idM.x.d 1 := Rk.up (f1.1.2.2.2) (by decide)
  have f9 : Rk idM.y.a 1 := Rk.up (f1.2.1.1) (by decide)
  have f10 : Rk idM.y.d 1 := Rk.up (f1.2.1.2.2.2) (by decide)
  have f11 : Rk idM.z.a 1 := Rk.up (f1.2.2.1) (by decide)
  have f12 : Rk idM.z.d 1 := Rk.up (f1.2.2.2.2.2) (by decide)
  have f13 : Mk (rotM 0 1) 1 := Mk.up ((Mk.rot (a := 0) (n := 1) (by decide) (by decide))) (by decide)
  have f14 : Mk (rotM 0 2) 1 := Mk.up ((Mk.rot (a := 0) (n := 2) (by decide) (by decide))) (by decide)
  have f15 : Mk (rotM 0 3) 1 := Mk.up ((Mk.rot (a := 0) (n := 3) (by decide) (by decide))) (by decide)
  have H := SX.runX (w := w) (List.flatten [[.int .i64 x1], mc idM, [.bool (sg (0 : Rat).num), .string (mg (0 : Rat).num), .string (dm (0 : Rat).den), .bool (sg (0 : Rat).num), .string (mg (0 : Rat).num), .string (dm (0 : Rat).den)], qc (1 : Rat), qc (-1 : Rat), mc idM, [.int .i64 (Int.tmod x1 4), .int .i64 (Int.tmod x1 4 + 4), .int .i64 3, .bool true], mc (rotM 0 1), [.int .i64 (Int.tmod x1 4), .int .i64 (Int.tmod x1 4 + 4), .int .i64 3, .bool true], mc (rotM 0 2), [.int .i64 (Int.tmod x1 4), .int .i64 (Int.tmod x1 4 + 4), .int .i64 3, .bool true], mc (rotM 0 3), [.int .i64 (Int.tmod x1 4), .int .i64 (Int.tmod x1 4 + 4), .int .i64 3, .bool false]]) [] [] [.c (.p (.lit (.int .i64 (0)))), .c (.p (.at 0))] 1 [.b true, .b true, .b true, .b false] (.tup [.ga 169 36, .c (.p (.lit (.bool true)))]) (.call 23 [] (.one (.ga 1 36)) [] :: .call 65 [.c (.p (.lit (.int .i64 0)))] (.one (.ga 37 3)) [] :: .call 65 [.c (.p (.lit (.int .i64 0)))] (.one (.ga 40 3)) [] :: .call 65 [.c (.p (.lit (.int .i64 1)))] (.one (.ga 43 3)) [] :: .call 65 [.c (.p (.lit (.int .i64 (-1))))] (.one (.ga 46 3)) [] :: .call 23 [] (.one (.ga 49 36)) [] :: .op2 false .rem (.pa 0) (.p (.lit (.int .i64 4))) 85 :: .op2 false .add (.pa 85) (.p (.lit (.int .i64 4))) 86 :: .op2 false .rem (.pa 86) (.p (.lit (.int .i64 4))) 87 :: .op2 false .lss (.p (.lit (.int .i64 0))) (.pa 87) 88 :: .isB 88 true :: .call 21 [.agg [.pa 1, .pa 2, .pa 3, .pa 4, .pa 5, .pa 6, .pa 7, .pa 8, .pa 9, .pa 10, .pa 11, .pa 12, .pa 13, .pa 14, .pa 15, .pa 37, .pa 38, .pa 39, .pa 46, .pa 47, .pa 48, .pa 22, .pa 23, .pa 24, .pa 25, .pa 26, .pa 27, .pa 43, .pa 44, .pa 45, .pa 40, .pa 41, .pa 42, .pa 34, .pa 35, .pa 36], .ga 49 36] (.one (.ga 89 36)) [] :: .op2 false .rem (.pa 0) (.p (.lit (.int .i64 4))) 125 :: .op2 false .add (.pa 125) (.p (.lit (.int .i64 4))) 126 :: .op2 false .rem (.pa 126) (.p (.lit (.int .i64 4))) 127 :: .op2 false .lss (.p (.lit (.int .i64 1))) (.pa 127) 128 :: .isB 128 true :: .call 21 [.agg [.pa 1, .pa 2, .pa 3, .pa 4, .pa 5, .pa 6, .pa 7, .pa 8, .pa 9, .pa 10, .pa 11, .pa 12, .pa 13, .pa 14, .pa 15, .pa 37, .pa 38, .pa 39, .pa 46, .pa 47, .pa 48, .pa 22, .pa 23, .pa 24, .pa 25, .pa 26, .pa 27, .pa 43, .pa 44, .pa 45, .pa 40, .pa 41, .pa 42, .pa 34, .pa 35, .pa 36], .ga 89 36] (.one (.ga 129 36)) [] :: .op2 false .rem (.pa 0) (.p (.lit (.int .i64 4))) 165 :: .op2 false .add (.pa 165) (.p (.lit (.int .i64 4))) 166 :: .op2 false .rem (.pa 166) (.p (.lit (.int .i64 4))) 167 :: .op2 false .lss (.p (.lit (.int .i64 2))) (.pa 167) 168 :: .isB 168 true :: .call 21 [.agg [.pa 1, .pa 2, .pa 3, .pa 4, .pa 5, .pa 6, .pa 7, .pa 8, .pa 9, .pa 10, .pa 11, .pa 12, .pa 13, .pa 14, .pa 15, .pa 37, .pa 38, .pa 39, .pa 46, .pa 47, .pa 48, .pa 22, .pa 23, .pa 24, .pa 25, .pa 26, .pa 27, .pa 43, .pa 44, .pa 45, .pa 40, .pa 41, .pa 42, .pa 34, .pa 35, .pa 36], .ga 129 36] (.one (.ga 169 36)) [] :: .op2 false .rem (.pa 0) (.p (.lit (.int .i64 4))) 205 :: .op2 false .add (.pa 205) (.p (.lit (.int .i64 4))) 206 :: .op2 false .rem (.pa 206) (.p (.lit (.int .i64 4))) 207 :: .op2 false .lss (.p (.lit (.int .i64 3))) (.pa 207) 208 :: .isB 208 false :: []) ⟨rfl, fun b t l h => by simp at h⟩ Tryz.func31 (by kernel_rfl) rfl rfl (by kernel_rfl)
    ⟨fun γ w' _ _ => by have h := u7Same  w'; exact h,
     fun γ w' _ _ => by have h := u7num_0 w'; exact h,
     fun γ w' _ _ => by have h := u7num_0 w'; exact h,
     fun γ w' _ _ => by have h := u7num_1 w'; exact h,
     fun γ w' _ _ => by have h := u7num_m1 w'; exact h,
     fun γ w' _ _ => by have h := u7Same  w'; exact h,
     rem4 _,
     congrArg (fun z => some (Value.int .i64 z)) (by have := tmod_bd x1; rw [IntKind.wrap_i64]; omega : IntKind.wrap .i64 ((Int.tmod x1 4) + (4 : Int)) = (Int.tmod x1 4 + 4)),
     (rem4 _).trans (congrArg (fun z => some (Value.int .i64 z)) hn),
     congrArg (fun z => some (Value.bool z)) (by decide : decide ((0 : Int) < (3 : Int)) = true),
     rfl,
     fun γ w' _ _ => by have h := u7After (x0 := oneM 0) (x1 := rotM 0 0) (IsM.mk (IsQ.up (IsQ.can f5) (by decide : 1 ≤ 1)) (IsQ.up (IsQ.can f6) (by decide : 1 ≤ 1)) (IsQ.up (IsQ.can f7) (by decide : 1 ≤ 1)) (IsQ.up (IsQ.can f8) (by decide : 1 ≤ 1)) (IsQ.up (IsQ.can f9) (by decide : 1 ≤ 1)) (IsQ.up (IsQ.can f2) (by decide : 1 ≤ 1)) (IsQ.up (IsQ.can f4) (by decide : 1 ≤ 1)) (IsQ.up (IsQ.can f10) (by decide : 1 ≤ 1)) (IsQ.up (IsQ.can f11) (by decide : 1 ≤ 1)) (IsQ.up (IsQ.can f3) (by decide : 1 ≤ 1)) (IsQ.up (IsQ.can f2) (by decide : 1 ≤ 1)) (IsQ.up (IsQ.can f12) (by decide : 1 ≤ 1))) (by decide) (IsM.can f1) (by decide) w'; exact h,
     rem4 _,
     congrArg (fun z => some (Value.int .i64 z)) (by have := tmod_bd x1; rw [IntKind.wrap_i64]; omega : IntKind.wrap .i64 ((Int.tmod x1 4) + (4 : Int)) = (Int.tmod x1 4 + 4)),
     (rem4 _).trans (congrArg (fun z => some (Value.int .i64 z)) hn),
     congrArg (fun z => some (Value.bool z)) (by decide : decide ((1 : Int) < (3 : Int)) = true),
     rfl,
     fun γ w' _ _ => by have h := u7After (x0 := oneM 0) (x1 := rotM 0 1) (IsM.mk (IsQ.up (IsQ.can f5) (by decide : 1 ≤ 1)) (IsQ.up (IsQ.can f6) (by decide : 1 ≤ 1)) (IsQ.up (IsQ.can f7) (by decide : 1 ≤ 1)) (IsQ.up (IsQ.can f8) (by decide : 1 ≤ 1)) (IsQ.up (IsQ.can f9) (by decide : 1 ≤ 1)) (IsQ.up (IsQ.can f2) (by decide : 1 ≤ 1)) (IsQ.up (IsQ.can f4) (by decide : 1 ≤ 1)) (IsQ.up (IsQ.can f10) (by decide : 1 ≤ 1)) (IsQ.up (IsQ.can f11) (by decide : 1 ≤ 1)) (IsQ.up (IsQ.can f3) (by decide : 1 ≤ 1)) (IsQ.up (IsQ.can f2) (by decide : 1 ≤ 1)) (IsQ.up (IsQ.can f12) (by decide : 1 ≤ 1))) (by decide) (IsM.can f13) (by decide) w'; exact h,
     rem4 _,
     congrArg (fun z => some (Value.int .i64 z)) (by have := tmod_bd x1; rw [IntKind.wrap_i64]; omega : IntKind.wrap .i64 ((Int.tmod x1 4) + (4 : Int)) = (Int.tmod x1 4 + 4)),
     (rem4 _).trans (congrArg (fun z => some (Value.int .i64 z)) hn),
     congrArg (fun z => some (Value.bool z)) (by decide : decide ((2 : Int) < (3 : Int)) = true),
     rfl,
     fun γ w' _ _ => by have h := u7After (x0 := oneM 0) (x1 := rotM 0 2) (IsM.mk (IsQ.up (IsQ.can f5) (by decide : 1 ≤ 1)) (IsQ.up (IsQ.can f6) (by decide : 1 ≤ 1)) (IsQ.up (IsQ.can f7) (by decide : 1 ≤ 1)) (IsQ.up (IsQ.can f8) (by decide : 1 ≤ 1)) (IsQ.up (IsQ.can f9) (by decide : 1 ≤ 1)) (IsQ.up (IsQ.can f2) (by decide : 1 ≤ 1)) (IsQ.up (IsQ.can f4) (by decide : 1 ≤ 1)) (IsQ.up (IsQ.can f10) (by decide : 1 ≤ 1)) (IsQ.up (IsQ.can f11) (by decide : 1 ≤ 1)) (IsQ.up (IsQ.can f3) (by decide : 1 ≤ 1)) (IsQ.up (IsQ.can f2) (by decide : 1 ≤ 1)) (IsQ.up (IsQ.can f12) (by decide : 1 ≤ 1))) (by decide) (IsM.can f14) (by decide) w'; exact h,
     rem4 _,
     congrArg (fun z => some (Value.int .i64 z)) (by have := tmod_bd x1; rw [IntKind.wrap_i64]; omega : IntKind.wrap .i64 ((Int.tmod x1 4) + (4 : Int)) = (Int.tmod x1 4 + 4)),
     (rem4 _).trans (congrArg (fun z => some (Value.int .i64 z)) hn),
     congrArg (fun z => some (Value.bool z)) (by decide : decide ((3 : Int) < (3 : Int)) = false),
     rfl⟩
  exact H
theorem u7Turn_10 (x1 : Int) (w : World) (hn : Int.tmod (Int.tmod x1 4 + 4) 4 = 0) :
    Calls Tryz.prog 31 #[.int .i64 1, .int .i64 x1] w fun e w' => e = .returned (.tuple #[MV (rotM 1 0), .bool true]) ∧ Below w.heap.size w w' := by
  have f1 : Mk idM 1 := Mk.up (Mk.idM) (by decide)
  have f2 : Rk (0 : Rat) 1 := Rk.up ((⟨by decide +kernel, by decide +kernel⟩ : Rk (0 : Rat) 1)) (by decide)
  have f3 : Rk (1 : Rat) 1 := Rk.up ((⟨by decide +kernel, by decide +kernel⟩ : Rk (1 : Rat) 1)) (by decide)
  have f4 : Rk (-1 : Rat) 1 := Rk.up ((⟨by decide +kernel, by decide +kernel⟩ : Rk (-1 : Rat) 1)) (by decide)
  have H := SX.runX (w := w) (List.flatten [[.int .i64 x1], mc idM, [.bool (sg (0 : Rat).num), .string (mg (0 : Rat).num), .string (dm (0 : Rat).den), .bool (sg (0 : Rat).num), .string (mg (0 : Rat).num), .string (dm (0 : Rat).den)], qc (1 : Rat), qc (-1 : Rat), mc idM, [.int .i64 (Int.tmod x1 4), .int .i64 (Int.tmod x1 4 + 4), .int .i64 0, .bool false]]) [] [] [.c (.p (.lit (.int .i64 (1)))), .c (.p (.at 0))] 1 [.b false] (.tup [.ga 49 36, .c (.p (.lit (.bool true)))]) [.call 23 [] (.one (.ga 1 36)) [], .call 65 [.c (.p (.lit (.int .i64 0)))] (.one (.ga 37 3)) [], .call 65 [.c (.p (.lit (.int .i64 0)))] (.one (.ga 40 3)) [], .call 65 [.c (.p (.lit (.int .i64 1)))] (.one (.ga 43 3)) [], .call 65 [.c (.p (.lit (.int .i64 (-1))))] (.one (.ga 46 3)) [], .call 23 [] (.one (.ga 49 36)) [], .op2 false .rem (.pa 0) (.p (.lit (.int .i64 4))) 85, .op2 false .add (.pa 85) (.p (.lit (.int .i64 4))) 86, .op2 false .rem (.pa 86) (.p (.lit (.int .i64 4))) 87, .op2 false .lss (.p (.lit (.int .i64 0))) (.pa 87) 88, .isB 88 false] ⟨rfl, fun b t l h => by simp at h⟩ Tryz.func31 (by kernel_rfl) rfl rfl (by kernel_rfl)
    ⟨fun γ w' _ _ => by have h := u7Same  w'; exact h,
     fun γ w' _ _ => by have h := u7num_0 w'; exact h,
     fun γ w' _ _ => by have h := u7num_0 w'; exact h,
     fun γ w' _ _ => by have h := u7num_1 w'; exact h,
     fun γ w' _ _ => by have h := u7num_m1 w'; exact h,
     fun γ w' _ _ => by have h := u7Same  w'; exact h,
     rem4 _,
     congrArg (fun z => some (Value.int .i64 z)) (by have := tmod_bd x1; rw [IntKind.wrap_i64]; omega : IntKind.wrap .i64 ((Int.tmod x1 4) + (4 : Int)) = (Int.tmod x1 4 + 4)),
     (rem4 _).trans (congrArg (fun z => some (Value.int .i64 z)) hn),
     congrArg (fun z => some (Value.bool z)) (by decide : decide ((0 : Int) < (0 : Int)) = false),
     rfl⟩
  exact H
theorem u7Turn_11 (x1 : Int) (w : World) (hn : Int.tmod (Int.tmod x1 4 + 4) 4 = 1) :
    Calls Tryz.prog 31 #[.int .i64 1, .int .i64 x1] w fun e w' => e = .returned (.tuple #[MV (rotM 1 1), .bool true]) ∧ Below w.heap.size w w' := by
  have f1 : Mk idM 1 := Mk.up (Mk.idM) (by decide)
  have f2 : Rk (0 : Rat) 1 := Rk.up ((⟨by decide +kernel, by decide +kernel⟩ : Rk (0 : Rat) 1)) (by decide)
  have f3 : Rk (1 : Rat) 1 := Rk.up ((⟨by decide +kernel, by decide +kernel⟩ : Rk (1 : Rat) 1)) (by decide)
  have f4 : Rk (-1 : Rat) 1 := Rk.up ((⟨by decide +kernel, by decide +kernel⟩ : Rk (-1 : Rat) 1)) (by decide)
  have f5 : Rk idM.x.b 1 := Rk.up (f1.1.2.1) (by decide)
  have f6 : Rk idM.x.d 1 := Rk.up (f1.1.2.2.2) (by decide)
  have f7 : Rk idM.y.a 1 := Rk.up (f1.2.1.1) (by decide)
  have f8 : Rk idM.y.b 1 := Rk.up (f1.2.1.2.1) (by decide)
  have f9 : Rk idM.y.c 1 := Rk.up (f1.2.1.2.2.1) (by decide)
  have f10 : Rk idM.y.d 1 := Rk.up (f1.2.1.2.2.2) (by decide)
  have f11 : Rk idM.z.b 1 := Rk.up (f1.2.2.2.1) (by decide)
  have f12 : Rk idM.z.d 1 := Rk.up (f1.2.2.2.2.2) (by decide)
  have f13 : Mk (rotM 1 1) 1 := Mk.up ((Mk.rot (a := 1) (n := 1) (by decide) (by decide))) (by decide)
  have H := SX.runX (w := w) (List.flatten [[.int .i64 x1], mc idM, [.bool (sg (0 : Rat).num), .string (mg (0 : Rat).num), .string (dm (0 : Rat).den), .bool (sg (0 : Rat).num), .string (mg (0 : Rat).num), .string (dm (0 : Rat).den)], qc (1 : Rat), qc (-1 : Rat), mc idM, [.int .i64 (Int.tmod x1 4), .int .i64 (Int.tmod x1 4 + 4), .int .i64 1, .bool true], mc (rotM 1 1), [.int .i64 (Int.tmod x1 4), .int .i64 (Int.tmod x1 4 + 4), .int .i64 1, .bool false]]) [] [] [.c (.p (.lit (.int .i64 (1)))), .c (.p (.at 0))] 1 [.b true, .b false] (.tup [.ga 89 36, .c (.p (.lit (.bool true)))]) [.call 23 [] (.one (.ga 1 36)) [], .call 65 [.c (.p (.lit (.int .i64 0)))] (.one (.ga 37 3)) [], .call 65 [.c (.p (.lit (.int .i64 0)))] (.one (.ga 40 3)) [], .call 65 [.c (.p (.lit (.int .i64 1)))] (.one (.ga 43 3)) [], .call 65 [.c (.p (.lit (.int .i64 (-1))))] (.one (.ga 46 3)) [], .call 23 [] (.one (.ga 49 36)) [], .op2 false .rem (.pa 0) (.p (.lit (.int .i64 4))) 85, .op2 false .add (.pa 85) (.p (.lit (.int .i64 4))) 86, .op2 false .rem (.pa 86) (.p (.lit (.int .i64 4))) 87, .op2 false .lss (.p (.lit (.int .i64 0))) (.pa 87) 88, .isB 88 true, .call 21 [.agg [.pa 40, .pa 41, .pa 42, .pa 4, .pa 5, .pa 6, .pa 43, .pa 44, .pa 45, .pa 10, .pa 11, .pa 12, .pa 13, .pa 14, .pa 15, .pa 16, .pa 17, .pa 18, .pa 19, .pa 20, .pa 21, .pa 22, .pa 23, .pa 24, .pa 46, .pa 47, .pa 48, .pa 28, .pa 29, .pa 30, .pa 37, .pa 38, .pa 39, .pa 34, .pa 35, .pa 36], .ga 49 36] (.one (.ga 89 36)) [], .op2 false .rem (.pa 0) (.p (.lit (.int .i64 4))) 125, .op2 false .add (.pa 125) (.p (.lit (.int .i64 4))) 126, .op2 false .rem (.pa 126) (.p (.lit (.int .i64 4))) 127, .op2 false .lss (.p (.lit (.int .i64 1))) (.pa 127) 128, .isB 128 false] ⟨rfl, fun b t l h => by simp at h⟩ Tryz.func31 (by kernel_rfl) rfl rfl (by kernel_rfl)
    ⟨fun γ w' _ _ => by have h := u7Same  w'; exact h,
     fun γ w' _ _ => by have h := u7num_0 w'; exact h,
     fun γ w' _ _ => by have h := u7num_0 w'; exact h,
     fun γ w' _ _ => by have h := u7num_1 w'; exact h,
     fun γ w' _ _ => by have h := u7num_m1 w'; exact h,
     fun γ w' _ _ => by have h := u7Same  w'; exact h,
     rem4 _,
     congrArg (fun z => some (Value.int .i64 z)) (by have := tmod_bd x1; rw [IntKind.wrap_i64]; omega : IntKind.wrap .i64 ((Int.tmod x1 4) + (4 : Int)) = (Int.tmod x1 4 + 4)),
     (rem4 _).trans (congrArg (fun z => some (Value.int .i64 z)) hn),
     congrArg (fun z => some (Value.bool z)) (by decide : decide ((0 : Int) < (1 : Int)) = true),
     rfl,
     fun γ w' _ _ => by have h := u7After (x0 := oneM 1) (x1 := rotM 1 0) (IsM.mk (IsQ.up (IsQ.can f2) (by decide : 1 ≤ 1)) (IsQ.up (IsQ.can f5) (by decide : 1 ≤ 1)) (IsQ.up (IsQ.can f3) (by decide : 1 ≤ 1)) (IsQ.up (IsQ.can f6) (by decide : 1 ≤ 1)) (IsQ.up (IsQ.can f7) (by decide : 1 ≤ 1)) (IsQ.up (IsQ.can f8) (by decide : 1 ≤ 1)) (IsQ.up (IsQ.can f9) (by decide : 1 ≤ 1)) (IsQ.up (IsQ.can f10) (by decide : 1 ≤ 1)) (IsQ.up (IsQ.can f4) (by decide : 1 ≤ 1)) (IsQ.up (IsQ.can f11) (by decide : 1 ≤ 1)) (IsQ.up (IsQ.can f2) (by decide : 1 ≤ 1)) (IsQ.up (IsQ.can f12) (by decide : 1 ≤ 1))) (by decide) (IsM.can f1) (by decide) w'; exact h,
     rem4 _,
     congrArg (fun z => some (Value.int .i64 z)) (by have := tmod_bd x1; rw [IntKind.wrap_i64]; omega : IntKind.wrap .i64 ((Int.tmod x1 4) + (4 : Int)) = (Int.tmod x1 4 + 4)),
     (rem4 _).trans (congrArg (fun z => some (Value.int .i64 z)) hn),
     congrArg (fun z => some (Value.bool z)) (by decide : decide ((1 : Int) < (1 : Int)) = false),
     rfl⟩
  exact H
set_option maxRecDepth 100000 in
theorem u7Turn_12 (x1 : Int) (w : World) (hn : Int.tmod (Int.tmod x1 4 + 4) 4 = 2) :
    Calls Tryz.prog 31 #[.int .i64 1, .int .i64 x1] w fun e w' => e = .returned (.tuple #[MV (rotM 1 2), .bool true]) ∧ Below w.heap.size w w' := by
  have f1 : Mk idM 1 := Mk.up (Mk.idM) (by decide)
  have f2 : Rk (0 : Rat) 1 := Rk.up ((⟨by decide +kernel, by decide +kernel⟩ : Rk (0 : Rat) 1)) (by decide)
  have f3 : Rk (1 : Rat) 1 := Rk.up ((⟨by decide +kernel, by decide +kernel⟩ : Rk (1 : Rat) 1)) (by decide)
  have f4 : Rk (-1 : Rat) 1 := Rk.up ((⟨by decide +kernel, by decide +kernel⟩ : Rk (-1 : Rat) 1)) (by decide)
  have f5 : Rk idM.x.b 1 := Rk.up (f1.1.2.1) (by decide)
  have f6 : Rk idM.x.d 1 := Rk.up (f1.1.2.2.2) (by decide)
  have f7 : Rk idM.y.a 1 := Rk.up (f1.2.1.1) (by decide)
  have f8 : Rk idM.y.b 1 := Rk.up (f1.2.1.2.1) (by decide)
  have f9 : Rk idM.y.c 1 := Rk.up (f1.2.1.2.2.1) (by decide)
  have f10 : Rk idM.y.d 1 := Rk.up (f1.2.1.2.2.2) (by decide)
  have f11 : Rk idM.z.b 1 := Rk.up (f1.2.2.2.1) (by decide)
  have f12 : Rk idM.z.d 1 := Rk.up (f1.2.2.2.2.2) (by decide)
  have f13 : Mk (rotM 1 1) 1 := Mk.up ((Mk.rot (a := 1) (n := 1) (by decide) (by decide))) (by decide)
  have f14 : Mk (rotM 1 2) 1 := Mk.up ((Mk.rot (a := 1) (n := 2) (by decide) (by decide))) (by decide)
  have H := SX.runX (w := w) (List.flatten [[.int .i64 x1], mc idM, [.bool (sg (0 : Rat).num), .string (mg (0 : Rat).num), .string (dm (0 : Rat).den), .bool (sg (0 : Rat).num), .string (mg (0 : Rat).num), .string (dm (0 : Rat).den)], qc (1 : Rat), qc (-1 : Rat), mc idM, [.int .i64 (Int.tmod x1 4), .int .i64 (Int.tmod x1 4 + 4), .int .i64 2, .bool true], mc (rotM 1 1), [.int .i64 (Int.tmod x1 4), .int .i64 (Int.tmod x1 4 + 4), .int .i64 2, .bool true], mc (rotM 1 2), [.int .i64 (Int.tmod x1 4), .int .i64 (Int.tmod x1 4 + 4), .int .i64 2, .bool false]]) [] [] [.c (.p (.lit (.int .i64 (1)))), .c (.p (.at 0))] 1 [.b true, .b true, .b false] (.tup [.ga 129 36, .c (.p (.lit (.bool true)))]) [.call 23 [] (.one (.ga 1 36)) [], .call 65 [.c (.p (.lit (.int .i64 0)))] (.one (.ga 37 3)) [], .call 65 [.c (.p (.lit (.int .i64 0)))] (.one (.ga 40 3)) [], .call 65 [.c (.p (.lit (.int .i64 1)))] (.one (.ga 43 3)) [], .call 65 [.c (.p (.lit (.int .i64 (-1))))] (.one (.ga 46 3)) [], .call 23 [] (.one (.ga 49 36)) [], .op2 false .rem (.pa 0) (.p (.lit (.int .i64 4))) 85, .op2 false .add (.pa 85) (.p (.lit (.int .i64 4))) 86, .op2 false .rem (.pa 86) (.p (.lit (.int .i64 4))) 87, .op2 false .lss (.p (.lit (.int .i64 0))) (.pa 87) 88, .isB 88 true, .call 21 [.agg [.pa 40, .pa 41, .pa 42, .pa 4, .pa 5, .pa 6, .pa 43, .pa 44, .pa 45, .pa 10, .pa 11, .pa 12, .pa 13, .pa 14, .pa 15, .pa 16, .pa 17, .pa 18, .pa 19, .pa 20, .pa 21, .pa 22, .pa 23, .pa 24, .pa 46, .pa 47, .pa 48, .pa 28, .pa 29, .pa 30, .pa 37, .pa 38, .pa 39, .pa 34, .pa 35, .pa 36], .ga 49 36] (.one (.ga 89 36)) [], .op2 false .rem (.pa 0) (.p (.lit (.int .i64 4))) 125, .op2 false .add (.pa 125) (.p (.lit (.int .i64 4))) 126, .op2 false .rem (.pa 126) (.p (.lit (.int .i64 4))) 127, .op2 false .lss (.p (.lit (.int .i64 1))) (.pa 127) 128, .isB 128 true, .call 21 [.agg [.pa 40, .pa 41, .pa 42, .pa 4, .pa 5, .pa 6, .pa 43, .pa 44, .pa 45, .pa 10, .pa 11, .pa 12, .pa 13, .pa 14, .pa 15, .pa 16, .pa 17, .pa 18, .pa 19, .pa 20, .pa 21, .pa 22, .pa 23, .pa 24, .pa 46, .pa 47, .pa 48, .pa 28, .pa 29, .pa 30, .pa 37, .pa 38, .pa 39, .pa 34, .pa 35, .pa 36], .ga 89 36] (.one (.ga 129 36)) [], .op2 false .rem (.pa 0) (.p (.lit (.int .i64 4))) 165, .op2 false .add (.pa 165) (.p (.lit (.int .i64 4))) 166, .op2 false .rem (.pa 166) (.p (.lit (.int .i64 4))) 167, .op2 false .lss (.p (.lit (.int .i64 2))) (.pa 167) 168, .isB 168 false] ⟨rfl, fun b t l h => by simp at h⟩ Tryz.func31 (by kernel_rfl) rfl rfl (by kernel_rfl)
    ⟨fun γ w' _ _ => by have h := u7Same  w'; exact h,
     fun γ w' _ _ => by have h := u7num_0 w'; exact h,
     fun γ w' _ _ => by have h := u7num_0 w'; exact h,
     fun γ w' _ _ => by have h := u7num_1 w'; exact h,
     fun γ w' _ _ => by have h := u7num_m1 w'; exact h,
     fun γ w' _ _ => by have h := u7Same  w'; exact h,
     rem4 _,
     congrArg (fun z => some (Value.int .i64 z)) (by have := tmod_bd x1; rw [IntKind.wrap_i64]; omega : IntKind.wrap .i64 ((Int.tmod x1 4) + (4 : Int)) = (Int.tmod x1 4 + 4)),
     (rem4 _).trans (congrArg (fun z => some (Value.int .i64 z)) hn),
     congrArg (fun z => some (Value.bool z)) (by decide : decide ((0 : Int) < (2 : Int)) = true),
     rfl,
     fun γ w' _ _ => by have h := u7After (x0 := oneM 1) (x1 := rotM 1 0) (IsM.mk (IsQ.up (IsQ.can f2) (by decide : 1 ≤ 1)) (IsQ.up (IsQ.can f5) (by decide : 1 ≤ 1)) (IsQ.up (IsQ.can f3) (by decide : 1 ≤ 1)) (IsQ.up (IsQ.can f6) (by decide : 1 ≤ 1)) (IsQ.up (IsQ.can f7) (by decide : 1 ≤ 1)) (IsQ.up (IsQ.can f8) (by decide : 1 ≤ 1)) (IsQ.up (IsQ.can f9) (by decide : 1 ≤ 1)) (IsQ.up (IsQ.can f10) (by decide : 1 ≤ 1)) (IsQ.up (IsQ.can f4) (by decide : 1 ≤ 1)) (IsQ.up (IsQ.can f11) (by decide : 1 ≤ 1)) (IsQ.up (IsQ.can f2) (by decide : 1 ≤ 1)) (IsQ.up (IsQ.can f12) (by decide : 1 ≤ 1))) (by decide) (IsM.can f1) (by decide) w'; exact h,
     rem4 _,
     congrArg (fun z => some (Value.int .i64 z)) (by have := tmod_bd x1; rw [IntKind.wrap_i64]; omega : IntKind.wrap .i64 ((Int.tmod x1 4) + (4 : Int)) = (Int.tmod x1 4 + 4)),
     (rem4 _).trans (congrArg (fun z => some (Value.int .i64 z)) hn),
     congrArg (fun z => some (Value.bool z)) (by decide : decide ((1 : Int) < (2 : Int)) = true),
     rfl,
     fun γ w' _ _ => by have h := u7After (x0 := oneM 1) (x1 := rotM 1 1) (IsM.mk (IsQ.up (IsQ.can f2) (by decide : 1 ≤ 1)) (IsQ.up (IsQ.can f5) (by decide : 1 ≤ 1)) (IsQ.up (IsQ.can f3) (by decide : 1 ≤ 1)) (IsQ.up (IsQ.can f6) (by decide : 1 ≤ 1)) (IsQ.up (IsQ.can f7) (by decide : 1 ≤ 1)) (IsQ.up (IsQ.can f8) (by decide : 1 ≤ 1)) (IsQ.up (IsQ.can f9) (by decide : 1 ≤ 1)) (IsQ.up (IsQ.can f10) (by decide : 1 ≤ 1)) (IsQ.up (IsQ.can f4) (by decide : 1 ≤ 1)) (IsQ.up (IsQ.can f11) (by decide : 1 ≤ 1)) (IsQ.up (IsQ.can f2) (by decide : 1 ≤ 1)) (IsQ.up (IsQ.can f12) (by decide : 1 ≤ 1))) (by decide) (IsM.can f13) (by decide) w'; exact h,
     rem4 _,
     congrArg (fun z => some (Value.int .i64 z)) (by have := tmod_bd x1; rw [IntKind.wrap_i64]; omega : IntKind.wrap .i64 ((Int.tmod x1 4) + (4 : Int)) = (Int.tmod x1 4 + 4)),
     (rem4 _).trans (congrArg (fun z => some (Value.int .i64 z)) hn),
     congrArg (fun z => some (Value.bool z)) (by decide : decide ((2 : Int) < (2 : Int)) = false),
     rfl⟩
  exact H
set_option maxRecDepth 100000 in
theorem u7Turn_13 (x1 : Int) (w : World) (hn : Int.tmod (Int.tmod x1 4 + 4) 4 = 3) :
    Calls Tryz.prog 31 #[.int .i64 1, .int .i64 x1] w fun e w' => e = .returned (.tuple #[MV (rotM 1 3), .bool true]) ∧ Below w.heap.size w w' := by
  have f1 : Mk idM 1 := Mk.up (Mk.idM) (by decide)
  have f2 : Rk (0 : Rat) 1 := Rk.up ((⟨by decide +kernel, by decide +kernel⟩ : Rk (0 : Rat) 1)) (by decide)
  have f3 : Rk (1 : Rat) 1 := Rk.up ((⟨by decide +kernel, by decide +kernel⟩ : Rk (1 : Rat) 1)) (by decide)
  have f4 : Rk (-1 : Rat) 1 := Rk.up ((⟨by decide +kernel, by decide +kernel⟩ : Rk (-1 : Rat) 1)) (by decide)
  have f5 : Rk idM.x.b 1 := Rk.up (f1.1.2.1) (by decide)
  have f6 : Rk idM.x.d 1 := Rk.up (f1.1.2.2.2) (by decide)
  have f7 : Rk idM.y.a 1 := Rk.up (f1.2.1.1) (by decide)
  have f8 : Rk idM.y.b 1 := Rk.up (f1.2.1.2.1) (by decide)
  have f9 : Rk idM.y.c 1 := Rk.up (f1.2.1.2.2.1) (by decide)
  have f10 : Rk idM.y.d 1 := Rk.up (f1.2.1.2.2.2) (by decide)
  have f11 : Rk idM.z.b 1 := Rk.up (f1.2.2.2.1) (by decide)
  have f12 : Rk idM.z.d 1 := Rk.up (f1.2.2.2.2.2) (by decide)
  have f13 : Mk (rotM 1 1) 1 := Mk.up ((Mk.rot (a := 1) (n := 1) (by decide) (by decide))) (by decide)
  have f14 : Mk (rotM 1 2) 1 := Mk.up ((Mk.rot (a := 1) (n := 2) (by decide) (by decide))) (by decide)
  have f15 : Mk (rotM 1 3) 1 := Mk.up ((Mk.rot (a := 1) (n := 3) (by decide) (by decide))) (by decide)
  have H := SX.runX (w := w) (List.flatten [[.int .i64 x1], mc idM, [.bool (sg (0 : Rat).num), .string (mg (0 : Rat).num), .string (dm (0 : Rat).den), .bool (sg (0 : Rat).num), .string (mg (0 : Rat).num), .string (dm (0 : Rat).den)], qc (1 : Rat), qc (-1 : Rat), mc idM, [.int .i64 (Int.tmod x1 4), .int .i64 (Int.tmod x1 4 + 4), .int .i64 3, .bool true], mc (rotM 1 1), [.int .i64 (Int.tmod x1 4), .int .i64 (Int.tmod x1 4 + 4), .int .i64 3, .bool true], mc (rotM 1 2), [.int .i64 (Int.tmod x1 4), .int .i64 (Int.tmod x1 4 + 4), .int .i64 3, .bool true], mc (rotM 1 3), [.int .i64 (Int.tmod x1 4), .int .i64 (Int.tmod x1 4 + 4), .int .i64 3, .bool false]]) [] [] [.c (.p (.lit (.int .i64 (1)))), .c (.p (.at 0))] 1 [.b true, .b true, .b true, .b false] (.tup [.ga 169 36, .c (.p (.lit (.bool true)))]) (.call 23 [] (.one (.ga 1 36)) [] :: .call 65 [.c (.p (.lit (.int .i64 0)))] (.one (.ga 37 3)) [] :: .call 65 [.c (.p (.lit (.int .i64 0)))] (.one (.ga 40 3)) [] :: .call 65 [.c (.p (.lit (.int .i64 1)))] (.one (.ga 43 3)) [] :: .call 65 [.c (.p (.lit (.int .i64 (-1))))] (.one (.ga 46 3)) [] :: .call 23 [] (.one (.ga 49 36)) [] :: .op2 false .rem (.pa 0) (.p (.lit (.int .i64 4))) 85 :: .op2 false .add (.pa 85) (.p (.lit (.int .i64 4))) 86 :: .op2 false .rem (.pa 86) (.p (.lit (.int .i64 4))) 87 :: .op2 false .lss (.p (.lit (.int .i64 0))) (.pa 87) 88 :: .isB 88 true :: .call 21 [.agg [.pa 40, .pa 41, .pa 42, .pa 4, .pa 5, .pa 6, .pa 43, .pa 44, .pa 45, .pa 10, .pa 11, .pa 12, .pa 13, .pa 14, .pa 15, .pa 16, .pa 17, .pa 18, .pa 19, .pa 20, .pa 21, .pa 22, .pa 23, .pa 24, .pa 46, .pa 47, .pa 48, .pa 28, .pa 29, .pa 30, .pa 37, .pa 38, .pa 39, .pa 34, .pa 35, .pa 36], .ga 49 36] (.one (.ga 89 36)) [] :: .op2 false .rem (.pa 0) (.p (.lit (.int .i64 4))) 125 :: .op2 false .add (.pa 125) (.p (.lit (.int .i64 4))) 126 :: .op2 false .rem (.pa 126) (.p (.lit (.int .i64 4))) 127 :: .op2 false .lss (.p (.lit (.int .i64 1))) (.pa 127) 128 :: .isB 128 true :: .call 21 [.agg [.pa 40, .pa 41, .pa 42, .pa 4, .pa 5, .pa 6, .pa 43, .pa 44, .pa 45, .pa 10, .pa 11, .pa 12, .pa 13, .pa 14, .pa 15, .pa 16, .pa 17, .pa 18, .pa 19, .pa 20, .pa 21, .pa 22, .pa 23, .pa 24, .pa 46, .pa 47, .pa 48, .pa 28, .pa 29, .pa 30, .pa 37, .pa 38, .pa 39, .pa 34, .pa 35, .pa 36], .ga 89 36] (.one (.ga 129 36)) [] :: .op2 false .rem (.pa 0) (.p (.lit (.int .i64 4))) 165 :: .op2 false .add (.pa 165) (.p (.lit (.int .i64 4))) 166 :: .op2 false .rem (.pa 166) (.p (.lit (.int .i64 4))) 167 :: .op2 false .lss (.p (.lit (.int .i64 2))) (.pa 167) 168 :: .isB 168 true :: .call 21 [.agg [.pa 40, .pa 41, .pa 42, .pa 4, .pa 5, .pa 6, .pa 43, .pa 44, .pa 45, .pa 10, .pa 11, .pa 12, .pa 13, .pa 14, .pa 15, .pa 16, .pa 17, .pa 18, .pa 19, .pa 20, .pa 21, .pa 22, .pa 23, .pa 24, .pa 46, .pa 47, .pa 48, .pa 28, .pa 29, .pa 30, .pa 37, .pa 38, .pa 39, .pa 34, .pa 35, .pa 36], .ga 129 36] (.one (.ga 169 36)) [] :: .op2 false .rem (.pa 0) (.p (.lit (.int .i64 4))) 205 :: .op2 false .add (.pa 205) (.p (.lit (.int .i64 4))) 206 :: .op2 false .rem (.pa 206) (.p (.lit (.int .i64 4))) 207 :: .op2 false .lss (.p (.lit (.int .i64 3))) (.pa 207) 208 :: .isB 208 false :: []) ⟨rfl, fun b t l h => by simp at h⟩ Tryz.func31 (by kernel_rfl) rfl rfl (by kernel_rfl)
    ⟨fun γ w' _ _ => by have h := u7Same  w'; exact h,
     fun γ w' _ _ => by have h := u7num_0 w'; exact h,
     fun γ w' _ _ => by have h := u7num_0 w'; exact h,
     fun γ w' _ _ => by have h := u7num_1 w'; exact h,
     fun γ w' _ _ => by have h := u7num_m1 w'; exact h,
     fun γ w' _ _ => by have h := u7Same  w'; exact h,
     rem4 _,
     congrArg (fun z => some (Value.int .i64 z)) (by have := tmod_bd x1; rw [IntKind.wrap_i64]; omega : IntKind.wrap .i64 ((Int.tmod x1 4) + (4 : Int)) = (Int.tmod x1 4 + 4)),
     (rem4 _).trans (congrArg (fun z => some (Value.int .i64 z)) hn),
     congrArg (fun z => some (Value.bool z)) (by decide : decide ((0 : Int) < (3 : Int)) = true),
     rfl,
     fun γ w' _ _ => by have h := u7After (x0 := oneM 1) (x1 := rotM 1 0) (IsM.mk (IsQ.up (IsQ.can f2) (by decide : 1 ≤ 1)) (IsQ.up (IsQ.can f5) (by decide : 1 ≤ 1)) (IsQ.up (IsQ.can f3) (by decide : 1 ≤ 1)) (IsQ.up (IsQ.can f6) (by decide : 1 ≤ 1)) (IsQ.up (IsQ.can f7) (by decide : 1 ≤ 1)) (IsQ.up (IsQ.can f8) (by decide : 1 ≤ 1)) (IsQ.up (IsQ.can f9) (by decide : 1 ≤ 1)) (IsQ.up (IsQ.can f10) (by decide : 1 ≤ 1)) (IsQ.up (IsQ.can f4) (by decide : 1 ≤ 1)) (IsQ.up (IsQ.can f11) (by decide : 1 ≤ 1)) (IsQ.up (IsQ.can f2) (by decide : 1 ≤ 1)) (IsQ.up (IsQ.can f12) (by decide : 1 ≤ 1))) (by decide) (IsM.can f1) (by decide) w'; exact h,
     rem4 _,
     congrArg (fun z => some (Value.int .i64 z)) (by have := tmod_bd x1; rw [IntKind.wrap_i64]; omega : IntKind.wrap .i64 ((Int.tmod x1 4) + (4 : Int)) = (Int.tmod x1 4 + 4)),
     (rem4 _).trans (congrArg (fun z => some (Value.int .i64 z)) hn),
     congrArg (fun z => some (Value.bool z)) (by decide : decide ((1 : Int) < (3 : Int)) = true),
     rfl,
     fun γ w' _ _ => by have h := u7After (x0 := oneM 1) (x1 := rotM 1 1) (IsM.mk (IsQ.up (IsQ.can f2) (by decide : 1 ≤ 1)) (IsQ.up (IsQ.can f5) (by decide : 1 ≤ 1)) (IsQ.up (IsQ.can f3) (by decide : 1 ≤ 1)) (IsQ.up (IsQ.can f6) (by decide : 1 ≤ 1)) (IsQ.up (IsQ.can f7) (by decide : 1 ≤ 1)) (IsQ.up (IsQ.can f8) (by decide : 1 ≤ 1)) (IsQ.up (IsQ.can f9) (by decide : 1 ≤ 1)) (IsQ.up (IsQ.can f10) (by decide : 1 ≤ 1)) (IsQ.up (IsQ.can f4) (by decide : 1 ≤ 1)) (IsQ.up (IsQ.can f11) (by decide : 1 ≤ 1)) (IsQ.up (IsQ.can f2) (by decide : 1 ≤ 1)) (IsQ.up (IsQ.can f12) (by decide : 1 ≤ 1))) (by decide) (IsM.can f13) (by decide) w'; exact h,
     rem4 _,
     congrArg (fun z => some (Value.int .i64 z)) (by have := tmod_bd x1; rw [IntKind.wrap_i64]; omega : IntKind.wrap .i64 ((Int.tmod x1 4) + (4 : Int)) = (Int.tmod x1 4 + 4)),
     (rem4 _).trans (congrArg (fun z => some (Value.int .i64 z)) hn),
     congrArg (fun z => some (Value.bool z)) (by decide : decide ((2 : Int) < (3 : Int)) = true),
     rfl,
     fun γ w' _ _ => by have h := u7After (x0 := oneM 1) (x1 := rotM 1 2) (IsM.mk (IsQ.up (IsQ.can f2) (by decide : 1 ≤ 1)) (IsQ.up (IsQ.can f5) (by decide : 1 ≤ 1)) (IsQ.up (IsQ.can f3) (by decide : 1 ≤ 1)) (IsQ.up (IsQ.can f6) (by decide : 1 ≤ 1)) (IsQ.up (IsQ.can f7) (by decide : 1 ≤ 1)) (IsQ.up (IsQ.can f8) (by decide : 1 ≤ 1)) (IsQ.up (IsQ.can f9) (by decide : 1 ≤ 1)) (IsQ.up (IsQ.can f10) (by decide : 1 ≤ 1)) (IsQ.up (IsQ.can f4) (by decide : 1 ≤ 1)) (IsQ.up (IsQ.can f11) (by decide : 1 ≤ 1)) (IsQ.up (IsQ.can f2) (by decide : 1 ≤ 1)) (IsQ.up (IsQ.can f12) (by decide : 1 ≤ 1))) (by decide) (IsM.can f14) (by decide) w'; exact h,
     rem4 _,
     congrArg (fun z => some (Value.int .i64 z)) (by have := tmod_bd x1; rw [IntKind.wrap_i64]; omega : IntKind.wrap .i64 ((Int.tmod x1 4) + (4 : Int)) = (Int.tmod x1 4 + 4)),
     (rem4 _).trans (congrArg (fun z => some (Value.int .i64 z)) hn),
     congrArg (fun z => some (Value.bool z)) (by decide : decide ((3 : Int) < (3 : Int)) = false),
     rfl⟩
  exact H
theorem u7Turn_20 (x1 : Int) (w : World) (hn : Int.tmod (Int.tmod x1 4 + 4) 4 = 0) :
    Calls Tryz.prog 31 #[.int .i64 2, .int .i64 x1] w fun e w' => e = .returned (.tuple #[MV (rotM 2 0), .bool true]) ∧ Below w.heap.size w w' := by
  have f1 : Mk idM 1 := Mk.up (Mk.idM) (by decide)
  have f2 : Rk (0 : Rat) 1 := Rk.up ((⟨by decide +kernel, by decide +kernel⟩ : Rk (0 : Rat) 1)) (by decide)
  have f3 : Rk (1 : Rat) 1 := Rk.up ((⟨by decide +kernel, by decide +kernel⟩ : Rk (1 : Rat) 1)) (by decide)
  have f4 : Rk (-1 : Rat) 1 := Rk.up ((⟨by decide +kernel, by decide +kernel⟩ : Rk (-1 : Rat) 1)) (by decide)
  have H := SX.runX (w := w) (List.flatten [[.int .i64 x1], mc idM, [.bool (sg (0 : Rat).num), .string (mg (0 : Rat).num), .string (dm (0 : Rat).den), .bool (sg (0 : Rat).num), .string (mg (0 : Rat).num), .string (dm (0 : Rat).den)], qc (1 : Rat), qc (-1 : Rat), mc idM, [.int .i64 (Int.tmod x1 4), .int .i64 (Int.tmod x1 4 + 4), .int .i64 0, .bool false]]) [] [] [.c (.p (.lit (.int .i64 (2)))), .c (.p (.at 0))] 1 [.b false] (.tup [.ga 49 36, .c (.p (.lit (.bool true)))]) [.call 23 [] (.one (.ga 1 36)) [], .call 65 [.c (.p (.lit (.int .i64 0)))] (.one (.ga 37 3)) [], .call 65 [.c (.p (.lit (.int .i64 0)))] (.one (.ga 40 3)) [], .call 65 [.c (.p (.lit (.int .i64 1)))] (.one (.ga 43 3)) [], .call 65 [.c (.p (.lit (.int .i64 (-1))))] (.one (.ga 46 3)) [], .call 23 [] (.one (.ga 49 36)) [], .op2 false .rem (.pa 0) (.p (.lit (.int .i64 4))) 85, .op2 false .add (.pa 85) (.p (.lit (.int .i64 4))) 86, .op2 false .rem (.pa 86) (.p (.lit (.int .i64 4))) 87, .op2 false .lss (.p (.lit (.int .i64 0))) (.pa 87) 88, .isB 88 false] ⟨rfl, fun b t l h => by simp at h⟩ Tryz.func31 (by kernel_rfl) rfl rfl (by kernel_rfl)
    ⟨fun γ w' _ _ => by have h := u7Same  w'; exact h,
     fun γ w' _ _ => by have h := u7num_0 w'; exact h,
     fun γ w' _ _ => by have h := u7num_0 w'; exact h,
     fun γ w' _ _ => by have h := u7num_1 w'; exact h,
     fun γ w' _ _ => by have h := u7num_m1 w'; exact h,
     fun γ w' _ _ => by have h := u7Same  w'; exact h,
     rem4 _,
     congrArg (fun z => some (Value.int .i64 z)) (by have := tmod_bd x1; rw [IntKind.wrap_i64]; omega : IntKind.wrap .i64 ((Int.tmod x1 4) + (4 : Int)) = (Int.tmod x1 4 + 4)),
     (rem4 _).trans (congrArg (fun z => some (Value.int .i64 z)) hn),
     congrArg (fun z => some (Value.bool z)) (by decide : decide ((0 : Int) < (0 : Int)) = false),
     rfl⟩
  exact H
theorem u7Turn_21 (x1 : Int) (w : World) (hn : Int.tmod (Int.tmod x1 4 + 4) 4 = 1) :
    Calls Tryz.prog 31 #[.int .i64 2, .int .i64 x1] w fun e w' => e = .returned (.tuple #[MV (rotM 2 1), .bool true]) ∧ Below w.heap.size w w' := by
  have f1 : Mk idM 1 := Mk.up (Mk.idM) (by decide)
  have f2 : Rk (0 : Rat) 1 := Rk.up ((⟨by decide +kernel, by decide +kernel⟩ : Rk (0 : Rat) 1)) (by decide)
  have f3 : Rk (1 : Rat) 1 := Rk.up ((⟨by decide +kernel, by decide +kernel⟩ : Rk (1 : Rat) 1)) (by decide)
  have f4 : Rk (-1 : Rat) 1 := Rk.up ((⟨by decide +kernel, by decide +kernel⟩ : Rk (-1 : Rat) 1)) (by decide)
  have f5 : Rk idM.x.c 1 := Rk.up (f1.1.2.2.1) (by decide)
  have f6 : Rk idM.x.d 1 := Rk.up (f1.1.2.2.2) (by decide)
  have f7 : Rk idM.y.c 1 := Rk.up (f1.2.1.2.2.1) (by decide)
  have f8 : Rk idM.y.d 1 := Rk.up (f1.2.1.2.2.2) (by decide)
  have f9 : Rk idM.z.a 1 := Rk.up (f1.2.2.1) (by decide)
  have f10 : Rk idM.z.b 1 := Rk.up (f1.2.2.2.1) (by decide)
  have f11 : Rk idM.z.c 1 := Rk.up (f1.2.2.2.2.1) (by decide)
  have f12 : Rk idM.z.d 1 := Rk.up (f1.2.2.2.2.2) (by decide)
  have f13 : Mk (rotM 2 1) 1 := Mk.up ((Mk.rot (a := 2) (n := 1) (by decide) (by decide))) (by decide)
  have H := SX.runX (w := w) (List.flatten [[.int .i64 x1], mc idM, [.bool (sg (0 : Rat).num), .string (mg (0 : Rat).num), .string (dm (0 : Rat).den), .bool (sg (0 : Rat).num), .string (mg (0 : Rat).num), .string (dm (0 : Rat).den)], qc (1 : Rat), qc (-1 : Rat), mc idM, [.int .i64 (Int.tmod x1 4), .int .i64 (Int.tmod x1 4 + 4), .int .i64 1, .bool true], mc (rotM 2 1), [.int .i64 (Int.tmod x1 4), .int .i64 (Int.tmod x1 4 + 4), .int .i64 1, .bool false]]) [] [] [.c (.p (.lit (.int .i64 (2)))), .c (.p (.at 0))] 1 [.b true, .b false] (.tup [.ga 89 36, .c (.p (.lit (.bool true)))]) [.call 23 [] (.one (.ga 1 36)) [], .call 65 [.c (.p (.lit (.int .i64 0)))] (.one (.ga 37 3)) [], .call 65 [.c (.p (.lit (.int .i64 0)))] (.one (.ga 40 3)) [], .call 65 [.c (.p (.lit (.int .i64 1)))] (.one (.ga 43 3)) [], .call 65 [.c (.p (.lit (.int .i64 (-1))))] (.one (.ga 46 3)) [], .call 23 [] (.one (.ga 49 36)) [], .op2 false .rem (.pa 0) (.p (.lit (.int .i64 4))) 85, .op2 false .add (.pa 85) (.p (.lit (.int .i64 4))) 86, .op2 false .rem (.pa 86) (.p (.lit (.int .i64 4))) 87, .op2 false .lss (.p (.lit (.int .i64 0))) (.pa 87) 88, .isB 88 true, .call 21 [.agg [.pa 37, .pa 38, .pa 39, .pa 46, .pa 47, .pa 48, .pa 7, .pa 8, .pa 9, .pa 10, .pa 11, .pa 12, .pa 43, .pa 44, .pa 45, .pa 40, .pa 41, .pa 42, .pa 19, .pa 20, .pa 21, .pa 22, .pa 23, .pa 24, .pa 25, .pa 26, .pa 27, .pa 28, .pa 29, .pa 30, .pa 31, .pa 32, .pa 33, .pa 34, .pa 35, .pa 36], .ga 49 36] (.one (.ga 89 36)) [], .op2 false .rem (.pa 0) (.p (.lit (.int .i64 4))) 125, .op2 false .add (.pa 125) (.p (.lit (.int .i64 4))) 126, .op2 false .rem (.pa 126) (.p (.lit (.int .i64 4))) 127, .op2 false .lss (.p (.lit (.int .i64 1))) (.pa 127) 128, .isB 128 false] ⟨rfl, fun b t l h => by simp at h⟩ Tryz.func31 (by kernel_rfl) rfl rfl (by kernel_rfl)
    ⟨fun γ w' _ _ => by have h := u7Same  w'; exact h,
     fun γ w' _ _ => by have h := u7num_0 w'; exact h,
     fun γ w' _ _ => by have h := u7num_0 w'; exact h,
     fun γ w' _ _ => by have h := u7num_1 w'; exact h,
     fun γ w' _ _ => by have h := u7num_m1 w'; exact h,
     fun γ w' _ _ => by have h := u7Same  w'; exact h,
     rem4 _,
     congrArg (fun z => some (Value.int .i64 z)) (by have := tmod_bd x1; rw [IntKind.wrap_i64]; omega : IntKind.wrap .i64 ((Int.tmod x1 4) + (4 : Int)) = (Int.tmod x1 4 + 4)),
     (rem4 _).trans (congrArg (fun z => some (Value.int .i64 z)) hn),
     congrArg (fun z => some (Value.bool z)) (by decide : decide ((0 : Int) < (1 : Int)) = true),
     rfl,
     fun γ w' _ _ => by have h := u7After (x0 := oneM 2) (x1 := rotM 2 0) (IsM.mk (IsQ.up (IsQ.can f2) (by decide : 1 ≤ 1)) (IsQ.up (IsQ.can f4) (by decide : 1 ≤ 1)) (IsQ.up (IsQ.can f5) (by decide : 1 ≤ 1)) (IsQ.up (IsQ.can f6) (by decide : 1 ≤ 1)) (IsQ.up (IsQ.can f3) (by decide : 1 ≤ 1)) (IsQ.up (IsQ.can f2) (by decide : 1 ≤ 1)) (IsQ.up (IsQ.can f7) (by decide : 1 ≤ 1)) (IsQ.up (IsQ.can f8) (by decide : 1 ≤ 1)) (IsQ.up (IsQ.can f9) (by decide : 1 ≤ 1)) (IsQ.up (IsQ.can f10) (by decide : 1 ≤ 1)) (IsQ.up (IsQ.can f11) (by decide : 1 ≤ 1)) (IsQ.up (IsQ.can f12) (by decide : 1 ≤ 1))) (by decide) (IsM.can f1) (by decide) w'; exact h,
     rem4 _,
     congrArg (fun z => some (Value.int .i64 z)) (by have := tmod_bd x1; rw [IntKind.wrap_i64]; omega : IntKind.wrap .i64 ((Int.tmod x1 4) + (4 : Int)) = (Int.tmod x1 4 + 4)),
     (rem4 _).trans (congrArg (fun z => some (Value.int .i64 z)) hn),
     congrArg (fun z => some (Value.bool z)) (by decide : decide ((1 : Int) < (1 : Int)) = false),
     rfl⟩
  exact H
set_option maxRecDepth 100000 in
theorem u7Turn_22 (x1 : Int) (w : World) (hn : Int.tmod (Int.tmod x1 4 + 4) 4 = 2) :
    Calls Tryz.prog 31 #[.int .i64 2, .int .i64 x1] w fun e w' => e = .returned (.tuple #[MV (rotM 2 2), .bool true]) ∧ Below w.heap.size w w' := by
  have f1 : Mk idM 1 := Mk.up (Mk.idM) (by decide)
  have f2 : Rk (0 : Rat) 1 := Rk.up ((⟨by decide +kernel, by decide +kernel⟩ : Rk (0 : Rat) 1)) (by decide)
  have f3 : Rk (1 : Rat) 1 := Rk.up ((⟨by decide +kernel, by decide +kernel⟩ : Rk (1 : Rat) 1)) (by decide)
  have f4 : Rk (-1 : Rat) 1 := Rk.up ((⟨by decide +kernel, by decide +kernel⟩ : Rk (-1 : Rat) 1)) (by decide)
  have f5 : Rk idM.x.c 1 := Rk.up (f1.1.2.2.1) (by decide)
  have f6 : Rk idM.x.d 1 := Rk.up (f1.1.2.2.2) (by decide)
  have f7 : Rk idM.y.c 1 := Rk.up (f1.2.1.2.2.1) (by decide)
  have f8 : Rk idM.y.d 1 := Rk.up (f1.2.1.2.2.2) (by decide)
  have f9 : Rk idM.z.a 1 := Rk.up (f1.2.2.1) (by decide)
  have f10 : Rk idM.z.b 1 := Rk.up (f1.2.2.2.1) (by decide)
  have f11 : Rk idM.z.c 1 := Rk.up (f1.2.2.2.2.1) (by decide)
  have f12 : Rk idM.z.d 1 := Rk.up (f1.2.2.2.2.2) (by decide)
  have f13 : Mk (rotM 2 1) 1 := Mk.up ((Mk.rot (a := 2) (n := 1) (by decide) (by decide))) (by decide)
  have f14 : Mk (rotM 2 2) 1 := Mk.up ((Mk.rot (a := 2) (n := 2) (by decide) (by decide))) (by decide)
  have H := SX.runX (w := w) (List.flatten [[.int .i64 x1], mc idM, [.bool (sg (0 : Rat).num), .string (mg (0 : Rat).num), .string (dm (0 : Rat).den), .bool (sg (0 : Rat).num), .string (mg (0 : Rat).num), .string (dm (0 : Rat).den)], qc (1 : Rat), qc (-1 : Rat), mc idM, [.int .i64 (Int.tmod x1 4), .int .i64 (Int.tmod x1 4 + 4), .int .i64 2, .bool true], mc (rotM 2 1), [.int .i64 (Int.tmod x1 4), .int .i64 (Int.tmod x1 4 + 4), .int .i64 2, .bool true], mc (rotM 2 2), [.int .i64 (Int.tmod x1 4), .int .i64 (Int.tmod x1 4 + 4), .int .i64 2, .bool false]]) [] [] [.c (.p (.lit (.int .i64 (2)))), .c (.p (.at 0))] 1 [.b true, .b true, .b false] (.tup [.ga 129 36, .c (.p (.lit (.bool true)))]) [.call 23 [] (.one (.ga 1 36)) [], .call 65 [.c (.p (.lit (.int .i64 0)))] (.one (.ga 37 3)) [], .call 65 [.c (.p (.lit (.int .i64 0)))] (.one (.ga 40 3)) [], .call 65 [.c (.p (.lit (.int .i64 1)))] (.one (.ga 43 3)) [], .call 65 [.c (.p (.lit (.int .i64 (-1))))] (.one (.ga 46 3)) [], .call 23 [] (.one (.ga 49 36)) [], .op2 false .rem (.pa 0) (.p (.lit (.int .i64 4))) 85, .op2 false .add (.pa 85) (.p (.lit (.int .i64 4))) 86, .op2 false .rem (.pa 86) (.p (.lit (.int .i64 4))) 87, .op2 false .lss (.p (.lit (.int .i64 0))) (.pa 87) 88, .isB 88 true, .call 21 [.agg [.pa 37, .pa 38, .pa 39, .pa 46, .pa 47, .pa 48, .pa 7, .pa 8, .pa 9, .pa 10, .pa 11, .pa 12, .pa 43, .pa 44, .pa 45, .pa 40, .pa 41, .pa 42, .pa 19, .pa 20, .pa 21, .pa 22, .pa 23, .pa 24, .pa 25, .pa 26, .pa 27, .pa 28, .pa 29, .pa 30, .pa 31, .pa 32, .pa 33, .pa 34, .pa 35, .pa 36], .ga 49 36] (.one (.ga 89 36)) [], .op2 false .rem (.pa 0) (.p (.lit (.int .i64 4))) 125, .op2 false .add (.pa 125) (.p (.lit (.int .i64 4))) 126, .op2 false .rem (.pa 126) (.p (.lit (.int .i64 4))) 127, .op2 false .lss (.p (.lit (.int .i64 1))) (.pa 127) 128, .isB 128 true, .call 21 [.agg [.pa 37, .pa 38, .pa 39, .pa 46, .pa 47, .pa 48, .pa 7, .pa 8, .pa 9, .pa 10, .pa 11, .pa 12, .pa 43, .pa 44, .pa 45, .pa 40, .pa 41, .pa 42, .pa 19, .pa 20, .pa 21, .pa 22, .pa 23, .pa 24, .pa 25, .pa 26, .pa 27, .pa 28, .pa 29, .pa 30, .pa 31, .pa 32, .pa 33, .pa 34, .pa 35, .pa 36], .ga 89 36] (.one (.ga 129 36)) [], .op2 false .rem (.pa 0) (.p (.lit (.int .i64 4))) 165, .op2 false .add (.pa 165) (.p (.lit (.int .i64 4))) 166, .op2 false .rem (.pa 166) (.p (.lit (.int .i64 4))) 167, .op2 false .lss (.p (.lit (.int .i64 2))) (.pa 167) 168, .isB 168 false] ⟨rfl, fun b t l h => by simp at h⟩ Tryz.func31 (by kernel_rfl) rfl rfl (by kernel_rfl)
    ⟨fun γ w' _ _ => by have h := u7Same  w'; exact h,
     fun γ w' _ _ => by have h := u7num_0 w'; exact h,
     fun γ w' _ _ => by have h := u7num_0 w'; exact h,
     fun γ w' _ _ => by have h := u7num_1 w'; exact h,
     fun γ w' _ _ => by have h := u7num_m1 w'; exact h,
     fun γ w' _ _ => by have h := u7Same  w'; exact h,
     rem4 _,
     congrArg (fun z => some (Value.int .i64 z)) (by have := tmod_bd x1; rw [IntKind.wrap_i64]; omega : IntKind.wrap .i64 ((Int.tmod x1 4) + (4 : Int)) = (Int.tmod x1 4 + 4)),
     (rem4 _).trans (congrArg (fun z => some (Value.int .i64 z)) hn),
     congrArg (fun z => some (Value.bool z)) (by decide : decide ((0 : Int) < (2 : Int)) = true),
     rfl,
     fun γ w' _ _ => by have h := u7After (x0 := oneM 2) (x1 := rotM 2 0) (IsM.mk (IsQ.up (IsQ.can f2) (by decide : 1 ≤ 1)) (IsQ.up (IsQ.can f4) (by decide : 1 ≤ 1)) (IsQ.up (IsQ.can f5) (by decide : 1 ≤ 1)) (IsQ.up (IsQ.can f6) (by decide : 1 ≤ 1)) (IsQ.up (IsQ.can f3) (by decide : 1 ≤ 1)) (IsQ.up (IsQ.can f2) (by decide : 1 ≤ 1)) (IsQ.up (IsQ.can f7) (by decide : 1 ≤ 1)) (IsQ.up (IsQ.can f8) (by decide : 1 ≤ 1)) (IsQ.up (IsQ.can f9) (by decide : 1 ≤ 1)) (IsQ.up (IsQ.can f10) (by decide : 1 ≤ 1)) (IsQ.up (IsQ.can f11) (by decide : 1 ≤ 1)) (IsQ.up (IsQ.can f12) (by decide : 1 ≤ 1))) (by decide) (IsM.can f1) (by decide) w'; exact h,
     rem4 _,
     congrArg (fun z => some (Value.int .i64 z)) (by have := tmod_bd x1; rw [IntKind.wrap_i64]; omega : IntKind.wrap .i64 ((Int.tmod x1 4) + (4 : Int)) = (Int.tmod x1 4 + 4)),
     (rem4 _).trans (congrArg (fun z => some (Value.int .i64 z)) hn),
     congrArg (fun z => some (Value.bool z)) (by decide : decide ((1 : Int) < (2 : Int)) = true),
     rfl,
     fun γ w' _ _ => by have h := u7After (x0 := oneM 2) (x1 := rotM 2 1) (IsM.mk (IsQ.up (IsQ.can f2) (by decide : 1 ≤ 1)) (IsQ.up (IsQ.can f4) (by decide : 1 ≤ 1)) (IsQ.up (IsQ.can f5) (by decide : 1 ≤ 1)) (IsQ.up (IsQ.can f6) (by decide : 1 ≤ 1)) (IsQ.up (IsQ.can f3) (by decide : 1 ≤ 1)) (IsQ.up (IsQ.can f2) (by decide : 1 ≤ 1)) (IsQ.up (IsQ.can f7) (by decide : 1 ≤ 1)) (IsQ.up (IsQ.can f8) (by decide : 1 ≤ 1)) (IsQ.up (IsQ.can f9) (by decide : 1 ≤ 1)) (IsQ.up (IsQ.can f10) (by decide : 1 ≤ 1)) (IsQ.up (IsQ.can f11) (by decide : 1 ≤ 1)) (IsQ.up (IsQ.can f12) (by decide : 1 ≤ 1))) (by decide) (IsM.can f13) (by decide) w'; exact h,
     rem4 _,
     congrArg (fun z => some (Value.int .i64 z)) (by have := tmod_bd x1; rw [IntKind.wrap_i64]; omega : IntKind.wrap .i64 ((Int.tmod x1 4) + (4 : Int)) = (Int.tmod x1 4 + 4)),
     (rem4 _).trans (congrArg (fun z => some (Value.int .i64 z)) hn),
     congrArg (fun z => some (Value.bool z)) (by decide : decide ((2 : Int) < (2 : Int)) = false),
     rfl⟩
  exact H
set_option maxRecDepth 100000 in
theorem u7Turn_23 (x1 : Int) (w : World) (hn : Int.tmod (Int.tmod x1 4 + 4) 4 = 3) :
    Calls Tryz.prog 31 #[.int .i64 2, .int .i64 x1] w fun e w' => e = .returned (.tuple #[MV (rotM 2 3), .bool true]) ∧ Below w.heap.size w w' := by
  have f1 : Mk idM 1 := Mk.up (Mk.idM) (by decide)
  have f2 : Rk (0 : Rat) 1 := Rk.up ((⟨by decide +kernel, by decide +kernel⟩ : Rk (0 : Rat) 1)) (by decide)
  have f3 : Rk (1 : Rat) 1 := Rk.up ((⟨by decide +kernel, by decide +kernel⟩ : Rk (1 : Rat) 1)) (by decide)
  have f4 : Rk (-1 : Rat) 1 := Rk.up ((⟨by decide +kernel, by decide +kernel⟩ : Rk (-1 : Rat) 1)) (by decide)
  have f5 : Rk idM.x.c 1 := Rk.up (f1.1.2.2.1) (by decide)
  have f6 : Rk idM.x.d 1 := Rk.up (f1.1.2.2.2) (by decide)
  have f7 : Rk idM.y.c 1 := Rk.up (f1.2.1.2.2.1) (by decide)
  have f8 : Rk idM.y.d 1 := Rk.up (f1.2.1.2.2.2) (by decide)
  have f9 : Rk idM.z.a 1 := Rk.up (f1.2.2.1) (by decide)
  have f10 : Rk idM.z.b 1 := Rk.up (f1.2.2.2.1) (by decide)
  have f11 : Rk idM.z.c 1 := Rk.up (f1.2.2.2.2.1) (by decide)
  have f12 : Rk idM.z.d 1 := Rk.up (f1.2.2.2.2.2) (by decide)
  have f13 : Mk (rotM 2 1) 1 := Mk.up ((Mk.rot (a := 2) (n := 1) (by decide) (by decide))) (by decide)
  have f14 : Mk (rotM 2 2) 1 := Mk.up ((Mk.rot (a := 2) (n := 2) (by decide) (by decide))) (by decide)
  have f15 : Mk (rotM 2 3) 1 := Mk.up ((Mk.rot (a := 2) (n := 3) (by decide) (by decide))) (by decide)
  have H := SX.runX (w := w) (List.flatten [[.int .i64 x1], mc idM, [.bool (sg (0 : Rat).num), .string (mg (0 : Rat).num), .string (dm (0 : Rat).den), .bool (sg (0 : Rat).num), .string (mg (0 : Rat).num), .string (dm (0 : Rat).den)], qc (1 : Rat), qc (-1 : Rat), mc idM, [.int .i64 (Int.tmod x1 4), .int .i64 (Int.tmod x1 4 + 4), .int .i64 3, .bool true], mc (rotM 2 1), [.int .i64 (Int.tmod x1 4), .int .i64 (Int.tmod x1 4 + 4), .int .i64 3, .bool true], mc (rotM 2 2), [.int .i64 (Int.tmod x1 4), .int .i64 (Int.tmod x1 4 + 4), .int .i64 3, .bool true], mc (rotM 2 3), [.int .i64 (Int.tmod x1 4), .int .i64 (Int.tmod x1 4 + 4), .int .i64 3, .bool false]]) [] [] [.c (.p (.lit (.int .i64 (2)))), .c (.p (.at 0))] 1 [.b true, .b true, .b true, .b false] (.tup [.ga 169 36, .c (.p (.lit (.bool true)))]) (.call 23 [] (.one (.ga 1 36)) [] :: .call 65 [.c (.p (.lit (.int .i64 0)))] (.one (.ga 37 3)) [] :: .call 65 [.c (.p (.lit (.int .i64 0)))] (.one (.ga 40 3)) [] :: .call 65 [.c (.p (.lit (.int .i64 1)))] (.one (.ga 43 3)) [] :: .call 65 [.c (.p (.lit (.int .i64 (-1))))] (.one (.ga 46 3)) [] :: .call 23 [] (.one (.ga 49 36)) [] :: .op2 false .rem (.pa 0) (.p (.lit (.int .i64 4))) 85 :: .op2 false .add (.pa 85) (.p (.lit (.int .i64 4))) 86 :: .op2 false .rem (.pa 86) (.p (.lit (.int .i64 4))) 87 :: .op2 false .lss (.p (.lit (.int .i64 0))) (.pa 87) 88 :: .isB 88 true :: .call 21 [.agg [.pa 37, .pa 38, .pa 39, .pa 46, .pa 47, .pa 48, .pa 7, .pa 8, .pa 9, .pa 10, .pa 11, .pa 12, .pa 43, .pa 44, .pa 45, .pa 40, .pa 41, .pa 42, .pa 19, .pa 20, .pa 21, .pa 22, .pa 23, .pa 24, .pa 25, .pa 26, .pa 27, .pa 28, .pa 29, .pa 30, .pa 31, .pa 32, .pa 33, .pa 34, .pa 35, .pa 36], .ga 49 36] (.one (.ga 89 36)) [] :: .op2 false .rem (.pa 0) (.p (.lit (.int .i64 4))) 125 :: .op2 false .add (.pa 125) (.p (.lit (.int .i64 4))) 126 :: .op2 false .rem (.pa 126) (.p (.lit (.int .i64 4))) 127 :: .op2 false .lss (.p (.lit (.int .i64 1))) (.pa 127) 128 :: .isB 128 true :: .call 21 [.agg [.pa 37, .pa 38, .pa 39, .pa 46, .pa 47, .pa 48, .pa 7, .pa 8, .pa 9, .pa 10, .pa 11, .pa 12, .pa 43, .pa 44, .pa 45, .pa 40, .pa 41, .pa 42, .pa 19, .pa 20, .pa 21, .pa 22, .pa 23, .pa 24, .pa 25, .pa 26, .pa 27, .pa 28, .pa 29, .pa 30, .pa 31, .pa 32, .pa 33, .pa 34, .pa 35, .pa 36], .ga 89 36] (.one (.ga 129 36)) [] :: .op2 false .rem (.pa 0) (.p (.lit (.int .i64 4))) 165 :: .op2 false .add (.pa 165) (.p (.lit (.int .i64 4))) 166 :: .op2 false .rem (.pa 166) (.p (.lit (.int .i64 4))) 167 :: .op2 false .lss (.p (.lit (.int .i64 2))) (.pa 167) 168 :: .isB 168 true :: .call 21 [.agg [.pa 37, .pa 38, .pa 39, .pa 46, .pa 47, .pa 48, .pa 7, .pa 8, .pa 9, .pa 10, .pa 11, .pa 12, .pa 43, .pa 44, .pa 45, .pa 40, .pa 41, .pa 42, .pa 19, .pa 20, .pa 21, .pa 22, .pa 23, .pa 24, .pa 25, .pa 26, .pa 27, .pa 28, .pa 29, .pa 30, .pa 31, .pa 32, .pa 33, .pa 34, .pa 35, .pa 36], .ga 129 36] (.one (.ga 169 36)) [] :: .op2 false .rem (.pa 0) (.p (.lit (.int .i64 4))) 205 :: .op2 false .add (.pa 205) (.p (.lit (.int .i64 4))) 206 :: .op2 false .rem (.pa 206) (.p (.lit (.int .i64 4))) 207 :: .op2 false .lss (.p (.lit (.int .i64 3))) (.pa 207) 208 :: .isB 208 false :: []) ⟨rfl, fun b t l h => by simp at h⟩ Tryz.func31 (by kernel_rfl) rfl rfl (by kernel_rfl)
    ⟨fun γ w' _ _ => by have h := u7Same  w'; exact h,
     fun γ w' _ _ => by have h := u7num_0 w'; exact h,
     fun γ w' _ _ => by have h := u7num_0 w'; exact h,
     fun γ w' _ _ => by have h := u7num_1 w'; exact h,
     fun γ w' _ _ => by have h := u7num_m1 w'; exact h,
     fun γ w' _ _ => by have h := u7Same  w'; exact h,
     rem4 _,
     congrArg (fun z => some (Value.int .i64 z)) (by have := tmod_bd x1; rw [IntKind.wrap_i64]; omega : IntKind.wrap .i64 ((Int.tmod x1 4) + (4 : Int)) = (Int.tmod x1 4 + 4)),
     (rem4 _).trans (congrArg (fun z => some (Value.int .i64 z)) hn),
     congrArg (fun z => some (Value.bool z)) (by decide : decide ((0 : Int) < (3 : Int)) = true),
     rfl,
     fun γ w' _ _ => by have h := u7After (x0 := oneM 2) (x1 := rotM 2 0) (IsM.mk (IsQ.up (IsQ.can f2) (by decide : 1 ≤ 1)) (IsQ.up (IsQ.can f4) (by decide : 1 ≤ 1)) (IsQ.up (IsQ.can f5) (by decide : 1 ≤ 1)) (IsQ.up (IsQ.can f6) (by decide : 1 ≤ 1)) (IsQ.up (IsQ.can f3) (by decide : 1 ≤ 1)) (IsQ.up (IsQ.can f2) (by decide : 1 ≤ 1)) (IsQ.up (IsQ.can f7) (by decide : 1 ≤ 1)) (IsQ.up (IsQ.can f8) (by decide : 1 ≤ 1)) (IsQ.up (IsQ.can f9) (by decide : 1 ≤ 1)) (IsQ.up (IsQ.can f10) (by decide : 1 ≤ 1)) (IsQ.up (IsQ.can f11) (by decide : 1 ≤ 1)) (IsQ.up (IsQ.can f12) (by decide : 1 ≤ 1))) (by decide) (IsM.can f1) (by decide) w'; exact h,
     rem4 _,
     congrArg (fun z => some (Value.int .i64 z)) (by have := tmod_bd x1; rw [IntKind.wrap_i64]; omega : IntKind.wrap .i64 ((Int.tmod x1 4) + (4 : Int)) = (Int.tmod x1 4 + 4)),
     (rem4 _).trans (congrArg (fun z => some (Value.int .i64 z)) hn),
     congrArg (fun z => some (Value.bool z)) (by decide : decide ((1 : Int) < (3 : Int)) = true),
     rfl,
     fun γ w' _ _ => by have h := u7After (x0 := oneM 2) (x1 := rotM 2 1) (IsM.mk (IsQ.up (IsQ.can f2) (by decide : 1 ≤ 1)) (IsQ.up (IsQ.can f4) (by decide : 1 ≤ 1)) (IsQ.up (IsQ.can f5) (by decide : 1 ≤ 1)) (IsQ.up (IsQ.can f6) (by decide : 1 ≤ 1)) (IsQ.up (IsQ.can f3) (by decide : 1 ≤ 1)) (IsQ.up (IsQ.can f2) (by decide : 1 ≤ 1)) (IsQ.up (IsQ.can f7) (by decide : 1 ≤ 1)) (IsQ.up (IsQ.can f8) (by decide : 1 ≤ 1)) (IsQ.up (IsQ.can f9) (by decide : 1 ≤ 1)) (IsQ.up (IsQ.can f10) (by decide : 1 ≤ 1)) (IsQ.up (IsQ.can f11) (by decide : 1 ≤ 1)) (IsQ.up (IsQ.can f12) (by decide : 1 ≤ 1))) (by decide) (IsM.can f13) (by decide) w'; exact h,
     rem4 _,
     congrArg (fun z => some (Value.int .i64 z)) (by have := tmod_bd x1; rw [IntKind.wrap_i64]; omega : IntKind.wrap .i64 ((Int.tmod x1 4) + (4 : Int)) = (Int.tmod x1 4 + 4)),
     (rem4 _).trans (congrArg (fun z => some (Value.int .i64 z)) hn),
     congrArg (fun z => some (Value.bool z)) (by decide : decide ((2 : Int) < (3 : Int)) = true),
     rfl,
     fun γ w' _ _ => by have h := u7After (x0 := oneM 2) (x1 := rotM 2 2) (IsM.mk (IsQ.up (IsQ.can f2) (by decide : 1 ≤ 1)) (IsQ.up (IsQ.can f4) (by decide : 1 ≤ 1)) (IsQ.up (IsQ.can f5) (by decide : 1 ≤ 1)) (IsQ.up (IsQ.can f6) (by decide : 1 ≤ 1)) (IsQ.up (IsQ.can f3) (by decide : 1 ≤ 1)) (IsQ.up (IsQ.can f2) (by decide : 1 ≤ 1)) (IsQ.up (IsQ.can f7) (by decide : 1 ≤ 1)) (IsQ.up (IsQ.can f8) (by decide : 1 ≤ 1)) (IsQ.up (IsQ.can f9) (by decide : 1 ≤ 1)) (IsQ.up (IsQ.can f10) (by decide : 1 ≤ 1)) (IsQ.up (IsQ.can f11) (by decide : 1 ≤ 1)) (IsQ.up (IsQ.can f12) (by decide : 1 ≤ 1))) (by decide) (IsM.can f14) (by decide) w'; exact h,
     rem4 _,
     congrArg (fun z => some (Value.int .i64 z)) (by have := tmod_bd x1; rw [IntKind.wrap_i64]; omega : IntKind.wrap .i64 ((Int.tmod x1 4) + (4 : Int)) = (Int.tmod x1 4 + 4)),
     (rem4 _).trans (congrArg (fun z => some (Value.int .i64 z)) hn),
     congrArg (fun z => some (Value.bool z)) (by decide : decide ((3 : Int) < (3 : Int)) = false),
     rfl⟩
  exact H
theorem u7Turn_any {a : Nat} (ha : a < 3) (x1 : Int) (w : World) :
    Calls Tryz.prog 31 #[.int .i64 (a : Int), .int .i64 x1] w fun e w' => e = .returned (.tuple #[MV (rotM a (qt x1)), .bool true]) ∧ Below w.heap.size w w' := by
  have h := qt_eq x1
  have hn := qt_lt x1
  generalize qt x1 = n at *
  rcases three ha with rfl | rfl | rfl <;> rcases four hn with rfl | rfl | rfl | rfl
  · exact u7Turn_00 x1 w h
  · exact u7Turn_01 x1 w h
  · exact u7Turn_02 x1 w h
  · exact u7Turn_03 x1 w h
  · exact u7Turn_10 x1 w h
  · exact u7Turn_11 x1 w h
  · exact u7Turn_12 x1 w h
  · exact u7Turn_13 x1 w h
  · exact u7Turn_20 x1 w h
  · exact u7Turn_21 x1 w h
  · exact u7Turn_22 x1 w h
  · exact u7Turn_23 x1 w h
end Go.Proofs.YtodcomijjmobdaaGreatDoor
