/- How the laws of layer 5 reject great planes, points and long numbers. -/
import Derived.Test.YtpmfaommooneiaaGreatDoorVa
import Derived.Test.YtpmfaommooneiaaGreatDoorPd
import Derived.Test.YtpmfaommooneiaaGreatDoorIs
import Derived.Test.YtpmfaommooneiaaGreatDoorQd
import Derived.Test.YtpmfaommooneiaaGreatDoorPq
import Derived.Test.YtpmfaommooneiaaGreatDoorShelf
import Derived.Test.YtpmfaommooneiaaGreatDoorN4
import Derived.Lib.Repeat
import Derived.Test.YtpmfaommooneiaaGreatDoorQ0
import Derived.Test.YtpmfaommooneiaaGreatDoorFmtZ
import Derived.Test.YtpmfaommooneiaaGreatDoorTextZ
import Derived.Test.YtpmfaommooneiaaGreatDoorStr
set_option linter.unusedVariables false
set_option linter.unusedSimpArgs false
namespace Go.Proofs.YtpmfaommooneiaaGreatDoor
open Go.RowKit NM SX
theorem Great5_no (x_0 : Bool) (x_1 : ByteArray) (x_2 : Bool) (x_3 : ByteArray) (x_4 : Bool) (x_5 : ByteArray) (x_6 : Bool) (x_7 : ByteArray) (w : World) (hx_1 : x_1.size ≤ 6) (hx_3 : x_3.size ≤ 6) (hx_5 : x_5.size ≤ 6) (hx_7 : x_7.size ≤ 6) :
    Calls Tryz.prog 46 #[.agg #[.bool x_0, .string x_1, .bool x_2, .string x_3, .bool x_4, .string x_5, .bool x_6, .string x_7]] w fun e w' => e = .returned (.int .i64 0) ∧ Below w.heap.size w w' := by
  exact SX.run (w := w) [.bool x_0, .string x_1, .bool x_2, .string x_3, .bool x_4, .string x_5, .bool x_6, .string x_7, .int .i64 (x_1.size : Int), .bool false, .int .i64 (x_3.size : Int), .bool false, .int .i64 (x_5.size : Int), .bool false, .int .i64 (x_7.size : Int), .bool false] [.b false, .b false, .b false, .b false] [.agg [.p (.at 0), .p (.at 1), .p (.at 2), .p (.at 3), .p (.at 4), .p (.at 5), .p (.at 6), .p (.at 7)]] 8 (.one (.c (.p (.lit (.int .i64 0))))) [.len (.p (.at 1)) 8, .op2 false .gtr (.p (.at 8)) (.p (.lit (.int .i64 6))) 9, .isB 9 false, .len (.p (.at 3)) 10, .op2 false .gtr (.p (.at 10)) (.p (.lit (.int .i64 6))) 11, .isB 11 false, .len (.p (.at 5)) 12, .op2 false .gtr (.p (.at 12)) (.p (.lit (.int .i64 6))) 13, .isB 13 false, .len (.p (.at 7)) 14, .op2 false .gtr (.p (.at 14)) (.p (.lit (.int .i64 6))) 15, .isB 15 false] Tryz.func46 (by kernel_rfl) rfl (by kernel_rfl) rfl (by kernel_rfl)
    ⟨⟨_, rfl, rfl⟩,
     congrArg (fun z => some (Value.bool z)) (decide_eq_false (by omega) : decide ((x_1.size : Int) > (6 : Int)) = false),
     rfl,
     ⟨_, rfl, rfl⟩,
     congrArg (fun z => some (Value.bool z)) (decide_eq_false (by omega) : decide ((x_3.size : Int) > (6 : Int)) = false),
     rfl,
     ⟨_, rfl, rfl⟩,
     congrArg (fun z => some (Value.bool z)) (decide_eq_false (by omega) : decide ((x_5.size : Int) > (6 : Int)) = false),
     rfl,
     ⟨_, rfl, rfl⟩,
     congrArg (fun z => some (Value.bool z)) (decide_eq_false (by omega) : decide ((x_7.size : Int) > (6 : Int)) = false),
     rfl⟩
theorem Great5_y0 (x_0 : Bool) (x_1 : ByteArray) (x_2 : Bool) (x_3 : ByteArray) (x_4 : Bool) (x_5 : ByteArray) (x_6 : Bool) (x_7 : ByteArray) (w : World)  (h : 6 < x_1.size) :
    Calls Tryz.prog 46 #[.agg #[.bool x_0, .string x_1, .bool x_2, .string x_3, .bool x_4, .string x_5, .bool x_6, .string x_7]] w fun e w' => e = .returned (.int .i64 1) ∧ Below w.heap.size w w' := by
  exact SX.run (w := w) [.bool x_0, .string x_1, .bool x_2, .string x_3, .bool x_4, .string x_5, .bool x_6, .string x_7, .int .i64 (x_1.size : Int), .bool true] [.b true] [.agg [.p (.at 0), .p (.at 1), .p (.at 2), .p (.at 3), .p (.at 4), .p (.at 5), .p (.at 6), .p (.at 7)]] 8 (.one (.c (.p (.lit (.int .i64 1))))) [.len (.p (.at 1)) 8, .op2 false .gtr (.p (.at 8)) (.p (.lit (.int .i64 6))) 9, .isB 9 true] Tryz.func46 (by kernel_rfl) rfl (by kernel_rfl) rfl (by kernel_rfl)
    ⟨⟨_, rfl, rfl⟩,
     congrArg (fun z => some (Value.bool z)) (decide_eq_true (by omega) : decide ((x_1.size : Int) > (6 : Int)) = true),
     rfl⟩
theorem Great5_y1 (x_0 : Bool) (x_1 : ByteArray) (x_2 : Bool) (x_3 : ByteArray) (x_4 : Bool) (x_5 : ByteArray) (x_6 : Bool) (x_7 : ByteArray) (w : World) (hx_1 : x_1.size ≤ 6) (h : 6 < x_3.size) :
    Calls Tryz.prog 46 #[.agg #[.bool x_0, .string x_1, .bool x_2, .string x_3, .bool x_4, .string x_5, .bool x_6, .string x_7]] w fun e w' => e = .returned (.int .i64 1) ∧ Below w.heap.size w w' := by
  exact SX.run (w := w) [.bool x_0, .string x_1, .bool x_2, .string x_3, .bool x_4, .string x_5, .bool x_6, .string x_7, .int .i64 (x_1.size : Int), .bool false, .int .i64 (x_3.size : Int), .bool true] [.b false, .b true] [.agg [.p (.at 0), .p (.at 1), .p (.at 2), .p (.at 3), .p (.at 4), .p (.at 5), .p (.at 6), .p (.at 7)]] 8 (.one (.c (.p (.lit (.int .i64 1))))) [.len (.p (.at 1)) 8, .op2 false .gtr (.p (.at 8)) (.p (.lit (.int .i64 6))) 9, .isB 9 false, .len (.p (.at 3)) 10, .op2 false .gtr (.p (.at 10)) (.p (.lit (.int .i64 6))) 11, .isB 11 true] Tryz.func46 (by kernel_rfl) rfl (by kernel_rfl) rfl (by kernel_rfl)
    ⟨⟨_, rfl, rfl⟩,
     congrArg (fun z => some (Value.bool z)) (decide_eq_false (by omega) : decide ((x_1.size : Int) > (6 : Int)) = false),
     rfl,
     ⟨_, rfl, rfl⟩,
     congrArg (fun z => some (Value.bool z)) (decide_eq_true (by omega) : decide ((x_3.size : Int) > (6 : Int)) = true),
     rfl⟩
theorem Great5_y2 (x_0 : Bool) (x_1 : ByteArray) (x_2 : Bool) (x_3 : ByteArray) (x_4 : Bool) (x_5 : ByteArray) (x_6 : Bool) (x_7 : ByteArray) (w : World) (hx_1 : x_1.size ≤ 6) (hx_3 : x_3.size ≤ 6) (h : 6 < x_5.size) :
    Calls Tryz.prog 46 #[.agg #[.bool x_0, .string x_1, .bool x_2, .string x_3, .bool x_4, .string x_5, .bool x_6, .string x_7]] w fun e w' => e = .returned (.int .i64 1) ∧ Below w.heap.size w w' := by
  exact SX.run (w := w) [.bool x_0, .string x_1, .bool x_2, .string x_3, .bool x_4, .string x_5, .bool x_6, .string x_7, .int .i64 (x_1.size : Int), .bool false, .int .i64 (x_3.size : Int), .bool false, .int .i64 (x_5.size : Int), .bool true] [.b false, .b false, .b true] [.agg [.p (.at 0), .p (.at 1), .p (.at 2), .p (.at 3), .p (.at 4), .p (.at 5), .p (.at 6), .p (.at 7)]] 8 (.one (.c (.p (.lit (.int .i64 1))))) [.len (.p (.at 1)) 8, .op2 false .gtr (.p (.at 8)) (.p (.lit (.int .i64 6))) 9, .isB 9 false, .len (.p (.at 3)) 10, .op2 false .gtr (.p (.at 10)) (.p (.lit (.int .i64 6))) 11, .isB 11 false, .len (.p (.at 5)) 12, .op2 false .gtr (.p (.at 12)) (.p (.lit (.int .i64 6))) 13, .isB 13 true] Tryz.func46 (by kernel_rfl) rfl (by kernel_rfl) rfl (by kernel_rfl)
    ⟨⟨_, rfl, rfl⟩,
     congrArg (fun z => some (Value.bool z)) (decide_eq_false (by omega) : decide ((x_1.size : Int) > (6 : Int)) = false),
     rfl,
     ⟨_, rfl, rfl⟩,
     congrArg (fun z => some (Value.bool z)) (decide_eq_false (by omega) : decide ((x_3.size : Int) > (6 : Int)) = false),
     rfl,
     ⟨_, rfl, rfl⟩,
     congrArg (fun z => some (Value.bool z)) (decide_eq_true (by omega) : decide ((x_5.size : Int) > (6 : Int)) = true),
     rfl⟩
theorem Great5_y3 (x_0 : Bool) (x_1 : ByteArray) (x_2 : Bool) (x_3 : ByteArray) (x_4 : Bool) (x_5 : ByteArray) (x_6 : Bool) (x_7 : ByteArray) (w : World) (hx_1 : x_1.size ≤ 6) (hx_3 : x_3.size ≤ 6) (hx_5 : x_5.size ≤ 6) (h : 6 < x_7.size) :
    Calls Tryz.prog 46 #[.agg #[.bool x_0, .string x_1, .bool x_2, .string x_3, .bool x_4, .string x_5, .bool x_6, .string x_7]] w fun e w' => e = .returned (.int .i64 1) ∧ Below w.heap.size w w' := by
  exact SX.run (w := w) [.bool x_0, .string x_1, .bool x_2, .string x_3, .bool x_4, .string x_5, .bool x_6, .string x_7, .int .i64 (x_1.size : Int), .bool false, .int .i64 (x_3.size : Int), .bool false, .int .i64 (x_5.size : Int), .bool false, .int .i64 (x_7.size : Int), .bool true] [.b false, .b false, .b false, .b true] [.agg [.p (.at 0), .p (.at 1), .p (.at 2), .p (.at 3), .p (.at 4), .p (.at 5), .p (.at 6), .p (.at 7)]] 8 (.one (.c (.p (.lit (.int .i64 1))))) [.len (.p (.at 1)) 8, .op2 false .gtr (.p (.at 8)) (.p (.lit (.int .i64 6))) 9, .isB 9 false, .len (.p (.at 3)) 10, .op2 false .gtr (.p (.at 10)) (.p (.lit (.int .i64 6))) 11, .isB 11 false, .len (.p (.at 5)) 12, .op2 false .gtr (.p (.at 12)) (.p (.lit (.int .i64 6))) 13, .isB 13 false, .len (.p (.at 7)) 14, .op2 false .gtr (.p (.at 14)) (.p (.lit (.int .i64 6))) 15, .isB 15 true] Tryz.func46 (by kernel_rfl) rfl (by kernel_rfl) rfl (by kernel_rfl)
    ⟨⟨_, rfl, rfl⟩,
     congrArg (fun z => some (Value.bool z)) (decide_eq_false (by omega) : decide ((x_1.size : Int) > (6 : Int)) = false),
     rfl,
     ⟨_, rfl, rfl⟩,
     congrArg (fun z => some (Value.bool z)) (decide_eq_false (by omega) : decide ((x_3.size : Int) > (6 : Int)) = false),
     rfl,
     ⟨_, rfl, rfl⟩,
     congrArg (fun z => some (Value.bool z)) (decide_eq_false (by omega) : decide ((x_5.size : Int) > (6 : Int)) = false),
     rfl,
     ⟨_, rfl, rfl⟩,
     congrArg (fun z => some (Value.bool z)) (decide_eq_true (by omega) : decide ((x_7.size : Int) > (6 : Int)) = true),
     rfl⟩
theorem Great5_yes (x_0 : Bool) (x_1 : ByteArray) (x_2 : Bool) (x_3 : ByteArray) (x_4 : Bool) (x_5 : ByteArray) (x_6 : Bool) (x_7 : ByteArray) (w : World) (h : ¬ (x_1.size ≤ 6 ∧ x_3.size ≤ 6 ∧ x_5.size ≤ 6 ∧ x_7.size ≤ 6)) :
    Calls Tryz.prog 46 #[.agg #[.bool x_0, .string x_1, .bool x_2, .string x_3, .bool x_4, .string x_5, .bool x_6, .string x_7]] w fun e w' => e = .returned (.int .i64 1) ∧ Below w.heap.size w w' := by
  by_cases hx_1 : x_1.size ≤ 6
  rotate_left
  · exact Great5_y0 x_0 x_1 x_2 x_3 x_4 x_5 x_6 x_7 w  (by omega)
  by_cases hx_3 : x_3.size ≤ 6
  rotate_left
  · exact Great5_y1 x_0 x_1 x_2 x_3 x_4 x_5 x_6 x_7 w hx_1 (by omega)
  by_cases hx_5 : x_5.size ≤ 6
  rotate_left
  · exact Great5_y2 x_0 x_1 x_2 x_3 x_4 x_5 x_6 x_7 w hx_1 hx_3 (by omega)
  by_cases hx_7 : x_7.size ≤ 6
  rotate_left
  · exact Great5_y3 x_0 x_1 x_2 x_3 x_4 x_5 x_6 x_7 w hx_1 hx_3 hx_5 (by omega)
  exact absurd ⟨hx_1, hx_3, hx_5, hx_7⟩ h
set_option maxRecDepth 100000 in
theorem great5_0_no (q_0 : Bool) (q_1 : ByteArray) (q_2 : Bool) (q_3 : ByteArray) (q_4 : Bool) (q_5 : ByteArray) (q_6 : Bool) (q_7 : ByteArray) (w : World)  (hq_1 : q_1.size ≤ 6) (hq_3 : q_3.size ≤ 6) (hq_5 : q_5.size ≤ 6) (hq_7 : q_7.size ≤ 6) :
    Calls Tryz.prog 11 #[.agg #[.bool q_0, .string q_1, .bool q_2, .string q_3, .bool q_4, .string q_5, .bool q_6, .string q_7], .slice none 0 0] w fun e w' => e = .returned (.bool false) ∧ Below w.heap.size w w' := by
  exact SX.runX (w := w) [.bool q_0, .string q_1, .bool q_2, .string q_3, .bool q_4, .string q_5, .bool q_6, .string q_7, .int .i64 0, .bool false, .int .i64 0, .bool false] [] [] [.agg [.p (.at 0), .p (.at 1), .p (.at 2), .p (.at 3), .p (.at 4), .p (.at 5), .p (.at 6), .p (.at 7)], .c (.p (.lit (.slice none 0 0)))] 8 [.b false] (.one (.c (.p (.at 11)))) [.prim (.call ⟨.builtin .len, #[(.tmp 7)], #[63]⟩) 3 [(7, .one (.c (.p (.lit (.slice none 0 0)))))] (.one (.c (.p (.at 8)))), .op2 false .lss (.p (.lit (.int .i64 0))) (.p (.at 8)) 9, .isB 9 false, .call 46 [.agg [.p (.at 0), .p (.at 1), .p (.at 2), .p (.at 3), .p (.at 4), .p (.at 5), .p (.at 6), .p (.at 7)]] (.one (.c (.p (.at 10)))) [], .op2 false .eql (.p (.at 10)) (.p (.lit (.int .i64 1))) 11] ⟨rfl, fun b t l h => by simp at h⟩ Tryz.func11 (by kernel_rfl) rfl rfl (by kernel_rfl)
    ⟨fun w' _ => by exact SX.lens_run rfl rfl rfl rfl Tryz.underlying63 rfl,
     congrArg (fun z => some (Value.bool z)) (by decide : decide ((0 : Int) < (0 : Int)) = false),
     rfl,
     fun γ w' _ _ => Great5_no q_0 q_1 q_2 q_3 q_4 q_5 q_6 q_7 w' hq_1 hq_3 hq_5 hq_7,
     congrArg (fun z => some (Value.bool z)) (by decide : ((0 : Int) == (1 : Int)) = false)⟩
set_option maxRecDepth 100000 in
theorem great5_0_p (q_0 : Bool) (q_1 : ByteArray) (q_2 : Bool) (q_3 : ByteArray) (q_4 : Bool) (q_5 : ByteArray) (q_6 : Bool) (q_7 : ByteArray) (w : World)  (h : ¬ (q_1.size ≤ 6 ∧ q_3.size ≤ 6 ∧ q_5.size ≤ 6 ∧ q_7.size ≤ 6)) :
    Calls Tryz.prog 11 #[.agg #[.bool q_0, .string q_1, .bool q_2, .string q_3, .bool q_4, .string q_5, .bool q_6, .string q_7], .slice none 0 0] w fun e w' => e = .returned (.bool true) ∧ Below w.heap.size w w' := by
  exact SX.runX (w := w) [.bool q_0, .string q_1, .bool q_2, .string q_3, .bool q_4, .string q_5, .bool q_6, .string q_7, .int .i64 0, .bool false, .int .i64 1, .bool true] [] [] [.agg [.p (.at 0), .p (.at 1), .p (.at 2), .p (.at 3), .p (.at 4), .p (.at 5), .p (.at 6), .p (.at 7)], .c (.p (.lit (.slice none 0 0)))] 8 [.b false] (.one (.c (.p (.at 11)))) [.prim (.call ⟨.builtin .len, #[(.tmp 7)], #[63]⟩) 3 [(7, .one (.c (.p (.lit (.slice none 0 0)))))] (.one (.c (.p (.at 8)))), .op2 false .lss (.p (.lit (.int .i64 0))) (.p (.at 8)) 9, .isB 9 false, .call 46 [.agg [.p (.at 0), .p (.at 1), .p (.at 2), .p (.at 3), .p (.at 4), .p (.at 5), .p (.at 6), .p (.at 7)]] (.one (.c (.p (.at 10)))) [], .op2 false .eql (.p (.at 10)) (.p (.lit (.int .i64 1))) 11] ⟨rfl, fun b t l h => by simp at h⟩ Tryz.func11 (by kernel_rfl) rfl rfl (by kernel_rfl)
    ⟨fun w' _ => by exact SX.lens_run rfl rfl rfl rfl Tryz.underlying63 rfl,
     congrArg (fun z => some (Value.bool z)) (by decide : decide ((0 : Int) < (0 : Int)) = false),
     rfl,
     fun γ w' _ _ => Great5_yes q_0 q_1 q_2 q_3 q_4 q_5 q_6 q_7 w' h,
     congrArg (fun z => some (Value.bool z)) (by decide : ((1 : Int) == (1 : Int)) = true)⟩
end Go.Proofs.YtpmfaommooneiaaGreatDoor
