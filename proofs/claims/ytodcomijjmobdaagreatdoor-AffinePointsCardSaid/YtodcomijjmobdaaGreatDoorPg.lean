/- How the laws of layer 4 reject great points and wide vectors. -/
import Derived.Test.YtodcomijjmobdaaGreatDoorPs
import Derived.Test.YtodcomijjmobdaaGreatDoorSx
import Derived.Test.YtodcomijjmobdaaGreatDoorN1
import Derived.Test.YtodcomijjmobdaaGreatDoorN4
set_option linter.unusedVariables false
set_option linter.unusedSimpArgs false
namespace Go.Proofs.YtodcomijjmobdaaGreatDoor
open Go.RowKit NM SX
theorem Great_no (x_0 : Bool) (x_1 : ByteArray) (x_2 : Bool) (x_3 : ByteArray) (x_4 : Bool) (x_5 : ByteArray) (x_6 : Bool) (x_7 : ByteArray) (w : World) (hx_1 : x_1.size ≤ 6) (hx_3 : x_3.size ≤ 6) (hx_5 : x_5.size ≤ 6) (hx_7 : x_7.size ≤ 6) :
    Calls Tryz.prog 11 #[.agg #[.bool x_0, .string x_1, .bool x_2, .string x_3, .bool x_4, .string x_5, .bool x_6, .string x_7]] w fun e w' => e = .returned (.int .i64 0) ∧ Below w.heap.size w w' := by
  exact SX.run (w := w) [.bool x_0, .string x_1, .bool x_2, .string x_3, .bool x_4, .string x_5, .bool x_6, .string x_7, .int .i64 (x_1.size : Int), .bool false, .int .i64 (x_3.size : Int), .bool false, .int .i64 (x_5.size : Int), .bool false, .int .i64 (x_7.size : Int), .bool false] [.b false, .b false, .b false, .b false] [.agg [.p (.at 0), .p (.at 1), .p (.at 2), .p (.at 3), .p (.at 4), .p (.at 5), .p (.at 6), .p (.at 7)]] 8 (.one (.c (.p (.lit (.int .i64 0))))) [.len (.p (.at 1)) 8, .op2 false .gtr (.p (.at 8)) (.p (.lit (.int .i64 6))) 9, .isB 9 false, .len (.p (.at 3)) 10, .op2 false .gtr (.p (.at 10)) (.p (.lit (.int .i64 6))) 11, .isB 11 false, .len (.p (.at 5)) 12, .op2 false .gtr (.p (.at 12)) (.p (.lit (.int .i64 6))) 13, .isB 13 false, .len (.p (.at 7)) 14, .op2 false .gtr (.p (.at 14)) (.p (.lit (.int .i64 6))) 15, .isB 15 false] Tryz.func11 (by kernel_rfl) rfl (by kernel_rfl) rfl (by kernel_rfl)
    ⟨⟨_, rfl, rfl⟩,
     congrArg (fun z => some (Value.bool z)) (decide_eq_false (by omega) : decide ((x_1.size : Int) > (6 : Int)) = false),
     rfl,
     ⟨_, rfl, rfl⟩,
     congrArg (fun z => some (Value.bool z)) (decide_eq_false (by omega) : decide ((x_3.size : Int) > (6 : Int)) = false),
     rfl,
     ⟨_, rfl, rfl⟩,
     congrArg (fun z => some (Value.bool z)) (decide_eq_false (by omega) : decide ((x_5.size : Int) > (6 : Int)) = false),
     rfl,
     ⟨_, rfl, rfl⟩,
     congrArg (fun z => some (Value.bool z)) (decide_eq_false (by omega) : decide ((x_7.size : Int) > (6 : Int)) = false),
     rfl⟩
theorem Great_y0 (x_0 : Bool) (x_1 : ByteArray) (x_2 : Bool) (x_3 : ByteArray) (x_4 : Bool) (x_5 : ByteArray) (x_6 : Bool) (x_7 : ByteArray) (w : World)  (h : 6 < x_1.size) :
    Calls Tryz.prog 11 #[.agg #[.bool x_0, .string x_1, .bool x_2, .string x_3, .bool x_4, .string x_5, .bool x_6, .string x_7]] w fun e w' => e = .returned (.int .i64 1) ∧ Below w.heap.size w w' := by
  exact SX.run (w := w) [.bool x_0, .string x_1, .bool x_2, .string x_3, .bool x_4, .string x_5, .bool x_6, .string x_7, .int .i64 (x_1.size : Int), .bool true] [.b true] [.agg [.p (.at 0), .p (.at 1), .p (.at 2), .p (.at 3), .p (.at 4), .p (.at 5), .p (.at 6), .p (.at 7)]] 8 (.one (.c (.p (.lit (.int .i64 1))))) [.len (.p (.at 1)) 8, .op2 false .gtr (.p (.at 8)) (.p (.lit (.int .i64 6))) 9, .isB 9 true] Tryz.func11 (by kernel_rfl) rfl (by kernel_rfl) rfl (by kernel_rfl)
    ⟨⟨_, rfl, rfl⟩,
     congrArg (fun z => some (Value.bool z)) (decide_eq_true (by omega) : decide ((x_1.size : Int) > (6 : Int)) = true),
     rfl⟩
theorem Great_y1 (x_0 : Bool) (x_1 : ByteArray) (x_2 : Bool) (x_3 : ByteArray) (x_4 : Bool) (x_5 : ByteArray) (x_6 : Bool) (x_7 : ByteArray) (w : World) (hx_1 : x_1.size ≤ 6) (h : 6 < x_3.size) :
    Calls Tryz.prog 11 #[.agg #[.bool x_0, .string x_1, .bool x_2, .string x_3, .bool x_4, .string x_5, .bool x_6, .string x_7]] w fun e w' => e = .returned (.int .i64 1) ∧ Below w.heap.size w w' := by
  exact SX.run (w := w) [.bool x_0, .string x_1, .bool x_2, .string x_3, .bool x_4, .string x_5, .bool x_6, .string x_7, .int .i64 (x_1.size : Int), .bool false, .int .i64 (x_3.size : Int), .bool true] [.b false, .b true] [.agg [.p (.at 0), .p (.at 1), .p (.at 2), .p (.at 3), .p (.at 4), .p (.at 5), .p (.at 6), .p (.at 7)]] 8 (.one (.c (.p (.lit (.int .i64 1))))) [.len (.p (.at 1)) 8, .op2 false .gtr (.p (.at 8)) (.p (.lit (.int .i64 6))) 9, .isB 9 false, .len (.p (.at 3)) 10, .op2 false .gtr (.p (.at 10)) (.p (.lit (.int .i64 6))) 11, .isB 11 true] Tryz.func11 (by kernel_rfl) rfl (by kernel_rfl) rfl (by kernel_rfl)
    ⟨⟨_, rfl, rfl⟩,
     congrArg (fun z => some (Value.bool z)) (decide_eq_false (by omega) : decide ((x_1.size : Int) > (6 : Int)) = false),
     rfl,
     ⟨_, rfl, rfl⟩,
     congrArg (fun z => some (Value.bool z)) (decide_eq_true (by omega) : decide ((x_3.size : Int) > (6 : Int)) = true),
     rfl⟩
theorem Great_y2 (x_0 : Bool) (x_1 : ByteArray) (x_2 : Bool) (x_3 : ByteArray) (x_4 : Bool) (x_5 : ByteArray) (x_6 : Bool) (x_7 : ByteArray) (w : World) (hx_1 : x_1.size ≤ 6) (hx_3 : x_3.size ≤ 6) (h : 6 < x_5.size) :
    Calls Tryz.prog 11 #[.agg #[.bool x_0, .string x_1, .bool x_2, .string x_3, .bool x_4, .string x_5, .bool x_6, .string x_7]] w fun e w' => e = .returned (.int .i64 1) ∧ Below w.heap.size w w' := by
  exact SX.run (w := w) [.bool x_0, .string x_1, .bool x_2, .string x_3, .bool x_4, .string x_5, .bool x_6, .string x_7, .int .i64 (x_1.size : Int), .bool false, .int .i64 (x_3.size : Int), .bool false, .int .i64 (x_5.size : Int), .bool true] [.b false, .b false, .b true] [.agg [.p (.at 0), .p (.at 1), .p (.at 2), .p (.at 3), .p (.at 4), .p (.at 5), .p (.at 6), .p (.at 7)]] 8 (.one (.c (.p (.lit (.int .i64 1))))) [.len (.p (.at 1)) 8, .op2 false .gtr (.p (.at 8)) (.p (.lit (.int .i64 6))) 9, .isB 9 false, .len (.p (.at 3)) 10, .op2 false .gtr (.p (.at 10)) (.p (.lit (.int .i64 6))) 11, .isB 11 false, .len (.p (.at 5)) 12, .op2 false .gtr (.p (.at 12)) (.p (.lit (.int .i64 6))) 13, .isB 13 true] Tryz.func11 (by kernel_rfl) rfl (by kernel_rfl) rfl (by kernel_rfl)
    ⟨⟨_, rfl, rfl⟩,
     congrArg (fun z => some (Value.bool z)) (decide_eq_false (by omega) : decide ((x_1.size : Int) > (6 : Int)) = false),
     rfl,
     ⟨_, rfl, rfl⟩,
     congrArg (fun z => some (Value.bool z)) (decide_eq_false (by omega) : decide ((x_3.size : Int) > (6 : Int)) = false),
     rfl,
     ⟨_, rfl, rfl⟩,
     congrArg (fun z => some (Value.bool z)) (decide_eq_true (by omega) : decide ((x_5.size : Int) > (6 : Int)) = true),
     rfl⟩
theorem Great_y3 (x_0 : Bool) (x_1 : ByteArray) (x_2 : Bool) (x_3 : ByteArray) (x_4 : Bool) (x_5 : ByteArray) (x_6 : Bool) (x_7 : ByteArray) (w : World) (hx_1 : x_1.size ≤ 6) (hx_3 : x_3.size ≤ 6) (hx_5 : x_5.size ≤ 6) (h : 6 < x_7.size) :
    Calls Tryz.prog 11 #[.agg #[.bool x_0, .string x_1, .bool x_2, .string x_3, .bool x_4, .string x_5, .bool x_6, .string x_7]] w fun e w' => e = .returned (.int .i64 1) ∧ Below w.heap.size w w' := by
  exact SX.run (w := w) [.bool x_0, .string x_1, .bool x_2, .string x_3, .bool x_4, .string x_5, .bool x_6, .string x_7, .int .i64 (x_1.size : Int), .bool false, .int .i64 (x_3.size : Int), .bool false, .int .i64 (x_5.size : Int), .bool false, .int .i64 (x_7.size : Int), .bool true] [.b false, .b false, .b false, .b true] [.agg [.p (.at 0), .p (.at 1), .p (.at 2), .p (.at 3), .p (.at 4), .p (.at 5), .p (.at 6), .p (.at 7)]] 8 (.one (.c (.p (.lit (.int .i64 1))))) [.len (.p (.at 1)) 8, .op2 false .gtr (.p (.at 8)) (.p (.lit (.int .i64 6))) 9, .isB 9 false, .len (.p (.at 3)) 10, .op2 false .gtr (.p (.at 10)) (.p (.lit (.int .i64 6))) 11, .isB 11 false, .len (.p (.at 5)) 12, .op2 false .gtr (.p (.at 12)) (.p (.lit (.int .i64 6))) 13, .isB 13 false, .len (.p (.at 7)) 14, .op2 false .gtr (.p (.at 14)) (.p (.lit (.int .i64 6))) 15, .isB 15 true] Tryz.func11 (by kernel_rfl) rfl (by kernel_rfl) rfl (by kernel_rfl)
    ⟨⟨_, rfl, rfl⟩,
     congrArg (fun z => some (Value.bool z)) (decide_eq_false (by omega) : decide ((x_1.size : Int) > (6 : Int)) = false),
     rfl,
     ⟨_, rfl, rfl⟩,
     congrArg (fun z => some (Value.bool z)) (decide_eq_false (by omega) : decide ((x_3.size : Int) > (6 : Int)) = false),
     rfl,
     ⟨_, rfl, rfl⟩,
     congrArg (fun z => some (Value.bool z)) (decide_eq_false (by omega) : decide ((x_5.size : Int) > (6 : Int)) = false),
     rfl,
     ⟨_, rfl, rfl⟩,
     congrArg (fun z => some (Value.bool z)) (decide_eq_true (by omega) : decide ((x_7.size : Int) > (6 : Int)) = true),
     rfl⟩
theorem Great_yes (x_0 : Bool) (x_1 : ByteArray) (x_2 : Bool) (x_3 : ByteArray) (x_4 : Bool) (x_5 : ByteArray) (x_6 : Bool) (x_7 : ByteArray) (w : World) (h : ¬ (x_1.size ≤ 6 ∧ x_3.size ≤ 6 ∧ x_5.size ≤ 6 ∧ x_7.size ≤ 6)) :
    Calls Tryz.prog 11 #[.agg #[.bool x_0, .string x_1, .bool x_2, .string x_3, .bool x_4, .string x_5, .bool x_6, .string x_7]] w fun e w' => e = .returned (.int .i64 1) ∧ Below w.heap.size w w' := by
  by_cases hx_1 : x_1.size ≤ 6
  rotate_left
  · exact Great_y0 x_0 x_1 x_2 x_3 x_4 x_5 x_6 x_7 w  (by omega)
  by_cases hx_3 : x_3.size ≤ 6
  rotate_left
  · exact Great_y1 x_0 x_1 x_2 x_3 x_4 x_5 x_6 x_7 w hx_1 (by omega)
  by_cases hx_5 : x_5.size ≤ 6
  rotate_left
  · exact Great_y2 x_0 x_1 x_2 x_3 x_4 x_5 x_6 x_7 w hx_1 hx_3 (by omega)
  by_cases hx_7 : x_7.size ≤ 6
  rotate_left
  · exact Great_y3 x_0 x_1 x_2 x_3 x_4 x_5 x_6 x_7 w hx_1 hx_3 hx_5 (by omega)
  exact absurd ⟨hx_1, hx_3, hx_5, hx_7⟩ h
end Go.Proofs.YtodcomijjmobdaaGreatDoor
