/- How the laws of layer 5 reject great planes, points and long numbers. -/
import Derived.Test.YtpmfaommooneiaaGreatDoorVa
import Derived.Test.YtpmfaommooneiaaGreatDoorPg
set_option linter.unusedVariables false
set_option linter.unusedSimpArgs false
namespace Go.Proofs.YtpmfaommooneiaaGreatDoor
open Go.RowKit NM SX
theorem Great5_no (x_0 : Bool) (x_1 : ByteArray) (x_2 : Bool) (x_3 : ByteArray) (x_4 : Bool) (x_5 : ByteArray) (x_6 : Bool) (x_7 : ByteArray) (w : World) (hx_1 : x_1.size ≤ 6) (hx_3 : x_3.size ≤ 6) (hx_5 : x_5.size ≤ 6) (hx_7 : x_7.size ≤ 6) :
    Calls Tryz.prog 46 #[.agg #[.bool x_0, .string x_1, .bool x_2, .string x_3, .bool x_4, .string x_5, .bool x_6, .string x_7]] w fun e w' => e = .returned (.int .i64 0) ∧ Below w.heap.size w w' := by
  exact SX.run (w := w) [.bool x_0, .string x_1, .bool x_2, .string x_3, .bool x_4, .string x_5, .bool x_6, .string x_7, .int .i64 (x_1.size : Int), .bool false, .int .i64 (x_3.size : Int), .bool false, .int .i64 (x_5.size : Int), .bool false, .int .i64 (x_7.size : Int), .bool false] [.b false, .b false, .b false, .b false] [.agg [.p (.at 0), .p (.at 1), .p (.at 2), .p (.at 3), .p (.at 4), .p (.at 5), .p (.at 6), .p (.at 7)]] 8 (.one (.c (.p (.lit (.int .i64 0))))) [.len (.p (.at 1)) 8, .op2 false .gtr (.p (.at 8)) (.p (.lit (.int .i64 6))) 9, .isB 9 false, .len (.p (.at 3)) 10, .op2 false .gtr (.p (.at 10)) (.p (.lit (.int .i64 6))) 11, .isB 11 false, .len (.p (.at 5)) 12, .op2 false .gtr (.p (.at 12)) (.p (.lit (.int .i64 6))) 13, .isB 13 false, .len (.p (.at 7)) 14, .op2 false .gtr (.p (.at 14)) (.p (.lit (.int .i64 6))) 15, .isB 15 false] Tryz.func46 (by kernel_rfl) rfl (by kernel_rfl) rfl (by kernel_rfl)
    ⟨⟨_, rfl, rfl⟩,
     congrArg (fun z => some (Value.bool z)) (decide_eq_false (by omega) : decide ((x_1.size : Int) > (6 : Int)) = false),
     rfl,
     ⟨_, rfl, rfl⟩,
     congrArg (fun z => some (Value.bool z)) (decide_eq_false (by omega) : decide ((x_3.size : Int) > (6 : Int)) = false),
     rfl,
     ⟨_, rfl, rfl⟩,
     congrArg (fun z => some (Value.bool z)) (decide_eq_false (by omega) : decide ((x_5.size : Int) > (6 : Int)) = false),
     rfl,
     ⟨_, rfl, rfl⟩,
     congrArg (fun z => some (Value.bool z)) (decide_eq_false (by omega) : decide ((x_7.size : Int) > (6 : Int)) = false),
     rfl⟩
theorem Great5_y0 (x_0 : Bool) (x_1 : ByteArray) (x_2 : Bool) (x_3 : ByteArray) (x_4 : Bool) (x_5 : ByteArray) (x_6 : Bool) (x_7 : ByteArray) (w : World)  (h : 6 < x_1.size) :
    Calls Tryz.prog 46 #[.agg #[.bool x_0, .string x_1, .bool x_2, .string x_3, .bool x_4, .string x_5, .bool x_6, .string x_7]] w fun e w' => e = .returned (.int .i64 1) ∧ Below w.heap.size w w' := by
  exact SX.run (w := w) [.bool x_0, .string x_1, .bool x_2, .string x_3, .bool x_4, .string x_5, .bool x_6, .string x_7, .int .i64 (x_1.size : Int), .bool true] [.b true] [.agg [.p (.at 0), .p (.at 1), .p (.at 2), .p (.at 3), .p (.at 4), .p (.at 5), .p (.at 6), .p (.at 7)]] 8 (.one (.c (.p (.lit (.int .i64 1))))) [.len (.p (.at 1)) 8, .op2 false .gtr (.p (.at 8)) (.p (.lit (.int .i64 6))) 9, .isB 9 true] Tryz.func46 (by kernel_rfl) rfl (by kernel_rfl) rfl (by kernel_rfl)
    ⟨⟨_, rfl, rfl⟩,
     congrArg (fun z => some (Value.bool z)) (decide_eq_true (by omega) : decide ((x_1.size : Int) > (6 : Int)) = true),
     rfl⟩
theorem Great5_y1 (x_0 : Bool) (x_1 : ByteArray) (x_2 : Bool) (x_3 : ByteArray) (x_4 : Bool) (x_5 : ByteArray) (x_6 : Bool) (x_7 : ByteArray) (w : World) (hx_1 : x_1.size ≤ 6) (h : 6 < x_3.size) :
    Calls Tryz.prog 46 #[.agg #[.bool x_0, .string x_1, .bool x_2, .string x_3, .bool x_4, .string x_5, .bool x_6, .string x_7]] w fun e w' => e = .returned (.int .i64 1) ∧ Below w.heap.size w w' := by
  exact SX.run (w := w) [.bool x_0, .string x_1, .bool x_2, .string x_3, .bool x_4, .string x_5, .bool x_6, .string x_7, .int .i64 (x_1.size : Int), .bool false, .int .i64 (x_3.size : Int), .bool true] [.b false, .b true] [.agg [.p (.at 0), .p (.at 1), .p (.at 2), .p (.at 3), .p (.at 4), .p (.at 5), .p (.at 6), .p (.at 7)]] 8 (.one (.c (.p (.lit (.int .i64 1))))) [.len (.p (.at 1)) 8, .op2 false .gtr (.p (.at 8)) (.p (.lit (.int .i64 6))) 9, .isB 9 false, .len (.p (.at 3)) 10, .op2 false .gtr (.p (.at 10)) (.p (.lit (.int .i64 6))) 11, .isB 11 true] Tryz.func46 (by kernel_rfl) rfl (by kernel_rfl) rfl (by kernel_rfl)
    ⟨⟨_, rfl, rfl⟩,
     congrArg (fun z => some (Value.bool z)) (decide_eq_false (by omega) : decide ((x_1.size : Int) > (6 : Int)) = false),
     rfl,
     ⟨_, rfl, rfl⟩,
     congrArg (fun z => some (Value.bool z)) (decide_eq_true (by omega) : decide ((x_3.size : Int) > (6 : Int)) = true),
     rfl⟩
theorem Great5_y2 (x_0 : Bool) (x_1 : ByteArray) (x_2 : Bool) (x_3 : ByteArray) (x_4 : Bool) (x_5 : ByteArray) (x_6 : Bool) (x_7 : ByteArray) (w : World) (hx_1 : x_1.size ≤ 6) (hx_3 : x_3.size ≤ 6) (h : 6 < x_5.size) :
    Calls Tryz.prog 46 #[.agg #[.bool x_0, .string x_1, .bool x_2, .string x_3, .bool x_4, .string x_5, .bool x_6, .string x_7]] w fun e w' => e = .returned (.int .i64 1) ∧ Below w.heap.size w w' := by
  exact SX.run (w := w) [.bool x_0, .string x_1, .bool x_2, .string x_3, .bool x_4, .string x_5, .bool x_6, .string x_7, .int .i64 (x_1.size : Int), .bool false, .int .i64 (x_3.size : Int), .bool false, .int .i64 (x_5.size : Int), .bool true] [.b false, .b false, .b true] [.agg [.p (.at 0), .p (.at 1), .p (.at 2), .p (.at 3), .p (.at 4), .p (.at 5), .p (.at 6), .p (.at 7)]] 8 (.one (.c (.p (.lit (.int .i64 1))))) [.len (.p (.at 1)) 8, .op2 false .gtr (.p (.at 8)) (.p (.lit (.int .i64 6))) 9, .isB 9 false, .len (.p (.at 3)) 10, .op2 false .gtr (.p (.at 10)) (.p (.lit (.int .i64 6))) 11, .isB 11 false, .len (.p (.at 5)) 12, .op2 false .gtr (.p (.at 12)) (.p (.lit (.int .i64 6))) 13, .isB 13 true] Tryz.func46 (by kernel_rfl) rfl (by kernel_rfl) rfl (by kernel_rfl)
    ⟨⟨_, rfl, rfl⟩,
     congrArg (fun z => some (Value.bool z)) (decide_eq_false (by omega) : decide ((x_1.size : Int) > (6 : Int)) = false),
     rfl,
     ⟨_, rfl, rfl⟩,
     congrArg (fun z => some (Value.bool z)) (decide_eq_false (by omega) : decide ((x_3.size : Int) > (6 : Int)) = false),
     rfl,
     ⟨_, rfl, rfl⟩,
     congrArg (fun z => some (Value.bool z)) (decide_eq_true (by omega) : decide ((x_5.size : Int) > (6 : Int)) = true),
     rfl⟩
theorem Great5_y3 (x_0 : Bool) (x_1 : ByteArray) (x_2 : Bool) (x_3 : ByteArray) (x_4 : Bool) (x_5 : ByteArray) (x_6 : Bool) (x_7 : ByteArray) (w : World) (hx_1 : x_1.size ≤ 6) (hx_3 : x_3.size ≤ 6) (hx_5 : x_5.size ≤ 6) (h : 6 < x_7.size) :
    Calls Tryz.prog 46 #[.agg #[.bool x_0, .string x_1, .bool x_2, .string x_3, .bool x_4, .string x_5, .bool x_6, .string x_7]] w fun e w' => e = .returned (.int .i64 1) ∧ Below w.heap.size w w' := by
  exact SX.run (w := w) [.bool x_0, .string x_1, .bool x_2, .string x_3, .bool x_4, .string x_5, .bool x_6, .string x_7, .int .i64 (x_1.size : Int), .bool false, .int .i64 (x_3.size : Int), .bool false, .int .i64 (x_5.size : Int), .bool false, .int .i64 (x_7.size : Int), .bool true] [.b false, .b false, .b false, .b true] [.agg [.p (.at 0), .p (.at 1), .p (.at 2), .p (.at 3), .p (.at 4), .p (.at 5), .p (.at 6), .p (.at 7)]] 8 (.one (.c (.p (.lit (.int .i64 1))))) [.len (.p (.at 1)) 8, .op2 false .gtr (.p (.at 8)) (.p (.lit (.int .i64 6))) 9, .isB 9 false, .len (.p (.at 3)) 10, .op2 false .gtr (.p (.at 10)) (.p (.lit (.int .i64 6))) 11, .isB 11 false, .len (.p (.at 5)) 12, .op2 false .gtr (.p (.at 12)) (.p (.lit (.int .i64 6))) 13, .isB 13 false, .len (.p (.at 7)) 14, .op2 false .gtr (.p (.at 14)) (.p (.lit (.int .i64 6))) 15, .isB 15 true] Tryz.func46 (by kernel_rfl) rfl (by kernel_rfl) rfl (by kernel_rfl)
    ⟨⟨_, rfl, rfl⟩,
     congrArg (fun z => some (Value.bool z)) (decide_eq_false (by omega) : decide ((x_1.size : Int) > (6 : Int)) = false),
     rfl,
     ⟨_, rfl, rfl⟩,
     congrArg (fun z => some (Value.bool z)) (decide_eq_false (by omega) : decide ((x_3.size : Int) > (6 : Int)) = false),
     rfl,
     ⟨_, rfl, rfl⟩,
     congrArg (fun z => some (Value.bool z)) (decide_eq_false (by omega) : decide ((x_5.size : Int) > (6 : Int)) = false),
     rfl,
     ⟨_, rfl, rfl⟩,
     congrArg (fun z => some (Value.bool z)) (decide_eq_true (by omega) : decide ((x_7.size : Int) > (6 : Int)) = true),
     rfl⟩
theorem Great5_yes (x_0 : Bool) (x_1 : ByteArray) (x_2 : Bool) (x_3 : ByteArray) (x_4 : Bool) (x_5 : ByteArray) (x_6 : Bool) (x_7 : ByteArray) (w : World) (h : ¬ (x_1.size ≤ 6 ∧ x_3.size ≤ 6 ∧ x_5.size ≤ 6 ∧ x_7.size ≤ 6)) :
    Calls Tryz.prog 46 #[.agg #[.bool x_0, .string x_1, .bool x_2, .string x_3, .bool x_4, .string x_5, .bool x_6, .string x_7]] w fun e w' => e = .returned (.int .i64 1) ∧ Below w.heap.size w w' := by
  by_cases hx_1 : x_1.size ≤ 6
  rotate_left
  · exact Great5_y0 x_0 x_1 x_2 x_3 x_4 x_5 x_6 x_7 w  (by omega)
  by_cases hx_3 : x_3.size ≤ 6
  rotate_left
  · exact Great5_y1 x_0 x_1 x_2 x_3 x_4 x_5 x_6 x_7 w hx_1 (by omega)
  by_cases hx_5 : x_5.size ≤ 6
  rotate_left
  · exact Great5_y2 x_0 x_1 x_2 x_3 x_4 x_5 x_6 x_7 w hx_1 hx_3 (by omega)
  by_cases hx_7 : x_7.size ≤ 6
  rotate_left
  · exact Great5_y3 x_0 x_1 x_2 x_3 x_4 x_5 x_6 x_7 w hx_1 hx_3 hx_5 (by omega)
  exact absurd ⟨hx_1, hx_3, hx_5, hx_7⟩ h
theorem long5_no (x_0 : Bool) (x_1 : ByteArray) (x_2 : ByteArray) (w : World) (hx_1 : x_1.size ≤ 6) (hx_2 : x_2.size ≤ 6) :
    Calls Tryz.prog 12 #[.agg #[.bool x_0, .string x_1, .string x_2]] w fun e w' => e = .returned (.bool false) ∧ Below w.heap.size w w' := by
  exact SX.run (w := w) [.bool x_0, .string x_1, .string x_2, .int .i64 (x_1.size : Int), .bool false, .int .i64 (x_2.size : Int), .bool false] [.b false] [.agg [.p (.at 0), .p (.at 1), .p (.at 2)]] 3 (.one (.c (.p (.at 6)))) [.len (.p (.at 1)) 3, .op2 false .gtr (.p (.at 3)) (.p (.lit (.int .i64 6))) 4, .isB 4 false, .len (.p (.at 2)) 5, .op2 false .gtr (.p (.at 5)) (.p (.lit (.int .i64 6))) 6] Tryz.func12 (by kernel_rfl) rfl (by kernel_rfl) rfl (by kernel_rfl)
    ⟨⟨_, rfl, rfl⟩,
     congrArg (fun z => some (Value.bool z)) (decide_eq_false (by omega) : decide ((x_1.size : Int) > (6 : Int)) = false),
     rfl,
     ⟨_, rfl, rfl⟩,
     congrArg (fun z => some (Value.bool z)) (decide_eq_false (by omega) : decide ((x_2.size : Int) > (6 : Int)) = false)⟩
theorem long5_y0 (x_0 : Bool) (x_1 : ByteArray) (x_2 : ByteArray) (w : World)  (h : 6 < x_1.size) :
    Calls Tryz.prog 12 #[.agg #[.bool x_0, .string x_1, .string x_2]] w fun e w' => e = .returned (.bool true) ∧ Below w.heap.size w w' := by
  exact SX.run (w := w) [.bool x_0, .string x_1, .string x_2, .int .i64 (x_1.size : Int), .bool true] [.b true] [.agg [.p (.at 0), .p (.at 1), .p (.at 2)]] 3 (.one (.c (.p (.lit (.bool true))))) [.len (.p (.at 1)) 3, .op2 false .gtr (.p (.at 3)) (.p (.lit (.int .i64 6))) 4, .isB 4 true] Tryz.func12 (by kernel_rfl) rfl (by kernel_rfl) rfl (by kernel_rfl)
    ⟨⟨_, rfl, rfl⟩,
     congrArg (fun z => some (Value.bool z)) (decide_eq_true (by omega) : decide ((x_1.size : Int) > (6 : Int)) = true),
     rfl⟩
theorem long5_y1 (x_0 : Bool) (x_1 : ByteArray) (x_2 : ByteArray) (w : World) (hx_1 : x_1.size ≤ 6) (h : 6 < x_2.size) :
    Calls Tryz.prog 12 #[.agg #[.bool x_0, .string x_1, .string x_2]] w fun e w' => e = .returned (.bool true) ∧ Below w.heap.size w w' := by
  exact SX.run (w := w) [.bool x_0, .string x_1, .string x_2, .int .i64 (x_1.size : Int), .bool false, .int .i64 (x_2.size : Int), .bool true] [.b false] [.agg [.p (.at 0), .p (.at 1), .p (.at 2)]] 3 (.one (.c (.p (.at 6)))) [.len (.p (.at 1)) 3, .op2 false .gtr (.p (.at 3)) (.p (.lit (.int .i64 6))) 4, .isB 4 false, .len (.p (.at 2)) 5, .op2 false .gtr (.p (.at 5)) (.p (.lit (.int .i64 6))) 6] Tryz.func12 (by kernel_rfl) rfl (by kernel_rfl) rfl (by kernel_rfl)
    ⟨⟨_, rfl, rfl⟩,
     congrArg (fun z => some (Value.bool z)) (decide_eq_false (by omega) : decide ((x_1.size : Int) > (6 : Int)) = false),
     rfl,
     ⟨_, rfl, rfl⟩,
     congrArg (fun z => some (Value.bool z)) (decide_eq_true (by omega) : decide ((x_2.size : Int) > (6 : Int)) = true)⟩
theorem long5_yes (x_0 : Bool) (x_1 : ByteArray) (x_2 : ByteArray) (w : World) (h : ¬ (x_1.size ≤ 6 ∧ x_2.size ≤ 6)) :
    Calls Tryz.prog 12 #[.agg #[.bool x_0, .string x_1, .string x_2]] w fun e w' => e = .returned (.bool true) ∧ Below w.heap.size w w' := by
  by_cases hx_1 : x_1.size ≤ 6
  rotate_left
  · exact long5_y0 x_0 x_1 x_2 w  (by omega)
  by_cases hx_2 : x_2.size ≤ 6
  rotate_left
  · exact long5_y1 x_0 x_1 x_2 w hx_1 (by omega)
  exact absurd ⟨hx_1, hx_2⟩ h
set_option maxRecDepth 100000 in
theorem great5_0_no (q_0 : Bool) (q_1 : ByteArray) (q_2 : Bool) (q_3 : ByteArray) (q_4 : Bool) (q_5 : ByteArray) (q_6 : Bool) (q_7 : ByteArray) (w : World)  (hq_1 : q_1.size ≤ 6) (hq_3 : q_3.size ≤ 6) (hq_5 : q_5.size ≤ 6) (hq_7 : q_7.size ≤ 6) :
    Calls Tryz.prog 11 #[.agg #[.bool q_0, .string q_1, .bool q_2, .string q_3, .bool q_4, .string q_5, .bool q_6, .string q_7], .slice none 0 0] w fun e w' => e = .returned (.bool false) ∧ Below w.heap.size w w' := by
  exact SX.runX (w := w) [.bool q_0, .string q_1, .bool q_2, .string q_3, .bool q_4, .string q_5, .bool q_6, .string q_7, .int .i64 0, .bool false, .int .i64 0, .bool false] [] [] [.agg [.p (.at 0), .p (.at 1), .p (.at 2), .p (.at 3), .p (.at 4), .p (.at 5), .p (.at 6), .p (.at 7)], .c (.p (.lit (.slice none 0 0)))] 8 [.b false] (.one (.c (.p (.at 11)))) [.prim (.call ⟨.builtin .len, #[(.tmp 7)], #[63]⟩) 3 [(7, .one (.c (.p (.lit (.slice none 0 0)))))] (.one (.c (.p (.at 8)))), .op2 false .lss (.p (.lit (.int .i64 0))) (.p (.at 8)) 9, .isB 9 false, .call 46 [.agg [.p (.at 0), .p (.at 1), .p (.at 2), .p (.at 3), .p (.at 4), .p (.at 5), .p (.at 6), .p (.at 7)]] (.one (.c (.p (.at 10)))) [], .op2 false .eql (.p (.at 10)) (.p (.lit (.int .i64 1))) 11] ⟨rfl, fun b t l h => by simp at h⟩ Tryz.func11 (by kernel_rfl) rfl rfl (by kernel_rfl)
    ⟨fun w' _ => by exact SX.lens_run rfl rfl rfl rfl Tryz.underlying63 rfl,
     congrArg (fun z => some (Value.bool z)) (by decide : decide ((0 : Int) < (0 : Int)) = false),
     rfl,
     fun γ w' _ _ => Great5_no q_0 q_1 q_2 q_3 q_4 q_5 q_6 q_7 w' hq_1 hq_3 hq_5 hq_7,
     congrArg (fun z => some (Value.bool z)) (by decide : ((0 : Int) == (1 : Int)) = false)⟩
set_option maxRecDepth 100000 in
theorem great5_0_p (q_0 : Bool) (q_1 : ByteArray) (q_2 : Bool) (q_3 : ByteArray) (q_4 : Bool) (q_5 : ByteArray) (q_6 : Bool) (q_7 : ByteArray) (w : World)  (h : ¬ (q_1.size ≤ 6 ∧ q_3.size ≤ 6 ∧ q_5.size ≤ 6 ∧ q_7.size ≤ 6)) :
    Calls Tryz.prog 11 #[.agg #[.bool q_0, .string q_1, .bool q_2, .string q_3, .bool q_4, .string q_5, .bool q_6, .string q_7], .slice none 0 0] w fun e w' => e = .returned (.bool true) ∧ Below w.heap.size w w' := by
  exact SX.runX (w := w) [.bool q_0, .string q_1, .bool q_2, .string q_3, .bool q_4, .string q_5, .bool q_6, .string q_7, .int .i64 0, .bool false, .int .i64 1, .bool true] [] [] [.agg [.p (.at 0), .p (.at 1), .p (.at 2), .p (.at 3), .p (.at 4), .p (.at 5), .p (.at 6), .p (.at 7)], .c (.p (.lit (.slice none 0 0)))] 8 [.b false] (.one (.c (.p (.at 11)))) [.prim (.call ⟨.builtin .len, #[(.tmp 7)], #[63]⟩) 3 [(7, .one (.c (.p (.lit (.slice none 0 0)))))] (.one (.c (.p (.at 8)))), .op2 false .lss (.p (.lit (.int .i64 0))) (.p (.at 8)) 9, .isB 9 false, .call 46 [.agg [.p (.at 0), .p (.at 1), .p (.at 2), .p (.at 3), .p (.at 4), .p (.at 5), .p (.at 6), .p (.at 7)]] (.one (.c (.p (.at 10)))) [], .op2 false .eql (.p (.at 10)) (.p (.lit (.int .i64 1))) 11] ⟨rfl, fun b t l h => by simp at h⟩ Tryz.func11 (by kernel_rfl) rfl rfl (by kernel_rfl)
    ⟨fun w' _ => by exact SX.lens_run rfl rfl rfl rfl Tryz.underlying63 rfl,
     congrArg (fun z => some (Value.bool z)) (by decide : decide ((0 : Int) < (0 : Int)) = false),
     rfl,
     fun γ w' _ _ => Great5_yes q_0 q_1 q_2 q_3 q_4 q_5 q_6 q_7 w' h,
     congrArg (fun z => some (Value.bool z)) (by decide : ((1 : Int) == (1 : Int)) = true)⟩
theorem great5_1_no (q_0 : Bool) (q_1 : ByteArray) (q_2 : Bool) (q_3 : ByteArray) (q_4 : Bool) (q_5 : ByteArray) (q_6 : Bool) (q_7 : ByteArray) (p0_0 : Bool) (p0_1 : ByteArray) (p0_2 : Bool) (p0_3 : ByteArray) (p0_4 : Bool) (p0_5 : ByteArray) (p0_6 : Bool) (p0_7 : ByteArray) (w : World) (g0 : Nat) (hc0 : SX.CellsAt w g0 0 [.bool p0_0, .string p0_1, .bool p0_2, .string p0_3, .bool p0_4, .string p0_5, .bool p0_6, .string p0_7]) (hp0_1 : p0_1.size ≤ 6) (hp0_3 : p0_3.size ≤ 6) (hp0_5 : p0_5.size ≤ 6) (hp0_7 : p0_7.size ≤ 6) (hq_1 : q_1.size ≤ 6) (hq_3 : q_3.size ≤ 6) (hq_5 : q_5.size ≤ 6) (hq_7 : q_7.size ≤ 6) :
    Calls Tryz.prog 11 #[.agg #[.bool q_0, .string q_1, .bool q_2, .string q_3, .bool q_4, .string q_5, .bool q_6, .string q_7], .slice (some ⟨g0, 0, none⟩) 1 1] w fun e w' => e = .returned (.bool false) ∧ Below w.heap.size w w' := by
  exact SX.runX (w := w) [.bool q_0, .string q_1, .bool q_2, .string q_3, .bool q_4, .string q_5, .bool q_6, .string q_7, .bool p0_0, .string p0_1, .bool p0_2, .string p0_3, .bool p0_4, .string p0_5, .bool p0_6, .string p0_7, .int .i64 0, .bool false, .int .i64 0, .bool false] [g0] [(38, [.p (.at 8), .p (.at 9), .p (.at 10), .p (.at 11), .p (.at 12), .p (.at 13), .p (.at 14), .p (.at 15)])] [.agg [.p (.at 0), .p (.at 1), .p (.at 2), .p (.at 3), .p (.at 4), .p (.at 5), .p (.at 6), .p (.at 7)], .c (.p (.slc 0 0 1 1))] 16 [.b false] (.one (.c (.p (.at 19)))) [.call 45 [.agg [.p (.at 8), .p (.at 9), .p (.at 10), .p (.at 11), .p (.at 12), .p (.at 13), .p (.at 14), .p (.at 15)]] (.one (.c (.p (.at 16)))) [], .op2 false .eql (.p (.at 16)) (.p (.lit (.int .i64 1))) 17, .isB 17 false, .call 46 [.agg [.p (.at 0), .p (.at 1), .p (.at 2), .p (.at 3), .p (.at 4), .p (.at 5), .p (.at 6), .p (.at 7)]] (.one (.c (.p (.at 18)))) [], .op2 false .eql (.p (.at 18)) (.p (.lit (.int .i64 1))) 19] (SX.held1 rfl hc0) Tryz.func11 (by kernel_rfl) rfl rfl (by kernel_rfl)
    ⟨fun γ w' _ _ => Great_no p0_0 p0_1 p0_2 p0_3 p0_4 p0_5 p0_6 p0_7 w' hp0_1 hp0_3 hp0_5 hp0_7,
     congrArg (fun z => some (Value.bool z)) (by decide : ((0 : Int) == (1 : Int)) = false),
     rfl,
     fun γ w' _ _ => Great5_no q_0 q_1 q_2 q_3 q_4 q_5 q_6 q_7 w' hq_1 hq_3 hq_5 hq_7,
     congrArg (fun z => some (Value.bool z)) (by decide : ((0 : Int) == (1 : Int)) = false)⟩
theorem great5_1_y0 (q_0 : Bool) (q_1 : ByteArray) (q_2 : Bool) (q_3 : ByteArray) (q_4 : Bool) (q_5 : ByteArray) (q_6 : Bool) (q_7 : ByteArray) (p0_0 : Bool) (p0_1 : ByteArray) (p0_2 : Bool) (p0_3 : ByteArray) (p0_4 : Bool) (p0_5 : ByteArray) (p0_6 : Bool) (p0_7 : ByteArray) (w : World) (g0 : Nat) (hc0 : SX.CellsAt w g0 0 [.bool p0_0, .string p0_1, .bool p0_2, .string p0_3, .bool p0_4, .string p0_5, .bool p0_6, .string p0_7])  (h : ¬ (p0_1.size ≤ 6 ∧ p0_3.size ≤ 6 ∧ p0_5.size ≤ 6 ∧ p0_7.size ≤ 6)) :
    Calls Tryz.prog 11 #[.agg #[.bool q_0, .string q_1, .bool q_2, .string q_3, .bool q_4, .string q_5, .bool q_6, .string q_7], .slice (some ⟨g0, 0, none⟩) 1 1] w fun e w' => e = .returned (.bool true) ∧ Below w.heap.size w w' := by
  exact SX.runX (w := w) [.bool q_0, .string q_1, .bool q_2, .string q_3, .bool q_4, .string q_5, .bool q_6, .string q_7, .bool p0_0, .string p0_1, .bool p0_2, .string p0_3, .bool p0_4, .string p0_5, .bool p0_6, .string p0_7, .int .i64 1, .bool true] [g0] [(38, [.p (.at 8), .p (.at 9), .p (.at 10), .p (.at 11), .p (.at 12), .p (.at 13), .p (.at 14), .p (.at 15)])] [.agg [.p (.at 0), .p (.at 1), .p (.at 2), .p (.at 3), .p (.at 4), .p (.at 5), .p (.at 6), .p (.at 7)], .c (.p (.slc 0 0 1 1))] 16 [.b true] (.one (.c (.p (.lit (.bool true))))) [.call 45 [.agg [.p (.at 8), .p (.at 9), .p (.at 10), .p (.at 11), .p (.at 12), .p (.at 13), .p (.at 14), .p (.at 15)]] (.one (.c (.p (.at 16)))) [], .op2 false .eql (.p (.at 16)) (.p (.lit (.int .i64 1))) 17, .isB 17 true] (SX.held1 rfl hc0) Tryz.func11 (by kernel_rfl) rfl rfl (by kernel_rfl)
    ⟨fun γ w' _ _ => Great_yes p0_0 p0_1 p0_2 p0_3 p0_4 p0_5 p0_6 p0_7 w' h,
     congrArg (fun z => some (Value.bool z)) (by decide : ((1 : Int) == (1 : Int)) = true),
     rfl⟩
theorem great5_1_p (q_0 : Bool) (q_1 : ByteArray) (q_2 : Bool) (q_3 : ByteArray) (q_4 : Bool) (q_5 : ByteArray) (q_6 : Bool) (q_7 : ByteArray) (p0_0 : Bool) (p0_1 : ByteArray) (p0_2 : Bool) (p0_3 : ByteArray) (p0_4 : Bool) (p0_5 : ByteArray) (p0_6 : Bool) (p0_7 : ByteArray) (w : World) (g0 : Nat) (hc0 : SX.CellsAt w g0 0 [.bool p0_0, .string p0_1, .bool p0_2, .string p0_3, .bool p0_4, .string p0_5, .bool p0_6, .string p0_7]) (hp0_1 : p0_1.size ≤ 6) (hp0_3 : p0_3.size ≤ 6) (hp0_5 : p0_5.size ≤ 6) (hp0_7 : p0_7.size ≤ 6) (h : ¬ (q_1.size ≤ 6 ∧ q_3.size ≤ 6 ∧ q_5.size ≤ 6 ∧ q_7.size ≤ 6)) :
    Calls Tryz.prog 11 #[.agg #[.bool q_0, .string q_1, .bool q_2, .string q_3, .bool q_4, .string q_5, .bool q_6, .string q_7], .slice (some ⟨g0, 0, none⟩) 1 1] w fun e w' => e = .returned (.bool true) ∧ Below w.heap.size w w' := by
  exact SX.runX (w := w) [.bool q_0, .string q_1, .bool q_2, .string q_3, .bool q_4, .string q_5, .bool q_6, .string q_7, .bool p0_0, .string p0_1, .bool p0_2, .string p0_3, .bool p0_4, .string p0_5, .bool p0_6, .string p0_7, .int .i64 0, .bool false, .int .i64 1, .bool true] [g0] [(38, [.p (.at 8), .p (.at 9), .p (.at 10), .p (.at 11), .p (.at 12), .p (.at 13), .p (.at 14), .p (.at 15)])] [.agg [.p (.at 0), .p (.at 1), .p (.at 2), .p (.at 3), .p (.at 4), .p (.at 5), .p (.at 6), .p (.at 7)], .c (.p (.slc 0 0 1 1))] 16 [.b false] (.one (.c (.p (.at 19)))) [.call 45 [.agg [.p (.at 8), .p (.at 9), .p (.at 10), .p (.at 11), .p (.at 12), .p (.at 13), .p (.at 14), .p (.at 15)]] (.one (.c (.p (.at 16)))) [], .op2 false .eql (.p (.at 16)) (.p (.lit (.int .i64 1))) 17, .isB 17 false, .call 46 [.agg [.p (.at 0), .p (.at 1), .p (.at 2), .p (.at 3), .p (.at 4), .p (.at 5), .p (.at 6), .p (.at 7)]] (.one (.c (.p (.at 18)))) [], .op2 false .eql (.p (.at 18)) (.p (.lit (.int .i64 1))) 19] (SX.held1 rfl hc0) Tryz.func11 (by kernel_rfl) rfl rfl (by kernel_rfl)
    ⟨fun γ w' _ _ => Great_no p0_0 p0_1 p0_2 p0_3 p0_4 p0_5 p0_6 p0_7 w' hp0_1 hp0_3 hp0_5 hp0_7,
     congrArg (fun z => some (Value.bool z)) (by decide : ((0 : Int) == (1 : Int)) = false),
     rfl,
     fun γ w' _ _ => Great5_yes q_0 q_1 q_2 q_3 q_4 q_5 q_6 q_7 w' h,
     congrArg (fun z => some (Value.bool z)) (by decide : ((1 : Int) == (1 : Int)) = true)⟩
theorem great5_3_no (q_0 : Bool) (q_1 : ByteArray) (q_2 : Bool) (q_3 : ByteArray) (q_4 : Bool) (q_5 : ByteArray) (q_6 : Bool) (q_7 : ByteArray) (p0_0 : Bool) (p0_1 : ByteArray) (p0_2 : Bool) (p0_3 : ByteArray) (p0_4 : Bool) (p0_5 : ByteArray) (p0_6 : Bool) (p0_7 : ByteArray) (p1_0 : Bool) (p1_1 : ByteArray) (p1_2 : Bool) (p1_3 : ByteArray) (p1_4 : Bool) (p1_5 : ByteArray) (p1_6 : Bool) (p1_7 : ByteArray) (p2_0 : Bool) (p2_1 : ByteArray) (p2_2 : Bool) (p2_3 : ByteArray) (p2_4 : Bool) (p2_5 : ByteArray) (p2_6 : Bool) (p2_7 : ByteArray) (w : World) (g0 : Nat) (hc0 : SX.CellsAt w g0 0 [.bool p0_0, .string p0_1, .bool p0_2, .string p0_3, .bool p0_4, .string p0_5, .bool p0_6, .string p0_7, .bool p1_0, .string p1_1, .bool p1_2, .string p1_3, .bool p1_4, .string p1_5, .bool p1_6, .string p1_7, .bool p2_0, .string p2_1, .bool p2_2, .string p2_3, .bool p2_4, .string p2_5, .bool p2_6, .string p2_7]) (hp0_1 : p0_1.size ≤ 6) (hp0_3 : p0_3.size ≤ 6) (hp0_5 : p0_5.size ≤ 6) (hp0_7 : p0_7.size ≤ 6) (hp1_1 : p1_1.size ≤ 6) (hp1_3 : p1_3.size ≤ 6) (hp1_5 : p1_5.size ≤ 6) (hp1_7 : p1_7.size ≤ 6) (hp2_1 : p2_1.size ≤ 6) (hp2_3 : p2_3.size ≤ 6) (hp2_5 : p2_5.size ≤ 6) (hp2_7 : p2_7.size ≤ 6) (hq_1 : q_1.size ≤ 6) (hq_3 : q_3.size ≤ 6) (hq_5 : q_5.size ≤ 6) (hq_7 : q_7.size ≤ 6) :
    Calls Tryz.prog 11 #[.agg #[.bool q_0, .string q_1, .bool q_2, .string q_3, .bool q_4, .string q_5, .bool q_6, .string q_7], .slice (some ⟨g0, 0, none⟩) 3 3] w fun e w' => e = .returned (.bool false) ∧ Below w.heap.size w w' := by
  exact SX.runX (w := w) (.bool q_0 :: .string q_1 :: .bool q_2 :: .string q_3 :: .bool q_4 :: .string q_5 :: .bool q_6 :: .string q_7 :: .bool p0_0 :: .string p0_1 :: .bool p0_2 :: .string p0_3 :: .bool p0_4 :: .string p0_5 :: .bool p0_6 :: .string p0_7 :: .bool p1_0 :: .string p1_1 :: .bool p1_2 :: .string p1_3 :: .bool p1_4 :: .string p1_5 :: .bool p1_6 :: .string p1_7 :: .bool p2_0 :: .string p2_1 :: .bool p2_2 :: .string p2_3 :: .bool p2_4 :: .string p2_5 :: .bool p2_6 :: .string p2_7 :: .int .i64 0 :: .bool false :: .int .i64 0 :: .bool false :: .int .i64 0 :: .bool false :: .int .i64 0 :: .bool false :: []) [g0] [(38, [.p (.at 8), .p (.at 9), .p (.at 10), .p (.at 11), .p (.at 12), .p (.at 13), .p (.at 14), .p (.at 15), .p (.at 16), .p (.at 17), .p (.at 18), .p (.at 19), .p (.at 20), .p (.at 21), .p (.at 22), .p (.at 23), .p (.at 24), .p (.at 25), .p (.at 26), .p (.at 27), .p (.at 28), .p (.at 29), .p (.at 30), .p (.at 31)])] [.agg [.p (.at 0), .p (.at 1), .p (.at 2), .p (.at 3), .p (.at 4), .p (.at 5), .p (.at 6), .p (.at 7)], .c (.p (.slc 0 0 3 3))] 32 [.b false, .b false, .b false] (.one (.c (.p (.at 39)))) [.call 45 [.agg [.p (.at 8), .p (.at 9), .p (.at 10), .p (.at 11), .p (.at 12), .p (.at 13), .p (.at 14), .p (.at 15)]] (.one (.c (.p (.at 32)))) [], .op2 false .eql (.p (.at 32)) (.p (.lit (.int .i64 1))) 33, .isB 33 false, .call 45 [.agg [.p (.at 16), .p (.at 17), .p (.at 18), .p (.at 19), .p (.at 20), .p (.at 21), .p (.at 22), .p (.at 23)]] (.one (.c (.p (.at 34)))) [], .op2 false .eql (.p (.at 34)) (.p (.lit (.int .i64 1))) 35, .isB 35 false, .call 45 [.agg [.p (.at 24), .p (.at 25), .p (.at 26), .p (.at 27), .p (.at 28), .p (.at 29), .p (.at 30), .p (.at 31)]] (.one (.c (.p (.at 36)))) [], .op2 false .eql (.p (.at 36)) (.p (.lit (.int .i64 1))) 37, .isB 37 false, .call 46 [.agg [.p (.at 0), .p (.at 1), .p (.at 2), .p (.at 3), .p (.at 4), .p (.at 5), .p (.at 6), .p (.at 7)]] (.one (.c (.p (.at 38)))) [], .op2 false .eql (.p (.at 38)) (.p (.lit (.int .i64 1))) 39] (SX.held1 rfl hc0) Tryz.func11 (by kernel_rfl) rfl rfl (by kernel_rfl)
    ⟨fun γ w' _ _ => Great_no p0_0 p0_1 p0_2 p0_3 p0_4 p0_5 p0_6 p0_7 w' hp0_1 hp0_3 hp0_5 hp0_7,
     congrArg (fun z => some (Value.bool z)) (by decide : ((0 : Int) == (1 : Int)) = false),
     rfl,
     fun γ w' _ _ => Great_no p1_0 p1_1 p1_2 p1_3 p1_4 p1_5 p1_6 p1_7 w' hp1_1 hp1_3 hp1_5 hp1_7,
     congrArg (fun z => some (Value.bool z)) (by decide : ((0 : Int) == (1 : Int)) = false),
     rfl,
     fun γ w' _ _ => Great_no p2_0 p2_1 p2_2 p2_3 p2_4 p2_5 p2_6 p2_7 w' hp2_1 hp2_3 hp2_5 hp2_7,
     congrArg (fun z => some (Value.bool z)) (by decide : ((0 : Int) == (1 : Int)) = false),
     rfl,
     fun γ w' _ _ => Great5_no q_0 q_1 q_2 q_3 q_4 q_5 q_6 q_7 w' hq_1 hq_3 hq_5 hq_7,
     congrArg (fun z => some (Value.bool z)) (by decide : ((0 : Int) == (1 : Int)) = false)⟩
theorem great5_3_y0 (q_0 : Bool) (q_1 : ByteArray) (q_2 : Bool) (q_3 : ByteArray) (q_4 : Bool) (q_5 : ByteArray) (q_6 : Bool) (q_7 : ByteArray) (p0_0 : Bool) (p0_1 : ByteArray) (p0_2 : Bool) (p0_3 : ByteArray) (p0_4 : Bool) (p0_5 : ByteArray) (p0_6 : Bool) (p0_7 : ByteArray) (p1_0 : Bool) (p1_1 : ByteArray) (p1_2 : Bool) (p1_3 : ByteArray) (p1_4 : Bool) (p1_5 : ByteArray) (p1_6 : Bool) (p1_7 : ByteArray) (p2_0 : Bool) (p2_1 : ByteArray) (p2_2 : Bool) (p2_3 : ByteArray) (p2_4 : Bool) (p2_5 : ByteArray) (p2_6 : Bool) (p2_7 : ByteArray) (w : World) (g0 : Nat) (hc0 : SX.CellsAt w g0 0 [.bool p0_0, .string p0_1, .bool p0_2, .string p0_3, .bool p0_4, .string p0_5, .bool p0_6, .string p0_7, .bool p1_0, .string p1_1, .bool p1_2, .string p1_3, .bool p1_4, .string p1_5, .bool p1_6, .string p1_7, .bool p2_0, .string p2_1, .bool p2_2, .string p2_3, .bool p2_4, .string p2_5, .bool p2_6, .string p2_7])  (h : ¬ (p0_1.size ≤ 6 ∧ p0_3.size ≤ 6 ∧ p0_5.size ≤ 6 ∧ p0_7.size ≤ 6)) :
    Calls Tryz.prog 11 #[.agg #[.bool q_0, .string q_1, .bool q_2, .string q_3, .bool q_4, .string q_5, .bool q_6, .string q_7], .slice (some ⟨g0, 0, none⟩) 3 3] w fun e w' => e = .returned (.bool true) ∧ Below w.heap.size w w' := by
  exact SX.runX (w := w) (.bool q_0 :: .string q_1 :: .bool q_2 :: .string q_3 :: .bool q_4 :: .string q_5 :: .bool q_6 :: .string q_7 :: .bool p0_0 :: .string p0_1 :: .bool p0_2 :: .string p0_3 :: .bool p0_4 :: .string p0_5 :: .bool p0_6 :: .string p0_7 :: .bool p1_0 :: .string p1_1 :: .bool p1_2 :: .string p1_3 :: .bool p1_4 :: .string p1_5 :: .bool p1_6 :: .string p1_7 :: .bool p2_0 :: .string p2_1 :: .bool p2_2 :: .string p2_3 :: .bool p2_4 :: .string p2_5 :: .bool p2_6 :: .string p2_7 :: .int .i64 1 :: .bool true :: []) [g0] [(38, [.p (.at 8), .p (.at 9), .p (.at 10), .p (.at 11), .p (.at 12), .p (.at 13), .p (.at 14), .p (.at 15), .p (.at 16), .p (.at 17), .p (.at 18), .p (.at 19), .p (.at 20), .p (.at 21), .p (.at 22), .p (.at 23), .p (.at 24), .p (.at 25), .p (.at 26), .p (.at 27), .p (.at 28), .p (.at 29), .p (.at 30), .p (.at 31)])] [.agg [.p (.at 0), .p (.at 1), .p (.at 2), .p (.at 3), .p (.at 4), .p (.at 5), .p (.at 6), .p (.at 7)], .c (.p (.slc 0 0 3 3))] 32 [.b true] (.one (.c (.p (.lit (.bool true))))) [.call 45 [.agg [.p (.at 8), .p (.at 9), .p (.at 10), .p (.at 11), .p (.at 12), .p (.at 13), .p (.at 14), .p (.at 15)]] (.one (.c (.p (.at 32)))) [], .op2 false .eql (.p (.at 32)) (.p (.lit (.int .i64 1))) 33, .isB 33 true] (SX.held1 rfl hc0) Tryz.func11 (by kernel_rfl) rfl rfl (by kernel_rfl)
    ⟨fun γ w' _ _ => Great_yes p0_0 p0_1 p0_2 p0_3 p0_4 p0_5 p0_6 p0_7 w' h,
     congrArg (fun z => some (Value.bool z)) (by decide : ((1 : Int) == (1 : Int)) = true),
     rfl⟩
theorem great5_3_y1 (q_0 : Bool) (q_1 : ByteArray) (q_2 : Bool) (q_3 : ByteArray) (q_4 : Bool) (q_5 : ByteArray) (q_6 : Bool) (q_7 : ByteArray) (p0_0 : Bool) (p0_1 : ByteArray) (p0_2 : Bool) (p0_3 : ByteArray) (p0_4 : Bool) (p0_5 : ByteArray) (p0_6 : Bool) (p0_7 : ByteArray) (p1_0 : Bool) (p1_1 : ByteArray) (p1_2 : Bool) (p1_3 : ByteArray) (p1_4 : Bool) (p1_5 : ByteArray) (p1_6 : Bool) (p1_7 : ByteArray) (p2_0 : Bool) (p2_1 : ByteArray) (p2_2 : Bool) (p2_3 : ByteArray) (p2_4 : Bool) (p2_5 : ByteArray) (p2_6 : Bool) (p2_7 : ByteArray) (w : World) (g0 : Nat) (hc0 : SX.CellsAt w g0 0 [.bool p0_0, .string p0_1, .bool p0_2, .string p0_3, .bool p0_4, .string p0_5, .bool p0_6, .string p0_7, .bool p1_0, .string p1_1, .bool p1_2, .string p1_3, .bool p1_4, .string p1_5, .bool p1_6, .string p1_7, .bool p2_0, .string p2_1, .bool p2_2, .string p2_3, .bool p2_4, .string p2_5, .bool p2_6, .string p2_7]) (hp0_1 : p0_1.size ≤ 6) (hp0_3 : p0_3.size ≤ 6) (hp0_5 : p0_5.size ≤ 6) (hp0_7 : p0_7.size ≤ 6) (h : ¬ (p1_1.size ≤ 6 ∧ p1_3.size ≤ 6 ∧ p1_5.size ≤ 6 ∧ p1_7.size ≤ 6)) :
    Calls Tryz.prog 11 #[.agg #[.bool q_0, .string q_1, .bool q_2, .string q_3, .bool q_4, .string q_5, .bool q_6, .string q_7], .slice (some ⟨g0, 0, none⟩) 3 3] w fun e w' => e = .returned (.bool true) ∧ Below w.heap.size w w' := by
  exact SX.runX (w := w) (.bool q_0 :: .string q_1 :: .bool q_2 :: .string q_3 :: .bool q_4 :: .string q_5 :: .bool q_6 :: .string q_7 :: .bool p0_0 :: .string p0_1 :: .bool p0_2 :: .string p0_3 :: .bool p0_4 :: .string p0_5 :: .bool p0_6 :: .string p0_7 :: .bool p1_0 :: .string p1_1 :: .bool p1_2 :: .string p1_3 :: .bool p1_4 :: .string p1_5 :: .bool p1_6 :: .string p1_7 :: .bool p2_0 :: .string p2_1 :: .bool p2_2 :: .string p2_3 :: .bool p2_4 :: .string p2_5 :: .bool p2_6 :: .string p2_7 :: .int .i64 0 :: .bool false :: .int .i64 1 :: .bool true :: []) [g0] [(38, [.p (.at 8), .p (.at 9), .p (.at 10), .p (.at 11), .p (.at 12), .p (.at 13), .p (.at 14), .p (.at 15), .p (.at 16), .p (.at 17), .p (.at 18), .p (.at 19), .p (.at 20), .p (.at 21), .p (.at 22), .p (.at 23), .p (.at 24), .p (.at 25), .p (.at 26), .p (.at 27), .p (.at 28), .p (.at 29), .p (.at 30), .p (.at 31)])] [.agg [.p (.at 0), .p (.at 1), .p (.at 2), .p (.at 3), .p (.at 4), .p (.at 5), .p (.at 6), .p (.at 7)], .c (.p (.slc 0 0 3 3))] 32 [.b false, .b true] (.one (.c (.p (.lit (.bool true))))) [.call 45 [.agg [.p (.at 8), .p (.at 9), .p (.at 10), .p (.at 11), .p (.at 12), .p (.at 13), .p (.at 14), .p (.at 15)]] (.one (.c (.p (.at 32)))) [], .op2 false .eql (.p (.at 32)) (.p (.lit (.int .i64 1))) 33, .isB 33 false, .call 45 [.agg [.p (.at 16), .p (.at 17), .p (.at 18), .p (.at 19), .p (.at 20), .p (.at 21), .p (.at 22), .p (.at 23)]] (.one (.c (.p (.at 34)))) [], .op2 false .eql (.p (.at 34)) (.p (.lit (.int .i64 1))) 35, .isB 35 true] (SX.held1 rfl hc0) Tryz.func11 (by kernel_rfl) rfl rfl (by kernel_rfl)
    ⟨fun γ w' _ _ => Great_no p0_0 p0_1 p0_2 p0_3 p0_4 p0_5 p0_6 p0_7 w' hp0_1 hp0_3 hp0_5 hp0_7,
     congrArg (fun z => some (Value.bool z)) (by decide : ((0 : Int) == (1 : Int)) = false),
     rfl,
     fun γ w' _ _ => Great_yes p1_0 p1_1 p1_2 p1_3 p1_4 p1_5 p1_6 p1_7 w' h,
     congrArg (fun z => some (Value.bool z)) (by decide : ((1 : Int) == (1 : Int)) = true),
     rfl⟩
theorem great5_3_y2 (q_0 : Bool) (q_1 : ByteArray) (q_2 : Bool) (q_3 : ByteArray) (q_4 : Bool) (q_5 : ByteArray) (q_6 : Bool) (q_7 : ByteArray) (p0_0 : Bool) (p0_1 : ByteArray) (p0_2 : Bool) (p0_3 : ByteArray) (p0_4 : Bool) (p0_5 : ByteArray) (p0_6 : Bool) (p0_7 : ByteArray) (p1_0 : Bool) (p1_1 : ByteArray) (p1_2 : Bool) (p1_3 : ByteArray) (p1_4 : Bool) (p1_5 : ByteArray) (p1_6 : Bool) (p1_7 : ByteArray) (p2_0 : Bool) (p2_1 : ByteArray) (p2_2 : Bool) (p2_3 : ByteArray) (p2_4 : Bool) (p2_5 : ByteArray) (p2_6 : Bool) (p2_7 : ByteArray) (w : World) (g0 : Nat) (hc0 : SX.CellsAt w g0 0 [.bool p0_0, .string p0_1, .bool p0_2, .string p0_3, .bool p0_4, .string p0_5, .bool p0_6, .string p0_7, .bool p1_0, .string p1_1, .bool p1_2, .string p1_3, .bool p1_4, .string p1_5, .bool p1_6, .string p1_7, .bool p2_0, .string p2_1, .bool p2_2, .string p2_3, .bool p2_4, .string p2_5, .bool p2_6, .string p2_7]) (hp0_1 : p0_1.size ≤ 6) (hp0_3 : p0_3.size ≤ 6) (hp0_5 : p0_5.size ≤ 6) (hp0_7 : p0_7.size ≤ 6) (hp1_1 : p1_1.size ≤ 6) (hp1_3 : p1_3.size ≤ 6) (hp1_5 : p1_5.size ≤ 6) (hp1_7 : p1_7.size ≤ 6) (h : ¬ (p2_1.size ≤ 6 ∧ p2_3.size ≤ 6 ∧ p2_5.size ≤ 6 ∧ p2_7.size ≤ 6)) :
    Calls Tryz.prog 11 #[.agg #[.bool q_0, .string q_1, .bool q_2, .string q_3, .bool q_4, .string q_5, .bool q_6, .string q_7], .slice (some ⟨g0, 0, none⟩) 3 3] w fun e w' => e = .returned (.bool true) ∧ Below w.heap.size w w' := by
  exact SX.runX (w := w) (.bool q_0 :: .string q_1 :: .bool q_2 :: .string q_3 :: .bool q_4 :: .string q_5 :: .bool q_6 :: .string q_7 :: .bool p0_0 :: .string p0_1 :: .bool p0_2 :: .string p0_3 :: .bool p0_4 :: .string p0_5 :: .bool p0_6 :: .string p0_7 :: .bool p1_0 :: .string p1_1 :: .bool p1_2 :: .string p1_3 :: .bool p1_4 :: .string p1_5 :: .bool p1_6 :: .string p1_7 :: .bool p2_0 :: .string p2_1 :: .bool p2_2 :: .string p2_3 :: .bool p2_4 :: .string p2_5 :: .bool p2_6 :: .string p2_7 :: .int .i64 0 :: .bool false :: .int .i64 0 :: .bool false :: .int .i64 1 :: .bool true :: []) [g0] [(38, [.p (.at 8), .p (.at 9), .p (.at 10), .p (.at 11), .p (.at 12), .p (.at 13), .p (.at 14), .p (.at 15), .p (.at 16), .p (.at 17), .p (.at 18), .p (.at 19), .p (.at 20), .p (.at 21), .p (.at 22), .p (.at 23), .p (.at 24), .p (.at 25), .p (.at 26), .p (.at 27), .p (.at 28), .p (.at 29), .p (.at 30), .p (.at 31)])] [.agg [.p (.at 0), .p (.at 1), .p (.at 2), .p (.at 3), .p (.at 4), .p (.at 5), .p (.at 6), .p (.at 7)], .c (.p (.slc 0 0 3 3))] 32 [.b false, .b false, .b true] (.one (.c (.p (.lit (.bool true))))) [.call 45 [.agg [.p (.at 8), .p (.at 9), .p (.at 10), .p (.at 11), .p (.at 12), .p (.at 13), .p (.at 14), .p (.at 15)]] (.one (.c (.p (.at 32)))) [], .op2 false .eql (.p (.at 32)) (.p (.lit (.int .i64 1))) 33, .isB 33 false, .call 45 [.agg [.p (.at 16), .p (.at 17), .p (.at 18), .p (.at 19), .p (.at 20), .p (.at 21), .p (.at 22), .p (.at 23)]] (.one (.c (.p (.at 34)))) [], .op2 false .eql (.p (.at 34)) (.p (.lit (.int .i64 1))) 35, .isB 35 false, .call 45 [.agg [.p (.at 24), .p (.at 25), .p (.at 26), .p (.at 27), .p (.at 28), .p (.at 29), .p (.at 30), .p (.at 31)]] (.one (.c (.p (.at 36)))) [], .op2 false .eql (.p (.at 36)) (.p (.lit (.int .i64 1))) 37, .isB 37 true] (SX.held1 rfl hc0) Tryz.func11 (by kernel_rfl) rfl rfl (by kernel_rfl)
    ⟨fun γ w' _ _ => Great_no p0_0 p0_1 p0_2 p0_3 p0_4 p0_5 p0_6 p0_7 w' hp0_1 hp0_3 hp0_5 hp0_7,
     congrArg (fun z => some (Value.bool z)) (by decide : ((0 : Int) == (1 : Int)) = false),
     rfl,
     fun γ w' _ _ => Great_no p1_0 p1_1 p1_2 p1_3 p1_4 p1_5 p1_6 p1_7 w' hp1_1 hp1_3 hp1_5 hp1_7,
     congrArg (fun z => some (Value.bool z)) (by decide : ((0 : Int) == (1 : Int)) = false),
     rfl,
     fun γ w' _ _ => Great_yes p2_0 p2_1 p2_2 p2_3 p2_4 p2_5 p2_6 p2_7 w' h,
     congrArg (fun z => some (Value.bool z)) (by decide : ((1 : Int) == (1 : Int)) = true),
     rfl⟩
end Go.Proofs.YtpmfaommooneiaaGreatDoor
