/- voussoirlaw07.formed and shift. -/
import Derived.Test.YtodcomijjmobdaaGreatDoorYe
import Derived.Test.YtodcomijjmobdaaGreatDoorYg
import Derived.Test.YtodcomijjmobdaaGreatDoorPg
import Derived.Test.YtodcomijjmobdaaGreatDoorQg
import Derived.Test.YtodcomijjmobdaaGreatDoorVr
import Derived.Test.YtodcomijjmobdaaGreatDoorPs
set_option linter.unusedVariables false
set_option linter.unusedSimpArgs false
namespace Go.Proofs.YtodcomijjmobdaaGreatDoor
open Go.RowKit NM SX
theorem Great4_any (p0 : Bool) (p1 : ByteArray) (p2 : Bool) (p3 : ByteArray) (p4 : Bool) (p5 : ByteArray) (p6 : Bool) (p7 : ByteArray) (w : World) :
    Calls Tryz.prog 11 #[.agg #[.bool p0, .string p1, .bool p2, .string p3, .bool p4, .string p5, .bool p6, .string p7]] w fun e w' => e = .returned (.int .i64 (gr7 [p1, p3, p5, p7])) ∧ Below w.heap.size w w' := by
  by_cases h : p1.size ≤ 6 ∧ p3.size ≤ 6 ∧ p5.size ≤ 6 ∧ p7.size ≤ 6
  · rw [gr7_zero.2 (by simpa using h)]
    exact Great_no p0 p1 p2 p3 p4 p5 p6 p7 w h.1 h.2.1 h.2.2.1 h.2.2.2
  · have e : gr7 [p1, p3, p5, p7] = 1 := if_neg (fun k => h (by simpa using k))
    rw [e]
    exact Great_yes p0 p1 p2 p3 p4 p5 p6 p7 w h
theorem formed7_g0 (p0 : Bool) (p1 : ByteArray) (p2 : Bool) (p3 : ByteArray) (p4 : Bool) (p5 : ByteArray) (p6 : Bool) (p7 : ByteArray) (q0 : Bool) (q1 : ByteArray) (q2 : Bool) (q3 : ByteArray) (q4 : Bool) (q5 : ByteArray) (q6 : Bool) (q7 : ByteArray) (w : World) (h : 0 < gr7 [p1, p3, p5, p7]) :
    Calls Tryz.prog 24 #[.agg #[.bool p0, .string p1, .bool p2, .string p3, .bool p4, .string p5, .bool p6, .string p7], .agg #[.bool q0, .string q1, .bool q2, .string q3, .bool q4, .string q5, .bool q6, .string q7]] w fun e w' => e = .returned (.tuple #[.agg #[.bool false, .string ⟨#[]⟩, .bool false, .string ⟨#[]⟩, .bool false, .string ⟨#[]⟩, .bool false, .string ⟨#[]⟩], .agg #[.bool false, .string ⟨#[]⟩, .bool false, .string ⟨#[]⟩, .bool false, .string ⟨#[]⟩, .bool false, .string ⟨#[]⟩], .bool false]) ∧ Below w.heap.size w w' := by
  exact SX.run (w := w) [.bool p0, .string p1, .bool p2, .string p3, .bool p4, .string p5, .bool p6, .string p7, .bool q0, .string q1, .bool q2, .string q3, .bool q4, .string q5, .bool q6, .string q7, .int .i64 (gr7 [p1, p3, p5, p7]), .bool true] [.b true] [.agg [.p (.at 0), .p (.at 1), .p (.at 2), .p (.at 3), .p (.at 4), .p (.at 5), .p (.at 6), .p (.at 7)], .agg [.p (.at 8), .p (.at 9), .p (.at 10), .p (.at 11), .p (.at 12), .p (.at 13), .p (.at 14), .p (.at 15)]] 16 (.tup [.agg [.p (.lit (.bool false)), .p (.lit (.string ⟨#[]⟩)), .p (.lit (.bool false)), .p (.lit (.string ⟨#[]⟩)), .p (.lit (.bool false)), .p (.lit (.string ⟨#[]⟩)), .p (.lit (.bool false)), .p (.lit (.string ⟨#[]⟩))], .agg [.p (.lit (.bool false)), .p (.lit (.string ⟨#[]⟩)), .p (.lit (.bool false)), .p (.lit (.string ⟨#[]⟩)), .p (.lit (.bool false)), .p (.lit (.string ⟨#[]⟩)), .p (.lit (.bool false)), .p (.lit (.string ⟨#[]⟩))], .c (.p (.lit (.bool false)))]) [.call 11 [.agg [.p (.at 0), .p (.at 1), .p (.at 2), .p (.at 3), .p (.at 4), .p (.at 5), .p (.at 6), .p (.at 7)]] (.one (.c (.p (.at 16)))) [], .op2 false .gtr (.p (.at 16)) (.p (.lit (.int .i64 0))) 17, .isB 17 true] Tryz.func24 (by kernel_rfl) rfl (by kernel_rfl) rfl (by kernel_rfl)
    ⟨fun γ w' _ _ => Great4_any p0 p1 p2 p3 p4 p5 p6 p7 w',
     congrArg (fun z => some (Value.bool z)) (decide_eq_true h : decide ((gr7 [p1, p3, p5, p7]) > (0 : Int)) = true),
     rfl⟩
theorem formed7_g1 (p0 : Bool) (p1 : ByteArray) (p2 : Bool) (p3 : ByteArray) (p4 : Bool) (p5 : ByteArray) (p6 : Bool) (p7 : ByteArray) (q0 : Bool) (q1 : ByteArray) (q2 : Bool) (q3 : ByteArray) (q4 : Bool) (q5 : ByteArray) (q6 : Bool) (q7 : ByteArray) (w : World) (h0 : ¬ 0 < gr7 [p1, p3, p5, p7])  (h : ¬ q1.size ≤ 6) :
    Calls Tryz.prog 24 #[.agg #[.bool p0, .string p1, .bool p2, .string p3, .bool p4, .string p5, .bool p6, .string p7], .agg #[.bool q0, .string q1, .bool q2, .string q3, .bool q4, .string q5, .bool q6, .string q7]] w fun e w' => e = .returned (.tuple #[.agg #[.bool false, .string ⟨#[]⟩, .bool false, .string ⟨#[]⟩, .bool false, .string ⟨#[]⟩, .bool false, .string ⟨#[]⟩], .agg #[.bool false, .string ⟨#[]⟩, .bool false, .string ⟨#[]⟩, .bool false, .string ⟨#[]⟩, .bool false, .string ⟨#[]⟩], .bool false]) ∧ Below w.heap.size w w' := by
  exact SX.run (w := w) [.bool p0, .string p1, .bool p2, .string p3, .bool p4, .string p5, .bool p6, .string p7, .bool q0, .string q1, .bool q2, .string q3, .bool q4, .string q5, .bool q6, .string q7, .int .i64 (gr7 [p1, p3, p5, p7]), .bool false, .int .i64 (q1.size : Int), .bool true] [.b false, .b true] [.agg [.p (.at 0), .p (.at 1), .p (.at 2), .p (.at 3), .p (.at 4), .p (.at 5), .p (.at 6), .p (.at 7)], .agg [.p (.at 8), .p (.at 9), .p (.at 10), .p (.at 11), .p (.at 12), .p (.at 13), .p (.at 14), .p (.at 15)]] 16 (.tup [.agg [.p (.lit (.bool false)), .p (.lit (.string ⟨#[]⟩)), .p (.lit (.bool false)), .p (.lit (.string ⟨#[]⟩)), .p (.lit (.bool false)), .p (.lit (.string ⟨#[]⟩)), .p (.lit (.bool false)), .p (.lit (.string ⟨#[]⟩))], .agg [.p (.lit (.bool false)), .p (.lit (.string ⟨#[]⟩)), .p (.lit (.bool false)), .p (.lit (.string ⟨#[]⟩)), .p (.lit (.bool false)), .p (.lit (.string ⟨#[]⟩)), .p (.lit (.bool false)), .p (.lit (.string ⟨#[]⟩))], .c (.p (.lit (.bool false)))]) [.call 11 [.agg [.p (.at 0), .p (.at 1), .p (.at 2), .p (.at 3), .p (.at 4), .p (.at 5), .p (.at 6), .p (.at 7)]] (.one (.c (.p (.at 16)))) [], .op2 false .gtr (.p (.at 16)) (.p (.lit (.int .i64 0))) 17, .isB 17 false, .len (.p (.at 9)) 18, .op2 false .gtr (.p (.at 18)) (.p (.lit (.int .i64 6))) 19, .isB 19 true] Tryz.func24 (by kernel_rfl) rfl (by kernel_rfl) rfl (by kernel_rfl)
    ⟨fun γ w' _ _ => Great4_any p0 p1 p2 p3 p4 p5 p6 p7 w',
     congrArg (fun z => some (Value.bool z)) (decide_eq_false h0 : decide ((gr7 [p1, p3, p5, p7]) > (0 : Int)) = false),
     rfl,
     ⟨_, rfl, rfl⟩,
     congrArg (fun z => some (Value.bool z)) (decide_eq_true (by omega) : decide ((q1.size : Int) > (6 : Int)) = true),
     rfl⟩
theorem formed7_g2 (p0 : Bool) (p1 : ByteArray) (p2 : Bool) (p3 : ByteArray) (p4 : Bool) (p5 : ByteArray) (p6 : Bool) (p7 : ByteArray) (q0 : Bool) (q1 : ByteArray) (q2 : Bool) (q3 : ByteArray) (q4 : Bool) (q5 : ByteArray) (q6 : Bool) (q7 : ByteArray) (w : World) (h0 : ¬ 0 < gr7 [p1, p3, p5, p7]) (k1 : q1.size ≤ 6) (h : ¬ q3.size ≤ 6) :
    Calls Tryz.prog 24 #[.agg #[.bool p0, .string p1, .bool p2, .string p3, .bool p4, .string p5, .bool p6, .string p7], .agg #[.bool q0, .string q1, .bool q2, .string q3, .bool q4, .string q5, .bool q6, .string q7]] w fun e w' => e = .returned (.tuple #[.agg #[.bool false, .string ⟨#[]⟩, .bool false, .string ⟨#[]⟩, .bool false, .string ⟨#[]⟩, .bool false, .string ⟨#[]⟩], .agg #[.bool false, .string ⟨#[]⟩, .bool false, .string ⟨#[]⟩, .bool false, .string ⟨#[]⟩, .bool false, .string ⟨#[]⟩], .bool false]) ∧ Below w.heap.size w w' := by
  exact SX.run (w := w) [.bool p0, .string p1, .bool p2, .string p3, .bool p4, .string p5, .bool p6, .string p7, .bool q0, .string q1, .bool q2, .string q3, .bool q4, .string q5, .bool q6, .string q7, .int .i64 (gr7 [p1, p3, p5, p7]), .bool false, .int .i64 (q1.size : Int), .bool false, .int .i64 (q3.size : Int), .bool true] [.b false, .b false, .b true] [.agg [.p (.at 0), .p (.at 1), .p (.at 2), .p (.at 3), .p (.at 4), .p (.at 5), .p (.at 6), .p (.at 7)], .agg [.p (.at 8), .p (.at 9), .p (.at 10), .p (.at 11), .p (.at 12), .p (.at 13), .p (.at 14), .p (.at 15)]] 16 (.tup [.agg [.p (.lit (.bool false)), .p (.lit (.string ⟨#[]⟩)), .p (.lit (.bool false)), .p (.lit (.string ⟨#[]⟩)), .p (.lit (.bool false)), .p (.lit (.string ⟨#[]⟩)), .p (.lit (.bool false)), .p (.lit (.string ⟨#[]⟩))], .agg [.p (.lit (.bool false)), .p (.lit (.string ⟨#[]⟩)), .p (.lit (.bool false)), .p (.lit (.string ⟨#[]⟩)), .p (.lit (.bool false)), .p (.lit (.string ⟨#[]⟩)), .p (.lit (.bool false)), .p (.lit (.string ⟨#[]⟩))], .c (.p (.lit (.bool false)))]) [.call 11 [.agg [.p (.at 0), .p (.at 1), .p (.at 2), .p (.at 3), .p (.at 4), .p (.at 5), .p (.at 6), .p (.at 7)]] (.one (.c (.p (.at 16)))) [], .op2 false .gtr (.p (.at 16)) (.p (.lit (.int .i64 0))) 17, .isB 17 false, .len (.p (.at 9)) 18, .op2 false .gtr (.p (.at 18)) (.p (.lit (.int .i64 6))) 19, .isB 19 false, .len (.p (.at 11)) 20, .op2 false .gtr (.p (.at 20)) (.p (.lit (.int .i64 6))) 21, .isB 21 true] Tryz.func24 (by kernel_rfl) rfl (by kernel_rfl) rfl (by kernel_rfl)
    ⟨fun γ w' _ _ => Great4_any p0 p1 p2 p3 p4 p5 p6 p7 w',
     congrArg (fun z => some (Value.bool z)) (decide_eq_false h0 : decide ((gr7 [p1, p3, p5, p7]) > (0 : Int)) = false),
     rfl,
     ⟨_, rfl, rfl⟩,
     congrArg (fun z => some (Value.bool z)) (decide_eq_false (by omega) : decide ((q1.size : Int) > (6 : Int)) = false),
     rfl,
     ⟨_, rfl, rfl⟩,
     congrArg (fun z => some (Value.bool z)) (decide_eq_true (by omega) : decide ((q3.size : Int) > (6 : Int)) = true),
     rfl⟩
theorem formed7_g3 (p0 : Bool) (p1 : ByteArray) (p2 : Bool) (p3 : ByteArray) (p4 : Bool) (p5 : ByteArray) (p6 : Bool) (p7 : ByteArray) (q0 : Bool) (q1 : ByteArray) (q2 : Bool) (q3 : ByteArray) (q4 : Bool) (q5 : ByteArray) (q6 : Bool) (q7 : ByteArray) (w : World) (h0 : ¬ 0 < gr7 [p1, p3, p5, p7]) (k1 : q1.size ≤ 6) (k2 : q3.size ≤ 6) (h : ¬ q5.size ≤ 6) :
    Calls Tryz.prog 24 #[.agg #[.bool p0, .string p1, .bool p2, .string p3, .bool p4, .string p5, .bool p6, .string p7], .agg #[.bool q0, .string q1, .bool q2, .string q3, .bool q4, .string q5, .bool q6, .string q7]] w fun e w' => e = .returned (.tuple #[.agg #[.bool false, .string ⟨#[]⟩, .bool false, .string ⟨#[]⟩, .bool false, .string ⟨#[]⟩, .bool false, .string ⟨#[]⟩], .agg #[.bool false, .string ⟨#[]⟩, .bool false, .string ⟨#[]⟩, .bool false, .string ⟨#[]⟩, .bool false, .string ⟨#[]⟩], .bool false]) ∧ Below w.heap.size w w' := by
  exact SX.run (w := w) [.bool p0, .string p1, .bool p2, .string p3, .bool p4, .string p5, .bool p6, .string p7, .bool q0, .string q1, .bool q2, .string q3, .bool q4, .string q5, .bool q6, .string q7, .int .i64 (gr7 [p1, p3, p5, p7]), .bool false, .int .i64 (q1.size : Int), .bool false, .int .i64 (q3.size : Int), .bool false, .int .i64 (q5.size : Int), .bool true] [.b false, .b false, .b false, .b true] [.agg [.p (.at 0), .p (.at 1), .p (.at 2), .p (.at 3), .p (.at 4), .p (.at 5), .p (.at 6), .p (.at 7)], .agg [.p (.at 8), .p (.at 9), .p (.at 10), .p (.at 11), .p (.at 12), .p (.at 13), .p (.at 14), .p (.at 15)]] 16 (.tup [.agg [.p (.lit (.bool false)), .p (.lit (.string ⟨#[]⟩)), .p (.lit (.bool false)), .p (.lit (.string ⟨#[]⟩)), .p (.lit (.bool false)), .p (.lit (.string ⟨#[]⟩)), .p (.lit (.bool false)), .p (.lit (.string ⟨#[]⟩))], .agg [.p (.lit (.bool false)), .p (.lit (.string ⟨#[]⟩)), .p (.lit (.bool false)), .p (.lit (.string ⟨#[]⟩)), .p (.lit (.bool false)), .p (.lit (.string ⟨#[]⟩)), .p (.lit (.bool false)), .p (.lit (.string ⟨#[]⟩))], .c (.p (.lit (.bool false)))]) [.call 11 [.agg [.p (.at 0), .p (.at 1), .p (.at 2), .p (.at 3), .p (.at 4), .p (.at 5), .p (.at 6), .p (.at 7)]] (.one (.c (.p (.at 16)))) [], .op2 false .gtr (.p (.at 16)) (.p (.lit (.int .i64 0))) 17, .isB 17 false, .len (.p (.at 9)) 18, .op2 false .gtr (.p (.at 18)) (.p (.lit (.int .i64 6))) 19, .isB 19 false, .len (.p (.at 11)) 20, .op2 false .gtr (.p (.at 20)) (.p (.lit (.int .i64 6))) 21, .isB 21 false, .len (.p (.at 13)) 22, .op2 false .gtr (.p (.at 22)) (.p (.lit (.int .i64 6))) 23, .isB 23 true] Tryz.func24 (by kernel_rfl) rfl (by kernel_rfl) rfl (by kernel_rfl)
    ⟨fun γ w' _ _ => Great4_any p0 p1 p2 p3 p4 p5 p6 p7 w',
     congrArg (fun z => some (Value.bool z)) (decide_eq_false h0 : decide ((gr7 [p1, p3, p5, p7]) > (0 : Int)) = false),
     rfl,
     ⟨_, rfl, rfl⟩,
     congrArg (fun z => some (Value.bool z)) (decide_eq_false (by omega) : decide ((q1.size : Int) > (6 : Int)) = false),
     rfl,
     ⟨_, rfl, rfl⟩,
     congrArg (fun z => some (Value.bool z)) (decide_eq_false (by omega) : decide ((q3.size : Int) > (6 : Int)) = false),
     rfl,
     ⟨_, rfl, rfl⟩,
     congrArg (fun z => some (Value.bool z)) (decide_eq_true (by omega) : decide ((q5.size : Int) > (6 : Int)) = true),
     rfl⟩
theorem formed7_g4 (p0 : Bool) (p1 : ByteArray) (p2 : Bool) (p3 : ByteArray) (p4 : Bool) (p5 : ByteArray) (p6 : Bool) (p7 : ByteArray) (q0 : Bool) (q1 : ByteArray) (q2 : Bool) (q3 : ByteArray) (q4 : Bool) (q5 : ByteArray) (q6 : Bool) (q7 : ByteArray) (w : World) (h0 : ¬ 0 < gr7 [p1, p3, p5, p7]) (k1 : q1.size ≤ 6) (k2 : q3.size ≤ 6) (k3 : q5.size ≤ 6) (h : ¬ q7.size ≤ 6) :
    Calls Tryz.prog 24 #[.agg #[.bool p0, .string p1, .bool p2, .string p3, .bool p4, .string p5, .bool p6, .string p7], .agg #[.bool q0, .string q1, .bool q2, .string q3, .bool q4, .string q5, .bool q6, .string q7]] w fun e w' => e = .returned (.tuple #[.agg #[.bool false, .string ⟨#[]⟩, .bool false, .string ⟨#[]⟩, .bool false, .string ⟨#[]⟩, .bool false, .string ⟨#[]⟩], .agg #[.bool false, .string ⟨#[]⟩, .bool false, .string ⟨#[]⟩, .bool false, .string ⟨#[]⟩, .bool false, .string ⟨#[]⟩], .bool false]) ∧ Below w.heap.size w w' := by
  exact SX.run (w := w) [.bool p0, .string p1, .bool p2, .string p3, .bool p4, .string p5, .bool p6, .string p7, .bool q0, .string q1, .bool q2, .string q3, .bool q4, .string q5, .bool q6, .string q7, .int .i64 (gr7 [p1, p3, p5, p7]), .bool false, .int .i64 (q1.size : Int), .bool false, .int .i64 (q3.size : Int), .bool false, .int .i64 (q5.size : Int), .bool false, .int .i64 (q7.size : Int), .bool true] [.b false, .b false, .b false, .b false, .b true] [.agg [.p (.at 0), .p (.at 1), .p (.at 2), .p (.at 3), .p (.at 4), .p (.at 5), .p (.at 6), .p (.at 7)], .agg [.p (.at 8), .p (.at 9), .p (.at 10), .p (.at 11), .p (.at 12), .p (.at 13), .p (.at 14), .p (.at 15)]] 16 (.tup [.agg [.p (.lit (.bool false)), .p (.lit (.string ⟨#[]⟩)), .p (.lit (.bool false)), .p (.lit (.string ⟨#[]⟩)), .p (.lit (.bool false)), .p (.lit (.string ⟨#[]⟩)), .p (.lit (.bool false)), .p (.lit (.string ⟨#[]⟩))], .agg [.p (.lit (.bool false)), .p (.lit (.string ⟨#[]⟩)), .p (.lit (.bool false)), .p (.lit (.string ⟨#[]⟩)), .p (.lit (.bool false)), .p (.lit (.string ⟨#[]⟩)), .p (.lit (.bool false)), .p (.lit (.string ⟨#[]⟩))], .c (.p (.lit (.bool false)))]) [.call 11 [.agg [.p (.at 0), .p (.at 1), .p (.at 2), .p (.at 3), .p (.at 4), .p (.at 5), .p (.at 6), .p (.at 7)]] (.one (.c (.p (.at 16)))) [], .op2 false .gtr (.p (.at 16)) (.p (.lit (.int .i64 0))) 17, .isB 17 false, .len (.p (.at 9)) 18, .op2 false .gtr (.p (.at 18)) (.p (.lit (.int .i64 6))) 19, .isB 19 false, .len (.p (.at 11)) 20, .op2 false .gtr (.p (.at 20)) (.p (.lit (.int .i64 6))) 21, .isB 21 false, .len (.p (.at 13)) 22, .op2 false .gtr (.p (.at 22)) (.p (.lit (.int .i64 6))) 23, .isB 23 false, .len (.p (.at 15)) 24, .op2 false .gtr (.p (.at 24)) (.p (.lit (.int .i64 6))) 25, .isB 25 true] Tryz.func24 (by kernel_rfl) rfl (by kernel_rfl) rfl (by kernel_rfl)
    ⟨fun γ w' _ _ => Great4_any p0 p1 p2 p3 p4 p5 p6 p7 w',
     congrArg (fun z => some (Value.bool z)) (decide_eq_false h0 : decide ((gr7 [p1, p3, p5, p7]) > (0 : Int)) = false),
     rfl,
     ⟨_, rfl, rfl⟩,
     congrArg (fun z => some (Value.bool z)) (decide_eq_false (by omega) : decide ((q1.size : Int) > (6 : Int)) = false),
     rfl,
     ⟨_, rfl, rfl⟩,
     congrArg (fun z => some (Value.bool z)) (decide_eq_false (by omega) : decide ((q3.size : Int) > (6 : Int)) = false),
     rfl,
     ⟨_, rfl, rfl⟩,
     congrArg (fun z => some (Value.bool z)) (decide_eq_false (by omega) : decide ((q5.size : Int) > (6 : Int)) = false),
     rfl,
     ⟨_, rfl, rfl⟩,
     congrArg (fun z => some (Value.bool z)) (decide_eq_true (by omega) : decide ((q7.size : Int) > (6 : Int)) = true),
     rfl⟩
theorem formed7_f {ux0 : Value} {x0 : P3} {kx0 : Nat} (hx0 : IsP ux0 x0 kx0) (lx0 : kx0 ≤ 6) {ux1 : Value} {x1 : Z4} {kx1 : Nat} (hx1 : IsF ux1 x1 kx1) (lx1 : kx1 ≤ 6) (w : World) (hf : flatF x1) :
    Calls Tryz.prog 24 #[ux0, ux1] w fun e w' => e = .returned (.tuple #[PV x0, .agg #[.bool false, .string ⟨#[]⟩, .bool false, .string ⟨#[]⟩, .bool false, .string ⟨#[]⟩, .bool false, .string ⟨#[]⟩], .bool false]) ∧ Below w.heap.size w w' := by
  replace hx0 := hx0.up lx0
  have zx0 := hx0.sz (by decide)
  obtain ⟨x0q, hx0q, ex0⟩ := id hx0
  obtain ⟨x00, x01, x02, x03, x04, x05, x06, x07, rfl, ex00, sx01, ex01, sx03, ex02, sx05, ex03, sx07⟩ := id hx0q
  have wx00 : IsZ (.agg #[.bool x00, .string x01]) x0q.a 6 := ⟨x00, x01, rfl, ex00, sx01⟩
  have zx00 := wx00.sz
  have wx01 : IsZ (.agg #[.bool x02, .string x03]) x0q.b 6 := ⟨x02, x03, rfl, ex01, sx03⟩
  have zx01 := wx01.sz
  have wx02 : IsZ (.agg #[.bool x04, .string x05]) x0q.c 6 := ⟨x04, x05, rfl, ex02, sx05⟩
  have zx02 := wx02.sz
  have wx03 : IsZ (.agg #[.bool x06, .string x07]) x0q.d 6 := ⟨x06, x07, rfl, ex03, sx07⟩
  have zx03 := wx03.sz
  replace hx1 := hx1.up lx1
  have zx1 := hx1.sz
  obtain ⟨x10, x11, x12, x13, x14, x15, x16, x17, rfl, ex10, sx11, ex11, sx13, ex12, sx15, ex13, sx17⟩ := id hx1
  have wx10 : IsZ (.agg #[.bool x10, .string x11]) x1.a 6 := ⟨x10, x11, rfl, ex10, sx11⟩
  have zx10 := wx10.sz
  have wx11 : IsZ (.agg #[.bool x12, .string x13]) x1.b 6 := ⟨x12, x13, rfl, ex11, sx13⟩
  have zx11 := wx11.sz
  have wx12 : IsZ (.agg #[.bool x14, .string x15]) x1.c 6 := ⟨x14, x15, rfl, ex12, sx15⟩
  have zx12 := wx12.sz
  have wx13 : IsZ (.agg #[.bool x16, .string x17]) x1.d 6 := ⟨x16, x17, rfl, ex13, sx17⟩
  have zx13 := wx13.sz
  have f1 : Pk x0 6 := Pk.up (zx0) (by decide)
  have H := SX.run (w := w) (List.flatten [(.bool x00 :: .string x01 :: .bool x02 :: .string x03 :: .bool x04 :: .string x05 :: .bool x06 :: .string x07 :: .bool x10 :: .string x11 :: .bool x12 :: .string x13 :: .bool x14 :: .string x15 :: .bool x16 :: .string x17 :: .int .i64 0 :: .bool false :: .int .i64 (x11.size : Int) :: .bool false :: .int .i64 (x13.size : Int) :: .bool false :: .int .i64 (x15.size : Int) :: .bool false :: .int .i64 (x17.size : Int) :: .bool false :: .bool false :: .string ⟨#[]⟩ :: .bool false :: .string ⟨#[]⟩ :: .bool false :: .string ⟨#[]⟩ :: .bool false :: .string ⟨#[]⟩ :: .bool false :: []), pc x0]) [.b false, .b false, .b false, .b false, .b false] [.ga 0 8, .ga 8 8] 16 (.tup [.ga 35 8, .ga 26 8, .ca 34]) [.call 11 [.ga 0 8] (.one (.ca 16)) [], .op2 false .gtr (.pa 16) (.p (.lit (.int .i64 0))) 17, .isB 17 false, .len (.pa 9) 18, .op2 false .gtr (.pa 18) (.p (.lit (.int .i64 6))) 19, .isB 19 false, .len (.pa 11) 20, .op2 false .gtr (.pa 20) (.p (.lit (.int .i64 6))) 21, .isB 21 false, .len (.pa 13) 22, .op2 false .gtr (.pa 22) (.p (.lit (.int .i64 6))) 23, .isB 23 false, .len (.pa 15) 24, .op2 false .gtr (.pa 24) (.p (.lit (.int .i64 6))) 25, .isB 25 false, .call 72 [.ga 8 8] (.tup [.ga 26 8, .ca 34]) [], .call 13 [.ga 0 8] (.one (.ga 35 8)) []] Tryz.func24 (by kernel_rfl) rfl (by kernel_rfl) rfl (by kernel_rfl)
    ⟨fun γ w' _ _ => by have h := Great4_any x00 x01 x02 x03 x04 x05 x06 x07 w'; rw [gr7_zero.2 (by simpa using ⟨sx01, sx03, sx05, sx07⟩)] at h; exact h,
     congrArg (fun z => some (Value.bool z)) (by decide : decide ((0 : Int) > (0 : Int)) = false),
     rfl,
     ⟨_, rfl, rfl⟩,
     congrArg (fun z => some (Value.bool z)) (decide_eq_false (by omega) : decide ((x11.size : Int) > (6 : Int)) = false),
     rfl,
     ⟨_, rfl, rfl⟩,
     congrArg (fun z => some (Value.bool z)) (decide_eq_false (by omega) : decide ((x13.size : Int) > (6 : Int)) = false),
     rfl,
     ⟨_, rfl, rfl⟩,
     congrArg (fun z => some (Value.bool z)) (decide_eq_false (by omega) : decide ((x15.size : Int) > (6 : Int)) = false),
     rfl,
     ⟨_, rfl, rfl⟩,
     congrArg (fun z => some (Value.bool z)) (decide_eq_false (by omega) : decide ((x17.size : Int) > (6 : Int)) = false),
     rfl,
     fun γ w' _ _ => by have h := v5Norm_any hx1 (by decide) w'; rw [normV, if_pos hf] at h; exact h,
     fun γ w' _ _ => p4Norm hx0 (by decide) w'⟩
  exact H
theorem formed7_n {ux0 : Value} {x0 : P3} {kx0 : Nat} (hx0 : IsP ux0 x0 kx0) (lx0 : kx0 ≤ 6) {ux1 : Value} {x1 : Z4} {kx1 : Nat} (hx1 : IsF ux1 x1 kx1) (lx1 : kx1 ≤ 6) (w : World) (hf : ¬ flatF x1) :
    Calls Tryz.prog 24 #[ux0, ux1] w fun e w' => e = .returned (.tuple #[PV x0, FV (prim x1), .bool true]) ∧ Below w.heap.size w w' := by
  replace hx0 := hx0.up lx0
  have zx0 := hx0.sz (by decide)
  obtain ⟨x0q, hx0q, ex0⟩ := id hx0
  obtain ⟨x00, x01, x02, x03, x04, x05, x06, x07, rfl, ex00, sx01, ex01, sx03, ex02, sx05, ex03, sx07⟩ := id hx0q
  have wx00 : IsZ (.agg #[.bool x00, .string x01]) x0q.a 6 := ⟨x00, x01, rfl, ex00, sx01⟩
  have zx00 := wx00.sz
  have wx01 : IsZ (.agg #[.bool x02, .string x03]) x0q.b 6 := ⟨x02, x03, rfl, ex01, sx03⟩
  have zx01 := wx01.sz
  have wx02 : IsZ (.agg #[.bool x04, .string x05]) x0q.c 6 := ⟨x04, x05, rfl, ex02, sx05⟩
  have zx02 := wx02.sz
  have wx03 : IsZ (.agg #[.bool x06, .string x07]) x0q.d 6 := ⟨x06, x07, rfl, ex03, sx07⟩
  have zx03 := wx03.sz
  replace hx1 := hx1.up lx1
  have zx1 := hx1.sz
  obtain ⟨x10, x11, x12, x13, x14, x15, x16, x17, rfl, ex10, sx11, ex11, sx13, ex12, sx15, ex13, sx17⟩ := id hx1
  have wx10 : IsZ (.agg #[.bool x10, .string x11]) x1.a 6 := ⟨x10, x11, rfl, ex10, sx11⟩
  have zx10 := wx10.sz
  have wx11 : IsZ (.agg #[.bool x12, .string x13]) x1.b 6 := ⟨x12, x13, rfl, ex11, sx13⟩
  have zx11 := wx11.sz
  have wx12 : IsZ (.agg #[.bool x14, .string x15]) x1.c 6 := ⟨x14, x15, rfl, ex12, sx15⟩
  have zx12 := wx12.sz
  have wx13 : IsZ (.agg #[.bool x16, .string x17]) x1.d 6 := ⟨x16, x17, rfl, ex13, sx17⟩
  have zx13 := wx13.sz
  have f1 : Fk (prim x1) 6 := Fk.up ((Fk.prim zx1)) (by decide)
  have f2 : Pk x0 6 := Pk.up (zx0) (by decide)
  have H := SX.run (w := w) (List.flatten [[.bool x00, .string x01, .bool x02, .string x03, .bool x04, .string x05, .bool x06, .string x07, .bool x10, .string x11, .bool x12, .string x13, .bool x14, .string x15, .bool x16, .string x17, .int .i64 0, .bool false, .int .i64 (x11.size : Int), .bool false, .int .i64 (x13.size : Int), .bool false, .int .i64 (x15.size : Int), .bool false, .int .i64 (x17.size : Int), .bool false], fc (prim x1), [.bool true], pc x0]) [.b false, .b false, .b false, .b false, .b false] [.ga 0 8, .ga 8 8] 16 (.tup [.ga 35 8, .ga 26 8, .ca 34]) [.call 11 [.ga 0 8] (.one (.ca 16)) [], .op2 false .gtr (.pa 16) (.p (.lit (.int .i64 0))) 17, .isB 17 false, .len (.pa 9) 18, .op2 false .gtr (.pa 18) (.p (.lit (.int .i64 6))) 19, .isB 19 false, .len (.pa 11) 20, .op2 false .gtr (.pa 20) (.p (.lit (.int .i64 6))) 21, .isB 21 false, .len (.pa 13) 22, .op2 false .gtr (.pa 22) (.p (.lit (.int .i64 6))) 23, .isB 23 false, .len (.pa 15) 24, .op2 false .gtr (.pa 24) (.p (.lit (.int .i64 6))) 25, .isB 25 false, .call 72 [.ga 8 8] (.tup [.ga 26 8, .ca 34]) [], .call 13 [.ga 0 8] (.one (.ga 35 8)) []] Tryz.func24 (by kernel_rfl) rfl (by kernel_rfl) rfl (by kernel_rfl)
    ⟨fun γ w' _ _ => by have h := Great4_any x00 x01 x02 x03 x04 x05 x06 x07 w'; rw [gr7_zero.2 (by simpa using ⟨sx01, sx03, sx05, sx07⟩)] at h; exact h,
     congrArg (fun z => some (Value.bool z)) (by decide : decide ((0 : Int) > (0 : Int)) = false),
     rfl,
     ⟨_, rfl, rfl⟩,
     congrArg (fun z => some (Value.bool z)) (decide_eq_false (by omega) : decide ((x11.size : Int) > (6 : Int)) = false),
     rfl,
     ⟨_, rfl, rfl⟩,
     congrArg (fun z => some (Value.bool z)) (decide_eq_false (by omega) : decide ((x13.size : Int) > (6 : Int)) = false),
     rfl,
     ⟨_, rfl, rfl⟩,
     congrArg (fun z => some (Value.bool z)) (decide_eq_false (by omega) : decide ((x15.size : Int) > (6 : Int)) = false),
     rfl,
     ⟨_, rfl, rfl⟩,
     congrArg (fun z => some (Value.bool z)) (decide_eq_false (by omega) : decide ((x17.size : Int) > (6 : Int)) = false),
     rfl,
     fun γ w' _ _ => by have h := v5Norm_any hx1 (by decide) w'; rw [normV, if_neg hf] at h; exact h,
     fun γ w' _ _ => p4Norm hx0 (by decide) w'⟩
  exact H
theorem formed7_no (p0 : Bool) (p1 : ByteArray) (p2 : Bool) (p3 : ByteArray) (p4 : Bool) (p5 : ByteArray) (p6 : Bool) (p7 : ByteArray) (q0 : Bool) (q1 : ByteArray) (q2 : Bool) (q3 : ByteArray) (q4 : Bool) (q5 : ByteArray) (q6 : Bool) (q7 : ByteArray) (h : ¬ ((p1.size ≤ 6 ∧ p3.size ≤ 6 ∧ p5.size ≤ 6 ∧ p7.size ≤ 6 ∧ q1.size ≤ 6 ∧ q3.size ≤ 6 ∧ q5.size ≤ 6 ∧ q7.size ≤ 6) ∧ ¬ flatF (Z4.mk (iv q0 q1) (iv q2 q3) (iv q4 q5) (iv q6 q7)))) :
    ∃ (b : Nat → Bool) (s : Nat → ByteArray), ∀ w : World, Calls Tryz.prog 24 #[.agg #[.bool p0, .string p1, .bool p2, .string p3, .bool p4, .string p5, .bool p6, .string p7], .agg #[.bool q0, .string q1, .bool q2, .string q3, .bool q4, .string q5, .bool q6, .string q7]] w fun e w' => e = .returned (.tuple #[.agg #[.bool (b 0), .string (s 0), .bool (b 1), .string (s 1), .bool (b 2), .string (s 2), .bool (b 3), .string (s 3)], .agg #[.bool (b 4), .string (s 4), .bool (b 5), .string (s 5), .bool (b 6), .string (s 6), .bool (b 7), .string (s 7)], .bool false]) ∧ Below w.heap.size w w' := by
  by_cases g : 0 < gr7 [p1, p3, p5, p7]
  · exact ⟨fun _ => false, fun _ => ⟨#[]⟩, fun w => formed7_g0 p0 p1 p2 p3 p4 p5 p6 p7 q0 q1 q2 q3 q4 q5 q6 q7 w g⟩
  by_cases hq1 : q1.size ≤ 6
  rotate_left
  · exact ⟨fun _ => false, fun _ => ⟨#[]⟩, fun w => formed7_g1 p0 p1 p2 p3 p4 p5 p6 p7 q0 q1 q2 q3 q4 q5 q6 q7 w g  hq1⟩
  by_cases hq3 : q3.size ≤ 6
  rotate_left
  · exact ⟨fun _ => false, fun _ => ⟨#[]⟩, fun w => formed7_g2 p0 p1 p2 p3 p4 p5 p6 p7 q0 q1 q2 q3 q4 q5 q6 q7 w g hq1 hq3⟩
  by_cases hq5 : q5.size ≤ 6
  rotate_left
  · exact ⟨fun _ => false, fun _ => ⟨#[]⟩, fun w => formed7_g3 p0 p1 p2 p3 p4 p5 p6 p7 q0 q1 q2 q3 q4 q5 q6 q7 w g hq1 hq3 hq5⟩
  by_cases hq7 : q7.size ≤ 6
  rotate_left
  · exact ⟨fun _ => false, fun _ => ⟨#[]⟩, fun w => formed7_g4 p0 p1 p2 p3 p4 p5 p6 p7 q0 q1 q2 q3 q4 q5 q6 q7 w g hq1 hq3 hq5 hq7⟩
  have hg := gr7_zero.1 (show gr7 [p1, p3, p5, p7] = 0 by have := gr7_bd [p1, p3, p5, p7]; omega)
  simp only [List.forall_mem_cons, List.not_mem_nil, false_imp_iff, implies_true, and_true] at hg
  obtain ⟨hp1, hp3, hp5, hp7⟩ := hg
  have hf : flatF (Z4.mk (iv q0 q1) (iv q2 q3) (iv q4 q5) (iv q6 q7)) := Classical.byContradiction fun hf => h ⟨⟨hp1, hp3, hp5, hp7, hq1, hq3, hq5, hq7⟩, hf⟩
  have hX : IsP (.agg #[.bool p0, .string p1, .bool p2, .string p3, .bool p4, .string p5, .bool p6, .string p7]) (pt (Z4.mk (iv p0 p1) (iv p2 p3) (iv p4 p5) (iv p6 p7))) 6 := IsF.pt (show IsF (.agg #[.bool p0, .string p1, .bool p2, .string p3, .bool p4, .string p5, .bool p6, .string p7]) (Z4.mk (iv p0 p1) (iv p2 p3) (iv p4 p5) (iv p6 p7)) 6 from ⟨_, _, _, _, _, _, _, _, rfl, rfl, hp1, rfl, hp3, rfl, hp5, rfl, hp7⟩)
  have hQ : IsF (.agg #[.bool q0, .string q1, .bool q2, .string q3, .bool q4, .string q5, .bool q6, .string q7]) (Z4.mk (iv q0 q1) (iv q2 q3) (iv q4 q5) (iv q6 q7)) 6 := ⟨_, _, _, _, _, _, _, _, rfl, rfl, hq1, rfl, hq3, rfl, hq5, rfl, hq7⟩
  exact ⟨fun i => [sg (can4 (pt (Z4.mk (iv p0 p1) (iv p2 p3) (iv p4 p5) (iv p6 p7)))).a, sg (can4 (pt (Z4.mk (iv p0 p1) (iv p2 p3) (iv p4 p5) (iv p6 p7)))).b, sg (can4 (pt (Z4.mk (iv p0 p1) (iv p2 p3) (iv p4 p5) (iv p6 p7)))).c, sg (can4 (pt (Z4.mk (iv p0 p1) (iv p2 p3) (iv p4 p5) (iv p6 p7)))).d].getD i false, fun i => [mg (can4 (pt (Z4.mk (iv p0 p1) (iv p2 p3) (iv p4 p5) (iv p6 p7)))).a, mg (can4 (pt (Z4.mk (iv p0 p1) (iv p2 p3) (iv p4 p5) (iv p6 p7)))).b, mg (can4 (pt (Z4.mk (iv p0 p1) (iv p2 p3) (iv p4 p5) (iv p6 p7)))).c, mg (can4 (pt (Z4.mk (iv p0 p1) (iv p2 p3) (iv p4 p5) (iv p6 p7)))).d].getD i ⟨#[]⟩, fun w => by have H := formed7_f hX (by decide) hQ (by decide) w hf; exact H⟩
theorem shift7_yes (n : Bool) (s : ByteArray) (t : ByteArray) (m : Bool) (p : ByteArray) (q : ByteArray) (k : Bool) (u : ByteArray) (v : ByteArray) (w : World) (hs : s.size ≤ 24) (ht : t.size ≤ 24) (hp : p.size ≤ 24) (hq : q.size ≤ 24) (hu : u.size ≤ 24) (hv : v.size ≤ 24) :
    Calls Tryz.prog 29 #[.agg #[.bool n, .string s, .string t, .bool m, .string p, .string q, .bool k, .string u, .string v]] w fun e w' => e = .returned (.bool true) ∧ Below w.heap.size w w' := by
  exact SX.run (w := w) [.bool n, .string s, .string t, .bool m, .string p, .string q, .bool k, .string u, .string v, .int .i64 0, .bool true] [] [.agg [.p (.at 0), .p (.at 1), .p (.at 2), .p (.at 3), .p (.at 4), .p (.at 5), .p (.at 6), .p (.at 7), .p (.at 8)]] 9 (.one (.c (.p (.at 10)))) [.call 88 [.c (.p (.slc 1 0 3 3))] (.one (.c (.p (.at 9)))) [(1025, .p (.at 0)), (1026, .p (.at 1)), (1027, .p (.at 2)), (1028, .p (.at 3)), (1029, .p (.at 4)), (1030, .p (.at 5)), (1031, .p (.at 6)), (1032, .p (.at 7)), (1033, .p (.at 8))], .op2 false .eql (.p (.at 9)) (.p (.lit (.int .i64 0))) 10] Tryz.func29 (by kernel_rfl) rfl (by kernel_rfl) rfl (by kernel_rfl)
    ⟨fun γ w' _ hm => Great3_no n s t m p q k u v w' (γ 1) (SX.mem_at (b := 1) (l := SX.rg 0 9) hm rfl) hs ht hp hq hu hv,
     congrArg (fun z => some (Value.bool z)) (by decide : ((0 : Int) == (0 : Int)) = true)⟩
theorem shift7_no (n : Bool) (s : ByteArray) (t : ByteArray) (m : Bool) (p : ByteArray) (q : ByteArray) (k : Bool) (u : ByteArray) (v : ByteArray) (w : World) (h : ¬ (s.size ≤ 24 ∧ t.size ≤ 24 ∧ p.size ≤ 24 ∧ q.size ≤ 24 ∧ u.size ≤ 24 ∧ v.size ≤ 24)) :
    Calls Tryz.prog 29 #[.agg #[.bool n, .string s, .string t, .bool m, .string p, .string q, .bool k, .string u, .string v]] w fun e w' => e = .returned (.bool false) ∧ Below w.heap.size w w' := by
  exact SX.run (w := w) [.bool n, .string s, .string t, .bool m, .string p, .string q, .bool k, .string u, .string v, .int .i64 1, .bool false] [] [.agg [.p (.at 0), .p (.at 1), .p (.at 2), .p (.at 3), .p (.at 4), .p (.at 5), .p (.at 6), .p (.at 7), .p (.at 8)]] 9 (.one (.c (.p (.at 10)))) [.call 88 [.c (.p (.slc 1 0 3 3))] (.one (.c (.p (.at 9)))) [(1025, .p (.at 0)), (1026, .p (.at 1)), (1027, .p (.at 2)), (1028, .p (.at 3)), (1029, .p (.at 4)), (1030, .p (.at 5)), (1031, .p (.at 6)), (1032, .p (.at 7)), (1033, .p (.at 8))], .op2 false .eql (.p (.at 9)) (.p (.lit (.int .i64 0))) 10] Tryz.func29 (by kernel_rfl) rfl (by kernel_rfl) rfl (by kernel_rfl)
    ⟨fun γ w' _ hm => Great3_yes n s t m p q k u v w' (γ 1) (SX.mem_at (b := 1) (l := SX.rg 0 9) hm rfl) h,
     congrArg (fun z => some (Value.bool z)) (by decide : ((1 : Int) == (0 : Int)) = false)⟩
end Go.Proofs.YtodcomijjmobdaaGreatDoor
