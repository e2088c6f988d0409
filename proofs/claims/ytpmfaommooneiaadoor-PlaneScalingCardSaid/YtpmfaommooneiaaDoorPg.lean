/- How the laws of layer 4 reject great points and wide vectors. -/
import Derived.Test.YtpmfaommooneiaaDoorSx
import Derived.Test.YtpmfaommooneiaaDoorN1
import Derived.Test.YtpmfaommooneiaaDoorN4
import Derived.Test.YtpmfaommooneiaaDoorIs
import Derived.Test.YtpmfaommooneiaaDoorQd
import Derived.Test.YtpmfaommooneiaaDoorPq
import Derived.Test.YtpmfaommooneiaaDoorShelf
import Derived.Lib.Repeat
import Derived.Test.YtpmfaommooneiaaDoorQ0
import Derived.Test.YtpmfaommooneiaaDoorFmtZ
import Derived.Lib.Strings
import Derived.Test.YtpmfaommooneiaaDoorPd
set_option linter.unusedVariables false
set_option linter.unusedSimpArgs false
namespace Go.Proofs.YtpmfaommooneiaaDoor
open Go.RowKit NM SX
theorem Great_no (x_0 : Bool) (x_1 : ByteArray) (x_2 : Bool) (x_3 : ByteArray) (x_4 : Bool) (x_5 : ByteArray) (x_6 : Bool) (x_7 : ByteArray) (w : World) (hx_1 : x_1.size ≤ 6) (hx_3 : x_3.size ≤ 6) (hx_5 : x_5.size ≤ 6) (hx_7 : x_7.size ≤ 6) :
    Calls Tryd.prog 16 #[.agg #[.bool x_0, .string x_1, .bool x_2, .string x_3, .bool x_4, .string x_5, .bool x_6, .string x_7]] w fun e w' => e = .returned (.int .i64 0) ∧ Below w.heap.size w w' := by
  exact SX.run (w := w) [.bool x_0, .string x_1, .bool x_2, .string x_3, .bool x_4, .string x_5, .bool x_6, .string x_7, .int .i64 (x_1.size : Int), .bool false, .int .i64 (x_3.size : Int), .bool false, .int .i64 (x_5.size : Int), .bool false, .int .i64 (x_7.size : Int), .bool false] [.b false, .b false, .b false, .b false] [.agg [.p (.at 0), .p (.at 1), .p (.at 2), .p (.at 3), .p (.at 4), .p (.at 5), .p (.at 6), .p (.at 7)]] 8 (.one (.c (.p (.lit (.int .i64 0))))) [.len (.p (.at 1)) 8, .op2 false .gtr (.p (.at 8)) (.p (.lit (.int .i64 6))) 9, .isB 9 false, .len (.p (.at 3)) 10, .op2 false .gtr (.p (.at 10)) (.p (.lit (.int .i64 6))) 11, .isB 11 false, .len (.p (.at 5)) 12, .op2 false .gtr (.p (.at 12)) (.p (.lit (.int .i64 6))) 13, .isB 13 false, .len (.p (.at 7)) 14, .op2 false .gtr (.p (.at 14)) (.p (.lit (.int .i64 6))) 15, .isB 15 false] Tryd.func16 (by kernel_rfl) rfl (by kernel_rfl) rfl (by kernel_rfl)
    ⟨⟨_, rfl, rfl⟩,
     congrArg (fun z => some (Value.bool z)) (decide_eq_false (by omega) : decide ((x_1.size : Int) > (6 : Int)) = false),
     rfl,
     ⟨_, rfl, rfl⟩,
     congrArg (fun z => some (Value.bool z)) (decide_eq_false (by omega) : decide ((x_3.size : Int) > (6 : Int)) = false),
     rfl,
     ⟨_, rfl, rfl⟩,
     congrArg (fun z => some (Value.bool z)) (decide_eq_false (by omega) : decide ((x_5.size : Int) > (6 : Int)) = false),
     rfl,
     ⟨_, rfl, rfl⟩,
     congrArg (fun z => some (Value.bool z)) (decide_eq_false (by omega) : decide ((x_7.size : Int) > (6 : Int)) = false),
     rfl⟩
end Go.Proofs.YtpmfaommooneiaaDoor
