/- How the laws of layer 6 reject wide planes (great points: XUh). -/
import Derived.Test.YtfapglafeghggaaGreatDoorUh
import Derived.Test.YtfapglafeghggaaGreatDoorVr
set_option linter.unusedVariables false
set_option linter.unusedSimpArgs false
namespace Go.Proofs.YtfapglafeghggaaGreatDoor
open Go.RowKit NM SX
/-- What Wide returns of a plane's cells. -/
def wide6 (a0 : Bool) (a1 : ByteArray) (a2 : Bool) (a3 : ByteArray) (a4 : Bool) (a5 : ByteArray) (a6 : Bool) (a7 : ByteArray) : Int := if (a1.size ≤ 6 ∧ a3.size ≤ 6 ∧ a5.size ≤ 6 ∧ a7.size ≤ 6) ∧ ¬ flatF (Z4.mk (iv a0 a1) (iv a2 a3) (iv a4 a5) (iv a6 a7)) then 0 else 1
theorem wide6_bd (a0 : Bool) (a1 : ByteArray) (a2 : Bool) (a3 : ByteArray) (a4 : Bool) (a5 : ByteArray) (a6 : Bool) (a7 : ByteArray) : 0 ≤ wide6 a0 a1 a2 a3 a4 a5 a6 a7 ∧ wide6 a0 a1 a2 a3 a4 a5 a6 a7 ≤ 1 := by
  unfold wide6
  split <;> omega
theorem wide6_zero {a0 : Bool} {a1 : ByteArray} {a2 : Bool} {a3 : ByteArray} {a4 : Bool} {a5 : ByteArray} {a6 : Bool} {a7 : ByteArray} : wide6 a0 a1 a2 a3 a4 a5 a6 a7 = 0 ↔ (a1.size ≤ 6 ∧ a3.size ≤ 6 ∧ a5.size ≤ 6 ∧ a7.size ≤ 6) ∧ ¬ flatF (Z4.mk (iv a0 a1) (iv a2 a3) (iv a4 a5) (iv a6 a7)) := by
  unfold wide6
  split
  · rename_i h; exact ⟨fun _ => h, fun _ => rfl⟩
  · rename_i h; exact ⟨fun e => by omega, fun e => absurd e h⟩
theorem Wide6_y0 (a0 : Bool) (a1 : ByteArray) (a2 : Bool) (a3 : ByteArray) (a4 : Bool) (a5 : ByteArray) (a6 : Bool) (a7 : ByteArray) (w : World)  (h : 6 < a1.size) :
    Calls Tryz.prog 8 #[.agg #[.bool a0, .string a1, .bool a2, .string a3, .bool a4, .string a5, .bool a6, .string a7]] w fun e w' => e = .returned (.int .i64 1) ∧ Below w.heap.size w w' := by
  exact SX.run (w := w) [.bool a0, .string a1, .bool a2, .string a3, .bool a4, .string a5, .bool a6, .string a7, .int .i64 (a1.size : Int), .bool true] [.b true] [.agg [.p (.at 0), .p (.at 1), .p (.at 2), .p (.at 3), .p (.at 4), .p (.at 5), .p (.at 6), .p (.at 7)]] 8 (.one (.c (.p (.lit (.int .i64 1))))) [.len (.p (.at 1)) 8, .op2 false .gtr (.p (.at 8)) (.p (.lit (.int .i64 6))) 9, .isB 9 true] Tryz.func8 (by kernel_rfl) rfl (by kernel_rfl) rfl (by kernel_rfl)
    ⟨⟨_, rfl, rfl⟩,
     congrArg (fun z => some (Value.bool z)) (decide_eq_true (by omega) : decide ((a1.size : Int) > (6 : Int)) = true),
     rfl⟩
theorem Wide6_y1 (a0 : Bool) (a1 : ByteArray) (a2 : Bool) (a3 : ByteArray) (a4 : Bool) (a5 : ByteArray) (a6 : Bool) (a7 : ByteArray) (w : World) (ha1 : a1.size ≤ 6) (h : 6 < a3.size) :
    Calls Tryz.prog 8 #[.agg #[.bool a0, .string a1, .bool a2, .string a3, .bool a4, .string a5, .bool a6, .string a7]] w fun e w' => e = .returned (.int .i64 1) ∧ Below w.heap.size w w' := by
  exact SX.run (w := w) [.bool a0, .string a1, .bool a2, .string a3, .bool a4, .string a5, .bool a6, .string a7, .int .i64 (a1.size : Int), .bool false, .int .i64 (a3.size : Int), .bool true] [.b false, .b true] [.agg [.p (.at 0), .p (.at 1), .p (.at 2), .p (.at 3), .p (.at 4), .p (.at 5), .p (.at 6), .p (.at 7)]] 8 (.one (.c (.p (.lit (.int .i64 1))))) [.len (.p (.at 1)) 8, .op2 false .gtr (.p (.at 8)) (.p (.lit (.int .i64 6))) 9, .isB 9 false, .len (.p (.at 3)) 10, .op2 false .gtr (.p (.at 10)) (.p (.lit (.int .i64 6))) 11, .isB 11 true] Tryz.func8 (by kernel_rfl) rfl (by kernel_rfl) rfl (by kernel_rfl)
    ⟨⟨_, rfl, rfl⟩,
     congrArg (fun z => some (Value.bool z)) (decide_eq_false (by omega) : decide ((a1.size : Int) > (6 : Int)) = false),
     rfl,
     ⟨_, rfl, rfl⟩,
     congrArg (fun z => some (Value.bool z)) (decide_eq_true (by omega) : decide ((a3.size : Int) > (6 : Int)) = true),
     rfl⟩
theorem Wide6_y2 (a0 : Bool) (a1 : ByteArray) (a2 : Bool) (a3 : ByteArray) (a4 : Bool) (a5 : ByteArray) (a6 : Bool) (a7 : ByteArray) (w : World) (ha1 : a1.size ≤ 6) (ha3 : a3.size ≤ 6) (h : 6 < a5.size) :
    Calls Tryz.prog 8 #[.agg #[.bool a0, .string a1, .bool a2, .string a3, .bool a4, .string a5, .bool a6, .string a7]] w fun e w' => e = .returned (.int .i64 1) ∧ Below w.heap.size w w' := by
  exact SX.run (w := w) [.bool a0, .string a1, .bool a2, .string a3, .bool a4, .string a5, .bool a6, .string a7, .int .i64 (a1.size : Int), .bool false, .int .i64 (a3.size : Int), .bool false, .int .i64 (a5.size : Int), .bool true] [.b false, .b false, .b true] [.agg [.p (.at 0), .p (.at 1), .p (.at 2), .p (.at 3), .p (.at 4), .p (.at 5), .p (.at 6), .p (.at 7)]] 8 (.one (.c (.p (.lit (.int .i64 1))))) [.len (.p (.at 1)) 8, .op2 false .gtr (.p (.at 8)) (.p (.lit (.int .i64 6))) 9, .isB 9 false, .len (.p (.at 3)) 10, .op2 false .gtr (.p (.at 10)) (.p (.lit (.int .i64 6))) 11, .isB 11 false, .len (.p (.at 5)) 12, .op2 false .gtr (.p (.at 12)) (.p (.lit (.int .i64 6))) 13, .isB 13 true] Tryz.func8 (by kernel_rfl) rfl (by kernel_rfl) rfl (by kernel_rfl)
    ⟨⟨_, rfl, rfl⟩,
     congrArg (fun z => some (Value.bool z)) (decide_eq_false (by omega) : decide ((a1.size : Int) > (6 : Int)) = false),
     rfl,
     ⟨_, rfl, rfl⟩,
     congrArg (fun z => some (Value.bool z)) (decide_eq_false (by omega) : decide ((a3.size : Int) > (6 : Int)) = false),
     rfl,
     ⟨_, rfl, rfl⟩,
     congrArg (fun z => some (Value.bool z)) (decide_eq_true (by omega) : decide ((a5.size : Int) > (6 : Int)) = true),
     rfl⟩
theorem Wide6_y3 (a0 : Bool) (a1 : ByteArray) (a2 : Bool) (a3 : ByteArray) (a4 : Bool) (a5 : ByteArray) (a6 : Bool) (a7 : ByteArray) (w : World) (ha1 : a1.size ≤ 6) (ha3 : a3.size ≤ 6) (ha5 : a5.size ≤ 6) (h : 6 < a7.size) :
    Calls Tryz.prog 8 #[.agg #[.bool a0, .string a1, .bool a2, .string a3, .bool a4, .string a5, .bool a6, .string a7]] w fun e w' => e = .returned (.int .i64 1) ∧ Below w.heap.size w w' := by
  exact SX.run (w := w) [.bool a0, .string a1, .bool a2, .string a3, .bool a4, .string a5, .bool a6, .string a7, .int .i64 (a1.size : Int), .bool false, .int .i64 (a3.size : Int), .bool false, .int .i64 (a5.size : Int), .bool false, .int .i64 (a7.size : Int), .bool true] [.b false, .b false, .b false, .b true] [.agg [.p (.at 0), .p (.at 1), .p (.at 2), .p (.at 3), .p (.at 4), .p (.at 5), .p (.at 6), .p (.at 7)]] 8 (.one (.c (.p (.lit (.int .i64 1))))) [.len (.p (.at 1)) 8, .op2 false .gtr (.p (.at 8)) (.p (.lit (.int .i64 6))) 9, .isB 9 false, .len (.p (.at 3)) 10, .op2 false .gtr (.p (.at 10)) (.p (.lit (.int .i64 6))) 11, .isB 11 false, .len (.p (.at 5)) 12, .op2 false .gtr (.p (.at 12)) (.p (.lit (.int .i64 6))) 13, .isB 13 false, .len (.p (.at 7)) 14, .op2 false .gtr (.p (.at 14)) (.p (.lit (.int .i64 6))) 15, .isB 15 true] Tryz.func8 (by kernel_rfl) rfl (by kernel_rfl) rfl (by kernel_rfl)
    ⟨⟨_, rfl, rfl⟩,
     congrArg (fun z => some (Value.bool z)) (decide_eq_false (by omega) : decide ((a1.size : Int) > (6 : Int)) = false),
     rfl,
     ⟨_, rfl, rfl⟩,
     congrArg (fun z => some (Value.bool z)) (decide_eq_false (by omega) : decide ((a3.size : Int) > (6 : Int)) = false),
     rfl,
     ⟨_, rfl, rfl⟩,
     congrArg (fun z => some (Value.bool z)) (decide_eq_false (by omega) : decide ((a5.size : Int) > (6 : Int)) = false),
     rfl,
     ⟨_, rfl, rfl⟩,
     congrArg (fun z => some (Value.bool z)) (decide_eq_true (by omega) : decide ((a7.size : Int) > (6 : Int)) = true),
     rfl⟩
theorem Wide6_f (a0 : Bool) (a1 : ByteArray) (a2 : Bool) (a3 : ByteArray) (a4 : Bool) (a5 : ByteArray) (a6 : Bool) (a7 : ByteArray) (w : World) (ha1 : a1.size ≤ 6) (ha3 : a3.size ≤ 6) (ha5 : a5.size ≤ 6) (ha7 : a7.size ≤ 6) (hf : flatF (Z4.mk (iv a0 a1) (iv a2 a3) (iv a4 a5) (iv a6 a7))) :
    Calls Tryz.prog 8 #[.agg #[.bool a0, .string a1, .bool a2, .string a3, .bool a4, .string a5, .bool a6, .string a7]] w fun e w' => e = .returned (.int .i64 1) ∧ Below w.heap.size w w' := by
  have hF : IsF (.agg #[.bool a0, .string a1, .bool a2, .string a3, .bool a4, .string a5, .bool a6, .string a7]) (Z4.mk (iv a0 a1) (iv a2 a3) (iv a4 a5) (iv a6 a7)) 6 := ⟨_, _, _, _, _, _, _, _, rfl, rfl, ha1, rfl, ha3, rfl, ha5, rfl, ha7⟩
  exact SX.run (w := w) [.bool a0, .string a1, .bool a2, .string a3, .bool a4, .string a5, .bool a6, .string a7, .int .i64 (a1.size : Int), .bool false, .int .i64 (a3.size : Int), .bool false, .int .i64 (a5.size : Int), .bool false, .int .i64 (a7.size : Int), .bool false, .bool false, .string ⟨#[]⟩, .bool false, .string ⟨#[]⟩, .bool false, .string ⟨#[]⟩, .bool false, .string ⟨#[]⟩, .bool false, .bool true] [.b false, .b false, .b false, .b false, .b true] [.agg [.p (.at 0), .p (.at 1), .p (.at 2), .p (.at 3), .p (.at 4), .p (.at 5), .p (.at 6), .p (.at 7)]] 8 (.one (.c (.p (.lit (.int .i64 1))))) [.len (.p (.at 1)) 8, .op2 false .gtr (.p (.at 8)) (.p (.lit (.int .i64 6))) 9, .isB 9 false, .len (.p (.at 3)) 10, .op2 false .gtr (.p (.at 10)) (.p (.lit (.int .i64 6))) 11, .isB 11 false, .len (.p (.at 5)) 12, .op2 false .gtr (.p (.at 12)) (.p (.lit (.int .i64 6))) 13, .isB 13 false, .len (.p (.at 7)) 14, .op2 false .gtr (.p (.at 14)) (.p (.lit (.int .i64 6))) 15, .isB 15 false, .call 29 [.agg [.p (.at 0), .p (.at 1), .p (.at 2), .p (.at 3), .p (.at 4), .p (.at 5), .p (.at 6), .p (.at 7)]] (.tup [.agg [.p (.at 16), .p (.at 17), .p (.at 18), .p (.at 19), .p (.at 20), .p (.at 21), .p (.at 22), .p (.at 23)], .c (.p (.at 24))]) [], .op1 .not (.p (.at 24)) 25, .isB 25 true] Tryz.func8 (by kernel_rfl) rfl (by kernel_rfl) rfl (by kernel_rfl)
    ⟨⟨_, rfl, rfl⟩,
     congrArg (fun z => some (Value.bool z)) (decide_eq_false (by omega) : decide ((a1.size : Int) > (6 : Int)) = false),
     rfl,
     ⟨_, rfl, rfl⟩,
     congrArg (fun z => some (Value.bool z)) (decide_eq_false (by omega) : decide ((a3.size : Int) > (6 : Int)) = false),
     rfl,
     ⟨_, rfl, rfl⟩,
     congrArg (fun z => some (Value.bool z)) (decide_eq_false (by omega) : decide ((a5.size : Int) > (6 : Int)) = false),
     rfl,
     ⟨_, rfl, rfl⟩,
     congrArg (fun z => some (Value.bool z)) (decide_eq_false (by omega) : decide ((a7.size : Int) > (6 : Int)) = false),
     rfl,
     fun γ w' _ _ => by have h := v5Norm_any hF (by decide) w'; rw [normV, if_pos hf] at h; exact h,
     congrArg (fun z => some (Value.bool z)) (by first | rfl | assumption | decide | simp [*] : (!false) = true),
     rfl⟩
theorem Wide6_n (a0 : Bool) (a1 : ByteArray) (a2 : Bool) (a3 : ByteArray) (a4 : Bool) (a5 : ByteArray) (a6 : Bool) (a7 : ByteArray) (w : World) (ha1 : a1.size ≤ 6) (ha3 : a3.size ≤ 6) (ha5 : a5.size ≤ 6) (ha7 : a7.size ≤ 6) (hf : ¬ flatF (Z4.mk (iv a0 a1) (iv a2 a3) (iv a4 a5) (iv a6 a7))) :
    Calls Tryz.prog 8 #[.agg #[.bool a0, .string a1, .bool a2, .string a3, .bool a4, .string a5, .bool a6, .string a7]] w fun e w' => e = .returned (.int .i64 0) ∧ Below w.heap.size w w' := by
  have hF : IsF (.agg #[.bool a0, .string a1, .bool a2, .string a3, .bool a4, .string a5, .bool a6, .string a7]) (Z4.mk (iv a0 a1) (iv a2 a3) (iv a4 a5) (iv a6 a7)) 6 := ⟨_, _, _, _, _, _, _, _, rfl, rfl, ha1, rfl, ha3, rfl, ha5, rfl, ha7⟩
  exact SX.run (w := w) [.bool a0, .string a1, .bool a2, .string a3, .bool a4, .string a5, .bool a6, .string a7, .int .i64 (a1.size : Int), .bool false, .int .i64 (a3.size : Int), .bool false, .int .i64 (a5.size : Int), .bool false, .int .i64 (a7.size : Int), .bool false, .bool (sg (prim (Z4.mk (iv a0 a1) (iv a2 a3) (iv a4 a5) (iv a6 a7))).a), .string (mg (prim (Z4.mk (iv a0 a1) (iv a2 a3) (iv a4 a5) (iv a6 a7))).a), .bool (sg (prim (Z4.mk (iv a0 a1) (iv a2 a3) (iv a4 a5) (iv a6 a7))).b), .string (mg (prim (Z4.mk (iv a0 a1) (iv a2 a3) (iv a4 a5) (iv a6 a7))).b), .bool (sg (prim (Z4.mk (iv a0 a1) (iv a2 a3) (iv a4 a5) (iv a6 a7))).c), .string (mg (prim (Z4.mk (iv a0 a1) (iv a2 a3) (iv a4 a5) (iv a6 a7))).c), .bool (sg (prim (Z4.mk (iv a0 a1) (iv a2 a3) (iv a4 a5) (iv a6 a7))).d), .string (mg (prim (Z4.mk (iv a0 a1) (iv a2 a3) (iv a4 a5) (iv a6 a7))).d), .bool true, .bool false] [.b false, .b false, .b false, .b false, .b false] [.agg [.p (.at 0), .p (.at 1), .p (.at 2), .p (.at 3), .p (.at 4), .p (.at 5), .p (.at 6), .p (.at 7)]] 8 (.one (.c (.p (.lit (.int .i64 0))))) [.len (.p (.at 1)) 8, .op2 false .gtr (.p (.at 8)) (.p (.lit (.int .i64 6))) 9, .isB 9 false, .len (.p (.at 3)) 10, .op2 false .gtr (.p (.at 10)) (.p (.lit (.int .i64 6))) 11, .isB 11 false, .len (.p (.at 5)) 12, .op2 false .gtr (.p (.at 12)) (.p (.lit (.int .i64 6))) 13, .isB 13 false, .len (.p (.at 7)) 14, .op2 false .gtr (.p (.at 14)) (.p (.lit (.int .i64 6))) 15, .isB 15 false, .call 29 [.agg [.p (.at 0), .p (.at 1), .p (.at 2), .p (.at 3), .p (.at 4), .p (.at 5), .p (.at 6), .p (.at 7)]] (.tup [.agg [.p (.at 16), .p (.at 17), .p (.at 18), .p (.at 19), .p (.at 20), .p (.at 21), .p (.at 22), .p (.at 23)], .c (.p (.at 24))]) [], .op1 .not (.p (.at 24)) 25, .isB 25 false] Tryz.func8 (by kernel_rfl) rfl (by kernel_rfl) rfl (by kernel_rfl)
    ⟨⟨_, rfl, rfl⟩,
     congrArg (fun z => some (Value.bool z)) (decide_eq_false (by omega) : decide ((a1.size : Int) > (6 : Int)) = false),
     rfl,
     ⟨_, rfl, rfl⟩,
     congrArg (fun z => some (Value.bool z)) (decide_eq_false (by omega) : decide ((a3.size : Int) > (6 : Int)) = false),
     rfl,
     ⟨_, rfl, rfl⟩,
     congrArg (fun z => some (Value.bool z)) (decide_eq_false (by omega) : decide ((a5.size : Int) > (6 : Int)) = false),
     rfl,
     ⟨_, rfl, rfl⟩,
     congrArg (fun z => some (Value.bool z)) (decide_eq_false (by omega) : decide ((a7.size : Int) > (6 : Int)) = false),
     rfl,
     fun γ w' _ _ => by have h := v5Norm_any hF (by decide) w'; rw [normV, if_neg hf] at h; exact h,
     congrArg (fun z => some (Value.bool z)) (by first | rfl | assumption | decide | simp [*] : (!true) = false),
     rfl⟩
theorem Wide6_any (a0 : Bool) (a1 : ByteArray) (a2 : Bool) (a3 : ByteArray) (a4 : Bool) (a5 : ByteArray) (a6 : Bool) (a7 : ByteArray) (w : World) :
    Calls Tryz.prog 8 #[.agg #[.bool a0, .string a1, .bool a2, .string a3, .bool a4, .string a5, .bool a6, .string a7]] w fun e w' => e = .returned (.int .i64 (wide6 a0 a1 a2 a3 a4 a5 a6 a7)) ∧ Below w.heap.size w w' := by
  unfold wide6
  by_cases ha1 : a1.size ≤ 6
  rotate_left
  · rw [if_neg (fun k => ha1 k.1.1)]; exact Wide6_y0 a0 a1 a2 a3 a4 a5 a6 a7 w  (by omega)
  by_cases ha3 : a3.size ≤ 6
  rotate_left
  · rw [if_neg (fun k => ha3 k.1.2.1)]; exact Wide6_y1 a0 a1 a2 a3 a4 a5 a6 a7 w ha1 (by omega)
  by_cases ha5 : a5.size ≤ 6
  rotate_left
  · rw [if_neg (fun k => ha5 k.1.2.2.1)]; exact Wide6_y2 a0 a1 a2 a3 a4 a5 a6 a7 w ha1 ha3 (by omega)
  by_cases ha7 : a7.size ≤ 6
  rotate_left
  · rw [if_neg (fun k => ha7 k.1.2.2.2)]; exact Wide6_y3 a0 a1 a2 a3 a4 a5 a6 a7 w ha1 ha3 ha5 (by omega)
  by_cases hf : flatF (Z4.mk (iv a0 a1) (iv a2 a3) (iv a4 a5) (iv a6 a7))
  · rw [if_neg (fun k => k.2 hf)]; exact Wide6_f a0 a1 a2 a3 a4 a5 a6 a7 w ha1 ha3 ha5 ha7 hf
  · rw [if_pos ⟨⟨ha1, ha3, ha5, ha7⟩, hf⟩]; exact Wide6_n a0 a1 a2 a3 a4 a5 a6 a7 w ha1 ha3 ha5 ha7 hf
end Go.Proofs.YtfapglafeghggaaGreatDoor
