/- Parse of points and its reference. -/
import Derived.Test.YtdgppfccolhaeaaGreatDoorPy
import Derived.Test.YtdgppfccolhaeaaGreatDoorQs
import Derived.Test.YtdgppfccolhaeaaGreatDoorPs
set_option linter.unusedVariables false
set_option linter.unusedSimpArgs false
namespace Go.Proofs.YtdgppfccolhaeaaGreatDoor
open Go.RowKit NM SX
set_option maxRecDepth 100000 in
theorem cut4_yes (s : ByteArray) (i0 : Nat) (w : World) (hs : s.size ≤ 1048576) (h1 : i0 + 1 < s.size) (h2 : (bts s).getD i0 0 = 44) (h3 : (bts s).getD (i0 + 1) 0 = 32) (h4 : ∀ j, j < i0 → ¬ ((bts s).getD j 0 = 44 ∧ (bts s).getD (j + 1) 0 = 32)) :
    Calls Tryz.prog 66 #[.string s] w fun e w' => e = .returned (.tuple #[.string (s.extract 0 i0), .string (s.extract (i0 + 2) s.size), .bool true]) ∧ Below w.heap.size w w' := by
  exact SX.run (w := w) [.string s, .string (s.extract 0 i0), .string (s.extract (i0 + 2) s.size), .int .i64 (i0 : Int)] [.lp [(4, .one (.c (.p (.lit (.bool true))))), (3, .one (.c (.p (.at 2)))), (2, .one (.c (.p (.at 1)))), (5, .one (.c (.p (.at 3))))] [] 4 .ret] [.c (.p (.at 0))] 1 (.tup [.c (.p (.at 1)), .c (.p (.at 2)), .c (.p (.lit (.bool true)))]) [SX.obAt Tryz.prog Tryz.f66 [.lp [(4, .one (.c (.p (.lit (.bool true))))), (3, .one (.c (.p (.at 2)))), (2, .one (.c (.p (.at 1)))), (5, .one (.c (.p (.at 3))))] [] 4 .ret] 0] Tryz.func66 (by kernel_rfl) rfl (by kernel_rfl) rfl (by kernel_rfl)
    (SX.All.one ((by
      obtain ⟨body, hbody⟩ : ∃ body : Nat → List Value, body = fun k => if k = i0 then ([.int .i64 ((k + 1 : Nat) : Int), .int .i64 (s.size : Int), .bool (decide (((k + 1 : Nat) : Int) < (s.size : Int))), .int .u8 (((bts s).getD k 0 : Nat) : Int), .bool ((((bts s).getD k 0 : Nat) : Int) == (44 : Int)), .int .i64 ((k + 1 : Nat) : Int), .int .u8 (((bts s).getD (k + 1) 0 : Nat) : Int), .bool ((((bts s).getD (k + 1) 0 : Nat) : Int) == (32 : Int)), .string (s.extract 0 k), .int .i64 ((k + 2 : Nat) : Int), .string (s.extract (k + 2) s.size)] : List Value) else if (bts s).getD k 0 = 44 then ([.int .i64 ((k + 1 : Nat) : Int), .int .i64 (s.size : Int), .bool (decide (((k + 1 : Nat) : Int) < (s.size : Int))), .int .u8 (((bts s).getD k 0 : Nat) : Int), .bool ((((bts s).getD k 0 : Nat) : Int) == (44 : Int)), .int .i64 ((k + 1 : Nat) : Int), .int .u8 (((bts s).getD (k + 1) 0 : Nat) : Int), .bool ((((bts s).getD (k + 1) 0 : Nat) : Int) == (32 : Int)), .int .i64 ((k + 1 : Nat) : Int)] : List Value) else [.int .i64 ((k + 1 : Nat) : Int), .int .i64 (s.size : Int), .bool (decide (((k + 1 : Nat) : Int) < (s.size : Int))), .int .u8 (((bts s).getD k 0 : Nat) : Int), .bool ((((bts s).getD k 0 : Nat) : Int) == (44 : Int)), .int .i64 ((k + 1 : Nat) : Int)] := ⟨_, rfl⟩
      have hall : ∀ k, (body k).all Value.oneCell' = true := by intro k; rw [hbody]; simp only []; (repeat' split) <;> rfl
      refine SX.loop_holds (by kernel_rfl) (SX.obAt Tryz.prog Tryz.f66 [.lp [(4, .one (.c (.p (.lit (.bool true))))), (3, .one (.c (.p (.at 2)))), (2, .one (.c (.p (.at 1)))), (5, .one (.c (.p (.at 3))))] [] 4 .ret] 0) [(5, .one (.c (.p (.at 1))))] [] 0 1 2 (i0) (fun k => SX.env (.string s :: .int .i64 (k : Int) :: body k)) (fun k => SX.env_ok (by simp only [List.all_cons, hall k]; rfl)) (eT := [(.one (.c (.p (.lit (.int .i64 0)))), .one (.c (.p (.at 1))))]) (eM := []) (by kernel_rfl) (SX.eqT_cons (rfl) (SX.eqT_nil)) (SX.eqM_nil) (fun k => SX.env_agree rfl) (fun k hk => ?_)
      by_cases hc0 : k = i0
      · have eb : body k = [.int .i64 ((k + 1 : Nat) : Int), .int .i64 (s.size : Int), .bool (decide (((k + 1 : Nat) : Int) < (s.size : Int))), .int .u8 (((bts s).getD k 0 : Nat) : Int), .bool ((((bts s).getD k 0 : Nat) : Int) == (44 : Int)), .int .i64 ((k + 1 : Nat) : Int), .int .u8 (((bts s).getD (k + 1) 0 : Nat) : Int), .bool ((((bts s).getD (k + 1) 0 : Nat) : Int) == (32 : Int)), .string (s.extract 0 k), .int .i64 ((k + 2 : Nat) : Int), .string (s.extract (k + 2) s.size)] := by rw [hbody]; simp only [if_pos hc0]
        subst hc0
        refine ⟨[.b true, .b true, .b true], false, [.op2 false .add (.p (.at 1)) (.p (.lit (.int .i64 1))) 2, .len (.p (.at 0)) 3, .op2 false .lss (.p (.at 2)) (.p (.at 3)) 4, .isB 4 true, .prim (.index 9 (.tmp 13) (.tmp 14)) 5 [(13, .one (.c (.p (.at 0)))), (14, .one (.c (.p (.at 1))))] (.one (.c (.p (.at 5)))), .op2 false .eql (.p (.at 5)) (.p (.lit (.int .u8 44))) 6, .isB 6 true, .op2 false .add (.p (.at 1)) (.p (.lit (.int .i64 1))) 7, .prim (.index 9 (.tmp 18) (.tmp 20)) 5 [(18, .one (.c (.p (.at 0)))), (20, .one (.c (.p (.at 7)))), (17, .one (.c (.p (.at 6))))] (.one (.c (.p (.at 8)))), .op2 false .eql (.p (.at 8)) (.p (.lit (.int .u8 32))) 9, .isB 9 true, .prim (.slice 9 (.tmp 24) none (some (.tmp 25)) none) 9 [(24, .one (.c (.p (.at 0)))), (25, .one (.c (.p (.at 1))))] (.one (.c (.p (.at 10)))), .op2 false .add (.p (.at 1)) (.p (.lit (.int .i64 2))) 11, .prim (.slice 9 (.tmp 27) (some (.tmp 29)) none none) 9 [(27, .one (.c (.p (.at 0)))), (29, .one (.c (.p (.at 11))))] (.one (.c (.p (.at 12))))], [(.one (.c (.p (.lit (.bool true)))), .one (.c (.p (.lit (.bool true))))), (.one (.c (.p (.at 12))), .one (.c (.p (.at 2)))), (.one (.c (.p (.at 10))), .one (.c (.p (.at 1)))), (.one (.c (.p (.at 1))), .one (.c (.p (.at 3))))], [], by kernel_rfl, ?_, SX.eqT_cons (by first | rfl | (rw [eb]; rfl) | (rw [eb, hc0]; rfl) | (rw [eb]; simp)) (SX.eqT_cons (by first | rfl | (rw [eb]; rfl) | (rw [eb, hc0]; rfl) | (rw [eb]; simp)) (SX.eqT_cons (by first | rfl | (rw [eb]; rfl) | (rw [eb, hc0]; rfl) | (rw [eb]; simp)) (SX.eqT_cons (by first | rfl | (rw [eb]; rfl) | (rw [eb, hc0]; rfl) | (rw [eb]; simp)) (SX.eqT_nil)))), SX.eqM_nil, fun h => absurd h (by decide)⟩
        rw [eb]
        exact SX.All.mem (l := [.op2 false .add (.p (.at 1)) (.p (.lit (.int .i64 1))) 2, .len (.p (.at 0)) 3, .op2 false .lss (.p (.at 2)) (.p (.at 3)) 4, .isB 4 true, .prim (.index 9 (.tmp 13) (.tmp 14)) 5 [(13, .one (.c (.p (.at 0)))), (14, .one (.c (.p (.at 1))))] (.one (.c (.p (.at 5)))), .op2 false .eql (.p (.at 5)) (.p (.lit (.int .u8 44))) 6, .isB 6 true, .op2 false .add (.p (.at 1)) (.p (.lit (.int .i64 1))) 7, .prim (.index 9 (.tmp 18) (.tmp 20)) 5 [(18, .one (.c (.p (.at 0)))), (20, .one (.c (.p (.at 7)))), (17, .one (.c (.p (.at 6))))] (.one (.c (.p (.at 8)))), .op2 false .eql (.p (.at 8)) (.p (.lit (.int .u8 32))) 9, .isB 9 true, .prim (.slice 9 (.tmp 24) none (some (.tmp 25)) none) 9 [(24, .one (.c (.p (.at 0)))), (25, .one (.c (.p (.at 1))))] (.one (.c (.p (.at 10)))), .op2 false .add (.p (.at 1)) (.p (.lit (.int .i64 2))) 11, .prim (.slice 9 (.tmp 27) (some (.tmp 29)) none none) 9 [(27, .one (.c (.p (.at 0)))), (29, .one (.c (.p (.at 11))))] (.one (.c (.p (.at 12))))]) (⟨congrArg (fun z => some (Value.int .i64 z)) (by rw [wrap_small (by omega) (by omega)]; omega : IntKind.wrap .i64 ((k : Int) + (1 : Int)) = ((k + 1 : Nat) : Int)),
             ⟨_, rfl, rfl⟩,
             rfl,
             congrArg Value.bool (decide_eq_true (by omega) : (decide (((k + 1 : Nat) : Int) < (s.size : Int))) = true),
             fun w' _ => index_str (k := k) (by kernel_rfl) rfl rfl (by omega),
             rfl,
             congrArg Value.bool (by rw [h2]; rfl : ((((bts s).getD k 0 : Nat) : Int) == (44 : Int)) = true),
             congrArg (fun z => some (Value.int .i64 z)) (by rw [wrap_small (by omega) (by omega)]; omega : IntKind.wrap .i64 ((k : Int) + (1 : Int)) = ((k + 1 : Nat) : Int)),
             fun w' _ => index_str (k := (k + 1)) (by kernel_rfl) rfl rfl (by omega),
             rfl,
             congrArg Value.bool (by rw [h3]; rfl : ((((bts s).getD (k + 1) 0 : Nat) : Int) == (32 : Int)) = true),
             fun w' _ => slice_hi (k := k) (by kernel_rfl) rfl rfl (by omega),
             congrArg (fun z => some (Value.int .i64 z)) (by rw [wrap_small (by omega) (by omega)]; omega : IntKind.wrap .i64 ((k : Int) + (2 : Int)) = ((k + 2 : Nat) : Int)),
             fun w' _ => slice_lo (k := k + 2) (by kernel_rfl) rfl rfl (by omega)⟩)
      by_cases hc1 : (bts s).getD k 0 = 44
      · have eb : body k = [.int .i64 ((k + 1 : Nat) : Int), .int .i64 (s.size : Int), .bool (decide (((k + 1 : Nat) : Int) < (s.size : Int))), .int .u8 (((bts s).getD k 0 : Nat) : Int), .bool ((((bts s).getD k 0 : Nat) : Int) == (44 : Int)), .int .i64 ((k + 1 : Nat) : Int), .int .u8 (((bts s).getD (k + 1) 0 : Nat) : Int), .bool ((((bts s).getD (k + 1) 0 : Nat) : Int) == (32 : Int)), .int .i64 ((k + 1 : Nat) : Int)] := by rw [hbody]; simp only [if_neg hc0, if_pos hc1]
        have h5 := h4 k (by omega)
        refine ⟨[.b true, .b true, .b false], true, [.op2 false .add (.p (.at 1)) (.p (.lit (.int .i64 1))) 2, .len (.p (.at 0)) 3, .op2 false .lss (.p (.at 2)) (.p (.at 3)) 4, .isB 4 true, .prim (.index 9 (.tmp 13) (.tmp 14)) 5 [(13, .one (.c (.p (.at 0)))), (14, .one (.c (.p (.at 1))))] (.one (.c (.p (.at 5)))), .op2 false .eql (.p (.at 5)) (.p (.lit (.int .u8 44))) 6, .isB 6 true, .op2 false .add (.p (.at 1)) (.p (.lit (.int .i64 1))) 7, .prim (.index 9 (.tmp 18) (.tmp 20)) 5 [(18, .one (.c (.p (.at 0)))), (20, .one (.c (.p (.at 7)))), (17, .one (.c (.p (.at 6))))] (.one (.c (.p (.at 8)))), .op2 false .eql (.p (.at 8)) (.p (.lit (.int .u8 32))) 9, .isB 9 false, .op2 false .add (.p (.at 1)) (.p (.lit (.int .i64 1))) 10], [(.one (.c (.p (.at 10))), .one (.c (.p (.at 1))))], [], by kernel_rfl, ?_, SX.eqT_cons (by first | rfl | (rw [eb]; rfl) | (rw [eb, hc1]; rfl) | (rw [eb]; simp)) (SX.eqT_nil), SX.eqM_nil, fun _ => by omega⟩
        rw [eb]
        exact SX.All.mem (l := [.op2 false .add (.p (.at 1)) (.p (.lit (.int .i64 1))) 2, .len (.p (.at 0)) 3, .op2 false .lss (.p (.at 2)) (.p (.at 3)) 4, .isB 4 true, .prim (.index 9 (.tmp 13) (.tmp 14)) 5 [(13, .one (.c (.p (.at 0)))), (14, .one (.c (.p (.at 1))))] (.one (.c (.p (.at 5)))), .op2 false .eql (.p (.at 5)) (.p (.lit (.int .u8 44))) 6, .isB 6 true, .op2 false .add (.p (.at 1)) (.p (.lit (.int .i64 1))) 7, .prim (.index 9 (.tmp 18) (.tmp 20)) 5 [(18, .one (.c (.p (.at 0)))), (20, .one (.c (.p (.at 7)))), (17, .one (.c (.p (.at 6))))] (.one (.c (.p (.at 8)))), .op2 false .eql (.p (.at 8)) (.p (.lit (.int .u8 32))) 9, .isB 9 false, .op2 false .add (.p (.at 1)) (.p (.lit (.int .i64 1))) 10]) (⟨congrArg (fun z => some (Value.int .i64 z)) (by rw [wrap_small (by omega) (by omega)]; omega : IntKind.wrap .i64 ((k : Int) + (1 : Int)) = ((k + 1 : Nat) : Int)),
             ⟨_, rfl, rfl⟩,
             rfl,
             congrArg Value.bool (decide_eq_true (by omega) : (decide (((k + 1 : Nat) : Int) < (s.size : Int))) = true),
             fun w' _ => index_str (k := k) (by kernel_rfl) rfl rfl (by omega),
             rfl,
             congrArg Value.bool (by rw [hc1]; rfl : ((((bts s).getD k 0 : Nat) : Int) == (44 : Int)) = true),
             congrArg (fun z => some (Value.int .i64 z)) (by rw [wrap_small (by omega) (by omega)]; omega : IntKind.wrap .i64 ((k : Int) + (1 : Int)) = ((k + 1 : Nat) : Int)),
             fun w' _ => index_str (k := (k + 1)) (by kernel_rfl) rfl rfl (by omega),
             rfl,
             congrArg Value.bool (by simp only [beq_eq_false_iff_ne]; omega : ((((bts s).getD (k + 1) 0 : Nat) : Int) == (32 : Int)) = false),
             congrArg (fun z => some (Value.int .i64 z)) (by rw [wrap_small (by omega) (by omega)]; omega : IntKind.wrap .i64 ((k : Int) + (1 : Int)) = ((k + 1 : Nat) : Int))⟩)
      · have eb : body k = [.int .i64 ((k + 1 : Nat) : Int), .int .i64 (s.size : Int), .bool (decide (((k + 1 : Nat) : Int) < (s.size : Int))), .int .u8 (((bts s).getD k 0 : Nat) : Int), .bool ((((bts s).getD k 0 : Nat) : Int) == (44 : Int)), .int .i64 ((k + 1 : Nat) : Int)] := by rw [hbody]; simp only [if_neg hc0, if_neg hc1]
        have h5 := h4 k (by omega)
        refine ⟨[.b true, .b false], true, [.op2 false .add (.p (.at 1)) (.p (.lit (.int .i64 1))) 2, .len (.p (.at 0)) 3, .op2 false .lss (.p (.at 2)) (.p (.at 3)) 4, .isB 4 true, .prim (.index 9 (.tmp 13) (.tmp 14)) 5 [(13, .one (.c (.p (.at 0)))), (14, .one (.c (.p (.at 1))))] (.one (.c (.p (.at 5)))), .op2 false .eql (.p (.at 5)) (.p (.lit (.int .u8 44))) 6, .isB 6 false, .op2 false .add (.p (.at 1)) (.p (.lit (.int .i64 1))) 7], [(.one (.c (.p (.at 7))), .one (.c (.p (.at 1))))], [], by kernel_rfl, ?_, SX.eqT_cons (by first | rfl | (rw [eb]; rfl) | (rw [eb]; simp)) (SX.eqT_nil), SX.eqM_nil, fun _ => by omega⟩
        rw [eb]
        exact SX.All.mem (l := [.op2 false .add (.p (.at 1)) (.p (.lit (.int .i64 1))) 2, .len (.p (.at 0)) 3, .op2 false .lss (.p (.at 2)) (.p (.at 3)) 4, .isB 4 true, .prim (.index 9 (.tmp 13) (.tmp 14)) 5 [(13, .one (.c (.p (.at 0)))), (14, .one (.c (.p (.at 1))))] (.one (.c (.p (.at 5)))), .op2 false .eql (.p (.at 5)) (.p (.lit (.int .u8 44))) 6, .isB 6 false, .op2 false .add (.p (.at 1)) (.p (.lit (.int .i64 1))) 7]) (⟨congrArg (fun z => some (Value.int .i64 z)) (by rw [wrap_small (by omega) (by omega)]; omega : IntKind.wrap .i64 ((k : Int) + (1 : Int)) = ((k + 1 : Nat) : Int)),
             ⟨_, rfl, rfl⟩,
             rfl,
             congrArg Value.bool (decide_eq_true (by omega) : (decide (((k + 1 : Nat) : Int) < (s.size : Int))) = true),
             fun w' _ => index_str (k := k) (by kernel_rfl) rfl rfl (by omega),
             rfl,
             congrArg Value.bool (by simp only [beq_eq_false_iff_ne]; omega : ((((bts s).getD k 0 : Nat) : Int) == (44 : Int)) = false),
             congrArg (fun z => some (Value.int .i64 z)) (by rw [wrap_small (by omega) (by omega)]; omega : IntKind.wrap .i64 ((k : Int) + (1 : Int)) = ((k + 1 : Nat) : Int))⟩))))
set_option maxRecDepth 100000 in
theorem cut4_no (s : ByteArray) (w : World) (hs : s.size ≤ 1048576) (h4 : ∀ j, j + 1 < s.size → ¬ ((bts s).getD j 0 = 44 ∧ (bts s).getD (j + 1) 0 = 32)) :
    Calls Tryz.prog 66 #[.string s] w fun e w' => e = .returned (.tuple #[.string ⟨#[]⟩, .string ⟨#[]⟩, .bool false]) ∧ Below w.heap.size w w' := by
  exact SX.run (w := w) [.string s, .int .i64 ((s.size - 1 : Nat) : Int)] [.lp [(5, .one (.c (.p (.at 1))))] [] 2 (.exit 0)] [.c (.p (.at 0))] 1 (.tup [.c (.p (.lit (.string ⟨#[]⟩))), .c (.p (.lit (.string ⟨#[]⟩))), .c (.p (.lit (.bool false)))]) [SX.obAt Tryz.prog Tryz.f66 [.lp [(5, .one (.c (.p (.at 1))))] [] 2 (.exit 0)] 0] Tryz.func66 (by kernel_rfl) rfl (by kernel_rfl) rfl (by kernel_rfl)
    (SX.All.one ((by
      obtain ⟨body, hbody⟩ : ∃ body : Nat → List Value, body = fun k => if k = s.size - 1 then ([.int .i64 ((k + 1 : Nat) : Int), .int .i64 (s.size : Int), .bool (decide (((k + 1 : Nat) : Int) < (s.size : Int)))] : List Value) else if (bts s).getD k 0 = 44 then ([.int .i64 ((k + 1 : Nat) : Int), .int .i64 (s.size : Int), .bool (decide (((k + 1 : Nat) : Int) < (s.size : Int))), .int .u8 (((bts s).getD k 0 : Nat) : Int), .bool ((((bts s).getD k 0 : Nat) : Int) == (44 : Int)), .int .i64 ((k + 1 : Nat) : Int), .int .u8 (((bts s).getD (k + 1) 0 : Nat) : Int), .bool ((((bts s).getD (k + 1) 0 : Nat) : Int) == (32 : Int)), .int .i64 ((k + 1 : Nat) : Int)] : List Value) else [.int .i64 ((k + 1 : Nat) : Int), .int .i64 (s.size : Int), .bool (decide (((k + 1 : Nat) : Int) < (s.size : Int))), .int .u8 (((bts s).getD k 0 : Nat) : Int), .bool ((((bts s).getD k 0 : Nat) : Int) == (44 : Int)), .int .i64 ((k + 1 : Nat) : Int)] := ⟨_, rfl⟩
      have hall : ∀ k, (body k).all Value.oneCell' = true := by intro k; rw [hbody]; simp only []; (repeat' split) <;> rfl
      refine SX.loop_holds (by kernel_rfl) (SX.obAt Tryz.prog Tryz.f66 [.lp [(5, .one (.c (.p (.at 1))))] [] 2 (.exit 0)] 0) [(5, .one (.c (.p (.at 1))))] [] 0 1 2 (s.size - 1) (fun k => SX.env (.string s :: .int .i64 (k : Int) :: body k)) (fun k => SX.env_ok (by simp only [List.all_cons, hall k]; rfl)) (eT := [(.one (.c (.p (.lit (.int .i64 0)))), .one (.c (.p (.at 1))))]) (eM := []) (by kernel_rfl) (SX.eqT_cons (rfl) (SX.eqT_nil)) (SX.eqM_nil) (fun k => SX.env_agree rfl) (fun k hk => ?_)
      by_cases hc0 : k = s.size - 1
      · have eb : body k = [.int .i64 ((k + 1 : Nat) : Int), .int .i64 (s.size : Int), .bool (decide (((k + 1 : Nat) : Int) < (s.size : Int)))] := by rw [hbody]; simp only [if_pos hc0]
        refine ⟨[.b false], false, [.op2 false .add (.p (.at 1)) (.p (.lit (.int .i64 1))) 2, .len (.p (.at 0)) 3, .op2 false .lss (.p (.at 2)) (.p (.at 3)) 4, .isB 4 false], [(.one (.c (.p (.at 1))), .one (.c (.p (.at 1))))], [], by kernel_rfl, ?_, SX.eqT_cons (by first | rfl | (rw [eb]; rfl) | (rw [eb, hc0]; rfl) | (rw [eb]; simp)) (SX.eqT_nil), SX.eqM_nil, fun h => absurd h (by decide)⟩
        rw [eb]
        exact SX.All.mem (l := [.op2 false .add (.p (.at 1)) (.p (.lit (.int .i64 1))) 2, .len (.p (.at 0)) 3, .op2 false .lss (.p (.at 2)) (.p (.at 3)) 4, .isB 4 false]) (⟨congrArg (fun z => some (Value.int .i64 z)) (by rw [wrap_small (by omega) (by omega)]; omega : IntKind.wrap .i64 ((k : Int) + (1 : Int)) = ((k + 1 : Nat) : Int)),
             ⟨_, rfl, rfl⟩,
             rfl,
             congrArg Value.bool (decide_eq_false (by omega) : (decide (((k + 1 : Nat) : Int) < (s.size : Int))) = false)⟩)
      by_cases hc1 : (bts s).getD k 0 = 44
      · have eb : body k = [.int .i64 ((k + 1 : Nat) : Int), .int .i64 (s.size : Int), .bool (decide (((k + 1 : Nat) : Int) < (s.size : Int))), .int .u8 (((bts s).getD k 0 : Nat) : Int), .bool ((((bts s).getD k 0 : Nat) : Int) == (44 : Int)), .int .i64 ((k + 1 : Nat) : Int), .int .u8 (((bts s).getD (k + 1) 0 : Nat) : Int), .bool ((((bts s).getD (k + 1) 0 : Nat) : Int) == (32 : Int)), .int .i64 ((k + 1 : Nat) : Int)] := by rw [hbody]; simp only [if_neg hc0, if_pos hc1]
        have h5 := h4 k (by omega)
        refine ⟨[.b true, .b true, .b false], true, [.op2 false .add (.p (.at 1)) (.p (.lit (.int .i64 1))) 2, .len (.p (.at 0)) 3, .op2 false .lss (.p (.at 2)) (.p (.at 3)) 4, .isB 4 true, .prim (.index 9 (.tmp 13) (.tmp 14)) 5 [(13, .one (.c (.p (.at 0)))), (14, .one (.c (.p (.at 1))))] (.one (.c (.p (.at 5)))), .op2 false .eql (.p (.at 5)) (.p (.lit (.int .u8 44))) 6, .isB 6 true, .op2 false .add (.p (.at 1)) (.p (.lit (.int .i64 1))) 7, .prim (.index 9 (.tmp 18) (.tmp 20)) 5 [(18, .one (.c (.p (.at 0)))), (20, .one (.c (.p (.at 7)))), (17, .one (.c (.p (.at 6))))] (.one (.c (.p (.at 8)))), .op2 false .eql (.p (.at 8)) (.p (.lit (.int .u8 32))) 9, .isB 9 false, .op2 false .add (.p (.at 1)) (.p (.lit (.int .i64 1))) 10], [(.one (.c (.p (.at 10))), .one (.c (.p (.at 1))))], [], by kernel_rfl, ?_, SX.eqT_cons (by first | rfl | (rw [eb]; rfl) | (rw [eb, hc1]; rfl) | (rw [eb]; simp)) (SX.eqT_nil), SX.eqM_nil, fun _ => by omega⟩
        rw [eb]
        exact SX.All.mem (l := [.op2 false .add (.p (.at 1)) (.p (.lit (.int .i64 1))) 2, .len (.p (.at 0)) 3, .op2 false .lss (.p (.at 2)) (.p (.at 3)) 4, .isB 4 true, .prim (.index 9 (.tmp 13) (.tmp 14)) 5 [(13, .one (.c (.p (.at 0)))), (14, .one (.c (.p (.at 1))))] (.one (.c (.p (.at 5)))), .op2 false .eql (.p (.at 5)) (.p (.lit (.int .u8 44))) 6, .isB 6 true, .op2 false .add (.p (.at 1)) (.p (.lit (.int .i64 1))) 7, .prim (.index 9 (.tmp 18) (.tmp 20)) 5 [(18, .one (.c (.p (.at 0)))), (20, .one (.c (.p (.at 7)))), (17, .one (.c (.p (.at 6))))] (.one (.c (.p (.at 8)))), .op2 false .eql (.p (.at 8)) (.p (.lit (.int .u8 32))) 9, .isB 9 false, .op2 false .add (.p (.at 1)) (.p (.lit (.int .i64 1))) 10]) (⟨congrArg (fun z => some (Value.int .i64 z)) (by rw [wrap_small (by omega) (by omega)]; omega : IntKind.wrap .i64 ((k : Int) + (1 : Int)) = ((k + 1 : Nat) : Int)),
             ⟨_, rfl, rfl⟩,
             rfl,
             congrArg Value.bool (decide_eq_true (by omega) : (decide (((k + 1 : Nat) : Int) < (s.size : Int))) = true),
             fun w' _ => index_str (k := k) (by kernel_rfl) rfl rfl (by omega),
             rfl,
             congrArg Value.bool (by rw [hc1]; rfl : ((((bts s).getD k 0 : Nat) : Int) == (44 : Int)) = true),
             congrArg (fun z => some (Value.int .i64 z)) (by rw [wrap_small (by omega) (by omega)]; omega : IntKind.wrap .i64 ((k : Int) + (1 : Int)) = ((k + 1 : Nat) : Int)),
             fun w' _ => index_str (k := (k + 1)) (by kernel_rfl) rfl rfl (by omega),
             rfl,
             congrArg Value.bool (by simp only [beq_eq_false_iff_ne]; omega : ((((bts s).getD (k + 1) 0 : Nat) : Int) == (32 : Int)) = false),
             congrArg (fun z => some (Value.int .i64 z)) (by rw [wrap_small (by omega) (by omega)]; omega : IntKind.wrap .i64 ((k : Int) + (1 : Int)) = ((k + 1 : Nat) : Int))⟩)
      · have eb : body k = [.int .i64 ((k + 1 : Nat) : Int), .int .i64 (s.size : Int), .bool (decide (((k + 1 : Nat) : Int) < (s.size : Int))), .int .u8 (((bts s).getD k 0 : Nat) : Int), .bool ((((bts s).getD k 0 : Nat) : Int) == (44 : Int)), .int .i64 ((k + 1 : Nat) : Int)] := by rw [hbody]; simp only [if_neg hc0, if_neg hc1]
        have h5 := h4 k (by omega)
        refine ⟨[.b true, .b false], true, [.op2 false .add (.p (.at 1)) (.p (.lit (.int .i64 1))) 2, .len (.p (.at 0)) 3, .op2 false .lss (.p (.at 2)) (.p (.at 3)) 4, .isB 4 true, .prim (.index 9 (.tmp 13) (.tmp 14)) 5 [(13, .one (.c (.p (.at 0)))), (14, .one (.c (.p (.at 1))))] (.one (.c (.p (.at 5)))), .op2 false .eql (.p (.at 5)) (.p (.lit (.int .u8 44))) 6, .isB 6 false, .op2 false .add (.p (.at 1)) (.p (.lit (.int .i64 1))) 7], [(.one (.c (.p (.at 7))), .one (.c (.p (.at 1))))], [], by kernel_rfl, ?_, SX.eqT_cons (by first | rfl | (rw [eb]; rfl) | (rw [eb]; simp)) (SX.eqT_nil), SX.eqM_nil, fun _ => by omega⟩
        rw [eb]
        exact SX.All.mem (l := [.op2 false .add (.p (.at 1)) (.p (.lit (.int .i64 1))) 2, .len (.p (.at 0)) 3, .op2 false .lss (.p (.at 2)) (.p (.at 3)) 4, .isB 4 true, .prim (.index 9 (.tmp 13) (.tmp 14)) 5 [(13, .one (.c (.p (.at 0)))), (14, .one (.c (.p (.at 1))))] (.one (.c (.p (.at 5)))), .op2 false .eql (.p (.at 5)) (.p (.lit (.int .u8 44))) 6, .isB 6 false, .op2 false .add (.p (.at 1)) (.p (.lit (.int .i64 1))) 7]) (⟨congrArg (fun z => some (Value.int .i64 z)) (by rw [wrap_small (by omega) (by omega)]; omega : IntKind.wrap .i64 ((k : Int) + (1 : Int)) = ((k + 1 : Nat) : Int)),
             ⟨_, rfl, rfl⟩,
             rfl,
             congrArg Value.bool (decide_eq_true (by omega) : (decide (((k + 1 : Nat) : Int) < (s.size : Int))) = true),
             fun w' _ => index_str (k := k) (by kernel_rfl) rfl rfl (by omega),
             rfl,
             congrArg Value.bool (by simp only [beq_eq_false_iff_ne]; omega : ((((bts s).getD k 0 : Nat) : Int) == (44 : Int)) = false),
             congrArg (fun z => some (Value.int .i64 z)) (by rw [wrap_small (by omega) (by omega)]; omega : IntKind.wrap .i64 ((k : Int) + (1 : Int)) = ((k + 1 : Nat) : Int))⟩))))
theorem cut4_any (s : ByteArray) (w : World) (hs : s.size ≤ 1048576) :
    Calls Tryz.prog 66 #[.string s] w fun e w' => e = .returned (.tuple #[.string (cutV s).1, .string (cutV s).2.1, .bool (cutV s).2.2]) ∧ Below w.heap.size w w' := by
  rcases Lib.index_spec s.data.toList sepB.data.toList with ⟨h1, h2⟩ | ⟨i, h1, _, h3, h4⟩
  · rw [cutV_no h1]
    refine cut4_no s w hs (fun j hj hc => ?_)
    have := (occ_get s j).2 ⟨hj, hc.1, hc.2⟩
    have h := h2 j (by rw [← size_list]; omega)
    have h' : Lib.occAt s.data.toList [44, 32] j = false := h
    rw [h'] at this
    cases this
  · rw [cutV_at h1]
    obtain ⟨k1, k2, k3⟩ := (occ_get s i).1 h3
    refine cut4_yes s i w hs k1 k2 k3 (fun j hj hc => ?_)
    have hj2 : j + 1 < s.size := by omega
    have := (occ_get s j).2 ⟨hj2, hc.1, hc.2⟩
    have h' : Lib.occAt s.data.toList [44, 32] j = false := h4 j hj
    rw [h'] at this
    cases this
theorem pP_ok0 (s a b c : ByteArray) (x0 x1 x2 : Rat) (m : Int) (w : World) (hs : s.size ≤ 1000) (hT : TabC w) (hM : MaxL m w) (ho : opened s = true) (hc : closed s = true) (hn : Lib.countB (inner s) sepB = 2) (hsp : Lib.splitB sepB 0 2 (inner s) = [a, b, c]) (ha : a.size ≤ 1000) (hb : b.size ≤ 1000) (hcz : c.size ≤ 1000) (zx0 : Rk x0 2000) (zx1 : Rk x1 2000) (zx2 : Rk x2 2000) (p0 : parseQV a = .tuple #[QV x0, .bool false]) :
    Calls Tryz.prog 27 #[.string s] w fun e w' => e = .returned (.tuple #[P0, .bool false]) ∧ Below w.heap.size w w' := by
  obtain ⟨z1, z2⟩ := inner_size s
  have f1 : Rk x0 2000 := Rk.up (zx0) (by decide)
  exact SX.run (w := w) [.string s, .string (behind s), .bool true, .string (inner s), .bool true, .string a, .string b, .string c, .bool false, .bool false, .bool (sg x0.num), .string (mg x0.num), .string (dm x0.den), .bool false, .bool true] [.fr 3, .b false, .b false, .b true] [.c (.p (.at 0))] 1 (.tup [.agg [.p (.lit (.bool false)), .p (.lit (.string ⟨#[]⟩)), .p (.lit (.bool false)), .p (.lit (.string ⟨#[]⟩)), .p (.lit (.bool false)), .p (.lit (.string ⟨#[]⟩)), .p (.lit (.bool false)), .p (.lit (.string ⟨#[]⟩))], .c (.p (.lit (.bool false)))]) [.call 62 [.c (.p (.at 0)), .c (.p (.lit (.string ⟨#[40]⟩)))] (.tup [.c (.p (.at 1)), .c (.p (.at 2))]) [], .call 63 [.c (.p (.at 1)), .c (.p (.lit (.string ⟨#[41]⟩)))] (.tup [.c (.p (.at 3)), .c (.p (.at 4))]) [], .callF 64 [.c (.p (.at 3)), .c (.p (.lit (.string ⟨#[44, 32]⟩)))] 9 [.p (.at 5), .p (.at 6), .p (.at 7)] 3 [], .op1 .not (.p (.at 2)) 8, .isB 8 false, .op1 .not (.p (.at 4)) 9, .isB 9 false, .call 65 [.c (.p (.at 5))] (.tup [.agg [.p (.at 10), .p (.at 11), .p (.at 12)], .c (.p (.at 13))]) [], .op1 .not (.p (.at 13)) 14, .isB 14 true] Tryz.func27 (by kernel_rfl) rfl (by kernel_rfl) rfl (by kernel_rfl)
    ⟨fun γ w' _ _ => by have h := Tryz.strings_CutPrefix s ⟨#[40]⟩ w'; rw [show Lib.hasPrefix s.data.toList (⟨#[40]⟩ : ByteArray).data.toList = true from ho] at h; exact h.mono fun _ _ k => ⟨k.1, k.2 ▸ Below.refl _ _⟩,
     fun γ w' _ _ => by have h := Tryz.strings_CutSuffix (behind s) ⟨#[41]⟩ w' (by omega); rw [show Lib.hasSuffix (behind s).data.toList (⟨#[41]⟩ : ByteArray).data.toList = true from hc] at h; exact h.mono fun _ _ k => ⟨k.1, k.2 ▸ Below.refl _ _⟩,
     fun γ w' bw _ => by have h := Tryz.strings_Split (inner s) ⟨#[44, 32]⟩ m w' (by omega) (hM.later bw) (by decide); rw [show Lib.countB (inner s) ⟨#[44, 32]⟩ = 2 from hn, show Lib.splitB ⟨#[44, 32]⟩ 0 2 (inner s) = [a, b, c] from hsp] at h; exact h,
     congrArg (fun z => some (Value.bool z)) (by first | rfl | assumption | decide | simp [*] : (!true) = false),
     rfl,
     congrArg (fun z => some (Value.bool z)) (by first | rfl | assumption | decide | simp [*] : (!true) = false),
     rfl,
     fun γ w' bw _ => by have h := ParseQ_any a w' (by omega) (hT.later bw); rw [p0] at h; exact h,
     congrArg (fun z => some (Value.bool z)) (by first | rfl | assumption | decide | simp [*] : (!false) = true),
     rfl⟩
theorem pP_txt0 (s a b c : ByteArray) (x0 x1 x2 : Rat) (m : Int) (w : World) (hs : s.size ≤ 1000) (hT : TabC w) (hM : MaxL m w) (ho : opened s = true) (hc : closed s = true) (hn : Lib.countB (inner s) sepB = 2) (hsp : Lib.splitB sepB 0 2 (inner s) = [a, b, c]) (ha : a.size ≤ 1000) (hb : b.size ≤ 1000) (hcz : c.size ≤ 1000) (zx0 : Rk x0 2000) (zx1 : Rk x1 2000) (zx2 : Rk x2 2000) (p0 : parseQV a = .tuple #[QV x0, .bool true]) (t0 : textQ x0 ≠ a) :
    Calls Tryz.prog 27 #[.string s] w fun e w' => e = .returned (.tuple #[P0, .bool false]) ∧ Below w.heap.size w w' := by
  obtain ⟨z1, z2⟩ := inner_size s
  have f1 : Rk x0 2000 := Rk.up (zx0) (by decide)
  exact SX.run (w := w) [.string s, .string (behind s), .bool true, .string (inner s), .bool true, .string a, .string b, .string c, .bool false, .bool false, .bool (sg x0.num), .string (mg x0.num), .string (dm x0.den), .bool true, .bool false, .string (textQ x0), .bool true] [.fr 3, .b false, .b false, .b false, .b true] [.c (.p (.at 0))] 1 (.tup [.agg [.p (.lit (.bool false)), .p (.lit (.string ⟨#[]⟩)), .p (.lit (.bool false)), .p (.lit (.string ⟨#[]⟩)), .p (.lit (.bool false)), .p (.lit (.string ⟨#[]⟩)), .p (.lit (.bool false)), .p (.lit (.string ⟨#[]⟩))], .c (.p (.lit (.bool false)))]) [.call 62 [.c (.p (.at 0)), .c (.p (.lit (.string ⟨#[40]⟩)))] (.tup [.c (.p (.at 1)), .c (.p (.at 2))]) [], .call 63 [.c (.p (.at 1)), .c (.p (.lit (.string ⟨#[41]⟩)))] (.tup [.c (.p (.at 3)), .c (.p (.at 4))]) [], .callF 64 [.c (.p (.at 3)), .c (.p (.lit (.string ⟨#[44, 32]⟩)))] 9 [.p (.at 5), .p (.at 6), .p (.at 7)] 3 [], .op1 .not (.p (.at 2)) 8, .isB 8 false, .op1 .not (.p (.at 4)) 9, .isB 9 false, .call 65 [.c (.p (.at 5))] (.tup [.agg [.p (.at 10), .p (.at 11), .p (.at 12)], .c (.p (.at 13))]) [], .op1 .not (.p (.at 13)) 14, .isB 14 false, .call 48 [.agg [.p (.at 10), .p (.at 11), .p (.at 12)]] (.one (.c (.p (.at 15)))) [], .op2 false .neq (.p (.at 15)) (.p (.at 5)) 16, .isB 16 true] Tryz.func27 (by kernel_rfl) rfl (by kernel_rfl) rfl (by kernel_rfl)
    ⟨fun γ w' _ _ => by have h := Tryz.strings_CutPrefix s ⟨#[40]⟩ w'; rw [show Lib.hasPrefix s.data.toList (⟨#[40]⟩ : ByteArray).data.toList = true from ho] at h; exact h.mono fun _ _ k => ⟨k.1, k.2 ▸ Below.refl _ _⟩,
     fun γ w' _ _ => by have h := Tryz.strings_CutSuffix (behind s) ⟨#[41]⟩ w' (by omega); rw [show Lib.hasSuffix (behind s).data.toList (⟨#[41]⟩ : ByteArray).data.toList = true from hc] at h; exact h.mono fun _ _ k => ⟨k.1, k.2 ▸ Below.refl _ _⟩,
     fun γ w' bw _ => by have h := Tryz.strings_Split (inner s) ⟨#[44, 32]⟩ m w' (by omega) (hM.later bw) (by decide); rw [show Lib.countB (inner s) ⟨#[44, 32]⟩ = 2 from hn, show Lib.splitB ⟨#[44, 32]⟩ 0 2 (inner s) = [a, b, c] from hsp] at h; exact h,
     congrArg (fun z => some (Value.bool z)) (by first | rfl | assumption | decide | simp [*] : (!true) = false),
     rfl,
     congrArg (fun z => some (Value.bool z)) (by first | rfl | assumption | decide | simp [*] : (!true) = false),
     rfl,
     fun γ w' bw _ => by have h := ParseQ_any a w' (by omega) (hT.later bw); rw [p0] at h; exact h,
     congrArg (fun z => some (Value.bool z)) (by first | rfl | assumption | decide | simp [*] : (!true) = false),
     rfl,
     fun γ w' hb _ => qText (IsQ.can f1) (by decide) w' (hT.later hb),
     congrArg (fun z => some (Value.bool z)) (by rw [beq_eq_false_iff_ne.2 (fun e => t0 (toList_inj e))]; rfl : (!((textQ x0).toList == a.toList)) = true),
     rfl⟩
theorem pP_ok1 (s a b c : ByteArray) (x0 x1 x2 : Rat) (m : Int) (w : World) (hs : s.size ≤ 1000) (hT : TabC w) (hM : MaxL m w) (ho : opened s = true) (hc : closed s = true) (hn : Lib.countB (inner s) sepB = 2) (hsp : Lib.splitB sepB 0 2 (inner s) = [a, b, c]) (ha : a.size ≤ 1000) (hb : b.size ≤ 1000) (hcz : c.size ≤ 1000) (zx0 : Rk x0 2000) (zx1 : Rk x1 2000) (zx2 : Rk x2 2000) (p0 : parseQV a = .tuple #[QV x0, .bool true]) (t0 : textQ x0 = a) (p1 : parseQV b = .tuple #[QV x1, .bool false]) :
    Calls Tryz.prog 27 #[.string s] w fun e w' => e = .returned (.tuple #[P0, .bool false]) ∧ Below w.heap.size w w' := by
  obtain ⟨z1, z2⟩ := inner_size s
  have f1 : Rk x0 2000 := Rk.up (zx0) (by decide)
  have f2 : Rk x1 2000 := Rk.up (zx1) (by decide)
  exact SX.run (w := w) [.string s, .string (behind s), .bool true, .string (inner s), .bool true, .string a, .string b, .string c, .bool false, .bool false, .bool (sg x0.num), .string (mg x0.num), .string (dm x0.den), .bool true, .bool false, .string (textQ x0), .bool false, .bool (sg x1.num), .string (mg x1.num), .string (dm x1.den), .bool false, .bool true] [.fr 3, .b false, .b false, .b false, .b false, .b true] [.c (.p (.at 0))] 1 (.tup [.agg [.p (.lit (.bool false)), .p (.lit (.string ⟨#[]⟩)), .p (.lit (.bool false)), .p (.lit (.string ⟨#[]⟩)), .p (.lit (.bool false)), .p (.lit (.string ⟨#[]⟩)), .p (.lit (.bool false)), .p (.lit (.string ⟨#[]⟩))], .c (.p (.lit (.bool false)))]) [.call 62 [.c (.p (.at 0)), .c (.p (.lit (.string ⟨#[40]⟩)))] (.tup [.c (.p (.at 1)), .c (.p (.at 2))]) [], .call 63 [.c (.p (.at 1)), .c (.p (.lit (.string ⟨#[41]⟩)))] (.tup [.c (.p (.at 3)), .c (.p (.at 4))]) [], .callF 64 [.c (.p (.at 3)), .c (.p (.lit (.string ⟨#[44, 32]⟩)))] 9 [.p (.at 5), .p (.at 6), .p (.at 7)] 3 [], .op1 .not (.p (.at 2)) 8, .isB 8 false, .op1 .not (.p (.at 4)) 9, .isB 9 false, .call 65 [.c (.p (.at 5))] (.tup [.agg [.p (.at 10), .p (.at 11), .p (.at 12)], .c (.p (.at 13))]) [], .op1 .not (.p (.at 13)) 14, .isB 14 false, .call 48 [.agg [.p (.at 10), .p (.at 11), .p (.at 12)]] (.one (.c (.p (.at 15)))) [], .op2 false .neq (.p (.at 15)) (.p (.at 5)) 16, .isB 16 false, .call 65 [.c (.p (.at 6))] (.tup [.agg [.p (.at 17), .p (.at 18), .p (.at 19)], .c (.p (.at 20))]) [], .op1 .not (.p (.at 20)) 21, .isB 21 true] Tryz.func27 (by kernel_rfl) rfl (by kernel_rfl) rfl (by kernel_rfl)
    ⟨fun γ w' _ _ => by have h := Tryz.strings_CutPrefix s ⟨#[40]⟩ w'; rw [show Lib.hasPrefix s.data.toList (⟨#[40]⟩ : ByteArray).data.toList = true from ho] at h; exact h.mono fun _ _ k => ⟨k.1, k.2 ▸ Below.refl _ _⟩,
     fun γ w' _ _ => by have h := Tryz.strings_CutSuffix (behind s) ⟨#[41]⟩ w' (by omega); rw [show Lib.hasSuffix (behind s).data.toList (⟨#[41]⟩ : ByteArray).data.toList = true from hc] at h; exact h.mono fun _ _ k => ⟨k.1, k.2 ▸ Below.refl _ _⟩,
     fun γ w' bw _ => by have h := Tryz.strings_Split (inner s) ⟨#[44, 32]⟩ m w' (by omega) (hM.later bw) (by decide); rw [show Lib.countB (inner s) ⟨#[44, 32]⟩ = 2 from hn, show Lib.splitB ⟨#[44, 32]⟩ 0 2 (inner s) = [a, b, c] from hsp] at h; exact h,
     congrArg (fun z => some (Value.bool z)) (by first | rfl | assumption | decide | simp [*] : (!true) = false),
     rfl,
     congrArg (fun z => some (Value.bool z)) (by first | rfl | assumption | decide | simp [*] : (!true) = false),
     rfl,
     fun γ w' bw _ => by have h := ParseQ_any a w' (by omega) (hT.later bw); rw [p0] at h; exact h,
     congrArg (fun z => some (Value.bool z)) (by first | rfl | assumption | decide | simp [*] : (!true) = false),
     rfl,
     fun γ w' hb _ => qText (IsQ.can f1) (by decide) w' (hT.later hb),
     congrArg (fun z => some (Value.bool z)) (by rw [t0, beq_self_eq_true]; rfl : (!((textQ x0).toList == a.toList)) = false),
     rfl,
     fun γ w' bw _ => by have h := ParseQ_any b w' (by omega) (hT.later bw); rw [p1] at h; exact h,
     congrArg (fun z => some (Value.bool z)) (by first | rfl | assumption | decide | simp [*] : (!false) = true),
     rfl⟩
theorem pP_txt1 (s a b c : ByteArray) (x0 x1 x2 : Rat) (m : Int) (w : World) (hs : s.size ≤ 1000) (hT : TabC w) (hM : MaxL m w) (ho : opened s = true) (hc : closed s = true) (hn : Lib.countB (inner s) sepB = 2) (hsp : Lib.splitB sepB 0 2 (inner s) = [a, b, c]) (ha : a.size ≤ 1000) (hb : b.size ≤ 1000) (hcz : c.size ≤ 1000) (zx0 : Rk x0 2000) (zx1 : Rk x1 2000) (zx2 : Rk x2 2000) (p0 : parseQV a = .tuple #[QV x0, .bool true]) (t0 : textQ x0 = a) (p1 : parseQV b = .tuple #[QV x1, .bool true]) (t1 : textQ x1 ≠ b) :
    Calls Tryz.prog 27 #[.string s] w fun e w' => e = .returned (.tuple #[P0, .bool false]) ∧ Below w.heap.size w w' := by
  obtain ⟨z1, z2⟩ := inner_size s
  have f1 : Rk x0 2000 := Rk.up (zx0) (by decide)
  have f2 : Rk x1 2000 := Rk.up (zx1) (by decide)
  exact SX.run (w := w) [.string s, .string (behind s), .bool true, .string (inner s), .bool true, .string a, .string b, .string c, .bool false, .bool false, .bool (sg x0.num), .string (mg x0.num), .string (dm x0.den), .bool true, .bool false, .string (textQ x0), .bool false, .bool (sg x1.num), .string (mg x1.num), .string (dm x1.den), .bool true, .bool false, .string (textQ x1), .bool true] [.fr 3, .b false, .b false, .b false, .b false, .b false, .b true] [.c (.p (.at 0))] 1 (.tup [.agg [.p (.lit (.bool false)), .p (.lit (.string ⟨#[]⟩)), .p (.lit (.bool false)), .p (.lit (.string ⟨#[]⟩)), .p (.lit (.bool false)), .p (.lit (.string ⟨#[]⟩)), .p (.lit (.bool false)), .p (.lit (.string ⟨#[]⟩))], .c (.p (.lit (.bool false)))]) [.call 62 [.c (.p (.at 0)), .c (.p (.lit (.string ⟨#[40]⟩)))] (.tup [.c (.p (.at 1)), .c (.p (.at 2))]) [], .call 63 [.c (.p (.at 1)), .c (.p (.lit (.string ⟨#[41]⟩)))] (.tup [.c (.p (.at 3)), .c (.p (.at 4))]) [], .callF 64 [.c (.p (.at 3)), .c (.p (.lit (.string ⟨#[44, 32]⟩)))] 9 [.p (.at 5), .p (.at 6), .p (.at 7)] 3 [], .op1 .not (.p (.at 2)) 8, .isB 8 false, .op1 .not (.p (.at 4)) 9, .isB 9 false, .call 65 [.c (.p (.at 5))] (.tup [.agg [.p (.at 10), .p (.at 11), .p (.at 12)], .c (.p (.at 13))]) [], .op1 .not (.p (.at 13)) 14, .isB 14 false, .call 48 [.agg [.p (.at 10), .p (.at 11), .p (.at 12)]] (.one (.c (.p (.at 15)))) [], .op2 false .neq (.p (.at 15)) (.p (.at 5)) 16, .isB 16 false, .call 65 [.c (.p (.at 6))] (.tup [.agg [.p (.at 17), .p (.at 18), .p (.at 19)], .c (.p (.at 20))]) [], .op1 .not (.p (.at 20)) 21, .isB 21 false, .call 48 [.agg [.p (.at 17), .p (.at 18), .p (.at 19)]] (.one (.c (.p (.at 22)))) [], .op2 false .neq (.p (.at 22)) (.p (.at 6)) 23, .isB 23 true] Tryz.func27 (by kernel_rfl) rfl (by kernel_rfl) rfl (by kernel_rfl)
    ⟨fun γ w' _ _ => by have h := Tryz.strings_CutPrefix s ⟨#[40]⟩ w'; rw [show Lib.hasPrefix s.data.toList (⟨#[40]⟩ : ByteArray).data.toList = true from ho] at h; exact h.mono fun _ _ k => ⟨k.1, k.2 ▸ Below.refl _ _⟩,
     fun γ w' _ _ => by have h := Tryz.strings_CutSuffix (behind s) ⟨#[41]⟩ w' (by omega); rw [show Lib.hasSuffix (behind s).data.toList (⟨#[41]⟩ : ByteArray).data.toList = true from hc] at h; exact h.mono fun _ _ k => ⟨k.1, k.2 ▸ Below.refl _ _⟩,
     fun γ w' bw _ => by have h := Tryz.strings_Split (inner s) ⟨#[44, 32]⟩ m w' (by omega) (hM.later bw) (by decide); rw [show Lib.countB (inner s) ⟨#[44, 32]⟩ = 2 from hn, show Lib.splitB ⟨#[44, 32]⟩ 0 2 (inner s) = [a, b, c] from hsp] at h; exact h,
     congrArg (fun z => some (Value.bool z)) (by first | rfl | assumption | decide | simp [*] : (!true) = false),
     rfl,
     congrArg (fun z => some (Value.bool z)) (by first | rfl | assumption | decide | simp [*] : (!true) = false),
     rfl,
     fun γ w' bw _ => by have h := ParseQ_any a w' (by omega) (hT.later bw); rw [p0] at h; exact h,
     congrArg (fun z => some (Value.bool z)) (by first | rfl | assumption | decide | simp [*] : (!true) = false),
     rfl,
     fun γ w' hb _ => qText (IsQ.can f1) (by decide) w' (hT.later hb),
     congrArg (fun z => some (Value.bool z)) (by rw [t0, beq_self_eq_true]; rfl : (!((textQ x0).toList == a.toList)) = false),
     rfl,
     fun γ w' bw _ => by have h := ParseQ_any b w' (by omega) (hT.later bw); rw [p1] at h; exact h,
     congrArg (fun z => some (Value.bool z)) (by first | rfl | assumption | decide | simp [*] : (!true) = false),
     rfl,
     fun γ w' hb _ => qText (IsQ.can f2) (by decide) w' (hT.later hb),
     congrArg (fun z => some (Value.bool z)) (by rw [beq_eq_false_iff_ne.2 (fun e => t1 (toList_inj e))]; rfl : (!((textQ x1).toList == b.toList)) = true),
     rfl⟩
theorem pP_ok2 (s a b c : ByteArray) (x0 x1 x2 : Rat) (m : Int) (w : World) (hs : s.size ≤ 1000) (hT : TabC w) (hM : MaxL m w) (ho : opened s = true) (hc : closed s = true) (hn : Lib.countB (inner s) sepB = 2) (hsp : Lib.splitB sepB 0 2 (inner s) = [a, b, c]) (ha : a.size ≤ 1000) (hb : b.size ≤ 1000) (hcz : c.size ≤ 1000) (zx0 : Rk x0 2000) (zx1 : Rk x1 2000) (zx2 : Rk x2 2000) (p0 : parseQV a = .tuple #[QV x0, .bool true]) (t0 : textQ x0 = a) (p1 : parseQV b = .tuple #[QV x1, .bool true]) (t1 : textQ x1 = b) (p2 : parseQV c = .tuple #[QV x2, .bool false]) :
    Calls Tryz.prog 27 #[.string s] w fun e w' => e = .returned (.tuple #[P0, .bool false]) ∧ Below w.heap.size w w' := by
  obtain ⟨z1, z2⟩ := inner_size s
  have f1 : Rk x0 2000 := Rk.up (zx0) (by decide)
  have f2 : Rk x1 2000 := Rk.up (zx1) (by decide)
  have f3 : Rk x2 2000 := Rk.up (zx2) (by decide)
  exact SX.run (w := w) (.string s :: .string (behind s) :: .bool true :: .string (inner s) :: .bool true :: .string a :: .string b :: .string c :: .bool false :: .bool false :: .bool (sg x0.num) :: .string (mg x0.num) :: .string (dm x0.den) :: .bool true :: .bool false :: .string (textQ x0) :: .bool false :: .bool (sg x1.num) :: .string (mg x1.num) :: .string (dm x1.den) :: .bool true :: .bool false :: .string (textQ x1) :: .bool false :: .bool (sg x2.num) :: .string (mg x2.num) :: .string (dm x2.den) :: .bool false :: .bool true :: []) [.fr 3, .b false, .b false, .b false, .b false, .b false, .b false, .b true] [.c (.p (.at 0))] 1 (.tup [.agg [.p (.lit (.bool false)), .p (.lit (.string ⟨#[]⟩)), .p (.lit (.bool false)), .p (.lit (.string ⟨#[]⟩)), .p (.lit (.bool false)), .p (.lit (.string ⟨#[]⟩)), .p (.lit (.bool false)), .p (.lit (.string ⟨#[]⟩))], .c (.p (.lit (.bool false)))]) [.call 62 [.c (.p (.at 0)), .c (.p (.lit (.string ⟨#[40]⟩)))] (.tup [.c (.p (.at 1)), .c (.p (.at 2))]) [], .call 63 [.c (.p (.at 1)), .c (.p (.lit (.string ⟨#[41]⟩)))] (.tup [.c (.p (.at 3)), .c (.p (.at 4))]) [], .callF 64 [.c (.p (.at 3)), .c (.p (.lit (.string ⟨#[44, 32]⟩)))] 9 [.p (.at 5), .p (.at 6), .p (.at 7)] 3 [], .op1 .not (.p (.at 2)) 8, .isB 8 false, .op1 .not (.p (.at 4)) 9, .isB 9 false, .call 65 [.c (.p (.at 5))] (.tup [.agg [.p (.at 10), .p (.at 11), .p (.at 12)], .c (.p (.at 13))]) [], .op1 .not (.p (.at 13)) 14, .isB 14 false, .call 48 [.agg [.p (.at 10), .p (.at 11), .p (.at 12)]] (.one (.c (.p (.at 15)))) [], .op2 false .neq (.p (.at 15)) (.p (.at 5)) 16, .isB 16 false, .call 65 [.c (.p (.at 6))] (.tup [.agg [.p (.at 17), .p (.at 18), .p (.at 19)], .c (.p (.at 20))]) [], .op1 .not (.p (.at 20)) 21, .isB 21 false, .call 48 [.agg [.p (.at 17), .p (.at 18), .p (.at 19)]] (.one (.c (.p (.at 22)))) [], .op2 false .neq (.p (.at 22)) (.p (.at 6)) 23, .isB 23 false, .call 65 [.c (.p (.at 7))] (.tup [.agg [.p (.at 24), .p (.at 25), .p (.at 26)], .c (.p (.at 27))]) [], .op1 .not (.p (.at 27)) 28, .isB 28 true] Tryz.func27 (by kernel_rfl) rfl (by kernel_rfl) rfl (by kernel_rfl)
    ⟨fun γ w' _ _ => by have h := Tryz.strings_CutPrefix s ⟨#[40]⟩ w'; rw [show Lib.hasPrefix s.data.toList (⟨#[40]⟩ : ByteArray).data.toList = true from ho] at h; exact h.mono fun _ _ k => ⟨k.1, k.2 ▸ Below.refl _ _⟩,
     fun γ w' _ _ => by have h := Tryz.strings_CutSuffix (behind s) ⟨#[41]⟩ w' (by omega); rw [show Lib.hasSuffix (behind s).data.toList (⟨#[41]⟩ : ByteArray).data.toList = true from hc] at h; exact h.mono fun _ _ k => ⟨k.1, k.2 ▸ Below.refl _ _⟩,
     fun γ w' bw _ => by have h := Tryz.strings_Split (inner s) ⟨#[44, 32]⟩ m w' (by omega) (hM.later bw) (by decide); rw [show Lib.countB (inner s) ⟨#[44, 32]⟩ = 2 from hn, show Lib.splitB ⟨#[44, 32]⟩ 0 2 (inner s) = [a, b, c] from hsp] at h; exact h,
     congrArg (fun z => some (Value.bool z)) (by first | rfl | assumption | decide | simp [*] : (!true) = false),
     rfl,
     congrArg (fun z => some (Value.bool z)) (by first | rfl | assumption | decide | simp [*] : (!true) = false),
     rfl,
     fun γ w' bw _ => by have h := ParseQ_any a w' (by omega) (hT.later bw); rw [p0] at h; exact h,
     congrArg (fun z => some (Value.bool z)) (by first | rfl | assumption | decide | simp [*] : (!true) = false),
     rfl,
     fun γ w' hb _ => qText (IsQ.can f1) (by decide) w' (hT.later hb),
     congrArg (fun z => some (Value.bool z)) (by rw [t0, beq_self_eq_true]; rfl : (!((textQ x0).toList == a.toList)) = false),
     rfl,
     fun γ w' bw _ => by have h := ParseQ_any b w' (by omega) (hT.later bw); rw [p1] at h; exact h,
     congrArg (fun z => some (Value.bool z)) (by first | rfl | assumption | decide | simp [*] : (!true) = false),
     rfl,
     fun γ w' hb _ => qText (IsQ.can f2) (by decide) w' (hT.later hb),
     congrArg (fun z => some (Value.bool z)) (by rw [t1, beq_self_eq_true]; rfl : (!((textQ x1).toList == b.toList)) = false),
     rfl,
     fun γ w' bw _ => by have h := ParseQ_any c w' (by omega) (hT.later bw); rw [p2] at h; exact h,
     congrArg (fun z => some (Value.bool z)) (by first | rfl | assumption | decide | simp [*] : (!false) = true),
     rfl⟩
theorem pP_txt2 (s a b c : ByteArray) (x0 x1 x2 : Rat) (m : Int) (w : World) (hs : s.size ≤ 1000) (hT : TabC w) (hM : MaxL m w) (ho : opened s = true) (hc : closed s = true) (hn : Lib.countB (inner s) sepB = 2) (hsp : Lib.splitB sepB 0 2 (inner s) = [a, b, c]) (ha : a.size ≤ 1000) (hb : b.size ≤ 1000) (hcz : c.size ≤ 1000) (zx0 : Rk x0 2000) (zx1 : Rk x1 2000) (zx2 : Rk x2 2000) (p0 : parseQV a = .tuple #[QV x0, .bool true]) (t0 : textQ x0 = a) (p1 : parseQV b = .tuple #[QV x1, .bool true]) (t1 : textQ x1 = b) (p2 : parseQV c = .tuple #[QV x2, .bool true]) (t2 : textQ x2 ≠ c) :
    Calls Tryz.prog 27 #[.string s] w fun e w' => e = .returned (.tuple #[P0, .bool false]) ∧ Below w.heap.size w w' := by
  obtain ⟨z1, z2⟩ := inner_size s
  have f1 : Rk x0 2000 := Rk.up (zx0) (by decide)
  have f2 : Rk x1 2000 := Rk.up (zx1) (by decide)
  have f3 : Rk x2 2000 := Rk.up (zx2) (by decide)
  exact SX.run (w := w) (.string s :: .string (behind s) :: .bool true :: .string (inner s) :: .bool true :: .string a :: .string b :: .string c :: .bool false :: .bool false :: .bool (sg x0.num) :: .string (mg x0.num) :: .string (dm x0.den) :: .bool true :: .bool false :: .string (textQ x0) :: .bool false :: .bool (sg x1.num) :: .string (mg x1.num) :: .string (dm x1.den) :: .bool true :: .bool false :: .string (textQ x1) :: .bool false :: .bool (sg x2.num) :: .string (mg x2.num) :: .string (dm x2.den) :: .bool true :: .bool false :: .string (textQ x2) :: .bool true :: []) [.fr 3, .b false, .b false, .b false, .b false, .b false, .b false, .b false, .b true] [.c (.p (.at 0))] 1 (.tup [.agg [.p (.lit (.bool false)), .p (.lit (.string ⟨#[]⟩)), .p (.lit (.bool false)), .p (.lit (.string ⟨#[]⟩)), .p (.lit (.bool false)), .p (.lit (.string ⟨#[]⟩)), .p (.lit (.bool false)), .p (.lit (.string ⟨#[]⟩))], .c (.p (.lit (.bool false)))]) [.call 62 [.c (.p (.at 0)), .c (.p (.lit (.string ⟨#[40]⟩)))] (.tup [.c (.p (.at 1)), .c (.p (.at 2))]) [], .call 63 [.c (.p (.at 1)), .c (.p (.lit (.string ⟨#[41]⟩)))] (.tup [.c (.p (.at 3)), .c (.p (.at 4))]) [], .callF 64 [.c (.p (.at 3)), .c (.p (.lit (.string ⟨#[44, 32]⟩)))] 9 [.p (.at 5), .p (.at 6), .p (.at 7)] 3 [], .op1 .not (.p (.at 2)) 8, .isB 8 false, .op1 .not (.p (.at 4)) 9, .isB 9 false, .call 65 [.c (.p (.at 5))] (.tup [.agg [.p (.at 10), .p (.at 11), .p (.at 12)], .c (.p (.at 13))]) [], .op1 .not (.p (.at 13)) 14, .isB 14 false, .call 48 [.agg [.p (.at 10), .p (.at 11), .p (.at 12)]] (.one (.c (.p (.at 15)))) [], .op2 false .neq (.p (.at 15)) (.p (.at 5)) 16, .isB 16 false, .call 65 [.c (.p (.at 6))] (.tup [.agg [.p (.at 17), .p (.at 18), .p (.at 19)], .c (.p (.at 20))]) [], .op1 .not (.p (.at 20)) 21, .isB 21 false, .call 48 [.agg [.p (.at 17), .p (.at 18), .p (.at 19)]] (.one (.c (.p (.at 22)))) [], .op2 false .neq (.p (.at 22)) (.p (.at 6)) 23, .isB 23 false, .call 65 [.c (.p (.at 7))] (.tup [.agg [.p (.at 24), .p (.at 25), .p (.at 26)], .c (.p (.at 27))]) [], .op1 .not (.p (.at 27)) 28, .isB 28 false, .call 48 [.agg [.p (.at 24), .p (.at 25), .p (.at 26)]] (.one (.c (.p (.at 29)))) [], .op2 false .neq (.p (.at 29)) (.p (.at 7)) 30, .isB 30 true] Tryz.func27 (by kernel_rfl) rfl (by kernel_rfl) rfl (by kernel_rfl)
    ⟨fun γ w' _ _ => by have h := Tryz.strings_CutPrefix s ⟨#[40]⟩ w'; rw [show Lib.hasPrefix s.data.toList (⟨#[40]⟩ : ByteArray).data.toList = true from ho] at h; exact h.mono fun _ _ k => ⟨k.1, k.2 ▸ Below.refl _ _⟩,
     fun γ w' _ _ => by have h := Tryz.strings_CutSuffix (behind s) ⟨#[41]⟩ w' (by omega); rw [show Lib.hasSuffix (behind s).data.toList (⟨#[41]⟩ : ByteArray).data.toList = true from hc] at h; exact h.mono fun _ _ k => ⟨k.1, k.2 ▸ Below.refl _ _⟩,
     fun γ w' bw _ => by have h := Tryz.strings_Split (inner s) ⟨#[44, 32]⟩ m w' (by omega) (hM.later bw) (by decide); rw [show Lib.countB (inner s) ⟨#[44, 32]⟩ = 2 from hn, show Lib.splitB ⟨#[44, 32]⟩ 0 2 (inner s) = [a, b, c] from hsp] at h; exact h,
     congrArg (fun z => some (Value.bool z)) (by first | rfl | assumption | decide | simp [*] : (!true) = false),
     rfl,
     congrArg (fun z => some (Value.bool z)) (by first | rfl | assumption | decide | simp [*] : (!true) = false),
     rfl,
     fun γ w' bw _ => by have h := ParseQ_any a w' (by omega) (hT.later bw); rw [p0] at h; exact h,
     congrArg (fun z => some (Value.bool z)) (by first | rfl | assumption | decide | simp [*] : (!true) = false),
     rfl,
     fun γ w' hb _ => qText (IsQ.can f1) (by decide) w' (hT.later hb),
     congrArg (fun z => some (Value.bool z)) (by rw [t0, beq_self_eq_true]; rfl : (!((textQ x0).toList == a.toList)) = false),
     rfl,
     fun γ w' bw _ => by have h := ParseQ_any b w' (by omega) (hT.later bw); rw [p1] at h; exact h,
     congrArg (fun z => some (Value.bool z)) (by first | rfl | assumption | decide | simp [*] : (!true) = false),
     rfl,
     fun γ w' hb _ => qText (IsQ.can f2) (by decide) w' (hT.later hb),
     congrArg (fun z => some (Value.bool z)) (by rw [t1, beq_self_eq_true]; rfl : (!((textQ x1).toList == b.toList)) = false),
     rfl,
     fun γ w' bw _ => by have h := ParseQ_any c w' (by omega) (hT.later bw); rw [p2] at h; exact h,
     congrArg (fun z => some (Value.bool z)) (by first | rfl | assumption | decide | simp [*] : (!true) = false),
     rfl,
     fun γ w' hb _ => qText (IsQ.can f3) (by decide) w' (hT.later hb),
     congrArg (fun z => some (Value.bool z)) (by rw [beq_eq_false_iff_ne.2 (fun e => t2 (toList_inj e))]; rfl : (!((textQ x2).toList == c.toList)) = true),
     rfl⟩
theorem pP_yes (s a b c : ByteArray) (x0 x1 x2 : Rat) (m : Int) (w : World) (hs : s.size ≤ 1000) (hT : TabC w) (hM : MaxL m w) (ho : opened s = true) (hc : closed s = true) (hn : Lib.countB (inner s) sepB = 2) (hsp : Lib.splitB sepB 0 2 (inner s) = [a, b, c]) (ha : a.size ≤ 1000) (hb : b.size ≤ 1000) (hcz : c.size ≤ 1000) (zx0 : Rk x0 2000) (zx1 : Rk x1 2000) (zx2 : Rk x2 2000) (p0 : parseQV a = .tuple #[QV x0, .bool true]) (t0 : textQ x0 = a) (p1 : parseQV b = .tuple #[QV x1, .bool true]) (t1 : textQ x1 = b) (p2 : parseQV c = .tuple #[QV x2, .bool true]) (t2 : textQ x2 = c) :
    Calls Tryz.prog 27 #[.string s] w fun e w' => e = .returned (.tuple #[PV (P3.mk x0 x1 x2), .bool true]) ∧ Below w.heap.size w w' := by
  obtain ⟨z1, z2⟩ := inner_size s
  have f1 : Rk x0 2000 := Rk.up (zx0) (by decide)
  have f2 : Rk x1 2000 := Rk.up (zx1) (by decide)
  have f3 : Rk x2 2000 := Rk.up (zx2) (by decide)
  have f4 : Pk (P3.mk x0 x1 x2) 6000 := Pk.up ((Pk.ofV (Vk.mk f1 f2 f3))) (by decide)
  exact SX.run (w := w) (.string s :: .string (behind s) :: .bool true :: .string (inner s) :: .bool true :: .string a :: .string b :: .string c :: .bool false :: .bool false :: .bool (sg x0.num) :: .string (mg x0.num) :: .string (dm x0.den) :: .bool true :: .bool false :: .string (textQ x0) :: .bool false :: .bool (sg x1.num) :: .string (mg x1.num) :: .string (dm x1.den) :: .bool true :: .bool false :: .string (textQ x1) :: .bool false :: .bool (sg x2.num) :: .string (mg x2.num) :: .string (dm x2.den) :: .bool true :: .bool false :: .string (textQ x2) :: .bool false :: .bool (sg (can4 (P3.mk x0 x1 x2)).a) :: .string (mg (can4 (P3.mk x0 x1 x2)).a) :: .bool (sg (can4 (P3.mk x0 x1 x2)).b) :: .string (mg (can4 (P3.mk x0 x1 x2)).b) :: .bool (sg (can4 (P3.mk x0 x1 x2)).c) :: .string (mg (can4 (P3.mk x0 x1 x2)).c) :: .bool (sg (can4 (P3.mk x0 x1 x2)).d) :: .string (mg (can4 (P3.mk x0 x1 x2)).d) :: []) [.fr 3, .b false, .b false, .b false, .b false, .b false, .b false, .b false, .b false] [.c (.p (.at 0))] 1 (.tup [.agg [.p (.at 31), .p (.at 32), .p (.at 33), .p (.at 34), .p (.at 35), .p (.at 36), .p (.at 37), .p (.at 38)], .c (.p (.lit (.bool true)))]) [.call 62 [.c (.p (.at 0)), .c (.p (.lit (.string ⟨#[40]⟩)))] (.tup [.c (.p (.at 1)), .c (.p (.at 2))]) [], .call 63 [.c (.p (.at 1)), .c (.p (.lit (.string ⟨#[41]⟩)))] (.tup [.c (.p (.at 3)), .c (.p (.at 4))]) [], .callF 64 [.c (.p (.at 3)), .c (.p (.lit (.string ⟨#[44, 32]⟩)))] 9 [.p (.at 5), .p (.at 6), .p (.at 7)] 3 [], .op1 .not (.p (.at 2)) 8, .isB 8 false, .op1 .not (.p (.at 4)) 9, .isB 9 false, .call 65 [.c (.p (.at 5))] (.tup [.agg [.p (.at 10), .p (.at 11), .p (.at 12)], .c (.p (.at 13))]) [], .op1 .not (.p (.at 13)) 14, .isB 14 false, .call 48 [.agg [.p (.at 10), .p (.at 11), .p (.at 12)]] (.one (.c (.p (.at 15)))) [], .op2 false .neq (.p (.at 15)) (.p (.at 5)) 16, .isB 16 false, .call 65 [.c (.p (.at 6))] (.tup [.agg [.p (.at 17), .p (.at 18), .p (.at 19)], .c (.p (.at 20))]) [], .op1 .not (.p (.at 20)) 21, .isB 21 false, .call 48 [.agg [.p (.at 17), .p (.at 18), .p (.at 19)]] (.one (.c (.p (.at 22)))) [], .op2 false .neq (.p (.at 22)) (.p (.at 6)) 23, .isB 23 false, .call 65 [.c (.p (.at 7))] (.tup [.agg [.p (.at 24), .p (.at 25), .p (.at 26)], .c (.p (.at 27))]) [], .op1 .not (.p (.at 27)) 28, .isB 28 false, .call 48 [.agg [.p (.at 24), .p (.at 25), .p (.at 26)]] (.one (.c (.p (.at 29)))) [], .op2 false .neq (.p (.at 29)) (.p (.at 7)) 30, .isB 30 false, .call 19 [.agg [.p (.at 10), .p (.at 11), .p (.at 12), .p (.at 17), .p (.at 18), .p (.at 19), .p (.at 24), .p (.at 25), .p (.at 26)]] (.one (.agg [.p (.at 31), .p (.at 32), .p (.at 33), .p (.at 34), .p (.at 35), .p (.at 36), .p (.at 37), .p (.at 38)])) []] Tryz.func27 (by kernel_rfl) rfl (by kernel_rfl) rfl (by kernel_rfl)
    ⟨fun γ w' _ _ => by have h := Tryz.strings_CutPrefix s ⟨#[40]⟩ w'; rw [show Lib.hasPrefix s.data.toList (⟨#[40]⟩ : ByteArray).data.toList = true from ho] at h; exact h.mono fun _ _ k => ⟨k.1, k.2 ▸ Below.refl _ _⟩,
     fun γ w' _ _ => by have h := Tryz.strings_CutSuffix (behind s) ⟨#[41]⟩ w' (by omega); rw [show Lib.hasSuffix (behind s).data.toList (⟨#[41]⟩ : ByteArray).data.toList = true from hc] at h; exact h.mono fun _ _ k => ⟨k.1, k.2 ▸ Below.refl _ _⟩,
     fun γ w' bw _ => by have h := Tryz.strings_Split (inner s) ⟨#[44, 32]⟩ m w' (by omega) (hM.later bw) (by decide); rw [show Lib.countB (inner s) ⟨#[44, 32]⟩ = 2 from hn, show Lib.splitB ⟨#[44, 32]⟩ 0 2 (inner s) = [a, b, c] from hsp] at h; exact h,
     congrArg (fun z => some (Value.bool z)) (by first | rfl | assumption | decide | simp [*] : (!true) = false),
     rfl,
     congrArg (fun z => some (Value.bool z)) (by first | rfl | assumption | decide | simp [*] : (!true) = false),
     rfl,
     fun γ w' bw _ => by have h := ParseQ_any a w' (by omega) (hT.later bw); rw [p0] at h; exact h,
     congrArg (fun z => some (Value.bool z)) (by first | rfl | assumption | decide | simp [*] : (!true) = false),
     rfl,
     fun γ w' hb _ => qText (IsQ.can f1) (by decide) w' (hT.later hb),
     congrArg (fun z => some (Value.bool z)) (by rw [t0, beq_self_eq_true]; rfl : (!((textQ x0).toList == a.toList)) = false),
     rfl,
     fun γ w' bw _ => by have h := ParseQ_any b w' (by omega) (hT.later bw); rw [p1] at h; exact h,
     congrArg (fun z => some (Value.bool z)) (by first | rfl | assumption | decide | simp [*] : (!true) = false),
     rfl,
     fun γ w' hb _ => qText (IsQ.can f2) (by decide) w' (hT.later hb),
     congrArg (fun z => some (Value.bool z)) (by rw [t1, beq_self_eq_true]; rfl : (!((textQ x1).toList == b.toList)) = false),
     rfl,
     fun γ w' bw _ => by have h := ParseQ_any c w' (by omega) (hT.later bw); rw [p2] at h; exact h,
     congrArg (fun z => some (Value.bool z)) (by first | rfl | assumption | decide | simp [*] : (!true) = false),
     rfl,
     fun γ w' hb _ => qText (IsQ.can f3) (by decide) w' (hT.later hb),
     congrArg (fun z => some (Value.bool z)) (by rw [t2, beq_self_eq_true]; rfl : (!((textQ x2).toList == c.toList)) = false),
     rfl,
     fun γ w' hb _ => pFromCoords (IsV.mk (IsQ.can f1) (IsQ.can f2) (IsQ.can f3)) (by decide) w' (hT.later hb)⟩
theorem pParse_any (s : ByteArray) (m : Int) (w : World) (hs : s.size ≤ 1000) (hT : TabC w) (hM : MaxL m w) :
    Calls Tryz.prog 27 #[.string s] w fun e w' => e = .returned (pointV s) ∧ Below w.heap.size w w' := by
  cases ho : opened s with
  | false => rw [pointV_no (fun ⟨p, h⟩ => by rw [(text_split h).1] at ho; cases ho)]; exact pNo_open s m w hs hM ho
  | true =>
    cases hc : closed s with
    | false => rw [pointV_no (fun ⟨p, h⟩ => by rw [(text_split h).2.1] at hc; cases hc)]; exact pNo_close s m w hs hM ho hc
    | true =>
      by_cases hn : Lib.countB (inner s) sepB = 2
      · obtain ⟨a, b, c, hsp, hin⟩ := split_two hn
        obtain ⟨_, hz⟩ := inner_size s
        have hsz := congrArg ByteArray.size hin
        simp only [ByteArray.size_append] at hsz
        have ha : a.size ≤ 1000 := by omega
        have hb : b.size ≤ 1000 := by omega
        have hcz : c.size ≤ 1000 := by omega
        obtain ⟨x0, o0, p0⟩ := parseQV_ex a
        obtain ⟨x1, o1, p1⟩ := parseQV_ex b
        obtain ⟨x2, o2, p2⟩ := parseQV_ex c
        have zx0 : Rk x0 2000 := (parseQV_size p0).mono (by omega)
        have zx1 : Rk x1 2000 := (parseQV_size p1).mono (by omega)
        have zx2 : Rk x2 2000 := (parseQV_size p2).mono (by omega)
        have hno : ((o0 = true ∧ textQ x0 = a) ∧ (o1 = true ∧ textQ x1 = b) ∧ (o2 = true ∧ textQ x2 = c) → False) → ¬ ∃ p, textP p = s := by
          rintro hf ⟨p, h⟩
          have e := (text_split h).2.2.2
          rw [hsp] at e
          simp only [List.cons.injEq, and_true] at e
          obtain ⟨e0, e1, e2⟩ := e
          have k0 := parse_is p0 e0.symm
          have k1 := parse_is p1 e1.symm
          have k2 := parse_is p2 e2.symm
          exact hf ⟨⟨k0.2, by rw [k0.1, e0]⟩, ⟨k1.2, by rw [k1.1, e1]⟩, ⟨k2.2, by rw [k2.1, e2]⟩⟩
        cases o0 with
        | false => rw [pointV_no (hno (fun h => by cases h.1.1))]; exact pP_ok0 s a b c x0 x1 x2 m w hs hT hM ho hc hn hsp ha hb hcz zx0 zx1 zx2 p0
        | true =>
          by_cases t0 : textQ x0 = a
          · cases o1 with
            | false => rw [pointV_no (hno (fun h => by cases h.2.1.1))]; exact pP_ok1 s a b c x0 x1 x2 m w hs hT hM ho hc hn hsp ha hb hcz zx0 zx1 zx2 p0 t0 p1
            | true =>
              by_cases t1 : textQ x1 = b
              · cases o2 with
                | false => rw [pointV_no (hno (fun h => by cases h.2.2.1))]; exact pP_ok2 s a b c x0 x1 x2 m w hs hT hM ho hc hn hsp ha hb hcz zx0 zx1 zx2 p0 t0 p1 t1 p2
                | true =>
                  by_cases t2 : textQ x2 = c
                  · rw [pointV_yes (text_back ho hc hin t0 t1 t2)]; exact pP_yes s a b c x0 x1 x2 m w hs hT hM ho hc hn hsp ha hb hcz zx0 zx1 zx2 p0 t0 p1 t1 p2 t2
                  · rw [pointV_no (hno (fun h => t2 h.2.2.2))]; exact pP_txt2 s a b c x0 x1 x2 m w hs hT hM ho hc hn hsp ha hb hcz zx0 zx1 zx2 p0 t0 p1 t1 p2 t2
              · rw [pointV_no (hno (fun h => t1 h.2.1.2))]; exact pP_txt1 s a b c x0 x1 x2 m w hs hT hM ho hc hn hsp ha hb hcz zx0 zx1 zx2 p0 t0 p1 t1
          · rw [pointV_no (hno (fun h => t0 h.1.2))]; exact pP_txt0 s a b c x0 x1 x2 m w hs hT hM ho hc hn hsp ha hb hcz zx0 zx1 zx2 p0 t0
      · rw [pointV_no (fun ⟨p, h⟩ => hn (text_split h).2.2.1)]; exact pNo_count s m w hs hM ho hc hn
theorem rP_short (s : ByteArray) (w : World) (h2 : ¬ 2 ≤ s.size) :
    Calls Tryz.prog 28 #[.string s] w fun e w' => e = .returned (.tuple #[P0, .bool false]) ∧ Below w.heap.size w w' := by
  exact SX.run (w := w) [.string s, .int .i64 (s.size : Int), .bool true] [.b true] [.c (.p (.at 0))] 1 (.tup [.agg [.p (.lit (.bool false)), .p (.lit (.string ⟨#[]⟩)), .p (.lit (.bool false)), .p (.lit (.string ⟨#[]⟩)), .p (.lit (.bool false)), .p (.lit (.string ⟨#[]⟩)), .p (.lit (.bool false)), .p (.lit (.string ⟨#[]⟩))], .c (.p (.lit (.bool false)))]) [.len (.p (.at 0)) 1, .op2 false .lss (.p (.at 1)) (.p (.lit (.int .i64 2))) 2, .isB 2 true] Tryz.func28 (by kernel_rfl) rfl (by kernel_rfl) rfl (by kernel_rfl)
    ⟨⟨_, rfl, rfl⟩,
     congrArg (fun z => some (Value.bool z)) (decide_eq_true (by omega) : decide ((s.size : Int) < (2 : Int)) = true),
     rfl⟩
theorem rP_c1 (s a r b c : ByteArray) (x0 x1 x2 : Rat) (o0 o1 o2 oc : Bool) (w : World) (hs : s.size ≤ 1000) (h2 : 2 ≤ s.size) (zx0 : Rk x0 2000) (zx1 : Rk x1 2000) (zx2 : Rk x2 2000) (p0 : parseQV a = .tuple #[QV x0, .bool o0]) (p1 : parseQV b = .tuple #[QV x1, .bool o1]) (p2 : parseQV c = .tuple #[QV x2, .bool o2]) (k1 : cutV (s.extract 1 (s.size - 1)) = (a, r, false)) (k2 : cutV r = (b, c, oc)) :
    Calls Tryz.prog 28 #[.string s] w fun e w' => e = .returned (.tuple #[P0, .bool false]) ∧ Below w.heap.size w w' := by
  have hu := ext_sz s 1 (s.size - 1)
  obtain ⟨y1, y2⟩ := cutV_size k1
  obtain ⟨y3, y4⟩ := cutV_size k2
  exact SX.run (w := w) [.string s, .int .i64 (s.size : Int), .bool false, .int .i64 (s.size : Int), .int .i64 ((s.size - 1 : Nat) : Int), .string (s.extract 1 (s.size - 1)), .string a, .string r, .bool false, .string b, .string c, .bool oc, .bool true] [.b false, .b true] [.c (.p (.at 0))] 1 (.tup [.agg [.p (.lit (.bool false)), .p (.lit (.string ⟨#[]⟩)), .p (.lit (.bool false)), .p (.lit (.string ⟨#[]⟩)), .p (.lit (.bool false)), .p (.lit (.string ⟨#[]⟩)), .p (.lit (.bool false)), .p (.lit (.string ⟨#[]⟩))], .c (.p (.lit (.bool false)))]) [.len (.p (.at 0)) 1, .op2 false .lss (.p (.at 1)) (.p (.lit (.int .i64 2))) 2, .isB 2 false, .len (.p (.at 0)) 3, .op2 false .sub (.p (.at 3)) (.p (.lit (.int .i64 1))) 4, .prim (.slice 9 (.tmp 22) (some (.const (.int .i64 1))) (some (.tmp 25)) none) 9 [(22, .one (.c (.p (.at 0)))), (25, .one (.c (.p (.at 4))))] (.one (.c (.p (.at 5)))), .call 66 [.c (.p (.at 5))] (.tup [.c (.p (.at 6)), .c (.p (.at 7)), .c (.p (.at 8))]) [], .call 66 [.c (.p (.at 7))] (.tup [.c (.p (.at 9)), .c (.p (.at 10)), .c (.p (.at 11))]) [], .op1 .not (.p (.at 8)) 12, .isB 12 true] Tryz.func28 (by kernel_rfl) rfl (by kernel_rfl) rfl (by kernel_rfl)
    ⟨⟨_, rfl, rfl⟩,
     congrArg (fun z => some (Value.bool z)) (decide_eq_false (by omega) : decide ((s.size : Int) < (2 : Int)) = false),
     rfl,
     ⟨_, rfl, rfl⟩,
     congrArg (fun z => some (Value.int .i64 z)) (by rw [wrap_small (by omega) (by omega)]; omega : IntKind.wrap .i64 ((s.size : Int) - (1 : Int)) = ((s.size - 1 : Nat) : Int)),
     fun w' _ => slice_lohi (k := 1) (j := s.size - 1) (by kernel_rfl) rfl rfl rfl (by omega) (by omega),
     fun γ w' _ _ => by have h := cut4_any (s.extract 1 (s.size - 1)) w' (by omega); rw [k1] at h; exact h,
     fun γ w' _ _ => by have h := cut4_any r w' (by omega); rw [k2] at h; exact h,
     congrArg (fun z => some (Value.bool z)) (rfl : (!false) = true),
     rfl⟩
theorem rP_c2 (s a r b c : ByteArray) (x0 x1 x2 : Rat) (o0 o1 o2 oc : Bool) (w : World) (hs : s.size ≤ 1000) (h2 : 2 ≤ s.size) (zx0 : Rk x0 2000) (zx1 : Rk x1 2000) (zx2 : Rk x2 2000) (p0 : parseQV a = .tuple #[QV x0, .bool o0]) (p1 : parseQV b = .tuple #[QV x1, .bool o1]) (p2 : parseQV c = .tuple #[QV x2, .bool o2]) (k1 : cutV (s.extract 1 (s.size - 1)) = (a, r, true)) (k2 : cutV r = (b, c, false)) :
    Calls Tryz.prog 28 #[.string s] w fun e w' => e = .returned (.tuple #[P0, .bool false]) ∧ Below w.heap.size w w' := by
  have hu := ext_sz s 1 (s.size - 1)
  obtain ⟨y1, y2⟩ := cutV_size k1
  obtain ⟨y3, y4⟩ := cutV_size k2
  exact SX.run (w := w) [.string s, .int .i64 (s.size : Int), .bool false, .int .i64 (s.size : Int), .int .i64 ((s.size - 1 : Nat) : Int), .string (s.extract 1 (s.size - 1)), .string a, .string r, .bool true, .string b, .string c, .bool false, .bool false, .bool true] [.b false, .b false, .b true] [.c (.p (.at 0))] 1 (.tup [.agg [.p (.lit (.bool false)), .p (.lit (.string ⟨#[]⟩)), .p (.lit (.bool false)), .p (.lit (.string ⟨#[]⟩)), .p (.lit (.bool false)), .p (.lit (.string ⟨#[]⟩)), .p (.lit (.bool false)), .p (.lit (.string ⟨#[]⟩))], .c (.p (.lit (.bool false)))]) [.len (.p (.at 0)) 1, .op2 false .lss (.p (.at 1)) (.p (.lit (.int .i64 2))) 2, .isB 2 false, .len (.p (.at 0)) 3, .op2 false .sub (.p (.at 3)) (.p (.lit (.int .i64 1))) 4, .prim (.slice 9 (.tmp 22) (some (.const (.int .i64 1))) (some (.tmp 25)) none) 9 [(22, .one (.c (.p (.at 0)))), (25, .one (.c (.p (.at 4))))] (.one (.c (.p (.at 5)))), .call 66 [.c (.p (.at 5))] (.tup [.c (.p (.at 6)), .c (.p (.at 7)), .c (.p (.at 8))]) [], .call 66 [.c (.p (.at 7))] (.tup [.c (.p (.at 9)), .c (.p (.at 10)), .c (.p (.at 11))]) [], .op1 .not (.p (.at 8)) 12, .isB 12 false, .op1 .not (.p (.at 11)) 13, .isB 13 true] Tryz.func28 (by kernel_rfl) rfl (by kernel_rfl) rfl (by kernel_rfl)
    ⟨⟨_, rfl, rfl⟩,
     congrArg (fun z => some (Value.bool z)) (decide_eq_false (by omega) : decide ((s.size : Int) < (2 : Int)) = false),
     rfl,
     ⟨_, rfl, rfl⟩,
     congrArg (fun z => some (Value.int .i64 z)) (by rw [wrap_small (by omega) (by omega)]; omega : IntKind.wrap .i64 ((s.size : Int) - (1 : Int)) = ((s.size - 1 : Nat) : Int)),
     fun w' _ => slice_lohi (k := 1) (j := s.size - 1) (by kernel_rfl) rfl rfl rfl (by omega) (by omega),
     fun γ w' _ _ => by have h := cut4_any (s.extract 1 (s.size - 1)) w' (by omega); rw [k1] at h; exact h,
     fun γ w' _ _ => by have h := cut4_any r w' (by omega); rw [k2] at h; exact h,
     congrArg (fun z => some (Value.bool z)) (rfl : (!true) = false),
     rfl,
     congrArg (fun z => some (Value.bool z)) (rfl : (!false) = true),
     rfl⟩
theorem rP_e0 (s a r b c : ByteArray) (x0 x1 x2 : Rat) (o0 o1 o2 oc : Bool) (w : World) (hs : s.size ≤ 1000) (h2 : 2 ≤ s.size) (zx0 : Rk x0 2000) (zx1 : Rk x1 2000) (zx2 : Rk x2 2000) (p0 : parseQV a = .tuple #[QV x0, .bool o0]) (p1 : parseQV b = .tuple #[QV x1, .bool o1]) (p2 : parseQV c = .tuple #[QV x2, .bool o2]) (k1 : cutV (s.extract 1 (s.size - 1)) = (a, r, true)) (k2 : cutV r = (b, c, true)) (q0 : o0 = false) :
    Calls Tryz.prog 28 #[.string s] w fun e w' => e = .returned (.tuple #[P0, .bool false]) ∧ Below w.heap.size w w' := by
  have hu := ext_sz s 1 (s.size - 1)
  obtain ⟨y1, y2⟩ := cutV_size k1
  obtain ⟨y3, y4⟩ := cutV_size k2
  have f1 : Rk x0 2000 := Rk.up (zx0) (by decide)
  have f2 : Rk x1 2000 := Rk.up (zx1) (by decide)
  have f3 : Rk x2 2000 := Rk.up (zx2) (by decide)
  have f4 : Pk (P3.mk x0 x1 x2) 6000 := Pk.up ((Pk.ofV (Vk.mk f1 f2 f3))) (by decide)
  exact SX.run (w := w) (.string s :: .int .i64 (s.size : Int) :: .bool false :: .int .i64 (s.size : Int) :: .int .i64 ((s.size - 1 : Nat) : Int) :: .string (s.extract 1 (s.size - 1)) :: .string a :: .string r :: .bool true :: .string b :: .string c :: .bool true :: .bool false :: .bool false :: .bool (sg x0.num) :: .string (mg x0.num) :: .string (dm x0.den) :: .bool o0 :: .bool (sg x1.num) :: .string (mg x1.num) :: .string (dm x1.den) :: .bool o1 :: .bool (sg x2.num) :: .string (mg x2.num) :: .string (dm x2.den) :: .bool o2 :: .bool (sg (can4 (P3.mk x0 x1 x2)).a) :: .string (mg (can4 (P3.mk x0 x1 x2)).a) :: .bool (sg (can4 (P3.mk x0 x1 x2)).b) :: .string (mg (can4 (P3.mk x0 x1 x2)).b) :: .bool (sg (can4 (P3.mk x0 x1 x2)).c) :: .string (mg (can4 (P3.mk x0 x1 x2)).c) :: .bool (sg (can4 (P3.mk x0 x1 x2)).d) :: .string (mg (can4 (P3.mk x0 x1 x2)).d) :: .bool true :: []) [.b false, .b false, .b false, .b true] [.c (.p (.at 0))] 1 (.tup [.agg [.p (.lit (.bool false)), .p (.lit (.string ⟨#[]⟩)), .p (.lit (.bool false)), .p (.lit (.string ⟨#[]⟩)), .p (.lit (.bool false)), .p (.lit (.string ⟨#[]⟩)), .p (.lit (.bool false)), .p (.lit (.string ⟨#[]⟩))], .c (.p (.lit (.bool false)))]) [.len (.p (.at 0)) 1, .op2 false .lss (.p (.at 1)) (.p (.lit (.int .i64 2))) 2, .isB 2 false, .len (.p (.at 0)) 3, .op2 false .sub (.p (.at 3)) (.p (.lit (.int .i64 1))) 4, .prim (.slice 9 (.tmp 22) (some (.const (.int .i64 1))) (some (.tmp 25)) none) 9 [(22, .one (.c (.p (.at 0)))), (25, .one (.c (.p (.at 4))))] (.one (.c (.p (.at 5)))), .call 66 [.c (.p (.at 5))] (.tup [.c (.p (.at 6)), .c (.p (.at 7)), .c (.p (.at 8))]) [], .call 66 [.c (.p (.at 7))] (.tup [.c (.p (.at 9)), .c (.p (.at 10)), .c (.p (.at 11))]) [], .op1 .not (.p (.at 8)) 12, .isB 12 false, .op1 .not (.p (.at 11)) 13, .isB 13 false, .call 67 [.c (.p (.at 6))] (.tup [.agg [.p (.at 14), .p (.at 15), .p (.at 16)], .c (.p (.at 17))]) [], .call 67 [.c (.p (.at 9))] (.tup [.agg [.p (.at 18), .p (.at 19), .p (.at 20)], .c (.p (.at 21))]) [], .call 67 [.c (.p (.at 10))] (.tup [.agg [.p (.at 22), .p (.at 23), .p (.at 24)], .c (.p (.at 25))]) [], .call 20 [.agg [.p (.at 14), .p (.at 15), .p (.at 16), .p (.at 18), .p (.at 19), .p (.at 20), .p (.at 22), .p (.at 23), .p (.at 24)]] (.one (.agg [.p (.at 26), .p (.at 27), .p (.at 28), .p (.at 29), .p (.at 30), .p (.at 31), .p (.at 32), .p (.at 33)])) [], .op1 .not (.p (.at 17)) 34, .isB 34 true] Tryz.func28 (by kernel_rfl) rfl (by kernel_rfl) rfl (by kernel_rfl)
    ⟨⟨_, rfl, rfl⟩,
     congrArg (fun z => some (Value.bool z)) (decide_eq_false (by omega) : decide ((s.size : Int) < (2 : Int)) = false),
     rfl,
     ⟨_, rfl, rfl⟩,
     congrArg (fun z => some (Value.int .i64 z)) (by rw [wrap_small (by omega) (by omega)]; omega : IntKind.wrap .i64 ((s.size : Int) - (1 : Int)) = ((s.size - 1 : Nat) : Int)),
     fun w' _ => slice_lohi (k := 1) (j := s.size - 1) (by kernel_rfl) rfl rfl rfl (by omega) (by omega),
     fun γ w' _ _ => by have h := cut4_any (s.extract 1 (s.size - 1)) w' (by omega); rw [k1] at h; exact h,
     fun γ w' _ _ => by have h := cut4_any r w' (by omega); rw [k2] at h; exact h,
     congrArg (fun z => some (Value.bool z)) (rfl : (!true) = false),
     rfl,
     congrArg (fun z => some (Value.bool z)) (rfl : (!true) = false),
     rfl,
     fun γ w' bw _ => by have h := rParse_any a w' (by omega); rw [p0] at h; exact h,
     fun γ w' bw _ => by have h := rParse_any b w' (by omega); rw [p1] at h; exact h,
     fun γ w' bw _ => by have h := rParse_any c w' (by omega); rw [p2] at h; exact h,
     fun γ w' _ _ => p4Make (IsV.mk (IsQ.can f1) (IsQ.can f2) (IsQ.can f3)) (by decide) w',
     congrArg (fun z => some (Value.bool z)) (by rw [q0]; rfl : (!o0) = true),
     rfl⟩
theorem rP_e1 (s a r b c : ByteArray) (x0 x1 x2 : Rat) (o0 o1 o2 oc : Bool) (w : World) (hs : s.size ≤ 1000) (h2 : 2 ≤ s.size) (zx0 : Rk x0 2000) (zx1 : Rk x1 2000) (zx2 : Rk x2 2000) (p0 : parseQV a = .tuple #[QV x0, .bool o0]) (p1 : parseQV b = .tuple #[QV x1, .bool o1]) (p2 : parseQV c = .tuple #[QV x2, .bool o2]) (k1 : cutV (s.extract 1 (s.size - 1)) = (a, r, true)) (k2 : cutV r = (b, c, true)) (q0 : o0 = true) (q1 : o1 = false) :
    Calls Tryz.prog 28 #[.string s] w fun e w' => e = .returned (.tuple #[P0, .bool false]) ∧ Below w.heap.size w w' := by
  have hu := ext_sz s 1 (s.size - 1)
  obtain ⟨y1, y2⟩ := cutV_size k1
  obtain ⟨y3, y4⟩ := cutV_size k2
  have f1 : Rk x0 2000 := Rk.up (zx0) (by decide)
  have f2 : Rk x1 2000 := Rk.up (zx1) (by decide)
  have f3 : Rk x2 2000 := Rk.up (zx2) (by decide)
  have f4 : Pk (P3.mk x0 x1 x2) 6000 := Pk.up ((Pk.ofV (Vk.mk f1 f2 f3))) (by decide)
  exact SX.run (w := w) (.string s :: .int .i64 (s.size : Int) :: .bool false :: .int .i64 (s.size : Int) :: .int .i64 ((s.size - 1 : Nat) : Int) :: .string (s.extract 1 (s.size - 1)) :: .string a :: .string r :: .bool true :: .string b :: .string c :: .bool true :: .bool false :: .bool false :: .bool (sg x0.num) :: .string (mg x0.num) :: .string (dm x0.den) :: .bool o0 :: .bool (sg x1.num) :: .string (mg x1.num) :: .string (dm x1.den) :: .bool o1 :: .bool (sg x2.num) :: .string (mg x2.num) :: .string (dm x2.den) :: .bool o2 :: .bool (sg (can4 (P3.mk x0 x1 x2)).a) :: .string (mg (can4 (P3.mk x0 x1 x2)).a) :: .bool (sg (can4 (P3.mk x0 x1 x2)).b) :: .string (mg (can4 (P3.mk x0 x1 x2)).b) :: .bool (sg (can4 (P3.mk x0 x1 x2)).c) :: .string (mg (can4 (P3.mk x0 x1 x2)).c) :: .bool (sg (can4 (P3.mk x0 x1 x2)).d) :: .string (mg (can4 (P3.mk x0 x1 x2)).d) :: .bool false :: .bool true :: []) [.b false, .b false, .b false, .b false, .b true] [.c (.p (.at 0))] 1 (.tup [.agg [.p (.lit (.bool false)), .p (.lit (.string ⟨#[]⟩)), .p (.lit (.bool false)), .p (.lit (.string ⟨#[]⟩)), .p (.lit (.bool false)), .p (.lit (.string ⟨#[]⟩)), .p (.lit (.bool false)), .p (.lit (.string ⟨#[]⟩))], .c (.p (.lit (.bool false)))]) [.len (.p (.at 0)) 1, .op2 false .lss (.p (.at 1)) (.p (.lit (.int .i64 2))) 2, .isB 2 false, .len (.p (.at 0)) 3, .op2 false .sub (.p (.at 3)) (.p (.lit (.int .i64 1))) 4, .prim (.slice 9 (.tmp 22) (some (.const (.int .i64 1))) (some (.tmp 25)) none) 9 [(22, .one (.c (.p (.at 0)))), (25, .one (.c (.p (.at 4))))] (.one (.c (.p (.at 5)))), .call 66 [.c (.p (.at 5))] (.tup [.c (.p (.at 6)), .c (.p (.at 7)), .c (.p (.at 8))]) [], .call 66 [.c (.p (.at 7))] (.tup [.c (.p (.at 9)), .c (.p (.at 10)), .c (.p (.at 11))]) [], .op1 .not (.p (.at 8)) 12, .isB 12 false, .op1 .not (.p (.at 11)) 13, .isB 13 false, .call 67 [.c (.p (.at 6))] (.tup [.agg [.p (.at 14), .p (.at 15), .p (.at 16)], .c (.p (.at 17))]) [], .call 67 [.c (.p (.at 9))] (.tup [.agg [.p (.at 18), .p (.at 19), .p (.at 20)], .c (.p (.at 21))]) [], .call 67 [.c (.p (.at 10))] (.tup [.agg [.p (.at 22), .p (.at 23), .p (.at 24)], .c (.p (.at 25))]) [], .call 20 [.agg [.p (.at 14), .p (.at 15), .p (.at 16), .p (.at 18), .p (.at 19), .p (.at 20), .p (.at 22), .p (.at 23), .p (.at 24)]] (.one (.agg [.p (.at 26), .p (.at 27), .p (.at 28), .p (.at 29), .p (.at 30), .p (.at 31), .p (.at 32), .p (.at 33)])) [], .op1 .not (.p (.at 17)) 34, .isB 34 false, .op1 .not (.p (.at 21)) 35, .isB 35 true] Tryz.func28 (by kernel_rfl) rfl (by kernel_rfl) rfl (by kernel_rfl)
    ⟨⟨_, rfl, rfl⟩,
     congrArg (fun z => some (Value.bool z)) (decide_eq_false (by omega) : decide ((s.size : Int) < (2 : Int)) = false),
     rfl,
     ⟨_, rfl, rfl⟩,
     congrArg (fun z => some (Value.int .i64 z)) (by rw [wrap_small (by omega) (by omega)]; omega : IntKind.wrap .i64 ((s.size : Int) - (1 : Int)) = ((s.size - 1 : Nat) : Int)),
     fun w' _ => slice_lohi (k := 1) (j := s.size - 1) (by kernel_rfl) rfl rfl rfl (by omega) (by omega),
     fun γ w' _ _ => by have h := cut4_any (s.extract 1 (s.size - 1)) w' (by omega); rw [k1] at h; exact h,
     fun γ w' _ _ => by have h := cut4_any r w' (by omega); rw [k2] at h; exact h,
     congrArg (fun z => some (Value.bool z)) (rfl : (!true) = false),
     rfl,
     congrArg (fun z => some (Value.bool z)) (rfl : (!true) = false),
     rfl,
     fun γ w' bw _ => by have h := rParse_any a w' (by omega); rw [p0] at h; exact h,
     fun γ w' bw _ => by have h := rParse_any b w' (by omega); rw [p1] at h; exact h,
     fun γ w' bw _ => by have h := rParse_any c w' (by omega); rw [p2] at h; exact h,
     fun γ w' _ _ => p4Make (IsV.mk (IsQ.can f1) (IsQ.can f2) (IsQ.can f3)) (by decide) w',
     congrArg (fun z => some (Value.bool z)) (by rw [q0]; rfl : (!o0) = false),
     rfl,
     congrArg (fun z => some (Value.bool z)) (by rw [q1]; rfl : (!o1) = true),
     rfl⟩
theorem rP_e2 (s a r b c : ByteArray) (x0 x1 x2 : Rat) (o0 o1 o2 oc : Bool) (w : World) (hs : s.size ≤ 1000) (h2 : 2 ≤ s.size) (zx0 : Rk x0 2000) (zx1 : Rk x1 2000) (zx2 : Rk x2 2000) (p0 : parseQV a = .tuple #[QV x0, .bool o0]) (p1 : parseQV b = .tuple #[QV x1, .bool o1]) (p2 : parseQV c = .tuple #[QV x2, .bool o2]) (k1 : cutV (s.extract 1 (s.size - 1)) = (a, r, true)) (k2 : cutV r = (b, c, true)) (q0 : o0 = true) (q1 : o1 = true) (q2 : o2 = false) :
    Calls Tryz.prog 28 #[.string s] w fun e w' => e = .returned (.tuple #[P0, .bool false]) ∧ Below w.heap.size w w' := by
  have hu := ext_sz s 1 (s.size - 1)
  obtain ⟨y1, y2⟩ := cutV_size k1
  obtain ⟨y3, y4⟩ := cutV_size k2
  have f1 : Rk x0 2000 := Rk.up (zx0) (by decide)
  have f2 : Rk x1 2000 := Rk.up (zx1) (by decide)
  have f3 : Rk x2 2000 := Rk.up (zx2) (by decide)
  have f4 : Pk (P3.mk x0 x1 x2) 6000 := Pk.up ((Pk.ofV (Vk.mk f1 f2 f3))) (by decide)
  exact SX.run (w := w) (.string s :: .int .i64 (s.size : Int) :: .bool false :: .int .i64 (s.size : Int) :: .int .i64 ((s.size - 1 : Nat) : Int) :: .string (s.extract 1 (s.size - 1)) :: .string a :: .string r :: .bool true :: .string b :: .string c :: .bool true :: .bool false :: .bool false :: .bool (sg x0.num) :: .string (mg x0.num) :: .string (dm x0.den) :: .bool o0 :: .bool (sg x1.num) :: .string (mg x1.num) :: .string (dm x1.den) :: .bool o1 :: .bool (sg x2.num) :: .string (mg x2.num) :: .string (dm x2.den) :: .bool o2 :: .bool (sg (can4 (P3.mk x0 x1 x2)).a) :: .string (mg (can4 (P3.mk x0 x1 x2)).a) :: .bool (sg (can4 (P3.mk x0 x1 x2)).b) :: .string (mg (can4 (P3.mk x0 x1 x2)).b) :: .bool (sg (can4 (P3.mk x0 x1 x2)).c) :: .string (mg (can4 (P3.mk x0 x1 x2)).c) :: .bool (sg (can4 (P3.mk x0 x1 x2)).d) :: .string (mg (can4 (P3.mk x0 x1 x2)).d) :: .bool false :: .bool false :: .bool true :: []) [.b false, .b false, .b false, .b false, .b false, .b true] [.c (.p (.at 0))] 1 (.tup [.agg [.p (.lit (.bool false)), .p (.lit (.string ⟨#[]⟩)), .p (.lit (.bool false)), .p (.lit (.string ⟨#[]⟩)), .p (.lit (.bool false)), .p (.lit (.string ⟨#[]⟩)), .p (.lit (.bool false)), .p (.lit (.string ⟨#[]⟩))], .c (.p (.lit (.bool false)))]) [.len (.p (.at 0)) 1, .op2 false .lss (.p (.at 1)) (.p (.lit (.int .i64 2))) 2, .isB 2 false, .len (.p (.at 0)) 3, .op2 false .sub (.p (.at 3)) (.p (.lit (.int .i64 1))) 4, .prim (.slice 9 (.tmp 22) (some (.const (.int .i64 1))) (some (.tmp 25)) none) 9 [(22, .one (.c (.p (.at 0)))), (25, .one (.c (.p (.at 4))))] (.one (.c (.p (.at 5)))), .call 66 [.c (.p (.at 5))] (.tup [.c (.p (.at 6)), .c (.p (.at 7)), .c (.p (.at 8))]) [], .call 66 [.c (.p (.at 7))] (.tup [.c (.p (.at 9)), .c (.p (.at 10)), .c (.p (.at 11))]) [], .op1 .not (.p (.at 8)) 12, .isB 12 false, .op1 .not (.p (.at 11)) 13, .isB 13 false, .call 67 [.c (.p (.at 6))] (.tup [.agg [.p (.at 14), .p (.at 15), .p (.at 16)], .c (.p (.at 17))]) [], .call 67 [.c (.p (.at 9))] (.tup [.agg [.p (.at 18), .p (.at 19), .p (.at 20)], .c (.p (.at 21))]) [], .call 67 [.c (.p (.at 10))] (.tup [.agg [.p (.at 22), .p (.at 23), .p (.at 24)], .c (.p (.at 25))]) [], .call 20 [.agg [.p (.at 14), .p (.at 15), .p (.at 16), .p (.at 18), .p (.at 19), .p (.at 20), .p (.at 22), .p (.at 23), .p (.at 24)]] (.one (.agg [.p (.at 26), .p (.at 27), .p (.at 28), .p (.at 29), .p (.at 30), .p (.at 31), .p (.at 32), .p (.at 33)])) [], .op1 .not (.p (.at 17)) 34, .isB 34 false, .op1 .not (.p (.at 21)) 35, .isB 35 false, .op1 .not (.p (.at 25)) 36, .isB 36 true] Tryz.func28 (by kernel_rfl) rfl (by kernel_rfl) rfl (by kernel_rfl)
    ⟨⟨_, rfl, rfl⟩,
     congrArg (fun z => some (Value.bool z)) (decide_eq_false (by omega) : decide ((s.size : Int) < (2 : Int)) = false),
     rfl,
     ⟨_, rfl, rfl⟩,
     congrArg (fun z => some (Value.int .i64 z)) (by rw [wrap_small (by omega) (by omega)]; omega : IntKind.wrap .i64 ((s.size : Int) - (1 : Int)) = ((s.size - 1 : Nat) : Int)),
     fun w' _ => slice_lohi (k := 1) (j := s.size - 1) (by kernel_rfl) rfl rfl rfl (by omega) (by omega),
     fun γ w' _ _ => by have h := cut4_any (s.extract 1 (s.size - 1)) w' (by omega); rw [k1] at h; exact h,
     fun γ w' _ _ => by have h := cut4_any r w' (by omega); rw [k2] at h; exact h,
     congrArg (fun z => some (Value.bool z)) (rfl : (!true) = false),
     rfl,
     congrArg (fun z => some (Value.bool z)) (rfl : (!true) = false),
     rfl,
     fun γ w' bw _ => by have h := rParse_any a w' (by omega); rw [p0] at h; exact h,
     fun γ w' bw _ => by have h := rParse_any b w' (by omega); rw [p1] at h; exact h,
     fun γ w' bw _ => by have h := rParse_any c w' (by omega); rw [p2] at h; exact h,
     fun γ w' _ _ => p4Make (IsV.mk (IsQ.can f1) (IsQ.can f2) (IsQ.can f3)) (by decide) w',
     congrArg (fun z => some (Value.bool z)) (by rw [q0]; rfl : (!o0) = false),
     rfl,
     congrArg (fun z => some (Value.bool z)) (by rw [q1]; rfl : (!o1) = false),
     rfl,
     congrArg (fun z => some (Value.bool z)) (by rw [q2]; rfl : (!o2) = true),
     rfl⟩
theorem rP_txt (s a r b c : ByteArray) (x0 x1 x2 : Rat) (o0 o1 o2 oc : Bool) (w : World) (hs : s.size ≤ 1000) (h2 : 2 ≤ s.size) (zx0 : Rk x0 2000) (zx1 : Rk x1 2000) (zx2 : Rk x2 2000) (p0 : parseQV a = .tuple #[QV x0, .bool o0]) (p1 : parseQV b = .tuple #[QV x1, .bool o1]) (p2 : parseQV c = .tuple #[QV x2, .bool o2]) (k1 : cutV (s.extract 1 (s.size - 1)) = (a, r, true)) (k2 : cutV r = (b, c, true)) (q0 : o0 = true) (q1 : o1 = true) (q2 : o2 = true) (t : textP ⟨x0, x1, x2⟩ ≠ s) :
    Calls Tryz.prog 28 #[.string s] w fun e w' => e = .returned (.tuple #[P0, .bool false]) ∧ Below w.heap.size w w' := by
  have hu := ext_sz s 1 (s.size - 1)
  obtain ⟨y1, y2⟩ := cutV_size k1
  obtain ⟨y3, y4⟩ := cutV_size k2
  have f1 : Rk x0 2000 := Rk.up (zx0) (by decide)
  have f2 : Rk x1 2000 := Rk.up (zx1) (by decide)
  have f3 : Rk x2 2000 := Rk.up (zx2) (by decide)
  have f4 : Pk (P3.mk x0 x1 x2) 6000 := Pk.up ((Pk.ofV (Vk.mk f1 f2 f3))) (by decide)
  exact SX.run (w := w) (.string s :: .int .i64 (s.size : Int) :: .bool false :: .int .i64 (s.size : Int) :: .int .i64 ((s.size - 1 : Nat) : Int) :: .string (s.extract 1 (s.size - 1)) :: .string a :: .string r :: .bool true :: .string b :: .string c :: .bool true :: .bool false :: .bool false :: .bool (sg x0.num) :: .string (mg x0.num) :: .string (dm x0.den) :: .bool o0 :: .bool (sg x1.num) :: .string (mg x1.num) :: .string (dm x1.den) :: .bool o1 :: .bool (sg x2.num) :: .string (mg x2.num) :: .string (dm x2.den) :: .bool o2 :: .bool (sg (can4 (P3.mk x0 x1 x2)).a) :: .string (mg (can4 (P3.mk x0 x1 x2)).a) :: .bool (sg (can4 (P3.mk x0 x1 x2)).b) :: .string (mg (can4 (P3.mk x0 x1 x2)).b) :: .bool (sg (can4 (P3.mk x0 x1 x2)).c) :: .string (mg (can4 (P3.mk x0 x1 x2)).c) :: .bool (sg (can4 (P3.mk x0 x1 x2)).d) :: .string (mg (can4 (P3.mk x0 x1 x2)).d) :: .bool false :: .bool false :: .bool false :: .string (textP (P3.mk x0 x1 x2)) :: .bool true :: []) [.b false, .b false, .b false, .b false, .b false, .b false, .b true] [.c (.p (.at 0))] 1 (.tup [.agg [.p (.lit (.bool false)), .p (.lit (.string ⟨#[]⟩)), .p (.lit (.bool false)), .p (.lit (.string ⟨#[]⟩)), .p (.lit (.bool false)), .p (.lit (.string ⟨#[]⟩)), .p (.lit (.bool false)), .p (.lit (.string ⟨#[]⟩))], .c (.p (.lit (.bool false)))]) [.len (.p (.at 0)) 1, .op2 false .lss (.p (.at 1)) (.p (.lit (.int .i64 2))) 2, .isB 2 false, .len (.p (.at 0)) 3, .op2 false .sub (.p (.at 3)) (.p (.lit (.int .i64 1))) 4, .prim (.slice 9 (.tmp 22) (some (.const (.int .i64 1))) (some (.tmp 25)) none) 9 [(22, .one (.c (.p (.at 0)))), (25, .one (.c (.p (.at 4))))] (.one (.c (.p (.at 5)))), .call 66 [.c (.p (.at 5))] (.tup [.c (.p (.at 6)), .c (.p (.at 7)), .c (.p (.at 8))]) [], .call 66 [.c (.p (.at 7))] (.tup [.c (.p (.at 9)), .c (.p (.at 10)), .c (.p (.at 11))]) [], .op1 .not (.p (.at 8)) 12, .isB 12 false, .op1 .not (.p (.at 11)) 13, .isB 13 false, .call 67 [.c (.p (.at 6))] (.tup [.agg [.p (.at 14), .p (.at 15), .p (.at 16)], .c (.p (.at 17))]) [], .call 67 [.c (.p (.at 9))] (.tup [.agg [.p (.at 18), .p (.at 19), .p (.at 20)], .c (.p (.at 21))]) [], .call 67 [.c (.p (.at 10))] (.tup [.agg [.p (.at 22), .p (.at 23), .p (.at 24)], .c (.p (.at 25))]) [], .call 20 [.agg [.p (.at 14), .p (.at 15), .p (.at 16), .p (.at 18), .p (.at 19), .p (.at 20), .p (.at 22), .p (.at 23), .p (.at 24)]] (.one (.agg [.p (.at 26), .p (.at 27), .p (.at 28), .p (.at 29), .p (.at 30), .p (.at 31), .p (.at 32), .p (.at 33)])) [], .op1 .not (.p (.at 17)) 34, .isB 34 false, .op1 .not (.p (.at 21)) 35, .isB 35 false, .op1 .not (.p (.at 25)) 36, .isB 36 false, .call 18 [.agg [.p (.at 26), .p (.at 27), .p (.at 28), .p (.at 29), .p (.at 30), .p (.at 31), .p (.at 32), .p (.at 33)]] (.one (.c (.p (.at 37)))) [], .op2 false .neq (.p (.at 37)) (.p (.at 0)) 38, .isB 38 true] Tryz.func28 (by kernel_rfl) rfl (by kernel_rfl) rfl (by kernel_rfl)
    ⟨⟨_, rfl, rfl⟩,
     congrArg (fun z => some (Value.bool z)) (decide_eq_false (by omega) : decide ((s.size : Int) < (2 : Int)) = false),
     rfl,
     ⟨_, rfl, rfl⟩,
     congrArg (fun z => some (Value.int .i64 z)) (by rw [wrap_small (by omega) (by omega)]; omega : IntKind.wrap .i64 ((s.size : Int) - (1 : Int)) = ((s.size - 1 : Nat) : Int)),
     fun w' _ => slice_lohi (k := 1) (j := s.size - 1) (by kernel_rfl) rfl rfl rfl (by omega) (by omega),
     fun γ w' _ _ => by have h := cut4_any (s.extract 1 (s.size - 1)) w' (by omega); rw [k1] at h; exact h,
     fun γ w' _ _ => by have h := cut4_any r w' (by omega); rw [k2] at h; exact h,
     congrArg (fun z => some (Value.bool z)) (rfl : (!true) = false),
     rfl,
     congrArg (fun z => some (Value.bool z)) (rfl : (!true) = false),
     rfl,
     fun γ w' bw _ => by have h := rParse_any a w' (by omega); rw [p0] at h; exact h,
     fun γ w' bw _ => by have h := rParse_any b w' (by omega); rw [p1] at h; exact h,
     fun γ w' bw _ => by have h := rParse_any c w' (by omega); rw [p2] at h; exact h,
     fun γ w' _ _ => p4Make (IsV.mk (IsQ.can f1) (IsQ.can f2) (IsQ.can f3)) (by decide) w',
     congrArg (fun z => some (Value.bool z)) (by rw [q0]; rfl : (!o0) = false),
     rfl,
     congrArg (fun z => some (Value.bool z)) (by rw [q1]; rfl : (!o1) = false),
     rfl,
     congrArg (fun z => some (Value.bool z)) (by rw [q2]; rfl : (!o2) = false),
     rfl,
     fun γ w' _ _ => p4Text (IsP.can f4) (by decide) w',
     congrArg (fun z => some (Value.bool z)) (by rw [beq_eq_false_iff_ne.2 (fun e => t (toList_inj e))]; rfl : (!((textP (P3.mk x0 x1 x2)).toList == s.toList)) = true),
     rfl⟩
theorem rP_yes (s a r b c : ByteArray) (x0 x1 x2 : Rat) (o0 o1 o2 oc : Bool) (w : World) (hs : s.size ≤ 1000) (h2 : 2 ≤ s.size) (zx0 : Rk x0 2000) (zx1 : Rk x1 2000) (zx2 : Rk x2 2000) (p0 : parseQV a = .tuple #[QV x0, .bool o0]) (p1 : parseQV b = .tuple #[QV x1, .bool o1]) (p2 : parseQV c = .tuple #[QV x2, .bool o2]) (k1 : cutV (s.extract 1 (s.size - 1)) = (a, r, true)) (k2 : cutV r = (b, c, true)) (q0 : o0 = true) (q1 : o1 = true) (q2 : o2 = true) (t : textP ⟨x0, x1, x2⟩ = s) :
    Calls Tryz.prog 28 #[.string s] w fun e w' => e = .returned (.tuple #[PV (P3.mk x0 x1 x2), .bool true]) ∧ Below w.heap.size w w' := by
  have hu := ext_sz s 1 (s.size - 1)
  obtain ⟨y1, y2⟩ := cutV_size k1
  obtain ⟨y3, y4⟩ := cutV_size k2
  have f1 : Rk x0 2000 := Rk.up (zx0) (by decide)
  have f2 : Rk x1 2000 := Rk.up (zx1) (by decide)
  have f3 : Rk x2 2000 := Rk.up (zx2) (by decide)
  have f4 : Pk (P3.mk x0 x1 x2) 6000 := Pk.up ((Pk.ofV (Vk.mk f1 f2 f3))) (by decide)
  exact SX.run (w := w) (.string s :: .int .i64 (s.size : Int) :: .bool false :: .int .i64 (s.size : Int) :: .int .i64 ((s.size - 1 : Nat) : Int) :: .string (s.extract 1 (s.size - 1)) :: .string a :: .string r :: .bool true :: .string b :: .string c :: .bool true :: .bool false :: .bool false :: .bool (sg x0.num) :: .string (mg x0.num) :: .string (dm x0.den) :: .bool o0 :: .bool (sg x1.num) :: .string (mg x1.num) :: .string (dm x1.den) :: .bool o1 :: .bool (sg x2.num) :: .string (mg x2.num) :: .string (dm x2.den) :: .bool o2 :: .bool (sg (can4 (P3.mk x0 x1 x2)).a) :: .string (mg (can4 (P3.mk x0 x1 x2)).a) :: .bool (sg (can4 (P3.mk x0 x1 x2)).b) :: .string (mg (can4 (P3.mk x0 x1 x2)).b) :: .bool (sg (can4 (P3.mk x0 x1 x2)).c) :: .string (mg (can4 (P3.mk x0 x1 x2)).c) :: .bool (sg (can4 (P3.mk x0 x1 x2)).d) :: .string (mg (can4 (P3.mk x0 x1 x2)).d) :: .bool false :: .bool false :: .bool false :: .string (textP (P3.mk x0 x1 x2)) :: .bool false :: []) [.b false, .b false, .b false, .b false, .b false, .b false, .b false] [.c (.p (.at 0))] 1 (.tup [.agg [.p (.at 26), .p (.at 27), .p (.at 28), .p (.at 29), .p (.at 30), .p (.at 31), .p (.at 32), .p (.at 33)], .c (.p (.lit (.bool true)))]) [.len (.p (.at 0)) 1, .op2 false .lss (.p (.at 1)) (.p (.lit (.int .i64 2))) 2, .isB 2 false, .len (.p (.at 0)) 3, .op2 false .sub (.p (.at 3)) (.p (.lit (.int .i64 1))) 4, .prim (.slice 9 (.tmp 22) (some (.const (.int .i64 1))) (some (.tmp 25)) none) 9 [(22, .one (.c (.p (.at 0)))), (25, .one (.c (.p (.at 4))))] (.one (.c (.p (.at 5)))), .call 66 [.c (.p (.at 5))] (.tup [.c (.p (.at 6)), .c (.p (.at 7)), .c (.p (.at 8))]) [], .call 66 [.c (.p (.at 7))] (.tup [.c (.p (.at 9)), .c (.p (.at 10)), .c (.p (.at 11))]) [], .op1 .not (.p (.at 8)) 12, .isB 12 false, .op1 .not (.p (.at 11)) 13, .isB 13 false, .call 67 [.c (.p (.at 6))] (.tup [.agg [.p (.at 14), .p (.at 15), .p (.at 16)], .c (.p (.at 17))]) [], .call 67 [.c (.p (.at 9))] (.tup [.agg [.p (.at 18), .p (.at 19), .p (.at 20)], .c (.p (.at 21))]) [], .call 67 [.c (.p (.at 10))] (.tup [.agg [.p (.at 22), .p (.at 23), .p (.at 24)], .c (.p (.at 25))]) [], .call 20 [.agg [.p (.at 14), .p (.at 15), .p (.at 16), .p (.at 18), .p (.at 19), .p (.at 20), .p (.at 22), .p (.at 23), .p (.at 24)]] (.one (.agg [.p (.at 26), .p (.at 27), .p (.at 28), .p (.at 29), .p (.at 30), .p (.at 31), .p (.at 32), .p (.at 33)])) [], .op1 .not (.p (.at 17)) 34, .isB 34 false, .op1 .not (.p (.at 21)) 35, .isB 35 false, .op1 .not (.p (.at 25)) 36, .isB 36 false, .call 18 [.agg [.p (.at 26), .p (.at 27), .p (.at 28), .p (.at 29), .p (.at 30), .p (.at 31), .p (.at 32), .p (.at 33)]] (.one (.c (.p (.at 37)))) [], .op2 false .neq (.p (.at 37)) (.p (.at 0)) 38, .isB 38 false] Tryz.func28 (by kernel_rfl) rfl (by kernel_rfl) rfl (by kernel_rfl)
    ⟨⟨_, rfl, rfl⟩,
     congrArg (fun z => some (Value.bool z)) (decide_eq_false (by omega) : decide ((s.size : Int) < (2 : Int)) = false),
     rfl,
     ⟨_, rfl, rfl⟩,
     congrArg (fun z => some (Value.int .i64 z)) (by rw [wrap_small (by omega) (by omega)]; omega : IntKind.wrap .i64 ((s.size : Int) - (1 : Int)) = ((s.size - 1 : Nat) : Int)),
     fun w' _ => slice_lohi (k := 1) (j := s.size - 1) (by kernel_rfl) rfl rfl rfl (by omega) (by omega),
     fun γ w' _ _ => by have h := cut4_any (s.extract 1 (s.size - 1)) w' (by omega); rw [k1] at h; exact h,
     fun γ w' _ _ => by have h := cut4_any r w' (by omega); rw [k2] at h; exact h,
     congrArg (fun z => some (Value.bool z)) (rfl : (!true) = false),
     rfl,
     congrArg (fun z => some (Value.bool z)) (rfl : (!true) = false),
     rfl,
     fun γ w' bw _ => by have h := rParse_any a w' (by omega); rw [p0] at h; exact h,
     fun γ w' bw _ => by have h := rParse_any b w' (by omega); rw [p1] at h; exact h,
     fun γ w' bw _ => by have h := rParse_any c w' (by omega); rw [p2] at h; exact h,
     fun γ w' _ _ => p4Make (IsV.mk (IsQ.can f1) (IsQ.can f2) (IsQ.can f3)) (by decide) w',
     congrArg (fun z => some (Value.bool z)) (by rw [q0]; rfl : (!o0) = false),
     rfl,
     congrArg (fun z => some (Value.bool z)) (by rw [q1]; rfl : (!o1) = false),
     rfl,
     congrArg (fun z => some (Value.bool z)) (by rw [q2]; rfl : (!o2) = false),
     rfl,
     fun γ w' _ _ => p4Text (IsP.can f4) (by decide) w',
     congrArg (fun z => some (Value.bool z)) (by rw [show textP (P3.mk x0 x1 x2) = s from t, beq_self_eq_true]; rfl : (!((textP (P3.mk x0 x1 x2)).toList == s.toList)) = false),
     rfl⟩
theorem rParse4_any (s : ByteArray) (w : World) (hs : s.size ≤ 1000) :
    Calls Tryz.prog 28 #[.string s] w fun e w' => e = .returned (pointV s) ∧ Below w.heap.size w w' := by
  by_cases h2 : 2 ≤ s.size
  rotate_left
  · rw [pointV_no (fun ⟨p, h⟩ => h2 (text_within h).1)]; exact rP_short s w h2
  obtain ⟨a, r, o, k1⟩ : ∃ a r o, cutV (s.extract 1 (s.size - 1)) = (a, r, o) := ⟨_, _, _, rfl⟩
  obtain ⟨b, c, oc, k2⟩ : ∃ b c oc, cutV r = (b, c, oc) := ⟨_, _, _, rfl⟩
  have hu := ext_sz s 1 (s.size - 1)
  obtain ⟨y1, y2⟩ := cutV_size k1
  obtain ⟨y3, y4⟩ := cutV_size k2
  obtain ⟨x0, o0, p0⟩ := parseQV_ex a
  obtain ⟨x1, o1, p1⟩ := parseQV_ex b
  obtain ⟨x2, o2, p2⟩ := parseQV_ex c
  have zx0 : Rk x0 2000 := (parseQV_size p0).mono (by omega)
  have zx1 : Rk x1 2000 := (parseQV_size p1).mono (by omega)
  have zx2 : Rk x2 2000 := (parseQV_size p2).mono (by omega)
  have hno : (o = true → oc = true → o0 = true → o1 = true → o2 = true → textP ⟨x0, x1, x2⟩ = s → False) → ¬ ∃ p, textP p = s := by
    rintro hf ⟨p, h⟩
    have n : ∀ q : Rat, 44 ∉ bts (textQ q) := fun q => textQ_ne q (.inl rfl)
    have e := (text_within h).2
    rw [e, cutV_sep (n _)] at k1
    simp only [Prod.mk.injEq] at k1
    obtain ⟨e0, e1, e2⟩ := k1
    rw [← e1, cutV_sep (n _)] at k2
    simp only [Prod.mk.injEq] at k2
    obtain ⟨e3, e4, e5⟩ := k2
    have j0 := parse_is p0 e0
    have j1 := parse_is p1 e3
    have j2 := parse_is p2 e4
    refine hf e2.symm e5.symm j0.2 j1.2 j2.2 ?_
    rw [j0.1, j1.1, j2.1]
    exact h
  cases o with
  | false => rw [pointV_no (hno (fun h => by cases h))]; exact rP_c1 s a r b c x0 x1 x2 _ _ _ _ w hs h2 zx0 zx1 zx2 p0 p1 p2 k1 k2
  | true =>
    cases oc with
    | false => rw [pointV_no (hno (fun _ h => by cases h))]; exact rP_c2 s a r b c x0 x1 x2 _ _ _ true w hs h2 zx0 zx1 zx2 p0 p1 p2 k1 k2
    | true =>
      cases q0 : o0 with
      | false => rw [pointV_no (hno (fun _ _ h => by rw [q0] at h; cases h))]; subst q0; exact rP_e0 s a r b c x0 x1 x2 _ _ _ true w hs h2 zx0 zx1 zx2 p0 p1 p2 k1 k2 rfl
      | true =>
        cases q1 : o1 with
        | false => rw [pointV_no (hno (fun _ _ _ h => by rw [q1] at h; cases h))]; subst q0 q1; exact rP_e1 s a r b c x0 x1 x2 _ _ _ true w hs h2 zx0 zx1 zx2 p0 p1 p2 k1 k2 rfl rfl
        | true =>
          cases q2 : o2 with
          | false => rw [pointV_no (hno (fun _ _ _ _ h => by rw [q2] at h; cases h))]; subst q0 q1 q2; exact rP_e2 s a r b c x0 x1 x2 _ _ _ true w hs h2 zx0 zx1 zx2 p0 p1 p2 k1 k2 rfl rfl rfl
          | true =>
            by_cases t : textP ⟨x0, x1, x2⟩ = s
            · rw [pointV_yes t]; subst q0 q1 q2; exact rP_yes s a r b c x0 x1 x2 _ _ _ true w hs h2 zx0 zx1 zx2 p0 p1 p2 k1 k2 rfl rfl rfl t
            · rw [pointV_no (hno (fun _ _ _ _ _ h => t h))]; subst q0 q1 q2; exact rP_txt s a r b c x0 x1 x2 _ _ _ true w hs h2 zx0 zx1 zx2 p0 p1 p2 k1 k2 rfl rfl rfl t
end Go.Proofs.YtdgppfccolhaeaaGreatDoor
