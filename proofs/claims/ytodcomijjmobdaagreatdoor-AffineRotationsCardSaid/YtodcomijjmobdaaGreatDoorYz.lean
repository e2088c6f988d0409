/- Package affine: rotations. -/
import Derived.Test.YtodcomijjmobdaaGreatDoorYd
set_option linter.unusedVariables false
set_option linter.unusedSimpArgs false
namespace Go.Proofs.YtodcomijjmobdaaGreatDoor
open Go.RowKit NM SX
theorem and3 (x1 : Int) : (IntKind.wrap .i64 ((BitVec.ofInt 64 x1 &&& BitVec.ofInt 64 3).toNat : Int)) = (qt x1 : Int) := by
  have h1 : (BitVec.ofInt 64 x1 &&& BitVec.ofInt 64 3).toNat = (x1 % 4).toNat := by
    rw [BitVec.toNat_and, BitVec.toNat_ofInt, show (BitVec.ofInt 64 3).toNat = 2 ^ 2 - 1 from rfl, Nat.and_two_pow_sub_one_eq_mod]
    have := Int.emod_nonneg x1 (show ((2 ^ 64 : Nat) : Int) ≠ 0 by decide)
    omega
  rw [h1]
  have h2 := qt_eq x1
  have h3 := tmod_bd x1
  have h4 := Int.mul_tdiv_add_tmod x1 4
  rw [Int.tmod_eq_emod_of_nonneg (by omega)] at h2
  rw [IntKind.wrap_i64] <;> omega
theorem afRot_l (x0 : Int) (x1 : Int) (w : World) (hT : TabC w) (h : x0 < 0) :
    Calls Tryz.prog 30 #[.int .i64 x0, .int .i64 x1] w fun e w' => e = .returned (.tuple #[.agg #[.bool false, .string ⟨#[]⟩, .string ⟨#[]⟩, .bool false, .string ⟨#[]⟩, .string ⟨#[]⟩, .bool false, .string ⟨#[]⟩, .string ⟨#[]⟩, .bool false, .string ⟨#[]⟩, .string ⟨#[]⟩, .bool false, .string ⟨#[]⟩, .string ⟨#[]⟩, .bool false, .string ⟨#[]⟩, .string ⟨#[]⟩, .bool false, .string ⟨#[]⟩, .string ⟨#[]⟩, .bool false, .string ⟨#[]⟩, .string ⟨#[]⟩, .bool false, .string ⟨#[]⟩, .string ⟨#[]⟩, .bool false, .string ⟨#[]⟩, .string ⟨#[]⟩, .bool false, .string ⟨#[]⟩, .string ⟨#[]⟩, .bool false, .string ⟨#[]⟩, .string ⟨#[]⟩], .bool false]) ∧ Below w.heap.size w w' := by
  have H := SX.run (w := w) [.int .i64 x0, .int .i64 x1, .bool true] [.b true] [.ca 0, .ca 1] 2 (.tup [.agg [.p (.lit (.bool false)), .p (.lit (.string ⟨#[]⟩)), .p (.lit (.string ⟨#[]⟩)), .p (.lit (.bool false)), .p (.lit (.string ⟨#[]⟩)), .p (.lit (.string ⟨#[]⟩)), .p (.lit (.bool false)), .p (.lit (.string ⟨#[]⟩)), .p (.lit (.string ⟨#[]⟩)), .p (.lit (.bool false)), .p (.lit (.string ⟨#[]⟩)), .p (.lit (.string ⟨#[]⟩)), .p (.lit (.bool false)), .p (.lit (.string ⟨#[]⟩)), .p (.lit (.string ⟨#[]⟩)), .p (.lit (.bool false)), .p (.lit (.string ⟨#[]⟩)), .p (.lit (.string ⟨#[]⟩)), .p (.lit (.bool false)), .p (.lit (.string ⟨#[]⟩)), .p (.lit (.string ⟨#[]⟩)), .p (.lit (.bool false)), .p (.lit (.string ⟨#[]⟩)), .p (.lit (.string ⟨#[]⟩)), .p (.lit (.bool false)), .p (.lit (.string ⟨#[]⟩)), .p (.lit (.string ⟨#[]⟩)), .p (.lit (.bool false)), .p (.lit (.string ⟨#[]⟩)), .p (.lit (.string ⟨#[]⟩)), .p (.lit (.bool false)), .p (.lit (.string ⟨#[]⟩)), .p (.lit (.string ⟨#[]⟩)), .p (.lit (.bool false)), .p (.lit (.string ⟨#[]⟩)), .p (.lit (.string ⟨#[]⟩))], .c (.p (.lit (.bool false)))]) [.op2 false .lss (.pa 0) (.p (.lit (.int .i64 0))) 2, .isB 2 true] Tryz.func30 (by kernel_rfl) rfl (by kernel_rfl) rfl (by kernel_rfl)
    ⟨congrArg (fun z => some (Value.bool z)) (decide_eq_true h : decide (x0 < (0 : Int)) = true),
     rfl⟩
  exact H
theorem afRot_g (x0 : Int) (x1 : Int) (w : World) (hT : TabC w) (h0 : ¬ x0 < 0) (h : 2 < x0) :
    Calls Tryz.prog 30 #[.int .i64 x0, .int .i64 x1] w fun e w' => e = .returned (.tuple #[.agg #[.bool false, .string ⟨#[]⟩, .string ⟨#[]⟩, .bool false, .string ⟨#[]⟩, .string ⟨#[]⟩, .bool false, .string ⟨#[]⟩, .string ⟨#[]⟩, .bool false, .string ⟨#[]⟩, .string ⟨#[]⟩, .bool false, .string ⟨#[]⟩, .string ⟨#[]⟩, .bool false, .string ⟨#[]⟩, .string ⟨#[]⟩, .bool false, .string ⟨#[]⟩, .string ⟨#[]⟩, .bool false, .string ⟨#[]⟩, .string ⟨#[]⟩, .bool false, .string ⟨#[]⟩, .string ⟨#[]⟩, .bool false, .string ⟨#[]⟩, .string ⟨#[]⟩, .bool false, .string ⟨#[]⟩, .string ⟨#[]⟩, .bool false, .string ⟨#[]⟩, .string ⟨#[]⟩], .bool false]) ∧ Below w.heap.size w w' := by
  have H := SX.run (w := w) [.int .i64 x0, .int .i64 x1, .bool false, .bool true] [.b false, .b true] [.ca 0, .ca 1] 2 (.tup [.agg [.p (.lit (.bool false)), .p (.lit (.string ⟨#[]⟩)), .p (.lit (.string ⟨#[]⟩)), .p (.lit (.bool false)), .p (.lit (.string ⟨#[]⟩)), .p (.lit (.string ⟨#[]⟩)), .p (.lit (.bool false)), .p (.lit (.string ⟨#[]⟩)), .p (.lit (.string ⟨#[]⟩)), .p (.lit (.bool false)), .p (.lit (.string ⟨#[]⟩)), .p (.lit (.string ⟨#[]⟩)), .p (.lit (.bool false)), .p (.lit (.string ⟨#[]⟩)), .p (.lit (.string ⟨#[]⟩)), .p (.lit (.bool false)), .p (.lit (.string ⟨#[]⟩)), .p (.lit (.string ⟨#[]⟩)), .p (.lit (.bool false)), .p (.lit (.string ⟨#[]⟩)), .p (.lit (.string ⟨#[]⟩)), .p (.lit (.bool false)), .p (.lit (.string ⟨#[]⟩)), .p (.lit (.string ⟨#[]⟩)), .p (.lit (.bool false)), .p (.lit (.string ⟨#[]⟩)), .p (.lit (.string ⟨#[]⟩)), .p (.lit (.bool false)), .p (.lit (.string ⟨#[]⟩)), .p (.lit (.string ⟨#[]⟩)), .p (.lit (.bool false)), .p (.lit (.string ⟨#[]⟩)), .p (.lit (.string ⟨#[]⟩)), .p (.lit (.bool false)), .p (.lit (.string ⟨#[]⟩)), .p (.lit (.string ⟨#[]⟩))], .c (.p (.lit (.bool false)))]) [.op2 false .lss (.pa 0) (.p (.lit (.int .i64 0))) 2, .isB 2 false, .op2 false .gtr (.pa 0) (.p (.lit (.int .i64 2))) 3, .isB 3 true] Tryz.func30 (by kernel_rfl) rfl (by kernel_rfl) rfl (by kernel_rfl)
    ⟨congrArg (fun z => some (Value.bool z)) (decide_eq_false h0 : decide (x0 < (0 : Int)) = false),
     rfl,
     congrArg (fun z => some (Value.bool z)) (decide_eq_true h : decide (x0 > (2 : Int)) = true),
     rfl⟩
  exact H
theorem afRot_00 (x1 : Int) (w : World) (hT : TabC w) (hn : (IntKind.wrap .i64 ((BitVec.ofInt 64 x1 &&& BitVec.ofInt 64 3).toNat : Int)) = 0) :
    Calls Tryz.prog 30 #[.int .i64 0, .int .i64 x1] w fun e w' => e = .returned (.tuple #[MV (rotM 0 0), .bool true]) ∧ Below w.heap.size w w' := by
  have f1 : Zk (1 : Int) 8 := mg_size_le (k := 8) (by first | decide | omega)
  have f2 : Zk (0 : Int) 8 := mg_size_le (k := 8) (by first | decide | omega)
  have f3 : Xk (matE (rotF 0 (0 : Int) (1 : Int)) 1) 1 := Xk.up ((Xk.rotE (a := 0) (t := 0) (by decide) (by decide))) (by decide)
  have f4 : Mk (rotM 0 0) 1 := Mk.up ((Mk.rot (a := 0) (n := 0) (by decide) (by decide))) (by decide)
  have H := SX.runX (w := w) (List.flatten [[.int .i64 x1, .int .i64 (IntKind.wrap .i64 ((BitVec.ofInt 64 x1 &&& BitVec.ofInt 64 3).toNat : Int))], zc (1 : Int), [.bool (sg (0 : Int)), .string (mg (0 : Int)), .int .i64 1, .int .i64 1], zc (1 : Int), xc (matE (rotF 0 (0 : Int) (1 : Int)) 1), mc (rotM 0 0)]) [] [] [.c (.p (.lit (.int .i64 (0)))), .c (.p (.at 0))] 1 [.ix 0, .ix 1] (.tup [.ga 42 36, .c (.p (.lit (.bool true)))]) [.prim (.binOp .and 3 (.tmp 21) (.const (.int .i64 3)) 3) 3 [(21, .one (.ca 0))] (.one (.ca 1)), .call 89 [.c (.p (.lit (.int .i64 1)))] (.one (.ga 2 2)) [], .isI 1 0, .call 89 [.c (.p (.lit (.int .i64 0)))] (.one (.ga 4 2)) [], .op2 false .add (.pa 1) (.p (.lit (.int .i64 1))) 6, .op2 false .rem (.pa 6) (.p (.lit (.int .i64 4))) 7, .isI 7 1, .call 89 [.c (.p (.lit (.int .i64 1)))] (.one (.ga 8 2)) [], .call 68 [.ga 2 2, .c (.fn 90 [.ptr 6 0, .ptr 7 0, .ptr 4 0, .ptr 0 0, .ptr 3 0, .ptr 5 0])] (.one (.ga 10 32)) ([(6145, .p (.lit (.int .i64 1)))] ++ [(7169, .p (.lit (.int .i64 2)))] ++ SX.number 4097 (SX.rg 4 2) ++ [(1, .p (.lit (.int .i64 0)))] ++ SX.number 3073 (SX.rg 2 2) ++ SX.number 5121 (SX.rg 8 2)), .call 49 [.ga 10 32] (.one (.ga 42 36)) []] ⟨rfl, fun b t l h => by simp at h⟩ Tryz.func30 (by kernel_rfl) rfl rfl (by kernel_rfl)
    ⟨fun w _ => rfl,
     fun γ w' _ _ => FromInt64_any 1 w' (by first | decide | omega) (by first | decide | omega),
     congrArg (Value.int .i64) (hn),
     fun γ w' _ _ => FromInt64_any 0 w' (by first | decide | omega) (by first | decide | omega),
     congrArg (fun z => some (Value.int .i64 z)) (by rw [hn]; rfl : IntKind.wrap .i64 ((IntKind.wrap .i64 ((BitVec.ofInt 64 x1 &&& BitVec.ofInt 64 3).toNat : Int)) + (1 : Int)) = 1),
     rfl,
     rfl,
     fun γ w' _ _ => FromInt64_any 1 w' (by first | decide | omega) (by first | decide | omega),
     fun γ w' bw hm => by
      have h := afFilled (g := 90) (cl := [.pointer (some ⟨γ 6, 0, none⟩), .pointer (some ⟨γ 7, 0, none⟩), .pointer (some ⟨γ 4, 0, none⟩), .pointer (some ⟨γ 0, 0, none⟩), .pointer (some ⟨γ 3, 0, none⟩), .pointer (some ⟨γ 5, 0, none⟩)]) (d := 1) (e := rotF 0 (0 : Int) (1 : Int)) (by kernel_rfl) w' (fun r c hr hc w2 hb2 => by have h2 := afRot_c (a := 0) (sn := (0 : Int)) (cs := (1 : Int)) (by decide) hr hc (mg_size_le (k := 8) (by decide) : Zk (0 : Int) 8) w2 (γ 6) (γ 7) (γ 4) (γ 0) (γ 3) (γ 5) (SX.CellsAt.keep (mem_box (b := 6) (l := [.p (.lit (.int .i64 1))]) hm rfl (by kernel_rfl)) hb2) (SX.CellsAt.keep (mem_box (b := 7) (l := [.p (.lit (.int .i64 2))]) hm rfl (by kernel_rfl)) hb2) (SX.CellsAt.keep (mem_box (b := 4) (l := [.p (.at 4), .p (.at 5)]) hm rfl (by kernel_rfl)) hb2) (SX.CellsAt.keep (mem_box (b := 0) (l := [.p (.lit (.int .i64 0))]) hm rfl (by kernel_rfl)) hb2) (SX.CellsAt.keep (mem_box (b := 3) (l := [.p (.at 2), .p (.at 3)]) hm rfl (by kernel_rfl)) hb2) (SX.CellsAt.keep (mem_box (b := 5) (l := [.p (.at 8), .p (.at 9)]) hm rfl (by kernel_rfl)) hb2); exact h2)
      exact h,
     fun γ w' bw _ => by have h := afToMap f3 (by decide) w' (hT.later bw); rw [show overE (matE (rotF 0 (0 : Int) (1 : Int)) 1) = rotM 0 0 from by decide +kernel] at h; exact h⟩
  exact H
theorem afRot_01 (x1 : Int) (w : World) (hT : TabC w) (hn : (IntKind.wrap .i64 ((BitVec.ofInt 64 x1 &&& BitVec.ofInt 64 3).toNat : Int)) = 1) :
    Calls Tryz.prog 30 #[.int .i64 0, .int .i64 x1] w fun e w' => e = .returned (.tuple #[MV (rotM 0 1), .bool true]) ∧ Below w.heap.size w w' := by
  have f1 : Zk (1 : Int) 8 := mg_size_le (k := 8) (by first | decide | omega)
  have f2 : Zk (0 : Int) 8 := mg_size_le (k := 8) (by first | decide | omega)
  have f3 : Xk (matE (rotF 0 (1 : Int) (0 : Int)) 1) 1 := Xk.up ((Xk.rotE (a := 0) (t := 1) (by decide) (by decide))) (by decide)
  have f4 : Mk (rotM 0 1) 1 := Mk.up ((Mk.rot (a := 0) (n := 1) (by decide) (by decide))) (by decide)
  have H := SX.runX (w := w) (List.flatten [[.int .i64 x1, .int .i64 (IntKind.wrap .i64 ((BitVec.ofInt 64 x1 &&& BitVec.ofInt 64 3).toNat : Int))], zc (1 : Int), zc (1 : Int), [.int .i64 2, .int .i64 2, .bool (sg (0 : Int)), .string (mg (0 : Int))], xc (matE (rotF 0 (1 : Int) (0 : Int)) 1), mc (rotM 0 1)]) [] [] [.c (.p (.lit (.int .i64 (0)))), .c (.p (.at 0))] 1 [.ix 1, .ix 2] (.tup [.ga 42 36, .c (.p (.lit (.bool true)))]) [.prim (.binOp .and 3 (.tmp 21) (.const (.int .i64 3)) 3) 3 [(21, .one (.ca 0))] (.one (.ca 1)), .call 89 [.c (.p (.lit (.int .i64 1)))] (.one (.ga 2 2)) [], .isI 1 1, .call 89 [.c (.p (.lit (.int .i64 1)))] (.one (.ga 4 2)) [], .op2 false .add (.pa 1) (.p (.lit (.int .i64 1))) 6, .op2 false .rem (.pa 6) (.p (.lit (.int .i64 4))) 7, .isI 7 2, .call 89 [.c (.p (.lit (.int .i64 0)))] (.one (.ga 8 2)) [], .call 68 [.ga 2 2, .c (.fn 90 [.ptr 6 0, .ptr 7 0, .ptr 4 0, .ptr 0 0, .ptr 3 0, .ptr 5 0])] (.one (.ga 10 32)) ([(6145, .p (.lit (.int .i64 1)))] ++ [(7169, .p (.lit (.int .i64 2)))] ++ SX.number 4097 (SX.rg 4 2) ++ [(1, .p (.lit (.int .i64 0)))] ++ SX.number 3073 (SX.rg 2 2) ++ SX.number 5121 (SX.rg 8 2)), .call 49 [.ga 10 32] (.one (.ga 42 36)) []] ⟨rfl, fun b t l h => by simp at h⟩ Tryz.func30 (by kernel_rfl) rfl rfl (by kernel_rfl)
    ⟨fun w _ => rfl,
     fun γ w' _ _ => FromInt64_any 1 w' (by first | decide | omega) (by first | decide | omega),
     congrArg (Value.int .i64) (hn),
     fun γ w' _ _ => FromInt64_any 1 w' (by first | decide | omega) (by first | decide | omega),
     congrArg (fun z => some (Value.int .i64 z)) (by rw [hn]; rfl : IntKind.wrap .i64 ((IntKind.wrap .i64 ((BitVec.ofInt 64 x1 &&& BitVec.ofInt 64 3).toNat : Int)) + (1 : Int)) = 2),
     rfl,
     rfl,
     fun γ w' _ _ => FromInt64_any 0 w' (by first | decide | omega) (by first | decide | omega),
     fun γ w' bw hm => by
      have h := afFilled (g := 90) (cl := [.pointer (some ⟨γ 6, 0, none⟩), .pointer (some ⟨γ 7, 0, none⟩), .pointer (some ⟨γ 4, 0, none⟩), .pointer (some ⟨γ 0, 0, none⟩), .pointer (some ⟨γ 3, 0, none⟩), .pointer (some ⟨γ 5, 0, none⟩)]) (d := 1) (e := rotF 0 (1 : Int) (0 : Int)) (by kernel_rfl) w' (fun r c hr hc w2 hb2 => by have h2 := afRot_c (a := 0) (sn := (1 : Int)) (cs := (0 : Int)) (by decide) hr hc (mg_size_le (k := 8) (by decide) : Zk (1 : Int) 8) w2 (γ 6) (γ 7) (γ 4) (γ 0) (γ 3) (γ 5) (SX.CellsAt.keep (mem_box (b := 6) (l := [.p (.lit (.int .i64 1))]) hm rfl (by kernel_rfl)) hb2) (SX.CellsAt.keep (mem_box (b := 7) (l := [.p (.lit (.int .i64 2))]) hm rfl (by kernel_rfl)) hb2) (SX.CellsAt.keep (mem_box (b := 4) (l := [.p (.at 4), .p (.at 5)]) hm rfl (by kernel_rfl)) hb2) (SX.CellsAt.keep (mem_box (b := 0) (l := [.p (.lit (.int .i64 0))]) hm rfl (by kernel_rfl)) hb2) (SX.CellsAt.keep (mem_box (b := 3) (l := [.p (.at 2), .p (.at 3)]) hm rfl (by kernel_rfl)) hb2) (SX.CellsAt.keep (mem_box (b := 5) (l := [.p (.at 8), .p (.at 9)]) hm rfl (by kernel_rfl)) hb2); exact h2)
      exact h,
     fun γ w' bw _ => by have h := afToMap f3 (by decide) w' (hT.later bw); rw [show overE (matE (rotF 0 (1 : Int) (0 : Int)) 1) = rotM 0 1 from by decide +kernel] at h; exact h⟩
  exact H
theorem afRot_02 (x1 : Int) (w : World) (hT : TabC w) (hn : (IntKind.wrap .i64 ((BitVec.ofInt 64 x1 &&& BitVec.ofInt 64 3).toNat : Int)) = 2) :
    Calls Tryz.prog 30 #[.int .i64 0, .int .i64 x1] w fun e w' => e = .returned (.tuple #[MV (rotM 0 2), .bool true]) ∧ Below w.heap.size w w' := by
  have f1 : Zk (1 : Int) 8 := mg_size_le (k := 8) (by first | decide | omega)
  have f2 : Zk (0 : Int) 8 := mg_size_le (k := 8) (by first | decide | omega)
  have f3 : Zk (-1 : Int) 8 := mg_size_le (k := 8) (by first | decide | omega)
  have f4 : Xk (matE (rotF 0 (0 : Int) (-1 : Int)) 1) 1 := Xk.up ((Xk.rotE (a := 0) (t := 2) (by decide) (by decide))) (by decide)
  have f5 : Mk (rotM 0 2) 1 := Mk.up ((Mk.rot (a := 0) (n := 2) (by decide) (by decide))) (by decide)
  have H := SX.runX (w := w) (List.flatten [[.int .i64 x1, .int .i64 (IntKind.wrap .i64 ((BitVec.ofInt 64 x1 &&& BitVec.ofInt 64 3).toNat : Int))], zc (1 : Int), [.bool (sg (0 : Int)), .string (mg (0 : Int)), .int .i64 3, .int .i64 3], zc (-1 : Int), xc (matE (rotF 0 (0 : Int) (-1 : Int)) 1), mc (rotM 0 2)]) [] [] [.c (.p (.lit (.int .i64 (0)))), .c (.p (.at 0))] 1 [.ix 2, .ix 3] (.tup [.ga 42 36, .c (.p (.lit (.bool true)))]) [.prim (.binOp .and 3 (.tmp 21) (.const (.int .i64 3)) 3) 3 [(21, .one (.ca 0))] (.one (.ca 1)), .call 89 [.c (.p (.lit (.int .i64 1)))] (.one (.ga 2 2)) [], .isI 1 2, .call 89 [.c (.p (.lit (.int .i64 0)))] (.one (.ga 4 2)) [], .op2 false .add (.pa 1) (.p (.lit (.int .i64 1))) 6, .op2 false .rem (.pa 6) (.p (.lit (.int .i64 4))) 7, .isI 7 3, .call 89 [.c (.p (.lit (.int .i64 (-1))))] (.one (.ga 8 2)) [], .call 68 [.ga 2 2, .c (.fn 90 [.ptr 6 0, .ptr 7 0, .ptr 4 0, .ptr 0 0, .ptr 3 0, .ptr 5 0])] (.one (.ga 10 32)) ([(6145, .p (.lit (.int .i64 1)))] ++ [(7169, .p (.lit (.int .i64 2)))] ++ SX.number 4097 (SX.rg 4 2) ++ [(1, .p (.lit (.int .i64 0)))] ++ SX.number 3073 (SX.rg 2 2) ++ SX.number 5121 (SX.rg 8 2)), .call 49 [.ga 10 32] (.one (.ga 42 36)) []] ⟨rfl, fun b t l h => by simp at h⟩ Tryz.func30 (by kernel_rfl) rfl rfl (by kernel_rfl)
    ⟨fun w _ => rfl,
     fun γ w' _ _ => FromInt64_any 1 w' (by first | decide | omega) (by first | decide | omega),
     congrArg (Value.int .i64) (hn),
     fun γ w' _ _ => FromInt64_any 0 w' (by first | decide | omega) (by first | decide | omega),
     congrArg (fun z => some (Value.int .i64 z)) (by rw [hn]; rfl : IntKind.wrap .i64 ((IntKind.wrap .i64 ((BitVec.ofInt 64 x1 &&& BitVec.ofInt 64 3).toNat : Int)) + (1 : Int)) = 3),
     rfl,
     rfl,
     fun γ w' _ _ => FromInt64_any (-1) w' (by first | decide | omega) (by first | decide | omega),
     fun γ w' bw hm => by
      have h := afFilled (g := 90) (cl := [.pointer (some ⟨γ 6, 0, none⟩), .pointer (some ⟨γ 7, 0, none⟩), .pointer (some ⟨γ 4, 0, none⟩), .pointer (some ⟨γ 0, 0, none⟩), .pointer (some ⟨γ 3, 0, none⟩), .pointer (some ⟨γ 5, 0, none⟩)]) (d := 1) (e := rotF 0 (0 : Int) (-1 : Int)) (by kernel_rfl) w' (fun r c hr hc w2 hb2 => by have h2 := afRot_c (a := 0) (sn := (0 : Int)) (cs := (-1 : Int)) (by decide) hr hc (mg_size_le (k := 8) (by decide) : Zk (0 : Int) 8) w2 (γ 6) (γ 7) (γ 4) (γ 0) (γ 3) (γ 5) (SX.CellsAt.keep (mem_box (b := 6) (l := [.p (.lit (.int .i64 1))]) hm rfl (by kernel_rfl)) hb2) (SX.CellsAt.keep (mem_box (b := 7) (l := [.p (.lit (.int .i64 2))]) hm rfl (by kernel_rfl)) hb2) (SX.CellsAt.keep (mem_box (b := 4) (l := [.p (.at 4), .p (.at 5)]) hm rfl (by kernel_rfl)) hb2) (SX.CellsAt.keep (mem_box (b := 0) (l := [.p (.lit (.int .i64 0))]) hm rfl (by kernel_rfl)) hb2) (SX.CellsAt.keep (mem_box (b := 3) (l := [.p (.at 2), .p (.at 3)]) hm rfl (by kernel_rfl)) hb2) (SX.CellsAt.keep (mem_box (b := 5) (l := [.p (.at 8), .p (.at 9)]) hm rfl (by kernel_rfl)) hb2); exact h2)
      exact h,
     fun γ w' bw _ => by have h := afToMap f4 (by decide) w' (hT.later bw); rw [show overE (matE (rotF 0 (0 : Int) (-1 : Int)) 1) = rotM 0 2 from by decide +kernel] at h; exact h⟩
  exact H
theorem afRot_03 (x1 : Int) (w : World) (hT : TabC w) (hn : (IntKind.wrap .i64 ((BitVec.ofInt 64 x1 &&& BitVec.ofInt 64 3).toNat : Int)) = 3) :
    Calls Tryz.prog 30 #[.int .i64 0, .int .i64 x1] w fun e w' => e = .returned (.tuple #[MV (rotM 0 3), .bool true]) ∧ Below w.heap.size w w' := by
  have f1 : Zk (1 : Int) 8 := mg_size_le (k := 8) (by first | decide | omega)
  have f2 : Zk (-1 : Int) 8 := mg_size_le (k := 8) (by first | decide | omega)
  have f3 : Zk (0 : Int) 8 := mg_size_le (k := 8) (by first | decide | omega)
  have f4 : Xk (matE (rotF 0 (-1 : Int) (0 : Int)) 1) 1 := Xk.up ((Xk.rotE (a := 0) (t := 3) (by decide) (by decide))) (by decide)
  have f5 : Mk (rotM 0 3) 1 := Mk.up ((Mk.rot (a := 0) (n := 3) (by decide) (by decide))) (by decide)
  have H := SX.runX (w := w) (List.flatten [[.int .i64 x1, .int .i64 (IntKind.wrap .i64 ((BitVec.ofInt 64 x1 &&& BitVec.ofInt 64 3).toNat : Int))], zc (1 : Int), zc (-1 : Int), [.int .i64 4, .int .i64 0, .bool (sg (0 : Int)), .string (mg (0 : Int))], xc (matE (rotF 0 (-1 : Int) (0 : Int)) 1), mc (rotM 0 3)]) [] [] [.c (.p (.lit (.int .i64 (0)))), .c (.p (.at 0))] 1 [.ix 3, .ix 0] (.tup [.ga 42 36, .c (.p (.lit (.bool true)))]) [.prim (.binOp .and 3 (.tmp 21) (.const (.int .i64 3)) 3) 3 [(21, .one (.ca 0))] (.one (.ca 1)), .call 89 [.c (.p (.lit (.int .i64 1)))] (.one (.ga 2 2)) [], .isI 1 3, .call 89 [.c (.p (.lit (.int .i64 (-1))))] (.one (.ga 4 2)) [], .op2 false .add (.pa 1) (.p (.lit (.int .i64 1))) 6, .op2 false .rem (.pa 6) (.p (.lit (.int .i64 4))) 7, .isI 7 0, .call 89 [.c (.p (.lit (.int .i64 0)))] (.one (.ga 8 2)) [], .call 68 [.ga 2 2, .c (.fn 90 [.ptr 6 0, .ptr 7 0, .ptr 4 0, .ptr 0 0, .ptr 3 0, .ptr 5 0])] (.one (.ga 10 32)) ([(6145, .p (.lit (.int .i64 1)))] ++ [(7169, .p (.lit (.int .i64 2)))] ++ SX.number 4097 (SX.rg 4 2) ++ [(1, .p (.lit (.int .i64 0)))] ++ SX.number 3073 (SX.rg 2 2) ++ SX.number 5121 (SX.rg 8 2)), .call 49 [.ga 10 32] (.one (.ga 42 36)) []] ⟨rfl, fun b t l h => by simp at h⟩ Tryz.func30 (by kernel_rfl) rfl rfl (by kernel_rfl)
    ⟨fun w _ => rfl,
     fun γ w' _ _ => FromInt64_any 1 w' (by first | decide | omega) (by first | decide | omega),
     congrArg (Value.int .i64) (hn),
     fun γ w' _ _ => FromInt64_any (-1) w' (by first | decide | omega) (by first | decide | omega),
     congrArg (fun z => some (Value.int .i64 z)) (by rw [hn]; rfl : IntKind.wrap .i64 ((IntKind.wrap .i64 ((BitVec.ofInt 64 x1 &&& BitVec.ofInt 64 3).toNat : Int)) + (1 : Int)) = 4),
     rfl,
     rfl,
     fun γ w' _ _ => FromInt64_any 0 w' (by first | decide | omega) (by first | decide | omega),
     fun γ w' bw hm => by
      have h := afFilled (g := 90) (cl := [.pointer (some ⟨γ 6, 0, none⟩), .pointer (some ⟨γ 7, 0, none⟩), .pointer (some ⟨γ 4, 0, none⟩), .pointer (some ⟨γ 0, 0, none⟩), .pointer (some ⟨γ 3, 0, none⟩), .pointer (some ⟨γ 5, 0, none⟩)]) (d := 1) (e := rotF 0 (-1 : Int) (0 : Int)) (by kernel_rfl) w' (fun r c hr hc w2 hb2 => by have h2 := afRot_c (a := 0) (sn := (-1 : Int)) (cs := (0 : Int)) (by decide) hr hc (mg_size_le (k := 8) (by decide) : Zk (-1 : Int) 8) w2 (γ 6) (γ 7) (γ 4) (γ 0) (γ 3) (γ 5) (SX.CellsAt.keep (mem_box (b := 6) (l := [.p (.lit (.int .i64 1))]) hm rfl (by kernel_rfl)) hb2) (SX.CellsAt.keep (mem_box (b := 7) (l := [.p (.lit (.int .i64 2))]) hm rfl (by kernel_rfl)) hb2) (SX.CellsAt.keep (mem_box (b := 4) (l := [.p (.at 4), .p (.at 5)]) hm rfl (by kernel_rfl)) hb2) (SX.CellsAt.keep (mem_box (b := 0) (l := [.p (.lit (.int .i64 0))]) hm rfl (by kernel_rfl)) hb2) (SX.CellsAt.keep (mem_box (b := 3) (l := [.p (.at 2), .p (.at 3)]) hm rfl (by kernel_rfl)) hb2) (SX.CellsAt.keep (mem_box (b := 5) (l := [.p (.at 8), .p (.at 9)]) hm rfl (by kernel_rfl)) hb2); exact h2)
      exact h,
     fun γ w' bw _ => by have h := afToMap f4 (by decide) w' (hT.later bw); rw [show overE (matE (rotF 0 (-1 : Int) (0 : Int)) 1) = rotM 0 3 from by decide +kernel] at h; exact h⟩
  exact H
theorem afRot_10 (x1 : Int) (w : World) (hT : TabC w) (hn : (IntKind.wrap .i64 ((BitVec.ofInt 64 x1 &&& BitVec.ofInt 64 3).toNat : Int)) = 0) :
    Calls Tryz.prog 30 #[.int .i64 1, .int .i64 x1] w fun e w' => e = .returned (.tuple #[MV (rotM 1 0), .bool true]) ∧ Below w.heap.size w w' := by
  have f1 : Zk (1 : Int) 8 := mg_size_le (k := 8) (by first | decide | omega)
  have f2 : Zk (0 : Int) 8 := mg_size_le (k := 8) (by first | decide | omega)
  have f3 : Xk (matE (rotF 1 (0 : Int) (1 : Int)) 1) 1 := Xk.up ((Xk.rotE (a := 1) (t := 0) (by decide) (by decide))) (by decide)
  have f4 : Mk (rotM 1 0) 1 := Mk.up ((Mk.rot (a := 1) (n := 0) (by decide) (by decide))) (by decide)
  have H := SX.runX (w := w) (List.flatten [[.int .i64 x1, .int .i64 (IntKind.wrap .i64 ((BitVec.ofInt 64 x1 &&& BitVec.ofInt 64 3).toNat : Int))], zc (1 : Int), [.bool (sg (0 : Int)), .string (mg (0 : Int)), .int .i64 1, .int .i64 1], zc (1 : Int), xc (matE (rotF 1 (0 : Int) (1 : Int)) 1), mc (rotM 1 0)]) [] [] [.c (.p (.lit (.int .i64 (1)))), .c (.p (.at 0))] 1 [.ix 0, .ix 1] (.tup [.ga 42 36, .c (.p (.lit (.bool true)))]) [.prim (.binOp .and 3 (.tmp 21) (.const (.int .i64 3)) 3) 3 [(21, .one (.ca 0))] (.one (.ca 1)), .call 89 [.c (.p (.lit (.int .i64 1)))] (.one (.ga 2 2)) [], .isI 1 0, .call 89 [.c (.p (.lit (.int .i64 0)))] (.one (.ga 4 2)) [], .op2 false .add (.pa 1) (.p (.lit (.int .i64 1))) 6, .op2 false .rem (.pa 6) (.p (.lit (.int .i64 4))) 7, .isI 7 1, .call 89 [.c (.p (.lit (.int .i64 1)))] (.one (.ga 8 2)) [], .call 68 [.ga 2 2, .c (.fn 90 [.ptr 6 0, .ptr 7 0, .ptr 4 0, .ptr 0 0, .ptr 3 0, .ptr 5 0])] (.one (.ga 10 32)) ([(6145, .p (.lit (.int .i64 2)))] ++ [(7169, .p (.lit (.int .i64 0)))] ++ SX.number 4097 (SX.rg 4 2) ++ [(1, .p (.lit (.int .i64 1)))] ++ SX.number 3073 (SX.rg 2 2) ++ SX.number 5121 (SX.rg 8 2)), .call 49 [.ga 10 32] (.one (.ga 42 36)) []] ⟨rfl, fun b t l h => by simp at h⟩ Tryz.func30 (by kernel_rfl) rfl rfl (by kernel_rfl)
    ⟨fun w _ => rfl,
     fun γ w' _ _ => FromInt64_any 1 w' (by first | decide | omega) (by first | decide | omega),
     congrArg (Value.int .i64) (hn),
     fun γ w' _ _ => FromInt64_any 0 w' (by first | decide | omega) (by first | decide | omega),
     congrArg (fun z => some (Value.int .i64 z)) (by rw [hn]; rfl : IntKind.wrap .i64 ((IntKind.wrap .i64 ((BitVec.ofInt 64 x1 &&& BitVec.ofInt 64 3).toNat : Int)) + (1 : Int)) = 1),
     rfl,
     rfl,
     fun γ w' _ _ => FromInt64_any 1 w' (by first | decide | omega) (by first | decide | omega),
     fun γ w' bw hm => by
      have h := afFilled (g := 90) (cl := [.pointer (some ⟨γ 6, 0, none⟩), .pointer (some ⟨γ 7, 0, none⟩), .pointer (some ⟨γ 4, 0, none⟩), .pointer (some ⟨γ 0, 0, none⟩), .pointer (some ⟨γ 3, 0, none⟩), .pointer (some ⟨γ 5, 0, none⟩)]) (d := 1) (e := rotF 1 (0 : Int) (1 : Int)) (by kernel_rfl) w' (fun r c hr hc w2 hb2 => by have h2 := afRot_c (a := 1) (sn := (0 : Int)) (cs := (1 : Int)) (by decide) hr hc (mg_size_le (k := 8) (by decide) : Zk (0 : Int) 8) w2 (γ 6) (γ 7) (γ 4) (γ 0) (γ 3) (γ 5) (SX.CellsAt.keep (mem_box (b := 6) (l := [.p (.lit (.int .i64 2))]) hm rfl (by kernel_rfl)) hb2) (SX.CellsAt.keep (mem_box (b := 7) (l := [.p (.lit (.int .i64 0))]) hm rfl (by kernel_rfl)) hb2) (SX.CellsAt.keep (mem_box (b := 4) (l := [.p (.at 4), .p (.at 5)]) hm rfl (by kernel_rfl)) hb2) (SX.CellsAt.keep (mem_box (b := 0) (l := [.p (.lit (.int .i64 1))]) hm rfl (by kernel_rfl)) hb2) (SX.CellsAt.keep (mem_box (b := 3) (l := [.p (.at 2), .p (.at 3)]) hm rfl (by kernel_rfl)) hb2) (SX.CellsAt.keep (mem_box (b := 5) (l := [.p (.at 8), .p (.at 9)]) hm rfl (by kernel_rfl)) hb2); exact h2)
      exact h,
     fun γ w' bw _ => by have h := afToMap f3 (by decide) w' (hT.later bw); rw [show overE (matE (rotF 1 (0 : Int) (1 : Int)) 1) = rotM 1 0 from by decide +kernel] at h; exact h⟩
  exact H
theorem afRot_11 (x1 : Int) (w : World) (hT : TabC w) (hn : (IntKind.wrap .i64 ((BitVec.ofInt 64 x1 &&& BitVec.ofInt 64 3).toNat : Int)) = 1) :
    Calls Tryz.prog 30 #[.int .i64 1, .int .i64 x1] w fun e w' => e = .returned (.tuple #[MV (rotM 1 1), .bool true]) ∧ Below w.heap.size w w' := by
  have f1 : Zk (1 : Int) 8 := mg_size_le (k := 8) (by first | decide | omega)
  have f2 : Zk (0 : Int) 8 := mg_size_le (k := 8) (by first | decide | omega)
  have f3 : Xk (matE (rotF 1 (1 : Int) (0 : Int)) 1) 1 := Xk.up ((Xk.rotE (a := 1) (t := 1) (by decide) (by decide))) (by decide)
  have f4 : Mk (rotM 1 1) 1 := Mk.up ((Mk.rot (a := 1) (n := 1) (by decide) (by decide))) (by decide)
  have H := SX.runX (w := w) (List.flatten [[.int .i64 x1, .int .i64 (IntKind.wrap .i64 ((BitVec.ofInt 64 x1 &&& BitVec.ofInt 64 3).toNat : Int))], zc (1 : Int), zc (1 : Int), [.int .i64 2, .int .i64 2, .bool (sg (0 : Int)), .string (mg (0 : Int))], xc (matE (rotF 1 (1 : Int) (0 : Int)) 1), mc (rotM 1 1)]) [] [] [.c (.p (.lit (.int .i64 (1)))), .c (.p (.at 0))] 1 [.ix 1, .ix 2] (.tup [.ga 42 36, .c (.p (.lit (.bool true)))]) [.prim (.binOp .and 3 (.tmp 21) (.const (.int .i64 3)) 3) 3 [(21, .one (.ca 0))] (.one (.ca 1)), .call 89 [.c (.p (.lit (.int .i64 1)))] (.one (.ga 2 2)) [], .isI 1 1, .call 89 [.c (.p (.lit (.int .i64 1)))] (.one (.ga 4 2)) [], .op2 false .add (.pa 1) (.p (.lit (.int .i64 1))) 6, .op2 false .rem (.pa 6) (.p (.lit (.int .i64 4))) 7, .isI 7 2, .call 89 [.c (.p (.lit (.int .i64 0)))] (.one (.ga 8 2)) [], .call 68 [.ga 2 2, .c (.fn 90 [.ptr 6 0, .ptr 7 0, .ptr 4 0, .ptr 0 0, .ptr 3 0, .ptr 5 0])] (.one (.ga 10 32)) ([(6145, .p (.lit (.int .i64 2)))] ++ [(7169, .p (.lit (.int .i64 0)))] ++ SX.number 4097 (SX.rg 4 2) ++ [(1, .p (.lit (.int .i64 1)))] ++ SX.number 3073 (SX.rg 2 2) ++ SX.number 5121 (SX.rg 8 2)), .call 49 [.ga 10 32] (.one (.ga 42 36)) []] ⟨rfl, fun b t l h => by simp at h⟩ Tryz.func30 (by kernel_rfl) rfl rfl (by kernel_rfl)
    ⟨fun w _ => rfl,
     fun γ w' _ _ => FromInt64_any 1 w' (by first | decide | omega) (by first | decide | omega),
     congrArg (Value.int .i64) (hn),
     fun γ w' _ _ => FromInt64_any 1 w' (by first | decide | omega) (by first | decide | omega),
     congrArg (fun z => some (Value.int .i64 z)) (by rw [hn]; rfl : IntKind.wrap .i64 ((IntKind.wrap .i64 ((BitVec.ofInt 64 x1 &&& BitVec.ofInt 64 3).toNat : Int)) + (1 : Int)) = 2),
     rfl,
     rfl,
     fun γ w' _ _ => FromInt64_any 0 w' (by first | decide | omega) (by first | decide | omega),
     fun γ w' bw hm => by
      have h := afFilled (g := 90) (cl := [.pointer (some ⟨γ 6, 0, none⟩), .pointer (some ⟨γ 7, 0, none⟩), .pointer (some ⟨γ 4, 0, none⟩), .pointer (some ⟨γ 0, 0, none⟩), .pointer (some ⟨γ 3, 0, none⟩), .pointer (some ⟨γ 5, 0, none⟩)]) (d := 1) (e := rotF 1 (1 : Int) (0 : Int)) (by kernel_rfl) w' (fun r c hr hc w2 hb2 => by have h2 := afRot_c (a := 1) (sn := (1 : Int)) (cs := (0 : Int)) (by decide) hr hc (mg_size_le (k := 8) (by decide) : Zk (1 : Int) 8) w2 (γ 6) (γ 7) (γ 4) (γ 0) (γ 3) (γ 5) (SX.CellsAt.keep (mem_box (b := 6) (l := [.p (.lit (.int .i64 2))]) hm rfl (by kernel_rfl)) hb2) (SX.CellsAt.keep (mem_box (b := 7) (l := [.p (.lit (.int .i64 0))]) hm rfl (by kernel_rfl)) hb2) (SX.CellsAt.keep (mem_box (b := 4) (l := [.p (.at 4), .p (.at 5)]) hm rfl (by kernel_rfl)) hb2) (SX.CellsAt.keep (mem_box (b := 0) (l := [.p (.lit (.int .i64 1))]) hm rfl (by kernel_rfl)) hb2) (SX.CellsAt.keep (mem_box (b := 3) (l := [.p (.at 2), .p (.at 3)]) hm rfl (by kernel_rfl)) hb2) (SX.CellsAt.keep (mem_box (b := 5) (l := [.p (.at 8), .p (.at 9)]) hm rfl (by kernel_rfl)) hb2); exact h2)
      exact h,
     fun γ w' bw _ => by have h := afToMap f3 (by decide) w' (hT.later bw); rw [show overE (matE (rotF 1 (1 : Int) (0 : Int)) 1) = rotM 1 1 from by decide +kernel] at h; exact h⟩
  exact H
theorem afRot_12 (x1 : Int) (w : World) (hT : TabC w) (hn : (IntKind.wrap .i64 ((BitVec.ofInt 64 x1 &&& BitVec.ofInt 64 3).toNat : Int)) = 2) :
    Calls Tryz.prog 30 #[.int .i64 1, .int .i64 x1] w fun e w' => e = .returned (.tuple #[MV (rotM 1 2), .bool true]) ∧ Below w.heap.size w w' := by
  have f1 : Zk (1 : Int) 8 := mg_size_le (k := 8) (by first | decide | omega)
  have f2 : Zk (0 : Int) 8 := mg_size_le (k := 8) (by first | decide | omega)
  have f3 : Zk (-1 : Int) 8 := mg_size_le (k := 8) (by first | decide | omega)
  have f4 : Xk (matE (rotF 1 (0 : Int) (-1 : Int)) 1) 1 := Xk.up ((Xk.rotE (a := 1) (t := 2) (by decide) (by decide))) (by decide)
  have f5 : Mk (rotM 1 2) 1 := Mk.up ((Mk.rot (a := 1) (n := 2) (by decide) (by decide))) (by decide)
  have H := SX.runX (w := w) (List.flatten [[.int .i64 x1, .int .i64 (IntKind.wrap .i64 ((BitVec.ofInt 64 x1 &&& BitVec.ofInt 64 3).toNat : Int))], zc (1 : Int), [.bool (sg (0 : Int)), .string (mg (0 : Int)), .int .i64 3, .int .i64 3], zc (-1 : Int), xc (matE (rotF 1 (0 : Int) (-1 : Int)) 1), mc (rotM 1 2)]) [] [] [.c (.p (.lit (.int .i64 (1)))), .c (.p (.at 0))] 1 [.ix 2, .ix 3] (.tup [.ga 42 36, .c (.p (.lit (.bool true)))]) [.prim (.binOp .and 3 (.tmp 21) (.const (.int .i64 3)) 3) 3 [(21, .one (.ca 0))] (.one (.ca 1)), .call 89 [.c (.p (.lit (.int .i64 1)))] (.one (.ga 2 2)) [], .isI 1 2, .call 89 [.c (.p (.lit (.int .i64 0)))] (.one (.ga 4 2)) [], .op2 false .add (.pa 1) (.p (.lit (.int .i64 1))) 6, .op2 false .rem (.pa 6) (.p (.lit (.int .i64 4))) 7, .isI 7 3, .call 89 [.c (.p (.lit (.int .i64 (-1))))] (.one (.ga 8 2)) [], .call 68 [.ga 2 2, .c (.fn 90 [.ptr 6 0, .ptr 7 0, .ptr 4 0, .ptr 0 0, .ptr 3 0, .ptr 5 0])] (.one (.ga 10 32)) ([(6145, .p (.lit (.int .i64 2)))] ++ [(7169, .p (.lit (.int .i64 0)))] ++ SX.number 4097 (SX.rg 4 2) ++ [(1, .p (.lit (.int .i64 1)))] ++ SX.number 3073 (SX.rg 2 2) ++ SX.number 5121 (SX.rg 8 2)), .call 49 [.ga 10 32] (.one (.ga 42 36)) []] ⟨rfl, fun b t l h => by simp at h⟩ Tryz.func30 (by kernel_rfl) rfl rfl (by kernel_rfl)
    ⟨fun w _ => rfl,
     fun γ w' _ _ => FromInt64_any 1 w' (by first | decide | omega) (by first | decide | omega),
     congrArg (Value.int .i64) (hn),
     fun γ w' _ _ => FromInt64_any 0 w' (by first | decide | omega) (by first | decide | omega),
     congrArg (fun z => some (Value.int .i64 z)) (by rw [hn]; rfl : IntKind.wrap .i64 ((IntKind.wrap .i64 ((BitVec.ofInt 64 x1 &&& BitVec.ofInt 64 3).toNat : Int)) + (1 : Int)) = 3),
     rfl,
     rfl,
     fun γ w' _ _ => FromInt64_any (-1) w' (by first | decide | omega) (by first | decide | omega),
     fun γ w' bw hm => by
      have h := afFilled (g := 90) (cl := [.pointer (some ⟨γ 6, 0, none⟩), .pointer (some ⟨γ 7, 0, none⟩), .pointer (some ⟨γ 4, 0, none⟩), .pointer (some ⟨γ 0, 0, none⟩), .pointer (some ⟨γ 3, 0, none⟩), .pointer (some ⟨γ 5, 0, none⟩)]) (d := 1) (e := rotF 1 (0 : Int) (-1 : Int)) (by kernel_rfl) w' (fun r c hr hc w2 hb2 => by have h2 := afRot_c (a := 1) (sn := (0 : Int)) (cs := (-1 : Int)) (by decide) hr hc (mg_size_le (k := 8) (by decide) : Zk (0 : Int) 8) w2 (γ 6) (γ 7) (γ 4) (γ 0) (γ 3) (γ 5) (SX.CellsAt.keep (mem_box (b := 6) (l := [.p (.lit (.int .i64 2))]) hm rfl (by kernel_rfl)) hb2) (SX.CellsAt.keep (mem_box (b := 7) (l := [.p (.lit (.int .i64 0))]) hm rfl (by kernel_rfl)) hb2) (SX.CellsAt.keep (mem_box (b := 4) (l := [.p (.at 4), .p (.at 5)]) hm rfl (by kernel_rfl)) hb2) (SX.CellsAt.keep (mem_box (b := 0) (l := [.p (.lit (.int .i64 1))]) hm rfl (by kernel_rfl)) hb2) (SX.CellsAt.keep (mem_box (b := 3) (l := [.p (.at 2), .p (.at 3)]) hm rfl (by kernel_rfl)) hb2) (SX.CellsAt.keep (mem_box (b := 5) (l := [.p (.at 8), .p (.at 9)]) hm rfl (by kernel_rfl)) hb2); exact h2)
      exact h,
     fun γ w' bw _ => by have h := afToMap f4 (by decide) w' (hT.later bw); rw [show overE (matE (rotF 1 (0 : Int) (-1 : Int)) 1) = rotM 1 2 from by decide +kernel] at h; exact h⟩
  exact H
theorem afRot_13 (x1 : Int) (w : World) (hT : TabC w) (hn : (IntKind.wrap .i64 ((BitVec.ofInt 64 x1 &&& BitVec.ofInt 64 3).toNat : Int)) = 3) :
    Calls Tryz.prog 30 #[.int .i64 1, .int .i64 x1] w fun e w' => e = .returned (.tuple #[MV (rotM 1 3), .bool true]) ∧ Below w.heap.size w w' := by
  have f1 : Zk (1 : Int) 8 := mg_size_le (k := 8) (by first | decide | omega)
  have f2 : Zk (-1 : Int) 8 := mg_size_le (k := 8) (by first | decide | omega)
  have f3 : Zk (0 : Int) 8 := mg_size_le (k := 8) (by first | decide | omega)
  have f4 : Xk (matE (rotF 1 (-1 : Int) (0 : Int)) 1) 1 := Xk.up ((Xk.rotE (a := 1) (t := 3) (by decide) (by decide))) (by decide)
  have f5 : Mk (rotM 1 3) 1 := Mk.up ((Mk.rot (a := 1) (n := 3) (by decide) (by decide))) (by decide)
  have H := SX.runX (w := w) (List.flatten [[.int .i64 x1, .int .i64 (IntKind.wrap .i64 ((BitVec.ofInt 64 x1 &&& BitVec.ofInt 64 3).toNat : Int))], zc (1 : Int), zc (-1 : Int), [.int .i64 4, .int .i64 0, .bool (sg (0 : Int)), .string (mg (0 : Int))], xc (matE (rotF 1 (-1 : Int) (0 : Int)) 1), mc (rotM 1 3)]) [] [] [.c (.p (.lit (.int .i64 (1)))), .c (.p (.at 0))] 1 [.ix 3, .ix 0] (.tup [.ga 42 36, .c (.p (.lit (.bool true)))]) [.prim (.binOp .and 3 (.tmp 21) (.const (.int .i64 3)) 3) 3 [(21, .one (.ca 0))] (.one (.ca 1)), .call 89 [.c (.p (.lit (.int .i64 1)))] (.one (.ga 2 2)) [], .isI 1 3, .call 89 [.c (.p (.lit (.int .i64 (-1))))] (.one (.ga 4 2)) [], .op2 false .add (.pa 1) (.p (.lit (.int .i64 1))) 6, .op2 false .rem (.pa 6) (.p (.lit (.int .i64 4))) 7, .isI 7 0, .call 89 [.c (.p (.lit (.int .i64 0)))] (.one (.ga 8 2)) [], .call 68 [.ga 2 2, .c (.fn 90 [.ptr 6 0, .ptr 7 0, .ptr 4 0, .ptr 0 0, .ptr 3 0, .ptr 5 0])] (.one (.ga 10 32)) ([(6145, .p (.lit (.int .i64 2)))] ++ [(7169, .p (.lit (.int .i64 0)))] ++ SX.number 4097 (SX.rg 4 2) ++ [(1, .p (.lit (.int .i64 1)))] ++ SX.number 3073 (SX.rg 2 2) ++ SX.number 5121 (SX.rg 8 2)), .call 49 [.ga 10 32] (.one (.ga 42 36)) []] ⟨rfl, fun b t l h => by simp at h⟩ Tryz.func30 (by kernel_rfl) rfl rfl (by kernel_rfl)
    ⟨fun w _ => rfl,
     fun γ w' _ _ => FromInt64_any 1 w' (by first | decide | omega) (by first | decide | omega),
     congrArg (Value.int .i64) (hn),
     fun γ w' _ _ => FromInt64_any (-1) w' (by first | decide | omega) (by first | decide | omega),
     congrArg (fun z => some (Value.int .i64 z)) (by rw [hn]; rfl : IntKind.wrap .i64 ((IntKind.wrap .i64 ((BitVec.ofInt 64 x1 &&& BitVec.ofInt 64 3).toNat : Int)) + (1 : Int)) = 4),
     rfl,
     rfl,
     fun γ w' _ _ => FromInt64_any 0 w' (by first | decide | omega) (by first | decide | omega),
     fun γ w' bw hm => by
      have h := afFilled (g := 90) (cl := [.pointer (some ⟨γ 6, 0, none⟩), .pointer (some ⟨γ 7, 0, none⟩), .pointer (some ⟨γ 4, 0, none⟩), .pointer (some ⟨γ 0, 0, none⟩), .pointer (some ⟨γ 3, 0, none⟩), .pointer (some ⟨γ 5, 0, none⟩)]) (d := 1) (e := rotF 1 (-1 : Int) (0 : Int)) (by kernel_rfl) w' (fun r c hr hc w2 hb2 => by have h2 := afRot_c (a := 1) (sn := (-1 : Int)) (cs := (0 : Int)) (by decide) hr hc (mg_size_le (k := 8) (by decide) : Zk (-1 : Int) 8) w2 (γ 6) (γ 7) (γ 4) (γ 0) (γ 3) (γ 5) (SX.CellsAt.keep (mem_box (b := 6) (l := [.p (.lit (.int .i64 2))]) hm rfl (by kernel_rfl)) hb2) (SX.CellsAt.keep (mem_box (b := 7) (l := [.p (.lit (.int .i64 0))]) hm rfl (by kernel_rfl)) hb2) (SX.CellsAt.keep (mem_box (b := 4) (l := [.p (.at 4), .p (.at 5)]) hm rfl (by kernel_rfl)) hb2) (SX.CellsAt.keep (mem_box (b := 0) (l := [.p (.lit (.int .i64 1))]) hm rfl (by kernel_rfl)) hb2) (SX.CellsAt.keep (mem_box (b := 3) (l := [.p (.at 2), .p (.at 3)]) hm rfl (by kernel_rfl)) hb2) (SX.CellsAt.keep (mem_box (b := 5) (l := [.p (.at 8), .p (.at 9)]) hm rfl (by kernel_rfl)) hb2); exact h2)
      exact h,
     fun γ w' bw _ => by have h := afToMap f4 (by decide) w' (hT.later bw); rw [show overE (matE (rotF 1 (-1 : Int) (0 : Int)) 1) = rotM 1 3 from by decide +kernel] at h; exact h⟩
  exact H
theorem afRot_20 (x1 : Int) (w : World) (hT : TabC w) (hn : (IntKind.wrap .i64 ((BitVec.ofInt 64 x1 &&& BitVec.ofInt 64 3).toNat : Int)) = 0) :
    Calls Tryz.prog 30 #[.int .i64 2, .int .i64 x1] w fun e w' => e = .returned (.tuple #[MV (rotM 2 0), .bool true]) ∧ Below w.heap.size w w' := by
  have f1 : Zk (1 : Int) 8 := mg_size_le (k := 8) (by first | decide | omega)
  have f2 : Zk (0 : Int) 8 := mg_size_le (k := 8) (by first | decide | omega)
  have f3 : Xk (matE (rotF 2 (0 : Int) (1 : Int)) 1) 1 := Xk.up ((Xk.rotE (a := 2) (t := 0) (by decide) (by decide))) (by decide)
  have f4 : Mk (rotM 2 0) 1 := Mk.up ((Mk.rot (a := 2) (n := 0) (by decide) (by decide))) (by decide)
  have H := SX.runX (w := w) (List.flatten [[.int .i64 x1, .int .i64 (IntKind.wrap .i64 ((BitVec.ofInt 64 x1 &&& BitVec.ofInt 64 3).toNat : Int))], zc (1 : Int), [.bool (sg (0 : Int)), .string (mg (0 : Int)), .int .i64 1, .int .i64 1], zc (1 : Int), xc (matE (rotF 2 (0 : Int) (1 : Int)) 1), mc (rotM 2 0)]) [] [] [.c (.p (.lit (.int .i64 (2)))), .c (.p (.at 0))] 1 [.ix 0, .ix 1] (.tup [.ga 42 36, .c (.p (.lit (.bool true)))]) [.prim (.binOp .and 3 (.tmp 21) (.const (.int .i64 3)) 3) 3 [(21, .one (.ca 0))] (.one (.ca 1)), .call 89 [.c (.p (.lit (.int .i64 1)))] (.one (.ga 2 2)) [], .isI 1 0, .call 89 [.c (.p (.lit (.int .i64 0)))] (.one (.ga 4 2)) [], .op2 false .add (.pa 1) (.p (.lit (.int .i64 1))) 6, .op2 false .rem (.pa 6) (.p (.lit (.int .i64 4))) 7, .isI 7 1, .call 89 [.c (.p (.lit (.int .i64 1)))] (.one (.ga 8 2)) [], .call 68 [.ga 2 2, .c (.fn 90 [.ptr 6 0, .ptr 7 0, .ptr 4 0, .ptr 0 0, .ptr 3 0, .ptr 5 0])] (.one (.ga 10 32)) ([(6145, .p (.lit (.int .i64 0)))] ++ [(7169, .p (.lit (.int .i64 1)))] ++ SX.number 4097 (SX.rg 4 2) ++ [(1, .p (.lit (.int .i64 2)))] ++ SX.number 3073 (SX.rg 2 2) ++ SX.number 5121 (SX.rg 8 2)), .call 49 [.ga 10 32] (.one (.ga 42 36)) []] ⟨rfl, fun b t l h => by simp at h⟩ Tryz.func30 (by kernel_rfl) rfl rfl (by kernel_rfl)
    ⟨fun w _ => rfl,
     fun γ w' _ _ => FromInt64_any 1 w' (by first | decide | omega) (by first | decide | omega),
     congrArg (Value.int .i64) (hn),
     fun γ w' _ _ => FromInt64_any 0 w' (by first | decide | omega) (by first | decide | omega),
     congrArg (fun z => some (Value.int .i64 z)) (by rw [hn]; rfl : IntKind.wrap .i64 ((IntKind.wrap .i64 ((BitVec.ofInt 64 x1 &&& BitVec.ofInt 64 3).toNat : Int)) + (1 : Int)) = 1),
     rfl,
     rfl,
     fun γ w' _ _ => FromInt64_any 1 w' (by first | decide | omega) (by first | decide | omega),
     fun γ w' bw hm => by
      have h := afFilled (g := 90) (cl := [.pointer (some ⟨γ 6, 0, none⟩), .pointer (some ⟨γ 7, 0, none⟩), .pointer (some ⟨γ 4, 0, none⟩), .pointer (some ⟨γ 0, 0, none⟩), .pointer (some ⟨γ 3, 0, none⟩), .pointer (some ⟨γ 5, 0, none⟩)]) (d := 1) (e := rotF 2 (0 : Int) (1 : Int)) (by kernel_rfl) w' (fun r c hr hc w2 hb2 => by have h2 := afRot_c (a := 2) (sn := (0 : Int)) (cs := (1 : Int)) (by decide) hr hc (mg_size_le (k := 8) (by decide) : Zk (0 : Int) 8) w2 (γ 6) (γ 7) (γ 4) (γ 0) (γ 3) (γ 5) (SX.CellsAt.keep (mem_box (b := 6) (l := [.p (.lit (.int .i64 0))]) hm rfl (by kernel_rfl)) hb2) (SX.CellsAt.keep (mem_box (b := 7) (l := [.p (.lit (.int .i64 1))]) hm rfl (by kernel_rfl)) hb2) (SX.CellsAt.keep (mem_box (b := 4) (l := [.p (.at 4), .p (.at 5)]) hm rfl (by kernel_rfl)) hb2) (SX.CellsAt.keep (mem_box (b := 0) (l := [.p (.lit (.int .i64 2))]) hm rfl (by kernel_rfl)) hb2) (SX.CellsAt.keep (mem_box (b := 3) (l := [.p (.at 2), .p (.at 3)]) hm rfl (by kernel_rfl)) hb2) (SX.CellsAt.keep (mem_box (b := 5) (l := [.p (.at 8), .p (.at 9)]) hm rfl (by kernel_rfl)) hb2); exact h2)
      exact h,
     fun γ w' bw _ => by have h := afToMap f3 (by decide) w' (hT.later bw); rw [show overE (matE (rotF 2 (0 : Int) (1 : Int)) 1) = rotM 2 0 from by decide +kernel] at h; exact h⟩
  exact H
theorem afRot_22 (x1 : Int) (w : World) (hT : TabC w) (hn : (IntKind.wrap .i64 ((BitVec.ofInt 64 x1 &&& BitVec.ofInt 64 3).toNat : Int)) = 2) :
    Calls Tryz.prog 30 #[.int .i64 2, .int .i64 x1] w fun e w' => e = .returned (.tuple #[MV (rotM 2 2), .bool true]) ∧ Below w.heap.size w w' := by
  have f1 : Zk (1 : Int) 8 := mg_size_le (k := 8) (by first | decide | omega)
  have f2 : Zk (0 : Int) 8 := mg_size_le (k := 8) (by first | decide | omega)
  have f3 : Zk (-1 : Int) 8 := mg_size_le (k := 8) (by first | decide | omega)
  have f4 : Xk (matE (rotF 2 (0 : Int) (-1 : Int)) 1) 1 := Xk.up ((Xk.rotE (a := 2) (t := 2) (by decide) (by decide))) (by decide)
  have f5 : Mk (rotM 2 2) 1 := Mk.up ((Mk.rot (a := 2) (n := 2) (by decide) (by decide))) (by decide)
  have H := SX.runX (w := w) (List.flatten [[.int .i64 x1, .int .i64 (IntKind.wrap .i64 ((BitVec.ofInt 64 x1 &&& BitVec.ofInt 64 3).toNat : Int))], zc (1 : Int), [.bool (sg (0 : Int)), .string (mg (0 : Int)), .int .i64 3, .int .i64 3], zc (-1 : Int), xc (matE (rotF 2 (0 : Int) (-1 : Int)) 1), mc (rotM 2 2)]) [] [] [.c (.p (.lit (.int .i64 (2)))), .c (.p (.at 0))] 1 [.ix 2, .ix 3] (.tup [.ga 42 36, .c (.p (.lit (.bool true)))]) [.prim (.binOp .and 3 (.tmp 21) (.const (.int .i64 3)) 3) 3 [(21, .one (.ca 0))] (.one (.ca 1)), .call 89 [.c (.p (.lit (.int .i64 1)))] (.one (.ga 2 2)) [], .isI 1 2, .call 89 [.c (.p (.lit (.int .i64 0)))] (.one (.ga 4 2)) [], .op2 false .add (.pa 1) (.p (.lit (.int .i64 1))) 6, .op2 false .rem (.pa 6) (.p (.lit (.int .i64 4))) 7, .isI 7 3, .call 89 [.c (.p (.lit (.int .i64 (-1))))] (.one (.ga 8 2)) [], .call 68 [.ga 2 2, .c (.fn 90 [.ptr 6 0, .ptr 7 0, .ptr 4 0, .ptr 0 0, .ptr 3 0, .ptr 5 0])] (.one (.ga 10 32)) ([(6145, .p (.lit (.int .i64 0)))] ++ [(7169, .p (.lit (.int .i64 1)))] ++ SX.number 4097 (SX.rg 4 2) ++ [(1, .p (.lit (.int .i64 2)))] ++ SX.number 3073 (SX.rg 2 2) ++ SX.number 5121 (SX.rg 8 2)), .call 49 [.ga 10 32] (.one (.ga 42 36)) []] ⟨rfl, fun b t l h => by simp at h⟩ Tryz.func30 (by kernel_rfl) rfl rfl (by kernel_rfl)
    ⟨fun w _ => rfl,
     fun γ w' _ _ => FromInt64_any 1 w' (by first | decide | omega) (by first | decide | omega),
     congrArg (Value.int .i64) (hn),
     fun γ w' _ _ => FromInt64_any 0 w' (by first | decide | omega) (by first | decide | omega),
     congrArg (fun z => some (Value.int .i64 z)) (by rw [hn]; rfl : IntKind.wrap .i64 ((IntKind.wrap .i64 ((BitVec.ofInt 64 x1 &&& BitVec.ofInt 64 3).toNat : Int)) + (1 : Int)) = 3),
     rfl,
     rfl,
     fun γ w' _ _ => FromInt64_any (-1) w' (by first | decide | omega) (by first | decide | omega),
     fun γ w' bw hm => by
      have h := afFilled (g := 90) (cl := [.pointer (some ⟨γ 6, 0, none⟩), .pointer (some ⟨γ 7, 0, none⟩), .pointer (some ⟨γ 4, 0, none⟩), .pointer (some ⟨γ 0, 0, none⟩), .pointer (some ⟨γ 3, 0, none⟩), .pointer (some ⟨γ 5, 0, none⟩)]) (d := 1) (e := rotF 2 (0 : Int) (-1 : Int)) (by kernel_rfl) w' (fun r c hr hc w2 hb2 => by have h2 := afRot_c (a := 2) (sn := (0 : Int)) (cs := (-1 : Int)) (by decide) hr hc (mg_size_le (k := 8) (by decide) : Zk (0 : Int) 8) w2 (γ 6) (γ 7) (γ 4) (γ 0) (γ 3) (γ 5) (SX.CellsAt.keep (mem_box (b := 6) (l := [.p (.lit (.int .i64 0))]) hm rfl (by kernel_rfl)) hb2) (SX.CellsAt.keep (mem_box (b := 7) (l := [.p (.lit (.int .i64 1))]) hm rfl (by kernel_rfl)) hb2) (SX.CellsAt.keep (mem_box (b := 4) (l := [.p (.at 4), .p (.at 5)]) hm rfl (by kernel_rfl)) hb2) (SX.CellsAt.keep (mem_box (b := 0) (l := [.p (.lit (.int .i64 2))]) hm rfl (by kernel_rfl)) hb2) (SX.CellsAt.keep (mem_box (b := 3) (l := [.p (.at 2), .p (.at 3)]) hm rfl (by kernel_rfl)) hb2) (SX.CellsAt.keep (mem_box (b := 5) (l := [.p (.at 8), .p (.at 9)]) hm rfl (by kernel_rfl)) hb2); exact h2)
      exact h,
     fun γ w' bw _ => by have h := afToMap f4 (by decide) w' (hT.later bw); rw [show overE (matE (rotF 2 (0 : Int) (-1 : Int)) 1) = rotM 2 2 from by decide +kernel] at h; exact h⟩
  exact H
theorem afRot_23 (x1 : Int) (w : World) (hT : TabC w) (hn : (IntKind.wrap .i64 ((BitVec.ofInt 64 x1 &&& BitVec.ofInt 64 3).toNat : Int)) = 3) :
    Calls Tryz.prog 30 #[.int .i64 2, .int .i64 x1] w fun e w' => e = .returned (.tuple #[MV (rotM 2 3), .bool true]) ∧ Below w.heap.size w w' := by
  have f1 : Zk (1 : Int) 8 := mg_size_le (k := 8) (by first | decide | omega)
  have f2 : Zk (-1 : Int) 8 := mg_size_le (k := 8) (by first | decide | omega)
  have f3 : Zk (0 : Int) 8 := mg_size_le (k := 8) (by first | decide | omega)
  have f4 : Xk (matE (rotF 2 (-1 : Int) (0 : Int)) 1) 1 := Xk.up ((Xk.rotE (a := 2) (t := 3) (by decide) (by decide))) (by decide)
  have f5 : Mk (rotM 2 3) 1 := Mk.up ((Mk.rot (a := 2) (n := 3) (by decide) (by decide))) (by decide)
  have H := SX.runX (w := w) (List.flatten [[.int .i64 x1, .int .i64 (IntKind.wrap .i64 ((BitVec.ofInt 64 x1 &&& BitVec.ofInt 64 3).toNat : Int))], zc (1 : Int), zc (-1 : Int), [.int .i64 4, .int .i64 0, .bool (sg (0 : Int)), .string (mg (0 : Int))], xc (matE (rotF 2 (-1 : Int) (0 : Int)) 1), mc (rotM 2 3)]) [] [] [.c (.p (.lit (.int .i64 (2)))), .c (.p (.at 0))] 1 [.ix 3, .ix 0] (.tup [.ga 42 36, .c (.p (.lit (.bool true)))]) [.prim (.binOp .and 3 (.tmp 21) (.const (.int .i64 3)) 3) 3 [(21, .one (.ca 0))] (.one (.ca 1)), .call 89 [.c (.p (.lit (.int .i64 1)))] (.one (.ga 2 2)) [], .isI 1 3, .call 89 [.c (.p (.lit (.int .i64 (-1))))] (.one (.ga 4 2)) [], .op2 false .add (.pa 1) (.p (.lit (.int .i64 1))) 6, .op2 false .rem (.pa 6) (.p (.lit (.int .i64 4))) 7, .isI 7 0, .call 89 [.c (.p (.lit (.int .i64 0)))] (.one (.ga 8 2)) [], .call 68 [.ga 2 2, .c (.fn 90 [.ptr 6 0, .ptr 7 0, .ptr 4 0, .ptr 0 0, .ptr 3 0, .ptr 5 0])] (.one (.ga 10 32)) ([(6145, .p (.lit (.int .i64 0)))] ++ [(7169, .p (.lit (.int .i64 1)))] ++ SX.number 4097 (SX.rg 4 2) ++ [(1, .p (.lit (.int .i64 2)))] ++ SX.number 3073 (SX.rg 2 2) ++ SX.number 5121 (SX.rg 8 2)), .call 49 [.ga 10 32] (.one (.ga 42 36)) []] ⟨rfl, fun b t l h => by simp at h⟩ Tryz.func30 (by kernel_rfl) rfl rfl (by kernel_rfl)
    ⟨fun w _ => rfl,
     fun γ w' _ _ => FromInt64_any 1 w' (by first | decide | omega) (by first | decide | omega),
     congrArg (Value.int .i64) (hn),
     fun γ w' _ _ => FromInt64_any (-1) w' (by first | decide | omega) (by first | decide | omega),
     congrArg (fun z => some (Value.int .i64 z)) (by rw [hn]; rfl : IntKind.wrap .i64 ((IntKind.wrap .i64 ((BitVec.ofInt 64 x1 &&& BitVec.ofInt 64 3).toNat : Int)) + (1 : Int)) = 4),
     rfl,
     rfl,
     fun γ w' _ _ => FromInt64_any 0 w' (by first | decide | omega) (by first | decide | omega),
     fun γ w' bw hm => by
      have h := afFilled (g := 90) (cl := [.pointer (some ⟨γ 6, 0, none⟩), .pointer (some ⟨γ 7, 0, none⟩), .pointer (some ⟨γ 4, 0, none⟩), .pointer (some ⟨γ 0, 0, none⟩), .pointer (some ⟨γ 3, 0, none⟩), .pointer (some ⟨γ 5, 0, none⟩)]) (d := 1) (e := rotF 2 (-1 : Int) (0 : Int)) (by kernel_rfl) w' (fun r c hr hc w2 hb2 => by have h2 := afRot_c (a := 2) (sn := (-1 : Int)) (cs := (0 : Int)) (by decide) hr hc (mg_size_le (k := 8) (by decide) : Zk (-1 : Int) 8) w2 (γ 6) (γ 7) (γ 4) (γ 0) (γ 3) (γ 5) (SX.CellsAt.keep (mem_box (b := 6) (l := [.p (.lit (.int .i64 0))]) hm rfl (by kernel_rfl)) hb2) (SX.CellsAt.keep (mem_box (b := 7) (l := [.p (.lit (.int .i64 1))]) hm rfl (by kernel_rfl)) hb2) (SX.CellsAt.keep (mem_box (b := 4) (l := [.p (.at 4), .p (.at 5)]) hm rfl (by kernel_rfl)) hb2) (SX.CellsAt.keep (mem_box (b := 0) (l := [.p (.lit (.int .i64 2))]) hm rfl (by kernel_rfl)) hb2) (SX.CellsAt.keep (mem_box (b := 3) (l := [.p (.at 2), .p (.at 3)]) hm rfl (by kernel_rfl)) hb2) (SX.CellsAt.keep (mem_box (b := 5) (l := [.p (.at 8), .p (.at 9)]) hm rfl (by kernel_rfl)) hb2); exact h2)
      exact h,
     fun γ w' bw _ => by have h := afToMap f4 (by decide) w' (hT.later bw); rw [show overE (matE (rotF 2 (-1 : Int) (0 : Int)) 1) = rotM 2 3 from by decide +kernel] at h; exact h⟩
  exact H
theorem afRot_x (x0 x1 : Int) (w : World) (hT : TabC w) {a : Nat} (ha : a < 3) (e : x0 = (a : Int)) :
    Calls Tryz.prog 30 #[.int .i64 x0, .int .i64 x1] w fun e w' => e = .returned (.tuple #[MV (rotM a (qt x1)), .bool true]) ∧ Below w.heap.size w w' := by
  subst e
  have h := and3 x1
  have hn := qt_lt x1
  generalize qt x1 = n at *
  rcases three ha with rfl | rfl | rfl <;> rcases four hn with rfl | rfl | rfl | rfl
  · exact afRot_00 x1 w hT h
  · exact afRot_01 x1 w hT h
  · exact afRot_02 x1 w hT h
  · exact afRot_03 x1 w hT h
  · exact afRot_10 x1 w hT h
  · exact afRot_11 x1 w hT h
  · exact afRot_12 x1 w hT h
  · exact afRot_13 x1 w hT h
  · exact afRot_20 x1 w hT h
  · exact afRot_21 x1 w hT h
  · exact afRot_22 x1 w hT h
  · exact afRot_23 x1 w hT h
end Go.Proofs.YtodcomijjmobdaaGreatDoor
