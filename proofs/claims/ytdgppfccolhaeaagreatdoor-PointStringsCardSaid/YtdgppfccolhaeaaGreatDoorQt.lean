/- voussoirref03: first, digits. -/
import Derived.Test.YtdgppfccolhaeaaGreatDoorQr
import Derived.Test.YtdgppfccolhaeaaGreatDoorStr
set_option linter.unusedVariables false
set_option linter.unusedSimpArgs false
namespace Go.Proofs.YtdgppfccolhaeaaGreatDoor
open Go.RowKit NM SX
set_option maxRecDepth 100000 in
theorem rfirst_yes (s : ByteArray) (c k0 : Nat) (w : World) (hs : s.size ≤ 1048576) (h1 : k0 < s.size) (h2 : (bts s).getD k0 0 = c) (h3 : ∀ j, j < k0 → (bts s).getD j 0 ≠ c) :
    Calls Tryz.prog 105 #[.string s, .int .u8 (c : Int)] w fun e w' => e = .returned (.int .i64 (k0 : Int)) ∧ Below w.heap.size w w' := by
  exact SX.run (w := w) [.string s, .int .u8 (c : Int), .int .i64 (k0 : Int), .int .i64 (k0 : Int)] [.lp [(4, .one (.c (.p (.at 2)))), (5, .one (.c (.p (.at 3))))] [] 4 .ret] [.c (.p (.at 0)), .c (.p (.at 1))] 2 (.one (.c (.p (.at 2)))) [SX.obAt Tryz.prog Tryz.f105 [.lp [(4, .one (.c (.p (.at 2)))), (5, .one (.c (.p (.at 3))))] [] 4 .ret] 0] Tryz.func105 (by kernel_rfl) rfl (by kernel_rfl) rfl (by kernel_rfl)
    (SX.All.one ((by
      obtain ⟨body, hbody⟩ : ∃ body : Nat → List Value, body = fun k => if k = k0 then ([.int .i64 (s.size : Int), .bool (decide ((k : Int) < (s.size : Int))), .int .u8 (((bts s).getD k 0 : Nat) : Int), .bool ((((bts s).getD k 0 : Nat) : Int) == (c : Int))] : List Value) else [.int .i64 (s.size : Int), .bool (decide ((k : Int) < (s.size : Int))), .int .u8 (((bts s).getD k 0 : Nat) : Int), .bool ((((bts s).getD k 0 : Nat) : Int) == (c : Int)), .int .i64 ((k + 1 : Nat) : Int)] := ⟨_, rfl⟩
      have hall : ∀ k, (body k).all Value.oneCell' = true := by intro k; rw [hbody]; simp only []; (repeat' split) <;> rfl
      refine SX.loop_holds (by kernel_rfl) (SX.obAt Tryz.prog Tryz.f105 [.lp [(4, .one (.c (.p (.at 2)))), (5, .one (.c (.p (.at 3))))] [] 4 .ret] 0) [(5, .one (.c (.p (.at 2))))] [] 0 2 3 (k0) (fun k => SX.env (.string s :: .int .u8 (c : Int) :: .int .i64 (k : Int) :: body k)) (fun k => SX.env_ok (by simp only [List.all_cons, hall k]; rfl)) (eT := [(.one (.c (.p (.lit (.int .i64 0)))), .one (.c (.p (.at 2))))]) (eM := []) (by kernel_rfl) (SX.eqT_cons (rfl) (SX.eqT_nil)) (SX.eqM_nil) (fun k => SX.env_agree rfl) (fun k hk => ?_)
      by_cases hc0 : k = k0
      · have eb : body k = [.int .i64 (s.size : Int), .bool (decide ((k : Int) < (s.size : Int))), .int .u8 (((bts s).getD k 0 : Nat) : Int), .bool ((((bts s).getD k 0 : Nat) : Int) == (c : Int))] := by rw [hbody]; simp only [if_pos hc0]
        subst hc0
        refine ⟨[.b true, .b true], false, [.len (.p (.at 0)) 3, .op2 false .lss (.p (.at 2)) (.p (.at 3)) 4, .isB 4 true, .prim (.index 9 (.tmp 12) (.tmp 13)) 5 [(12, .one (.c (.p (.at 0)))), (13, .one (.c (.p (.at 2))))] (.one (.c (.p (.at 5)))), .op2 false .eql (.p (.at 5)) (.p (.at 1)) 6, .isB 6 true], [(.one (.c (.p (.at 2))), .one (.c (.p (.at 2)))), (.one (.c (.p (.at 2))), .one (.c (.p (.at 3))))], [], by kernel_rfl, ?_, SX.eqT_cons (by first | rfl | (rw [eb]; rfl) | (rw [eb, hc0]; rfl) | (rw [eb]; simp)) (SX.eqT_cons (by first | rfl | (rw [eb]; rfl) | (rw [eb, hc0]; rfl) | (rw [eb]; simp)) (SX.eqT_nil)), SX.eqM_nil, fun h => absurd h (by decide)⟩
        rw [eb]
        exact SX.All.mem (l := [.len (.p (.at 0)) 3, .op2 false .lss (.p (.at 2)) (.p (.at 3)) 4, .isB 4 true, .prim (.index 9 (.tmp 12) (.tmp 13)) 5 [(12, .one (.c (.p (.at 0)))), (13, .one (.c (.p (.at 2))))] (.one (.c (.p (.at 5)))), .op2 false .eql (.p (.at 5)) (.p (.at 1)) 6, .isB 6 true]) (⟨⟨_, rfl, rfl⟩,
             rfl,
             congrArg Value.bool (decide_eq_true (by omega) : (decide ((k : Int) < (s.size : Int))) = true),
             fun w' _ => index_str rfl rfl rfl (by omega),
             rfl,
             congrArg Value.bool (by rw [h2]; exact beq_self_eq_true _ : ((((bts s).getD k 0 : Nat) : Int) == (c : Int)) = true)⟩)
      · have eb : body k = [.int .i64 (s.size : Int), .bool (decide ((k : Int) < (s.size : Int))), .int .u8 (((bts s).getD k 0 : Nat) : Int), .bool ((((bts s).getD k 0 : Nat) : Int) == (c : Int)), .int .i64 ((k + 1 : Nat) : Int)] := by rw [hbody]; simp only [if_neg hc0]
        have h4 := h3 k (by omega)
        refine ⟨[.b true, .b false], true, [.len (.p (.at 0)) 3, .op2 false .lss (.p (.at 2)) (.p (.at 3)) 4, .isB 4 true, .prim (.index 9 (.tmp 12) (.tmp 13)) 5 [(12, .one (.c (.p (.at 0)))), (13, .one (.c (.p (.at 2))))] (.one (.c (.p (.at 5)))), .op2 false .eql (.p (.at 5)) (.p (.at 1)) 6, .isB 6 false, .op2 false .add (.p (.at 2)) (.p (.lit (.int .i64 1))) 7], [(.one (.c (.p (.at 7))), .one (.c (.p (.at 2))))], [], by kernel_rfl, ?_, SX.eqT_cons (by first | rfl | (rw [eb]; rfl) | (rw [eb]; simp)) (SX.eqT_nil), SX.eqM_nil, fun _ => by omega⟩
        rw [eb]
        exact SX.All.mem (l := [.len (.p (.at 0)) 3, .op2 false .lss (.p (.at 2)) (.p (.at 3)) 4, .isB 4 true, .prim (.index 9 (.tmp 12) (.tmp 13)) 5 [(12, .one (.c (.p (.at 0)))), (13, .one (.c (.p (.at 2))))] (.one (.c (.p (.at 5)))), .op2 false .eql (.p (.at 5)) (.p (.at 1)) 6, .isB 6 false, .op2 false .add (.p (.at 2)) (.p (.lit (.int .i64 1))) 7]) (⟨⟨_, rfl, rfl⟩,
             rfl,
             congrArg Value.bool (decide_eq_true (by omega) : (decide ((k : Int) < (s.size : Int))) = true),
             fun w' _ => index_str rfl rfl rfl (by omega),
             rfl,
             congrArg Value.bool (by simp only [beq_eq_false_iff_ne]; omega : ((((bts s).getD k 0 : Nat) : Int) == (c : Int)) = false),
             congrArg (fun z => some (Value.int .i64 z)) (by rw [wrap_small (by omega) (by omega)]; omega : IntKind.wrap .i64 ((k : Int) + (1 : Int)) = ((k + 1 : Nat) : Int))⟩))))
set_option maxRecDepth 100000 in
theorem rfirst_no (s : ByteArray) (c : Nat) (w : World) (hs : s.size ≤ 1048576) (h3 : ∀ j, j < s.size → (bts s).getD j 0 ≠ c) :
    Calls Tryz.prog 105 #[.string s, .int .u8 (c : Int)] w fun e w' => e = .returned (.int .i64 (s.size : Int)) ∧ Below w.heap.size w w' := by
  exact SX.run (w := w) [.string s, .int .u8 (c : Int), .int .i64 (s.size : Int), .int .i64 (s.size : Int)] [.lp [(5, .one (.c (.p (.at 2))))] [] 3 (.exit 0)] [.c (.p (.at 0)), .c (.p (.at 1))] 2 (.one (.c (.p (.at 3)))) [SX.obAt Tryz.prog Tryz.f105 [.lp [(5, .one (.c (.p (.at 2))))] [] 3 (.exit 0)] 0, .len (.p (.at 0)) 3] Tryz.func105 (by kernel_rfl) rfl (by kernel_rfl) rfl (by kernel_rfl)
    ⟨(by
      obtain ⟨body, hbody⟩ : ∃ body : Nat → List Value, body = fun k => if k = s.size then ([.int .i64 (s.size : Int), .bool (decide ((k : Int) < (s.size : Int)))] : List Value) else [.int .i64 (s.size : Int), .bool (decide ((k : Int) < (s.size : Int))), .int .u8 (((bts s).getD k 0 : Nat) : Int), .bool ((((bts s).getD k 0 : Nat) : Int) == (c : Int)), .int .i64 ((k + 1 : Nat) : Int)] := ⟨_, rfl⟩
      have hall : ∀ k, (body k).all Value.oneCell' = true := by intro k; rw [hbody]; simp only []; (repeat' split) <;> rfl
      refine SX.loop_holds (by kernel_rfl) (SX.obAt Tryz.prog Tryz.f105 [.lp [(5, .one (.c (.p (.at 2))))] [] 3 (.exit 0)] 0) [(5, .one (.c (.p (.at 2))))] [] 0 2 3 (s.size) (fun k => SX.env (.string s :: .int .u8 (c : Int) :: .int .i64 (k : Int) :: body k)) (fun k => SX.env_ok (by simp only [List.all_cons, hall k]; rfl)) (eT := [(.one (.c (.p (.lit (.int .i64 0)))), .one (.c (.p (.at 2))))]) (eM := []) (by kernel_rfl) (SX.eqT_cons (rfl) (SX.eqT_nil)) (SX.eqM_nil) (fun k => SX.env_agree rfl) (fun k hk => ?_)
      by_cases hc0 : k = s.size
      · have eb : body k = [.int .i64 (s.size : Int), .bool (decide ((k : Int) < (s.size : Int)))] := by rw [hbody]; simp only [if_pos hc0]
        refine ⟨[.b false], false, [.len (.p (.at 0)) 3, .op2 false .lss (.p (.at 2)) (.p (.at 3)) 4, .isB 4 false], [(.one (.c (.p (.at 2))), .one (.c (.p (.at 2))))], [], by kernel_rfl, ?_, SX.eqT_cons (by first | rfl | (rw [eb]; rfl) | (rw [eb, hc0]; rfl) | (rw [eb]; simp)) (SX.eqT_nil), SX.eqM_nil, fun h => absurd h (by decide)⟩
        rw [eb]
        exact SX.All.mem (l := [.len (.p (.at 0)) 3, .op2 false .lss (.p (.at 2)) (.p (.at 3)) 4, .isB 4 false]) (⟨⟨_, rfl, rfl⟩,
             rfl,
             congrArg Value.bool (decide_eq_false (by omega) : (decide ((k : Int) < (s.size : Int))) = false)⟩)
      · have eb : body k = [.int .i64 (s.size : Int), .bool (decide ((k : Int) < (s.size : Int))), .int .u8 (((bts s).getD k 0 : Nat) : Int), .bool ((((bts s).getD k 0 : Nat) : Int) == (c : Int)), .int .i64 ((k + 1 : Nat) : Int)] := by rw [hbody]; simp only [if_neg hc0]
        have h4 := h3 k (by omega)
        refine ⟨[.b true, .b false], true, [.len (.p (.at 0)) 3, .op2 false .lss (.p (.at 2)) (.p (.at 3)) 4, .isB 4 true, .prim (.index 9 (.tmp 12) (.tmp 13)) 5 [(12, .one (.c (.p (.at 0)))), (13, .one (.c (.p (.at 2))))] (.one (.c (.p (.at 5)))), .op2 false .eql (.p (.at 5)) (.p (.at 1)) 6, .isB 6 false, .op2 false .add (.p (.at 2)) (.p (.lit (.int .i64 1))) 7], [(.one (.c (.p (.at 7))), .one (.c (.p (.at 2))))], [], by kernel_rfl, ?_, SX.eqT_cons (by first | rfl | (rw [eb]; rfl) | (rw [eb]; simp)) (SX.eqT_nil), SX.eqM_nil, fun _ => by omega⟩
        rw [eb]
        exact SX.All.mem (l := [.len (.p (.at 0)) 3, .op2 false .lss (.p (.at 2)) (.p (.at 3)) 4, .isB 4 true, .prim (.index 9 (.tmp 12) (.tmp 13)) 5 [(12, .one (.c (.p (.at 0)))), (13, .one (.c (.p (.at 2))))] (.one (.c (.p (.at 5)))), .op2 false .eql (.p (.at 5)) (.p (.at 1)) 6, .isB 6 false, .op2 false .add (.p (.at 2)) (.p (.lit (.int .i64 1))) 7]) (⟨⟨_, rfl, rfl⟩,
             rfl,
             congrArg Value.bool (decide_eq_true (by omega) : (decide ((k : Int) < (s.size : Int))) = true),
             fun w' _ => index_str rfl rfl rfl (by omega),
             rfl,
             congrArg Value.bool (by simp only [beq_eq_false_iff_ne]; omega : ((((bts s).getD k 0 : Nat) : Int) == (c : Int)) = false),
             congrArg (fun z => some (Value.int .i64 z)) (by rw [wrap_small (by omega) (by omega)]; omega : IntKind.wrap .i64 ((k : Int) + (1 : Int)) = ((k + 1 : Nat) : Int))⟩)),
     ⟨_, rfl, rfl⟩⟩
set_option maxRecDepth 100000 in
theorem rdigits_yes (s : ByteArray) (w : World) (hs : s.size ≤ 1000) (hd : allDig (bts s) = true) :
    Calls Tryz.prog 106 #[.string s] w fun e w' => e = .returned (.tuple #[Z ((decVal (bts s) : Nat) : Int), .bool (decide ((s.size : Int) > 0))]) ∧ Below w.heap.size w w' := by
  have f1 : (mg (0 : Int)).size ≤ 8 := mg_size_le (by first | decide | omega)
  exact SX.run (w := w) [.string s, .bool (sg (0 : Int)), .string (mg (0 : Int)), .int .i64 (s.size : Int), .bool (sg ((decVal (bts s) : Nat) : Int)), .string (mg ((decVal (bts s) : Nat) : Int)), .int .i64 (s.size : Int), .bool (decide ((s.size : Int) > (0 : Int)))] [.lp [(5, .one (.c (.p (.at 3))))] [(1025, .p (.at 4)), (1026, .p (.at 5))] 6 (.exit 0)] [.c (.p (.at 0))] 1 (.tup [.agg [.p (.at 4), .p (.at 5)], .c (.p (.at 7))]) [.call 38 [.c (.p (.lit (.int .i64 0)))] (.one (.agg [.p (.at 1), .p (.at 2)])) [], SX.obAt Tryz.prog Tryz.f106 [.lp [(5, .one (.c (.p (.at 3))))] [(1025, .p (.at 4)), (1026, .p (.at 5))] 6 (.exit 0)] 1, .len (.p (.at 0)) 6, .op2 false .gtr (.p (.at 6)) (.p (.lit (.int .i64 0))) 7] Tryz.func106 (by kernel_rfl) rfl (by kernel_rfl) rfl (by kernel_rfl)
    ⟨fun γ w' _ _ => From_any 0 w' (by omega) (by omega),
     (by
      obtain ⟨body, hbody⟩ : ∃ body : Nat → List Value, body = fun k => if k = s.size then ([.int .i64 (s.size : Int), .bool (decide ((k : Int) < (s.size : Int)))] : List Value) else [.int .i64 (s.size : Int), .bool (decide ((k : Int) < (s.size : Int))), .int .u8 (((bts s).getD k 0 : Nat) : Int), .bool (decide ((((bts s).getD k 0 : Nat) : Int) < (48 : Int))), .int .u8 (((bts s).getD k 0 : Nat) : Int), .bool (decide ((((bts s).getD k 0 : Nat) : Int) > (57 : Int))), .bool (sg (10 : Int)), .string (mg (10 : Int)), .bool (sg (((decVal ((bts s).take k) : Nat) : Int) * (10 : Int))), .string (mg (((decVal ((bts s).take k) : Nat) : Int) * (10 : Int))), .int .u8 (((bts s).getD k 0 : Nat) : Int), .int .u8 (((bts s).getD k 0 - 48 : Nat) : Int), .int .i64 (((bts s).getD k 0 - 48 : Nat) : Int), .bool (sg (((bts s).getD k 0 - 48 : Nat) : Int)), .string (mg (((bts s).getD k 0 - 48 : Nat) : Int)), .bool (sg ((decVal ((bts s).take (k + 1)) : Nat) : Int)), .string (mg ((decVal ((bts s).take (k + 1)) : Nat) : Int)), .int .i64 ((k + 1 : Nat) : Int)] := ⟨_, rfl⟩
      have hall : ∀ k, (body k).all Value.oneCell' = true := by intro k; rw [hbody]; simp only []; (repeat' split) <;> rfl
      refine SX.loop_holds (by kernel_rfl) (SX.obAt Tryz.prog Tryz.f106 [.lp [(5, .one (.c (.p (.at 3))))] [(1025, .p (.at 4)), (1026, .p (.at 5))] 6 (.exit 0)] 1) [(5, .one (.c (.p (.at 3))))] [(1025, .p (.at 4)), (1026, .p (.at 5))] 2 3 6 (s.size) (fun k => SX.env (.string s :: .bool (sg (0 : Int)) :: .string (mg (0 : Int)) :: .int .i64 (k : Int) :: .bool (sg ((decVal ((bts s).take k) : Nat) : Int)) :: .string (mg ((decVal ((bts s).take k) : Nat) : Int)) :: body k)) (fun k => SX.env_ok (by simp only [List.all_cons, hall k]; rfl)) (eT := [(.one (.c (.p (.lit (.int .i64 0)))), .one (.c (.p (.at 3))))]) (eM := [(.p (.at 1), .p (.at 4)), (.p (.at 2), .p (.at 5))]) (by kernel_rfl) (SX.eqT_cons (rfl) (SX.eqT_nil)) (SX.eqM_cons (rfl) (SX.eqM_cons (rfl) (SX.eqM_nil))) (fun k => SX.env_agree rfl) (fun k hk => ?_)
      by_cases hc0 : k = s.size
      · have eb : body k = [.int .i64 (s.size : Int), .bool (decide ((k : Int) < (s.size : Int)))] := by rw [hbody]; simp only [if_pos hc0]
        have htk : (bts s).take k = bts s := List.take_of_length_le (by rw [bts_length]; omega)
        refine ⟨[.b false], false, [.len (.p (.at 0)) 6, .op2 false .lss (.p (.at 3)) (.p (.at 6)) 7, .isB 7 false], [(.one (.c (.p (.at 3))), .one (.c (.p (.at 3))))], [(.p (.at 4), .p (.at 4)), (.p (.at 5), .p (.at 5))], by kernel_rfl, ?_, SX.eqT_cons (by first | rfl | (rw [eb]; rfl) | (rw [eb, hc0]; rfl) | (rw [eb]; simp)) (SX.eqT_nil), SX.eqM_cons (by rw [eb, htk]; rfl) (SX.eqM_cons (by rw [eb, htk]; rfl) (SX.eqM_nil)), fun h => absurd h (by decide)⟩
        rw [eb]
        exact SX.All.mem (l := [.len (.p (.at 0)) 6, .op2 false .lss (.p (.at 3)) (.p (.at 6)) 7, .isB 7 false]) (⟨⟨_, rfl, rfl⟩,
             rfl,
             congrArg Value.bool (decide_eq_false (by omega) : (decide ((k : Int) < (s.size : Int))) = false)⟩)
      · have eb : body k = [.int .i64 (s.size : Int), .bool (decide ((k : Int) < (s.size : Int))), .int .u8 (((bts s).getD k 0 : Nat) : Int), .bool (decide ((((bts s).getD k 0 : Nat) : Int) < (48 : Int))), .int .u8 (((bts s).getD k 0 : Nat) : Int), .bool (decide ((((bts s).getD k 0 : Nat) : Int) > (57 : Int))), .bool (sg (10 : Int)), .string (mg (10 : Int)), .bool (sg (((decVal ((bts s).take k) : Nat) : Int) * (10 : Int))), .string (mg (((decVal ((bts s).take k) : Nat) : Int) * (10 : Int))), .int .u8 (((bts s).getD k 0 : Nat) : Int), .int .u8 (((bts s).getD k 0 - 48 : Nat) : Int), .int .i64 (((bts s).getD k 0 - 48 : Nat) : Int), .bool (sg (((bts s).getD k 0 - 48 : Nat) : Int)), .string (mg (((bts s).getD k 0 - 48 : Nat) : Int)), .bool (sg ((decVal ((bts s).take (k + 1)) : Nat) : Int)), .string (mg ((decVal ((bts s).take (k + 1)) : Nat) : Int)), .int .i64 ((k + 1 : Nat) : Int)] := by rw [hbody]; simp only [if_neg hc0]
        have hk1 : k < s.size := by omega
        have hdg := allDig_get hd (show k < (bts s).length by rw [bts_length]; exact hk1)
        have hlt := bts_lt s ((bts s).getD k 0) (by rw [List.getD_eq_getElem?_getD, List.getElem?_eq_getElem (by rw [bts_length]; exact hk1)]; exact List.getElem_mem _)
        have fD : (mg ((decVal ((bts s).take k) : Nat) : Int)).size ≤ 1000 := Nat.le_trans (mg_size_le (Nat.lt_of_lt_of_le (decVal_lt _ (fun x hx => allDig_le hd x (List.mem_of_mem_take hx))) (pow10_le _))) (by rw [List.length_take, bts_length]; omega)
        have fE : (mg (((decVal ((bts s).take k) : Nat) : Int) * (10 : Int))).size ≤ 1001 := mg_mul_size (k := 1) fD (mg_size_le (by decide))
        have hst : ((decVal ((bts s).take k) : Nat) : Int) * (10 : Int) + (((bts s).getD k 0 - 48 : Nat) : Int) = ((decVal ((bts s).take (k + 1)) : Nat) : Int) := by rw [decVal_take (by rw [bts_length]; exact hk1)]; omega
        have f1 : (mg (((bts s).getD k 0 - 48 : Nat) : Int)).size ≤ 1 := mg_size_le (by show ((bts s).getD k 0 - 48 : Nat) < 256 ^ 1; omega)
        have f202 : (mg (10 : Int)).size ≤ 8 := mg_size_le (by first | decide | omega)
        have f203 : (mg (((bts s).getD k 0 - 48 : Nat) : Int)).size ≤ 8 := mg_size_le (by first | decide | omega)
        refine ⟨[.b true, .b false, .b false], true, [.len (.p (.at 0)) 6, .op2 false .lss (.p (.at 3)) (.p (.at 6)) 7, .isB 7 true, .prim (.index 9 (.tmp 13) (.tmp 14)) 5 [(13, .one (.c (.p (.at 0)))), (14, .one (.c (.p (.at 3))))] (.one (.c (.p (.at 8)))), .op2 false .lss (.p (.at 8)) (.p (.lit (.int .u8 48))) 9, .isB 9 false, .prim (.index 9 (.tmp 18) (.tmp 19)) 5 [(18, .one (.c (.p (.at 0)))), (19, .one (.c (.p (.at 3)))), (17, .one (.c (.p (.at 9))))] (.one (.c (.p (.at 10)))), .op2 false .gtr (.p (.at 10)) (.p (.lit (.int .u8 57))) 11, .isB 11 false, .call 38 [.c (.p (.lit (.int .i64 10)))] (.one (.agg [.p (.at 12), .p (.at 13)])) [], .call 37 [.agg [.p (.at 4), .p (.at 5)], .agg [.p (.at 12), .p (.at 13)]] (.one (.agg [.p (.at 14), .p (.at 15)])) [], .prim (.index 9 (.tmp 27) (.tmp 28)) 5 [(27, .one (.c (.p (.at 0)))), (28, .one (.c (.p (.at 3))))] (.one (.c (.p (.at 16)))), .op2 false .sub (.p (.at 16)) (.p (.lit (.int .u8 48))) 17, .cvt .i64 (.p (.at 17)) 18, .call 38 [.c (.p (.at 18))] (.one (.agg [.p (.at 19), .p (.at 20)])) [], .call 82 [.agg [.p (.at 14), .p (.at 15)], .agg [.p (.at 19), .p (.at 20)]] (.one (.agg [.p (.at 21), .p (.at 22)])) [], .op2 false .add (.p (.at 3)) (.p (.lit (.int .i64 1))) 23], [(.one (.c (.p (.at 23))), .one (.c (.p (.at 3))))], [(.p (.at 21), .p (.at 4)), (.p (.at 22), .p (.at 5))], by kernel_rfl, ?_, SX.eqT_cons (by first | rfl | (rw [eb]; rfl) | (rw [eb]; simp)) (SX.eqT_nil), SX.eqM_cons (by first | rfl | (rw [eb]; rfl) | (rw [eb]; simp)) (SX.eqM_cons (by first | rfl | (rw [eb]; rfl) | (rw [eb]; simp)) (SX.eqM_nil)), fun _ => by omega⟩
        rw [eb]
        exact SX.All.mem (l := [.len (.p (.at 0)) 6, .op2 false .lss (.p (.at 3)) (.p (.at 6)) 7, .isB 7 true, .prim (.index 9 (.tmp 13) (.tmp 14)) 5 [(13, .one (.c (.p (.at 0)))), (14, .one (.c (.p (.at 3))))] (.one (.c (.p (.at 8)))), .op2 false .lss (.p (.at 8)) (.p (.lit (.int .u8 48))) 9, .isB 9 false, .prim (.index 9 (.tmp 18) (.tmp 19)) 5 [(18, .one (.c (.p (.at 0)))), (19, .one (.c (.p (.at 3)))), (17, .one (.c (.p (.at 9))))] (.one (.c (.p (.at 10)))), .op2 false .gtr (.p (.at 10)) (.p (.lit (.int .u8 57))) 11, .isB 11 false, .call 38 [.c (.p (.lit (.int .i64 10)))] (.one (.agg [.p (.at 12), .p (.at 13)])) [], .call 37 [.agg [.p (.at 4), .p (.at 5)], .agg [.p (.at 12), .p (.at 13)]] (.one (.agg [.p (.at 14), .p (.at 15)])) [], .prim (.index 9 (.tmp 27) (.tmp 28)) 5 [(27, .one (.c (.p (.at 0)))), (28, .one (.c (.p (.at 3))))] (.one (.c (.p (.at 16)))), .op2 false .sub (.p (.at 16)) (.p (.lit (.int .u8 48))) 17, .cvt .i64 (.p (.at 17)) 18, .call 38 [.c (.p (.at 18))] (.one (.agg [.p (.at 19), .p (.at 20)])) [], .call 82 [.agg [.p (.at 14), .p (.at 15)], .agg [.p (.at 19), .p (.at 20)]] (.one (.agg [.p (.at 21), .p (.at 22)])) [], .op2 false .add (.p (.at 3)) (.p (.lit (.int .i64 1))) 23]) (⟨⟨_, rfl, rfl⟩,
             rfl,
             congrArg Value.bool (decide_eq_true (by omega) : (decide ((k : Int) < (s.size : Int))) = true),
             fun w' _ => index_str rfl rfl rfl (by omega),
             rfl,
             congrArg Value.bool (decide_eq_false (by omega) : (decide ((((bts s).getD k 0 : Nat) : Int) < (48 : Int))) = false),
             fun w' _ => index_str rfl rfl rfl (by omega),
             rfl,
             congrArg Value.bool (decide_eq_false (by omega) : (decide ((((bts s).getD k 0 : Nat) : Int) > (57 : Int))) = false),
             fun γ w' _ _ => From_any 10 w' (by omega) (by omega),
             fun γ w' _ _ => by have h := refMul2_any (sg ((decVal ((bts s).take k) : Nat) : Int)) (sg (10 : Int)) (mg ((decVal ((bts s).take k) : Nat) : Int)) (mg (10 : Int)) w' (by omega) (by have : (mg (10 : Int)).size ≤ 1 := mg_size_le (by decide); omega); simp only [iv_Z] at h; exact h,
             fun w' _ => index_str rfl rfl rfl (by omega),
             congrArg (fun z => some (Value.int .u8 z)) (by rw [IntKind.wrap_u8]; omega : IntKind.wrap .u8 ((((bts s).getD k 0 : Nat) : Int) - (48 : Int)) = (((bts s).getD k 0 - 48 : Nat) : Int)),
             ⟨_, _, rfl, congrArg (Value.int .i64) (by rw [wrap_small (by omega) (by omega)] : (((bts s).getD k 0 - 48 : Nat) : Int) = IntKind.wrap .i64 (((bts s).getD k 0 - 48 : Nat) : Int))⟩,
             fun γ w' _ _ => From_any (((bts s).getD k 0 - 48 : Nat) : Int) w' (by omega) (by omega),
             fun γ w' _ _ => by have h := refAdd2_any (sg (((decVal ((bts s).take k) : Nat) : Int) * (10 : Int))) (sg (((bts s).getD k 0 - 48 : Nat) : Int)) (mg (((decVal ((bts s).take k) : Nat) : Int) * (10 : Int))) (mg (((bts s).getD k 0 - 48 : Nat) : Int)) w' (by omega) (by omega); simp only [iv_Z] at h; rw [hst] at h; exact h,
             congrArg (fun z => some (Value.int .i64 z)) (by rw [wrap_small (by omega) (by omega)]; omega : IntKind.wrap .i64 ((k : Int) + (1 : Int)) = ((k + 1 : Nat) : Int))⟩)),
     ⟨_, rfl, rfl⟩,
     rfl⟩
set_option maxRecDepth 100000 in
theorem rdigits_lo (s : ByteArray) (k0 : Nat) (w : World) (hs : s.size ≤ 1000) (h1 : k0 < s.size) (h2 : (bts s).getD k0 0 < 48) (h3 : ∀ j, j < k0 → 48 ≤ (bts s).getD j 0 ∧ (bts s).getD j 0 ≤ 57) :
    Calls Tryz.prog 106 #[.string s] w fun e w' => e = .returned (.tuple #[I2 false ⟨#[]⟩, .bool false]) ∧ Below w.heap.size w w' := by
  have htake : ∀ k, k ≤ k0 → ∀ x ∈ (bts s).take k, x ≤ 57 := by
    intro k hk x hx
    obtain ⟨j, hj, rfl⟩ := List.getElem_of_mem hx
    rw [List.length_take] at hj
    have := (h3 j (by omega)).2
    rw [List.getD_eq_getElem?_getD, List.getElem?_eq_getElem (by omega)] at this
    rw [List.getElem_take]
    exact this
  have f1 : (mg (0 : Int)).size ≤ 8 := mg_size_le (by first | decide | omega)
  exact SX.run (w := w) [.string s, .bool (sg (0 : Int)), .string (mg (0 : Int)), .int .i64 (k0 : Int), .bool (sg ((decVal ((bts s).take k0) : Nat) : Int)), .string (mg ((decVal ((bts s).take k0) : Nat) : Int))] [.lp [(3, .one (.c (.p (.lit (.bool false))))), (5, .one (.c (.p (.at 3))))] [(1, .p (.lit (.bool false))), (2, .p (.lit (.string ⟨#[]⟩))), (1025, .p (.at 4)), (1026, .p (.at 5))] 6 .ret] [.c (.p (.at 0))] 1 (.tup [.agg [.p (.lit (.bool false)), .p (.lit (.string ⟨#[]⟩))], .c (.p (.lit (.bool false)))]) [.call 38 [.c (.p (.lit (.int .i64 0)))] (.one (.agg [.p (.at 1), .p (.at 2)])) [], SX.obAt Tryz.prog Tryz.f106 [.lp [(3, .one (.c (.p (.lit (.bool false))))), (5, .one (.c (.p (.at 3))))] [(1, .p (.lit (.bool false))), (2, .p (.lit (.string ⟨#[]⟩))), (1025, .p (.at 4)), (1026, .p (.at 5))] 6 .ret] 1] Tryz.func106 (by kernel_rfl) rfl (by kernel_rfl) rfl (by kernel_rfl)
    ⟨fun γ w' _ _ => From_any 0 w' (by omega) (by omega),
     (by
      obtain ⟨body, hbody⟩ : ∃ body : Nat → List Value, body = fun k => if k = k0 then ([.int .i64 (s.size : Int), .bool (decide ((k : Int) < (s.size : Int))), .int .u8 (((bts s).getD k 0 : Nat) : Int), .bool (decide ((((bts s).getD k 0 : Nat) : Int) < (48 : Int)))] : List Value) else [.int .i64 (s.size : Int), .bool (decide ((k : Int) < (s.size : Int))), .int .u8 (((bts s).getD k 0 : Nat) : Int), .bool (decide ((((bts s).getD k 0 : Nat) : Int) < (48 : Int))), .int .u8 (((bts s).getD k 0 : Nat) : Int), .bool (decide ((((bts s).getD k 0 : Nat) : Int) > (57 : Int))), .bool (sg (10 : Int)), .string (mg (10 : Int)), .bool (sg (((decVal ((bts s).take k) : Nat) : Int) * (10 : Int))), .string (mg (((decVal ((bts s).take k) : Nat) : Int) * (10 : Int))), .int .u8 (((bts s).getD k 0 : Nat) : Int), .int .u8 (((bts s).getD k 0 - 48 : Nat) : Int), .int .i64 (((bts s).getD k 0 - 48 : Nat) : Int), .bool (sg (((bts s).getD k 0 - 48 : Nat) : Int)), .string (mg (((bts s).getD k 0 - 48 : Nat) : Int)), .bool (sg ((decVal ((bts s).take (k + 1)) : Nat) : Int)), .string (mg ((decVal ((bts s).take (k + 1)) : Nat) : Int)), .int .i64 ((k + 1 : Nat) : Int)] := ⟨_, rfl⟩
      have hall : ∀ k, (body k).all Value.oneCell' = true := by intro k; rw [hbody]; simp only []; (repeat' split) <;> rfl
      refine SX.loop_holds (by kernel_rfl) (SX.obAt Tryz.prog Tryz.f106 [.lp [(3, .one (.c (.p (.lit (.bool false))))), (5, .one (.c (.p (.at 3))))] [(1, .p (.lit (.bool false))), (2, .p (.lit (.string ⟨#[]⟩))), (1025, .p (.at 4)), (1026, .p (.at 5))] 6 .ret] 1) [(5, .one (.c (.p (.at 3))))] [(1, .p (.at 4)), (2, .p (.at 5)), (1025, .p (.at 6)), (1026, .p (.at 7))] 2 3 8 (k0) (fun k => SX.env (.string s :: .bool (sg (0 : Int)) :: .string (mg (0 : Int)) :: .int .i64 (k : Int) :: .bool false :: .string ⟨#[]⟩ :: .bool (sg ((decVal ((bts s).take k) : Nat) : Int)) :: .string (mg ((decVal ((bts s).take k) : Nat) : Int)) :: body k)) (fun k => SX.env_ok (by simp only [List.all_cons, hall k]; rfl)) (eT := [(.one (.c (.p (.lit (.int .i64 0)))), .one (.c (.p (.at 3))))]) (eM := [(.p (.lit (.bool false)), .p (.at 4)), (.p (.lit (.string ⟨#[]⟩)), .p (.at 5)), (.p (.at 1), .p (.at 6)), (.p (.at 2), .p (.at 7))]) (by kernel_rfl) (SX.eqT_cons (rfl) (SX.eqT_nil)) (SX.eqM_cons (rfl) (SX.eqM_cons (rfl) (SX.eqM_cons (rfl) (SX.eqM_cons (rfl) (SX.eqM_nil))))) (fun k => SX.env_agree rfl) (fun k hk => ?_)
      by_cases hc0 : k = k0
      · have eb : body k = [.int .i64 (s.size : Int), .bool (decide ((k : Int) < (s.size : Int))), .int .u8 (((bts s).getD k 0 : Nat) : Int), .bool (decide ((((bts s).getD k 0 : Nat) : Int) < (48 : Int)))] := by rw [hbody]; simp only [if_pos hc0]
        subst hc0
        refine ⟨[.b true, .b true], false, [.len (.p (.at 0)) 8, .op2 false .lss (.p (.at 3)) (.p (.at 8)) 9, .isB 9 true, .prim (.index 9 (.tmp 13) (.tmp 14)) 5 [(13, .one (.c (.p (.at 0)))), (14, .one (.c (.p (.at 3))))] (.one (.c (.p (.at 10)))), .op2 false .lss (.p (.at 10)) (.p (.lit (.int .u8 48))) 11, .isB 11 true], [(.one (.c (.p (.lit (.bool false)))), .one (.c (.p (.lit (.bool false))))), (.one (.c (.p (.at 3))), .one (.c (.p (.at 3))))], [(.p (.lit (.bool false)), .p (.lit (.bool false))), (.p (.lit (.string ⟨#[]⟩)), .p (.lit (.string ⟨#[]⟩))), (.p (.at 6), .p (.at 4)), (.p (.at 7), .p (.at 5))], by kernel_rfl, ?_, SX.eqT_cons (by first | rfl | (rw [eb]; rfl) | (rw [eb, hc0]; rfl) | (rw [eb]; simp)) (SX.eqT_cons (by first | rfl | (rw [eb]; rfl) | (rw [eb, hc0]; rfl) | (rw [eb]; simp)) (SX.eqT_nil)), SX.eqM_cons (by first | rfl | (rw [eb]; rfl) | (rw [eb, hc0]; rfl) | (rw [eb]; simp)) (SX.eqM_cons (by first | rfl | (rw [eb]; rfl) | (rw [eb, hc0]; rfl) | (rw [eb]; simp)) (SX.eqM_cons (by first | rfl | (rw [eb]; rfl) | (rw [eb, hc0]; rfl) | (rw [eb]; simp)) (SX.eqM_cons (by first | rfl | (rw [eb]; rfl) | (rw [eb, hc0]; rfl) | (rw [eb]; simp)) (SX.eqM_nil)))), fun h => absurd h (by decide)⟩
        rw [eb]
        exact SX.All.mem (l := [.len (.p (.at 0)) 8, .op2 false .lss (.p (.at 3)) (.p (.at 8)) 9, .isB 9 true, .prim (.index 9 (.tmp 13) (.tmp 14)) 5 [(13, .one (.c (.p (.at 0)))), (14, .one (.c (.p (.at 3))))] (.one (.c (.p (.at 10)))), .op2 false .lss (.p (.at 10)) (.p (.lit (.int .u8 48))) 11, .isB 11 true]) (⟨⟨_, rfl, rfl⟩,
             rfl,
             congrArg Value.bool (decide_eq_true (by omega) : (decide ((k : Int) < (s.size : Int))) = true),
             fun w' _ => index_str rfl rfl rfl (by omega),
             rfl,
             congrArg Value.bool (decide_eq_true (by omega) : (decide ((((bts s).getD k 0 : Nat) : Int) < (48 : Int))) = true)⟩)
      · have eb : body k = [.int .i64 (s.size : Int), .bool (decide ((k : Int) < (s.size : Int))), .int .u8 (((bts s).getD k 0 : Nat) : Int), .bool (decide ((((bts s).getD k 0 : Nat) : Int) < (48 : Int))), .int .u8 (((bts s).getD k 0 : Nat) : Int), .bool (decide ((((bts s).getD k 0 : Nat) : Int) > (57 : Int))), .bool (sg (10 : Int)), .string (mg (10 : Int)), .bool (sg (((decVal ((bts s).take k) : Nat) : Int) * (10 : Int))), .string (mg (((decVal ((bts s).take k) : Nat) : Int) * (10 : Int))), .int .u8 (((bts s).getD k 0 : Nat) : Int), .int .u8 (((bts s).getD k 0 - 48 : Nat) : Int), .int .i64 (((bts s).getD k 0 - 48 : Nat) : Int), .bool (sg (((bts s).getD k 0 - 48 : Nat) : Int)), .string (mg (((bts s).getD k 0 - 48 : Nat) : Int)), .bool (sg ((decVal ((bts s).take (k + 1)) : Nat) : Int)), .string (mg ((decVal ((bts s).take (k + 1)) : Nat) : Int)), .int .i64 ((k + 1 : Nat) : Int)] := by rw [hbody]; simp only [if_neg hc0]
        have hk1 : k < s.size := by omega
        have hdg := h3 k (by omega)
        have hlt := bts_lt s ((bts s).getD k 0) (by rw [List.getD_eq_getElem?_getD, List.getElem?_eq_getElem (by rw [bts_length]; exact hk1)]; exact List.getElem_mem _)
        have fD : (mg ((decVal ((bts s).take k) : Nat) : Int)).size ≤ 1000 := Nat.le_trans (mg_size_le (Nat.lt_of_lt_of_le (decVal_lt _ (htake k (by omega))) (pow10_le _))) (by rw [List.length_take, bts_length]; omega)
        have fE : (mg (((decVal ((bts s).take k) : Nat) : Int) * (10 : Int))).size ≤ 1001 := mg_mul_size (k := 1) fD (mg_size_le (by decide))
        have hst : ((decVal ((bts s).take k) : Nat) : Int) * (10 : Int) + (((bts s).getD k 0 - 48 : Nat) : Int) = ((decVal ((bts s).take (k + 1)) : Nat) : Int) := by rw [decVal_take (by rw [bts_length]; exact hk1)]; omega
        have f1 : (mg (((bts s).getD k 0 - 48 : Nat) : Int)).size ≤ 1 := mg_size_le (by show ((bts s).getD k 0 - 48 : Nat) < 256 ^ 1; omega)
        have f202 : (mg (10 : Int)).size ≤ 8 := mg_size_le (by first | decide | omega)
        have f203 : (mg (((bts s).getD k 0 - 48 : Nat) : Int)).size ≤ 8 := mg_size_le (by first | decide | omega)
        refine ⟨[.b true, .b false, .b false], true, [.len (.p (.at 0)) 8, .op2 false .lss (.p (.at 3)) (.p (.at 8)) 9, .isB 9 true, .prim (.index 9 (.tmp 13) (.tmp 14)) 5 [(13, .one (.c (.p (.at 0)))), (14, .one (.c (.p (.at 3))))] (.one (.c (.p (.at 10)))), .op2 false .lss (.p (.at 10)) (.p (.lit (.int .u8 48))) 11, .isB 11 false, .prim (.index 9 (.tmp 18) (.tmp 19)) 5 [(18, .one (.c (.p (.at 0)))), (19, .one (.c (.p (.at 3)))), (17, .one (.c (.p (.at 11))))] (.one (.c (.p (.at 12)))), .op2 false .gtr (.p (.at 12)) (.p (.lit (.int .u8 57))) 13, .isB 13 false, .call 38 [.c (.p (.lit (.int .i64 10)))] (.one (.agg [.p (.at 14), .p (.at 15)])) [], .call 37 [.agg [.p (.at 6), .p (.at 7)], .agg [.p (.at 14), .p (.at 15)]] (.one (.agg [.p (.at 16), .p (.at 17)])) [], .prim (.index 9 (.tmp 27) (.tmp 28)) 5 [(27, .one (.c (.p (.at 0)))), (28, .one (.c (.p (.at 3))))] (.one (.c (.p (.at 18)))), .op2 false .sub (.p (.at 18)) (.p (.lit (.int .u8 48))) 19, .cvt .i64 (.p (.at 19)) 20, .call 38 [.c (.p (.at 20))] (.one (.agg [.p (.at 21), .p (.at 22)])) [], .call 82 [.agg [.p (.at 16), .p (.at 17)], .agg [.p (.at 21), .p (.at 22)]] (.one (.agg [.p (.at 23), .p (.at 24)])) [], .op2 false .add (.p (.at 3)) (.p (.lit (.int .i64 1))) 25], [(.one (.c (.p (.at 25))), .one (.c (.p (.at 3))))], [(.p (.at 4), .p (.at 4)), (.p (.at 5), .p (.at 5)), (.p (.at 23), .p (.at 6)), (.p (.at 24), .p (.at 7))], by kernel_rfl, ?_, SX.eqT_cons (by first | rfl | (rw [eb]; rfl) | (rw [eb]; simp)) (SX.eqT_nil), SX.eqM_cons (by first | rfl | (rw [eb]; rfl) | (rw [eb]; simp)) (SX.eqM_cons (by first | rfl | (rw [eb]; rfl) | (rw [eb]; simp)) (SX.eqM_cons (by first | rfl | (rw [eb]; rfl) | (rw [eb]; simp)) (SX.eqM_cons (by first | rfl | (rw [eb]; rfl) | (rw [eb]; simp)) (SX.eqM_nil)))), fun _ => by omega⟩
        rw [eb]
        exact SX.All.mem (l := [.len (.p (.at 0)) 8, .op2 false .lss (.p (.at 3)) (.p (.at 8)) 9, .isB 9 true, .prim (.index 9 (.tmp 13) (.tmp 14)) 5 [(13, .one (.c (.p (.at 0)))), (14, .one (.c (.p (.at 3))))] (.one (.c (.p (.at 10)))), .op2 false .lss (.p (.at 10)) (.p (.lit (.int .u8 48))) 11, .isB 11 false, .prim (.index 9 (.tmp 18) (.tmp 19)) 5 [(18, .one (.c (.p (.at 0)))), (19, .one (.c (.p (.at 3)))), (17, .one (.c (.p (.at 11))))] (.one (.c (.p (.at 12)))), .op2 false .gtr (.p (.at 12)) (.p (.lit (.int .u8 57))) 13, .isB 13 false, .call 38 [.c (.p (.lit (.int .i64 10)))] (.one (.agg [.p (.at 14), .p (.at 15)])) [], .call 37 [.agg [.p (.at 6), .p (.at 7)], .agg [.p (.at 14), .p (.at 15)]] (.one (.agg [.p (.at 16), .p (.at 17)])) [], .prim (.index 9 (.tmp 27) (.tmp 28)) 5 [(27, .one (.c (.p (.at 0)))), (28, .one (.c (.p (.at 3))))] (.one (.c (.p (.at 18)))), .op2 false .sub (.p (.at 18)) (.p (.lit (.int .u8 48))) 19, .cvt .i64 (.p (.at 19)) 20, .call 38 [.c (.p (.at 20))] (.one (.agg [.p (.at 21), .p (.at 22)])) [], .call 82 [.agg [.p (.at 16), .p (.at 17)], .agg [.p (.at 21), .p (.at 22)]] (.one (.agg [.p (.at 23), .p (.at 24)])) [], .op2 false .add (.p (.at 3)) (.p (.lit (.int .i64 1))) 25]) (⟨⟨_, rfl, rfl⟩,
             rfl,
             congrArg Value.bool (decide_eq_true (by omega) : (decide ((k : Int) < (s.size : Int))) = true),
             fun w' _ => index_str rfl rfl rfl (by omega),
             rfl,
             congrArg Value.bool (decide_eq_false (by omega) : (decide ((((bts s).getD k 0 : Nat) : Int) < (48 : Int))) = false),
             fun w' _ => index_str rfl rfl rfl (by omega),
             rfl,
             congrArg Value.bool (decide_eq_false (by omega) : (decide ((((bts s).getD k 0 : Nat) : Int) > (57 : Int))) = false),
             fun γ w' _ _ => From_any 10 w' (by omega) (by omega),
             fun γ w' _ _ => by have h := refMul2_any (sg ((decVal ((bts s).take k) : Nat) : Int)) (sg (10 : Int)) (mg ((decVal ((bts s).take k) : Nat) : Int)) (mg (10 : Int)) w' (by omega) (by have : (mg (10 : Int)).size ≤ 1 := mg_size_le (by decide); omega); simp only [iv_Z] at h; exact h,
             fun w' _ => index_str rfl rfl rfl (by omega),
             congrArg (fun z => some (Value.int .u8 z)) (by rw [IntKind.wrap_u8]; omega : IntKind.wrap .u8 ((((bts s).getD k 0 : Nat) : Int) - (48 : Int)) = (((bts s).getD k 0 - 48 : Nat) : Int)),
             ⟨_, _, rfl, congrArg (Value.int .i64) (by rw [wrap_small (by omega) (by omega)] : (((bts s).getD k 0 - 48 : Nat) : Int) = IntKind.wrap .i64 (((bts s).getD k 0 - 48 : Nat) : Int))⟩,
             fun γ w' _ _ => From_any (((bts s).getD k 0 - 48 : Nat) : Int) w' (by omega) (by omega),
             fun γ w' _ _ => by have h := refAdd2_any (sg (((decVal ((bts s).take k) : Nat) : Int) * (10 : Int))) (sg (((bts s).getD k 0 - 48 : Nat) : Int)) (mg (((decVal ((bts s).take k) : Nat) : Int) * (10 : Int))) (mg (((bts s).getD k 0 - 48 : Nat) : Int)) w' (by omega) (by omega); simp only [iv_Z] at h; rw [hst] at h; exact h,
             congrArg (fun z => some (Value.int .i64 z)) (by rw [wrap_small (by omega) (by omega)]; omega : IntKind.wrap .i64 ((k : Int) + (1 : Int)) = ((k + 1 : Nat) : Int))⟩))⟩
set_option maxRecDepth 100000 in
theorem rdigits_hi (s : ByteArray) (k0 : Nat) (w : World) (hs : s.size ≤ 1000) (h1 : k0 < s.size) (h2 : 57 < (bts s).getD k0 0) (h3 : ∀ j, j < k0 → 48 ≤ (bts s).getD j 0 ∧ (bts s).getD j 0 ≤ 57) :
    Calls Tryz.prog 106 #[.string s] w fun e w' => e = .returned (.tuple #[I2 false ⟨#[]⟩, .bool false]) ∧ Below w.heap.size w w' := by
  have htake : ∀ k, k ≤ k0 → ∀ x ∈ (bts s).take k, x ≤ 57 := by
    intro k hk x hx
    obtain ⟨j, hj, rfl⟩ := List.getElem_of_mem hx
    rw [List.length_take] at hj
    have := (h3 j (by omega)).2
    rw [List.getD_eq_getElem?_getD, List.getElem?_eq_getElem (by omega)] at this
    rw [List.getElem_take]
    exact this
  have f1 : (mg (0 : Int)).size ≤ 8 := mg_size_le (by first | decide | omega)
  exact SX.run (w := w) [.string s, .bool (sg (0 : Int)), .string (mg (0 : Int)), .int .i64 (k0 : Int), .bool (sg ((decVal ((bts s).take k0) : Nat) : Int)), .string (mg ((decVal ((bts s).take k0) : Nat) : Int))] [.lp [(3, .one (.c (.p (.lit (.bool false))))), (5, .one (.c (.p (.at 3))))] [(1, .p (.lit (.bool false))), (2, .p (.lit (.string ⟨#[]⟩))), (1025, .p (.at 4)), (1026, .p (.at 5))] 6 .ret] [.c (.p (.at 0))] 1 (.tup [.agg [.p (.lit (.bool false)), .p (.lit (.string ⟨#[]⟩))], .c (.p (.lit (.bool false)))]) [.call 38 [.c (.p (.lit (.int .i64 0)))] (.one (.agg [.p (.at 1), .p (.at 2)])) [], SX.obAt Tryz.prog Tryz.f106 [.lp [(3, .one (.c (.p (.lit (.bool false))))), (5, .one (.c (.p (.at 3))))] [(1, .p (.lit (.bool false))), (2, .p (.lit (.string ⟨#[]⟩))), (1025, .p (.at 4)), (1026, .p (.at 5))] 6 .ret] 1] Tryz.func106 (by kernel_rfl) rfl (by kernel_rfl) rfl (by kernel_rfl)
    ⟨fun γ w' _ _ => From_any 0 w' (by omega) (by omega),
     (by
      obtain ⟨body, hbody⟩ : ∃ body : Nat → List Value, body = fun k => if k = k0 then ([.int .i64 (s.size : Int), .bool (decide ((k : Int) < (s.size : Int))), .int .u8 (((bts s).getD k 0 : Nat) : Int), .bool (decide ((((bts s).getD k 0 : Nat) : Int) < (48 : Int))), .int .u8 (((bts s).getD k 0 : Nat) : Int), .bool (decide ((((bts s).getD k 0 : Nat) : Int) > (57 : Int)))] : List Value) else [.int .i64 (s.size : Int), .bool (decide ((k : Int) < (s.size : Int))), .int .u8 (((bts s).getD k 0 : Nat) : Int), .bool (decide ((((bts s).getD k 0 : Nat) : Int) < (48 : Int))), .int .u8 (((bts s).getD k 0 : Nat) : Int), .bool (decide ((((bts s).getD k 0 : Nat) : Int) > (57 : Int))), .bool (sg (10 : Int)), .string (mg (10 : Int)), .bool (sg (((decVal ((bts s).take k) : Nat) : Int) * (10 : Int))), .string (mg (((decVal ((bts s).take k) : Nat) : Int) * (10 : Int))), .int .u8 (((bts s).getD k 0 : Nat) : Int), .int .u8 (((bts s).getD k 0 - 48 : Nat) : Int), .int .i64 (((bts s).getD k 0 - 48 : Nat) : Int), .bool (sg (((bts s).getD k 0 - 48 : Nat) : Int)), .string (mg (((bts s).getD k 0 - 48 : Nat) : Int)), .bool (sg ((decVal ((bts s).take (k + 1)) : Nat) : Int)), .string (mg ((decVal ((bts s).take (k + 1)) : Nat) : Int)), .int .i64 ((k + 1 : Nat) : Int)] := ⟨_, rfl⟩
      have hall : ∀ k, (body k).all Value.oneCell' = true := by intro k; rw [hbody]; simp only []; (repeat' split) <;> rfl
      refine SX.loop_holds (by kernel_rfl) (SX.obAt Tryz.prog Tryz.f106 [.lp [(3, .one (.c (.p (.lit (.bool false))))), (5, .one (.c (.p (.at 3))))] [(1, .p (.lit (.bool false))), (2, .p (.lit (.string ⟨#[]⟩))), (1025, .p (.at 4)), (1026, .p (.at 5))] 6 .ret] 1) [(5, .one (.c (.p (.at 3))))] [(1, .p (.at 4)), (2, .p (.at 5)), (1025, .p (.at 6)), (1026, .p (.at 7))] 2 3 8 (k0) (fun k => SX.env (.string s :: .bool (sg (0 : Int)) :: .string (mg (0 : Int)) :: .int .i64 (k : Int) :: .bool false :: .string ⟨#[]⟩ :: .bool (sg ((decVal ((bts s).take k) : Nat) : Int)) :: .string (mg ((decVal ((bts s).take k) : Nat) : Int)) :: body k)) (fun k => SX.env_ok (by simp only [List.all_cons, hall k]; rfl)) (eT := [(.one (.c (.p (.lit (.int .i64 0)))), .one (.c (.p (.at 3))))]) (eM := [(.p (.lit (.bool false)), .p (.at 4)), (.p (.lit (.string ⟨#[]⟩)), .p (.at 5)), (.p (.at 1), .p (.at 6)), (.p (.at 2), .p (.at 7))]) (by kernel_rfl) (SX.eqT_cons (rfl) (SX.eqT_nil)) (SX.eqM_cons (rfl) (SX.eqM_cons (rfl) (SX.eqM_cons (rfl) (SX.eqM_cons (rfl) (SX.eqM_nil))))) (fun k => SX.env_agree rfl) (fun k hk => ?_)
      by_cases hc0 : k = k0
      · have eb : body k = [.int .i64 (s.size : Int), .bool (decide ((k : Int) < (s.size : Int))), .int .u8 (((bts s).getD k 0 : Nat) : Int), .bool (decide ((((bts s).getD k 0 : Nat) : Int) < (48 : Int))), .int .u8 (((bts s).getD k 0 : Nat) : Int), .bool (decide ((((bts s).getD k 0 : Nat) : Int) > (57 : Int)))] := by rw [hbody]; simp only [if_pos hc0]
        subst hc0
        refine ⟨[.b true, .b false, .b true], false, [.len (.p (.at 0)) 8, .op2 false .lss (.p (.at 3)) (.p (.at 8)) 9, .isB 9 true, .prim (.index 9 (.tmp 13) (.tmp 14)) 5 [(13, .one (.c (.p (.at 0)))), (14, .one (.c (.p (.at 3))))] (.one (.c (.p (.at 10)))), .op2 false .lss (.p (.at 10)) (.p (.lit (.int .u8 48))) 11, .isB 11 false, .prim (.index 9 (.tmp 18) (.tmp 19)) 5 [(18, .one (.c (.p (.at 0)))), (19, .one (.c (.p (.at 3)))), (17, .one (.c (.p (.at 11))))] (.one (.c (.p (.at 12)))), .op2 false .gtr (.p (.at 12)) (.p (.lit (.int .u8 57))) 13, .isB 13 true], [(.one (.c (.p (.lit (.bool false)))), .one (.c (.p (.lit (.bool false))))), (.one (.c (.p (.at 3))), .one (.c (.p (.at 3))))], [(.p (.lit (.bool false)), .p (.lit (.bool false))), (.p (.lit (.string ⟨#[]⟩)), .p (.lit (.string ⟨#[]⟩))), (.p (.at 6), .p (.at 4)), (.p (.at 7), .p (.at 5))], by kernel_rfl, ?_, SX.eqT_cons (by first | rfl | (rw [eb]; rfl) | (rw [eb, hc0]; rfl) | (rw [eb]; simp)) (SX.eqT_cons (by first | rfl | (rw [eb]; rfl) | (rw [eb, hc0]; rfl) | (rw [eb]; simp)) (SX.eqT_nil)), SX.eqM_cons (by first | rfl | (rw [eb]; rfl) | (rw [eb, hc0]; rfl) | (rw [eb]; simp)) (SX.eqM_cons (by first | rfl | (rw [eb]; rfl) | (rw [eb, hc0]; rfl) | (rw [eb]; simp)) (SX.eqM_cons (by first | rfl | (rw [eb]; rfl) | (rw [eb, hc0]; rfl) | (rw [eb]; simp)) (SX.eqM_cons (by first | rfl | (rw [eb]; rfl) | (rw [eb, hc0]; rfl) | (rw [eb]; simp)) (SX.eqM_nil)))), fun h => absurd h (by decide)⟩
        rw [eb]
        exact SX.All.mem (l := [.len (.p (.at 0)) 8, .op2 false .lss (.p (.at 3)) (.p (.at 8)) 9, .isB 9 true, .prim (.index 9 (.tmp 13) (.tmp 14)) 5 [(13, .one (.c (.p (.at 0)))), (14, .one (.c (.p (.at 3))))] (.one (.c (.p (.at 10)))), .op2 false .lss (.p (.at 10)) (.p (.lit (.int .u8 48))) 11, .isB 11 false, .prim (.index 9 (.tmp 18) (.tmp 19)) 5 [(18, .one (.c (.p (.at 0)))), (19, .one (.c (.p (.at 3)))), (17, .one (.c (.p (.at 11))))] (.one (.c (.p (.at 12)))), .op2 false .gtr (.p (.at 12)) (.p (.lit (.int .u8 57))) 13, .isB 13 true]) (⟨⟨_, rfl, rfl⟩,
             rfl,
             congrArg Value.bool (decide_eq_true (by omega) : (decide ((k : Int) < (s.size : Int))) = true),
             fun w' _ => index_str rfl rfl rfl (by omega),
             rfl,
             congrArg Value.bool (decide_eq_false (by omega) : (decide ((((bts s).getD k 0 : Nat) : Int) < (48 : Int))) = false),
             fun w' _ => index_str rfl rfl rfl (by omega),
             rfl,
             congrArg Value.bool (decide_eq_true (by omega) : (decide ((((bts s).getD k 0 : Nat) : Int) > (57 : Int))) = true)⟩)
      · have eb : body k = [.int .i64 (s.size : Int), .bool (decide ((k : Int) < (s.size : Int))), .int .u8 (((bts s).getD k 0 : Nat) : Int), .bool (decide ((((bts s).getD k 0 : Nat) : Int) < (48 : Int))), .int .u8 (((bts s).getD k 0 : Nat) : Int), .bool (decide ((((bts s).getD k 0 : Nat) : Int) > (57 : Int))), .bool (sg (10 : Int)), .string (mg (10 : Int)), .bool (sg (((decVal ((bts s).take k) : Nat) : Int) * (10 : Int))), .string (mg (((decVal ((bts s).take k) : Nat) : Int) * (10 : Int))), .int .u8 (((bts s).getD k 0 : Nat) : Int), .int .u8 (((bts s).getD k 0 - 48 : Nat) : Int), .int .i64 (((bts s).getD k 0 - 48 : Nat) : Int), .bool (sg (((bts s).getD k 0 - 48 : Nat) : Int)), .string (mg (((bts s).getD k 0 - 48 : Nat) : Int)), .bool (sg ((decVal ((bts s).take (k + 1)) : Nat) : Int)), .string (mg ((decVal ((bts s).take (k + 1)) : Nat) : Int)), .int .i64 ((k + 1 : Nat) : Int)] := by rw [hbody]; simp only [if_neg hc0]
        have hk1 : k < s.size := by omega
        have hdg := h3 k (by omega)
        have hlt := bts_lt s ((bts s).getD k 0) (by rw [List.getD_eq_getElem?_getD, List.getElem?_eq_getElem (by rw [bts_length]; exact hk1)]; exact List.getElem_mem _)
        have fD : (mg ((decVal ((bts s).take k) : Nat) : Int)).size ≤ 1000 := Nat.le_trans (mg_size_le (Nat.lt_of_lt_of_le (decVal_lt _ (htake k (by omega))) (pow10_le _))) (by rw [List.length_take, bts_length]; omega)
        have fE : (mg (((decVal ((bts s).take k) : Nat) : Int) * (10 : Int))).size ≤ 1001 := mg_mul_size (k := 1) fD (mg_size_le (by decide))
        have hst : ((decVal ((bts s).take k) : Nat) : Int) * (10 : Int) + (((bts s).getD k 0 - 48 : Nat) : Int) = ((decVal ((bts s).take (k + 1)) : Nat) : Int) := by rw [decVal_take (by rw [bts_length]; exact hk1)]; omega
        have f1 : (mg (((bts s).getD k 0 - 48 : Nat) : Int)).size ≤ 1 := mg_size_le (by show ((bts s).getD k 0 - 48 : Nat) < 256 ^ 1; omega)
        have f202 : (mg (10 : Int)).size ≤ 8 := mg_size_le (by first | decide | omega)
        have f203 : (mg (((bts s).getD k 0 - 48 : Nat) : Int)).size ≤ 8 := mg_size_le (by first | decide | omega)
        refine ⟨[.b true, .b false, .b false], true, [.len (.p (.at 0)) 8, .op2 false .lss (.p (.at 3)) (.p (.at 8)) 9, .isB 9 true, .prim (.index 9 (.tmp 13) (.tmp 14)) 5 [(13, .one (.c (.p (.at 0)))), (14, .one (.c (.p (.at 3))))] (.one (.c (.p (.at 10)))), .op2 false .lss (.p (.at 10)) (.p (.lit (.int .u8 48))) 11, .isB 11 false, .prim (.index 9 (.tmp 18) (.tmp 19)) 5 [(18, .one (.c (.p (.at 0)))), (19, .one (.c (.p (.at 3)))), (17, .one (.c (.p (.at 11))))] (.one (.c (.p (.at 12)))), .op2 false .gtr (.p (.at 12)) (.p (.lit (.int .u8 57))) 13, .isB 13 false, .call 38 [.c (.p (.lit (.int .i64 10)))] (.one (.agg [.p (.at 14), .p (.at 15)])) [], .call 37 [.agg [.p (.at 6), .p (.at 7)], .agg [.p (.at 14), .p (.at 15)]] (.one (.agg [.p (.at 16), .p (.at 17)])) [], .prim (.index 9 (.tmp 27) (.tmp 28)) 5 [(27, .one (.c (.p (.at 0)))), (28, .one (.c (.p (.at 3))))] (.one (.c (.p (.at 18)))), .op2 false .sub (.p (.at 18)) (.p (.lit (.int .u8 48))) 19, .cvt .i64 (.p (.at 19)) 20, .call 38 [.c (.p (.at 20))] (.one (.agg [.p (.at 21), .p (.at 22)])) [], .call 82 [.agg [.p (.at 16), .p (.at 17)], .agg [.p (.at 21), .p (.at 22)]] (.one (.agg [.p (.at 23), .p (.at 24)])) [], .op2 false .add (.p (.at 3)) (.p (.lit (.int .i64 1))) 25], [(.one (.c (.p (.at 25))), .one (.c (.p (.at 3))))], [(.p (.at 4), .p (.at 4)), (.p (.at 5), .p (.at 5)), (.p (.at 23), .p (.at 6)), (.p (.at 24), .p (.at 7))], by kernel_rfl, ?_, SX.eqT_cons (by first | rfl | (rw [eb]; rfl) | (rw [eb]; simp)) (SX.eqT_nil), SX.eqM_cons (by first | rfl | (rw [eb]; rfl) | (rw [eb]; simp)) (SX.eqM_cons (by first | rfl | (rw [eb]; rfl) | (rw [eb]; simp)) (SX.eqM_cons (by first | rfl | (rw [eb]; rfl) | (rw [eb]; simp)) (SX.eqM_cons (by first | rfl | (rw [eb]; rfl) | (rw [eb]; simp)) (SX.eqM_nil)))), fun _ => by omega⟩
        rw [eb]
        exact SX.All.mem (l := [.len (.p (.at 0)) 8, .op2 false .lss (.p (.at 3)) (.p (.at 8)) 9, .isB 9 true, .prim (.index 9 (.tmp 13) (.tmp 14)) 5 [(13, .one (.c (.p (.at 0)))), (14, .one (.c (.p (.at 3))))] (.one (.c (.p (.at 10)))), .op2 false .lss (.p (.at 10)) (.p (.lit (.int .u8 48))) 11, .isB 11 false, .prim (.index 9 (.tmp 18) (.tmp 19)) 5 [(18, .one (.c (.p (.at 0)))), (19, .one (.c (.p (.at 3)))), (17, .one (.c (.p (.at 11))))] (.one (.c (.p (.at 12)))), .op2 false .gtr (.p (.at 12)) (.p (.lit (.int .u8 57))) 13, .isB 13 false, .call 38 [.c (.p (.lit (.int .i64 10)))] (.one (.agg [.p (.at 14), .p (.at 15)])) [], .call 37 [.agg [.p (.at 6), .p (.at 7)], .agg [.p (.at 14), .p (.at 15)]] (.one (.agg [.p (.at 16), .p (.at 17)])) [], .prim (.index 9 (.tmp 27) (.tmp 28)) 5 [(27, .one (.c (.p (.at 0)))), (28, .one (.c (.p (.at 3))))] (.one (.c (.p (.at 18)))), .op2 false .sub (.p (.at 18)) (.p (.lit (.int .u8 48))) 19, .cvt .i64 (.p (.at 19)) 20, .call 38 [.c (.p (.at 20))] (.one (.agg [.p (.at 21), .p (.at 22)])) [], .call 82 [.agg [.p (.at 16), .p (.at 17)], .agg [.p (.at 21), .p (.at 22)]] (.one (.agg [.p (.at 23), .p (.at 24)])) [], .op2 false .add (.p (.at 3)) (.p (.lit (.int .i64 1))) 25]) (⟨⟨_, rfl, rfl⟩,
             rfl,
             congrArg Value.bool (decide_eq_true (by omega) : (decide ((k : Int) < (s.size : Int))) = true),
             fun w' _ => index_str rfl rfl rfl (by omega),
             rfl,
             congrArg Value.bool (decide_eq_false (by omega) : (decide ((((bts s).getD k 0 : Nat) : Int) < (48 : Int))) = false),
             fun w' _ => index_str rfl rfl rfl (by omega),
             rfl,
             congrArg Value.bool (decide_eq_false (by omega) : (decide ((((bts s).getD k 0 : Nat) : Int) > (57 : Int))) = false),
             fun γ w' _ _ => From_any 10 w' (by omega) (by omega),
             fun γ w' _ _ => by have h := refMul2_any (sg ((decVal ((bts s).take k) : Nat) : Int)) (sg (10 : Int)) (mg ((decVal ((bts s).take k) : Nat) : Int)) (mg (10 : Int)) w' (by omega) (by have : (mg (10 : Int)).size ≤ 1 := mg_size_le (by decide); omega); simp only [iv_Z] at h; exact h,
             fun w' _ => index_str rfl rfl rfl (by omega),
             congrArg (fun z => some (Value.int .u8 z)) (by rw [IntKind.wrap_u8]; omega : IntKind.wrap .u8 ((((bts s).getD k 0 : Nat) : Int) - (48 : Int)) = (((bts s).getD k 0 - 48 : Nat) : Int)),
             ⟨_, _, rfl, congrArg (Value.int .i64) (by rw [wrap_small (by omega) (by omega)] : (((bts s).getD k 0 - 48 : Nat) : Int) = IntKind.wrap .i64 (((bts s).getD k 0 - 48 : Nat) : Int))⟩,
             fun γ w' _ _ => From_any (((bts s).getD k 0 - 48 : Nat) : Int) w' (by omega) (by omega),
             fun γ w' _ _ => by have h := refAdd2_any (sg (((decVal ((bts s).take k) : Nat) : Int) * (10 : Int))) (sg (((bts s).getD k 0 - 48 : Nat) : Int)) (mg (((decVal ((bts s).take k) : Nat) : Int) * (10 : Int))) (mg (((bts s).getD k 0 - 48 : Nat) : Int)) w' (by omega) (by omega); simp only [iv_Z] at h; rw [hst] at h; exact h,
             congrArg (fun z => some (Value.int .i64 z)) (by rw [wrap_small (by omega) (by omega)]; omega : IntKind.wrap .i64 ((k : Int) + (1 : Int)) = ((k + 1 : Nat) : Int))⟩))⟩
/-- What digits returns. -/
theorem rdigits_any (s : ByteArray) (w : World) (hs : s.size ≤ 1000) :
    Calls Tryz.prog 106 #[.string s] w fun e w' => e = .returned (match digV (bts s) with | some v => .tuple #[Z ((v : Nat) : Int), .bool true] | none => .tuple #[if s.size = 0 then Z 0 else I2 false ⟨#[]⟩, .bool false]) ∧ Below w.heap.size w w' := by
  by_cases h0 : s.size = 0
  · have hn : bts s = [] := bts_nil_iff.2 h0
    rw [digV_none (.inl hn)]
    simp only [if_pos h0]
    have h := rdigits_yes s w hs (by rw [hn]; rfl)
    rw [hn, h0] at h
    exact h
  · have hn : bts s ≠ [] := fun e => h0 (bts_nil_iff.1 e)
    cases hd : allDig (bts s) with
    | true =>
      rw [digV_some hn hd]
      have h := rdigits_yes s w hs hd
      rw [decide_eq_true (by omega)] at h
      exact h
    | false =>
      rw [digV_none (.inr hd)]
      simp only [if_neg h0]
      obtain ⟨k, hk, hb, hj⟩ := allDig_bad hd
      rw [bts_length] at hk
      rcases hb with hb | hb
      · exact rdigits_lo s k w hs hk hb hj
      · exact rdigits_hi s k w hs hk hb hj
theorem rfirst_any (s : ByteArray) (c : Nat) (w : World) (hs : s.size ≤ 1048576) :
    Calls Tryz.prog 105 #[.string s, .int .u8 (c : Int)] w fun e w' => e = .returned (.int .i64 (((bts s).findIdx (· == c) : Nat) : Int)) ∧ Below w.heap.size w w' := by
  by_cases h : (bts s).findIdx (· == c) < (bts s).length
  · refine rfirst_yes s c _ w hs (by rw [← bts_length]; exact h) ?_ (fun j hj => ?_)
    · have := List.findIdx_getElem (p := (· == c)) (xs := bts s) (w := h)
      rw [List.getD_eq_getElem?_getD, List.getElem?_eq_getElem h]
      simpa using this
    · have := List.not_of_lt_findIdx hj
      rw [List.getD_eq_getElem?_getD, List.getElem?_eq_getElem (by omega)]
      simpa using this
  · have e : (bts s).findIdx (· == c) = (bts s).length := Nat.le_antisymm List.findIdx_le_length (by omega)
    rw [e, bts_length]
    refine rfirst_no s c w hs (fun j hj => ?_)
    have := List.not_of_lt_findIdx (p := (· == c)) (xs := bts s) (i := j) (by rw [e, bts_length]; exact hj)
    rw [List.getD_eq_getElem?_getD, List.getElem?_eq_getElem (by rw [bts_length]; exact hj)]
    simpa using this
end Go.Proofs.YtdgppfccolhaeaaGreatDoor
