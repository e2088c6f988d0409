/- voussoirref03.Parse. -/
import Derived.Test.YtdgppfccolhaeaaGreatDoorQp
set_option linter.unusedVariables false
set_option linter.unusedSimpArgs false
namespace Go.Proofs.YtdgppfccolhaeaaGreatDoor
open Go.RowKit NM SX
theorem iv_can (n : Nat) : iv false (can n) = ((n : Nat) : Int) := by rw [iv_false, nat_can]
theorem rdigits_v (s : ByteArray) (w : World) (hs : s.size ≤ 1000) :
    Calls Tryz.prog 106 #[.string s] w fun e w' => e = .returned (.tuple #[I2 false (can ((digV (bts s)).getD 0)), .bool (digV (bts s)).isSome]) ∧ Below w.heap.size w w' := by
  have h := rdigits_any s w hs
  cases hd : digV (bts s) with
  | some v => rw [hd] at h; exact h
  | none =>
    rw [hd] at h
    by_cases h0 : s.size = 0
    · simp only [if_pos h0] at h; exact h
    · simp only [if_neg h0] at h; exact h
theorem piece_size (u : ByteArray) (k : Nat) : (u.extract 0 k ++ u.extract (k + 1) u.size).size ≤ u.size := by
  rw [ByteArray.size_append, ByteArray.size_extract, ByteArray.size_extract]
  omega
theorem rParse_false_slash_ok (s : ByteArray) (x y : Nat) (w : World) (hs : s.size ≤ 1000) (hp : 0 < s.size) (h2 : (bts s).getD 0 0 ≠ 45) (h47 : at_ 47 s < s.size) (hx : digV (bts (s.extract 0 (at_ 47 s))) = some x) (hy : digV (bts (s.extract (at_ 47 s + 1) s.size)) = some y) :
    Calls Tryz.prog 67 #[.string s] w fun e w' => e = .returned (.tuple #[QV (Rat.divInt (iv false (can (x))) (((y) : Nat) : Int)), .bool (decide ((((y) : Nat) : Int) ≠ 0))]) ∧ Below w.heap.size w w' := by
  have zu : s.size ≤ s.size := by exact Nat.le_refl _
  have za : (s.extract 0 (at_ 47 s)).size ≤ 1000 := by rw [ByteArray.size_extract]; omega
  have zb : (s.extract (at_ 47 s + 1) s.size).size ≤ 1000 := by rw [ByteArray.size_extract]; omega
  have zx := digV_val hx
  have zy := digV_val hy
  rw [bts_length] at zx zy
  have hY := iv_can y
  exact SX.run (w := w) [.string s, .int .i64 (s.size : Int), .bool true, .int .u8 (((bts s).getD 0 0 : Nat) : Int), .bool false, .int .i64 ((at_ 47 s : Nat) : Int), .int .i64 ((at_ 46 s : Nat) : Int), .bool false, .string (can 1), .int .i64 (s.size : Int), .bool true, .string (s.extract 0 (at_ 47 s)), .int .i64 ((at_ 47 s + 1 : Nat) : Int), .string (s.extract (at_ 47 s + 1) s.size), .bool false, .string (can (y)), .bool true, .bool false, .string (can (x)), .bool true, .bool false, .bool false, .bool (sg (Rat.divInt (iv false (can (x))) (((y) : Nat) : Int)).num), .string (mg (Rat.divInt (iv false (can (x))) (((y) : Nat) : Int)).num), .string (dm (Rat.divInt (iv false (can (x))) (((y) : Nat) : Int)).den), .bool (decide ((((y) : Nat) : Int) ≠ 0))] [.b true, .b false, .b true, .b false, .b false] [.c (.p (.at 0))] 1 (.tup [.agg [.p (.at 22), .p (.at 23), .p (.at 24)], .c (.p (.at 25))]) [.len (.p (.at 0)) 1, .op2 false .gtr (.p (.at 1)) (.p (.lit (.int .i64 0))) 2, .isB 2 true, .prim (.index 9 (.tmp 22) (.const (.int .i64 0))) 5 [(22, .one (.c (.p (.at 0)))), (21, .one (.c (.p (.at 2))))] (.one (.c (.p (.at 3)))), .op2 false .eql (.p (.at 3)) (.p (.lit (.int .u8 45))) 4, .isB 4 false, .call 105 [.c (.p (.at 0)), .c (.p (.lit (.int .u8 47)))] (.one (.c (.p (.at 5)))) [], .call 105 [.c (.p (.at 0)), .c (.p (.lit (.int .u8 46)))] (.one (.c (.p (.at 6)))) [], .call 84 [] (.one (.agg [.p (.at 7), .p (.at 8)])) [], .len (.p (.at 0)) 9, .op2 false .lss (.p (.at 5)) (.p (.at 9)) 10, .isB 10 true, .prim (.slice 9 (.tmp 39) none (some (.tmp 40)) none) 9 [(39, .one (.c (.p (.at 0)))), (40, .one (.c (.p (.at 5))))] (.one (.c (.p (.at 11)))), .op2 false .add (.p (.at 5)) (.p (.lit (.int .i64 1))) 12, .prim (.slice 9 (.tmp 43) (some (.tmp 45)) none none) 9 [(43, .one (.c (.p (.at 0)))), (45, .one (.c (.p (.at 12))))] (.one (.c (.p (.at 13)))), .call 106 [.c (.p (.at 13))] (.tup [.agg [.p (.at 14), .p (.at 15)], .c (.p (.at 16))]) [], .call 106 [.c (.p (.at 11))] (.tup [.agg [.p (.at 17), .p (.at 18)], .c (.p (.at 19))]) [], .op1 .not (.p (.at 16)) 20, .isB 20 false, .op1 .not (.p (.at 19)) 21, .isB 21 false, .call 47 [.agg [.p (.at 4), .p (.at 18)], .agg [.p (.at 14), .p (.at 15)]] (.tup [.agg [.p (.at 22), .p (.at 23), .p (.at 24)], .c (.p (.at 25))]) []] Tryz.func67 (by kernel_rfl) rfl (by kernel_rfl) rfl (by kernel_rfl)
    ⟨⟨_, rfl, rfl⟩,
     congrArg (fun z => some (Value.bool z)) (decide_eq_true (by omega) : decide ((s.size : Int) > (0 : Int)) = true),
     rfl,
     fun w' _ => index_str (k := 0) (by kernel_rfl) rfl rfl (by omega),
     congrArg (fun z => some (Value.bool z)) (beq_eq_false_iff_ne.2 (by omega) : ((((bts s).getD 0 0 : Nat) : Int) == (45 : Int)) = false),
     rfl,
     fun γ w' _ _ => rfirst_any s 47 w' (by omega),
     fun γ w' _ _ => rfirst_any s 46 w' (by omega),
     fun γ w' _ _ => rone_any w',
     ⟨_, rfl, rfl⟩,
     congrArg (fun z => some (Value.bool z)) (decide_eq_true (by omega) : decide (((at_ 47 s : Nat) : Int) < (s.size : Int)) = true),
     rfl,
     fun w' _ => slice_hi (k := at_ 47 s) (by kernel_rfl) rfl rfl (by omega),
     congrArg (fun z => some (Value.int .i64 z)) (by rw [wrap_small (by omega) (by omega)]; omega : IntKind.wrap .i64 (((at_ 47 s : Nat) : Int) + (1 : Int)) = ((at_ 47 s + 1 : Nat) : Int)),
     fun w' _ => slice_lo (k := at_ 47 s + 1) (by kernel_rfl) rfl rfl (by omega),
     fun γ w' _ _ => by have h := rdigits_v (s.extract (at_ 47 s + 1) s.size) w' (by omega); rw [hy] at h; exact h,
     fun γ w' _ _ => by have h := rdigits_v (s.extract 0 (at_ 47 s)) w' (by omega); rw [hx] at h; exact h,
     congrArg (fun z => some (Value.bool z)) (rfl : (!true) = false),
     rfl,
     congrArg (fun z => some (Value.bool z)) (rfl : (!true) = false),
     rfl,
     fun γ w' _ _ => by have h := rMake_any false false (can (x)) (can (y)) w' (by omega) (by omega); rw [makeV_eq, hY] at h; exact h⟩
theorem rParse_false_slash_lo (s : ByteArray) (w : World) (hs : s.size ≤ 1000) (hp : 0 < s.size) (h2 : (bts s).getD 0 0 ≠ 45) (h47 : at_ 47 s < s.size) (hy : digV (bts (s.extract (at_ 47 s + 1) s.size)) = none) :
    Calls Tryz.prog 67 #[.string s] w fun e w' => e = .returned (.tuple #[Q3 false ⟨#[]⟩ ⟨#[]⟩, .bool false]) ∧ Below w.heap.size w w' := by
  have zu : s.size ≤ s.size := by exact Nat.le_refl _
  have za : (s.extract 0 (at_ 47 s)).size ≤ 1000 := by rw [ByteArray.size_extract]; omega
  have zb : (s.extract (at_ 47 s + 1) s.size).size ≤ 1000 := by rw [ByteArray.size_extract]; omega
  exact SX.run (w := w) [.string s, .int .i64 (s.size : Int), .bool true, .int .u8 (((bts s).getD 0 0 : Nat) : Int), .bool false, .int .i64 ((at_ 47 s : Nat) : Int), .int .i64 ((at_ 46 s : Nat) : Int), .bool false, .string (can 1), .int .i64 (s.size : Int), .bool true, .string (s.extract 0 (at_ 47 s)), .int .i64 ((at_ 47 s + 1 : Nat) : Int), .string (s.extract (at_ 47 s + 1) s.size), .bool false, .string (can 0), .bool false, .bool false, .string (can ((digV (bts (s.extract 0 (at_ 47 s)))).getD 0)), .bool (digV (bts (s.extract 0 (at_ 47 s)))).isSome, .bool true] [.b true, .b false, .b true, .b true] [.c (.p (.at 0))] 1 (.tup [.agg [.p (.lit (.bool false)), .p (.lit (.string ⟨#[]⟩)), .p (.lit (.string ⟨#[]⟩))], .c (.p (.lit (.bool false)))]) [.len (.p (.at 0)) 1, .op2 false .gtr (.p (.at 1)) (.p (.lit (.int .i64 0))) 2, .isB 2 true, .prim (.index 9 (.tmp 22) (.const (.int .i64 0))) 5 [(22, .one (.c (.p (.at 0)))), (21, .one (.c (.p (.at 2))))] (.one (.c (.p (.at 3)))), .op2 false .eql (.p (.at 3)) (.p (.lit (.int .u8 45))) 4, .isB 4 false, .call 105 [.c (.p (.at 0)), .c (.p (.lit (.int .u8 47)))] (.one (.c (.p (.at 5)))) [], .call 105 [.c (.p (.at 0)), .c (.p (.lit (.int .u8 46)))] (.one (.c (.p (.at 6)))) [], .call 84 [] (.one (.agg [.p (.at 7), .p (.at 8)])) [], .len (.p (.at 0)) 9, .op2 false .lss (.p (.at 5)) (.p (.at 9)) 10, .isB 10 true, .prim (.slice 9 (.tmp 39) none (some (.tmp 40)) none) 9 [(39, .one (.c (.p (.at 0)))), (40, .one (.c (.p (.at 5))))] (.one (.c (.p (.at 11)))), .op2 false .add (.p (.at 5)) (.p (.lit (.int .i64 1))) 12, .prim (.slice 9 (.tmp 43) (some (.tmp 45)) none none) 9 [(43, .one (.c (.p (.at 0)))), (45, .one (.c (.p (.at 12))))] (.one (.c (.p (.at 13)))), .call 106 [.c (.p (.at 13))] (.tup [.agg [.p (.at 14), .p (.at 15)], .c (.p (.at 16))]) [], .call 106 [.c (.p (.at 11))] (.tup [.agg [.p (.at 17), .p (.at 18)], .c (.p (.at 19))]) [], .op1 .not (.p (.at 16)) 20, .isB 20 true] Tryz.func67 (by kernel_rfl) rfl (by kernel_rfl) rfl (by kernel_rfl)
    ⟨⟨_, rfl, rfl⟩,
     congrArg (fun z => some (Value.bool z)) (decide_eq_true (by omega) : decide ((s.size : Int) > (0 : Int)) = true),
     rfl,
     fun w' _ => index_str (k := 0) (by kernel_rfl) rfl rfl (by omega),
     congrArg (fun z => some (Value.bool z)) (beq_eq_false_iff_ne.2 (by omega) : ((((bts s).getD 0 0 : Nat) : Int) == (45 : Int)) = false),
     rfl,
     fun γ w' _ _ => rfirst_any s 47 w' (by omega),
     fun γ w' _ _ => rfirst_any s 46 w' (by omega),
     fun γ w' _ _ => rone_any w',
     ⟨_, rfl, rfl⟩,
     congrArg (fun z => some (Value.bool z)) (decide_eq_true (by omega) : decide (((at_ 47 s : Nat) : Int) < (s.size : Int)) = true),
     rfl,
     fun w' _ => slice_hi (k := at_ 47 s) (by kernel_rfl) rfl rfl (by omega),
     congrArg (fun z => some (Value.int .i64 z)) (by rw [wrap_small (by omega) (by omega)]; omega : IntKind.wrap .i64 (((at_ 47 s : Nat) : Int) + (1 : Int)) = ((at_ 47 s + 1 : Nat) : Int)),
     fun w' _ => slice_lo (k := at_ 47 s + 1) (by kernel_rfl) rfl rfl (by omega),
     fun γ w' _ _ => by have h := rdigits_v (s.extract (at_ 47 s + 1) s.size) w' (by omega); rw [hy] at h; exact h,
     fun γ w' _ _ => rdigits_v (s.extract 0 (at_ 47 s)) w' (by omega),
     congrArg (fun z => some (Value.bool z)) (rfl : (!false) = true),
     rfl⟩
theorem rParse_false_slash_up (s : ByteArray) (y : Nat) (w : World) (hs : s.size ≤ 1000) (hp : 0 < s.size) (h2 : (bts s).getD 0 0 ≠ 45) (h47 : at_ 47 s < s.size) (hx : digV (bts (s.extract 0 (at_ 47 s))) = none) (hy : digV (bts (s.extract (at_ 47 s + 1) s.size)) = some y) :
    Calls Tryz.prog 67 #[.string s] w fun e w' => e = .returned (.tuple #[Q3 false ⟨#[]⟩ ⟨#[]⟩, .bool false]) ∧ Below w.heap.size w w' := by
  have zu : s.size ≤ s.size := by exact Nat.le_refl _
  have za : (s.extract 0 (at_ 47 s)).size ≤ 1000 := by rw [ByteArray.size_extract]; omega
  have zb : (s.extract (at_ 47 s + 1) s.size).size ≤ 1000 := by rw [ByteArray.size_extract]; omega
  exact SX.run (w := w) [.string s, .int .i64 (s.size : Int), .bool true, .int .u8 (((bts s).getD 0 0 : Nat) : Int), .bool false, .int .i64 ((at_ 47 s : Nat) : Int), .int .i64 ((at_ 46 s : Nat) : Int), .bool false, .string (can 1), .int .i64 (s.size : Int), .bool true, .string (s.extract 0 (at_ 47 s)), .int .i64 ((at_ 47 s + 1 : Nat) : Int), .string (s.extract (at_ 47 s + 1) s.size), .bool false, .string (can (y)), .bool true, .bool false, .string (can 0), .bool false, .bool false, .bool true] [.b true, .b false, .b true, .b false, .b true] [.c (.p (.at 0))] 1 (.tup [.agg [.p (.lit (.bool false)), .p (.lit (.string ⟨#[]⟩)), .p (.lit (.string ⟨#[]⟩))], .c (.p (.lit (.bool false)))]) [.len (.p (.at 0)) 1, .op2 false .gtr (.p (.at 1)) (.p (.lit (.int .i64 0))) 2, .isB 2 true, .prim (.index 9 (.tmp 22) (.const (.int .i64 0))) 5 [(22, .one (.c (.p (.at 0)))), (21, .one (.c (.p (.at 2))))] (.one (.c (.p (.at 3)))), .op2 false .eql (.p (.at 3)) (.p (.lit (.int .u8 45))) 4, .isB 4 false, .call 105 [.c (.p (.at 0)), .c (.p (.lit (.int .u8 47)))] (.one (.c (.p (.at 5)))) [], .call 105 [.c (.p (.at 0)), .c (.p (.lit (.int .u8 46)))] (.one (.c (.p (.at 6)))) [], .call 84 [] (.one (.agg [.p (.at 7), .p (.at 8)])) [], .len (.p (.at 0)) 9, .op2 false .lss (.p (.at 5)) (.p (.at 9)) 10, .isB 10 true, .prim (.slice 9 (.tmp 39) none (some (.tmp 40)) none) 9 [(39, .one (.c (.p (.at 0)))), (40, .one (.c (.p (.at 5))))] (.one (.c (.p (.at 11)))), .op2 false .add (.p (.at 5)) (.p (.lit (.int .i64 1))) 12, .prim (.slice 9 (.tmp 43) (some (.tmp 45)) none none) 9 [(43, .one (.c (.p (.at 0)))), (45, .one (.c (.p (.at 12))))] (.one (.c (.p (.at 13)))), .call 106 [.c (.p (.at 13))] (.tup [.agg [.p (.at 14), .p (.at 15)], .c (.p (.at 16))]) [], .call 106 [.c (.p (.at 11))] (.tup [.agg [.p (.at 17), .p (.at 18)], .c (.p (.at 19))]) [], .op1 .not (.p (.at 16)) 20, .isB 20 false, .op1 .not (.p (.at 19)) 21, .isB 21 true] Tryz.func67 (by kernel_rfl) rfl (by kernel_rfl) rfl (by kernel_rfl)
    ⟨⟨_, rfl, rfl⟩,
     congrArg (fun z => some (Value.bool z)) (decide_eq_true (by omega) : decide ((s.size : Int) > (0 : Int)) = true),
     rfl,
     fun w' _ => index_str (k := 0) (by kernel_rfl) rfl rfl (by omega),
     congrArg (fun z => some (Value.bool z)) (beq_eq_false_iff_ne.2 (by omega) : ((((bts s).getD 0 0 : Nat) : Int) == (45 : Int)) = false),
     rfl,
     fun γ w' _ _ => rfirst_any s 47 w' (by omega),
     fun γ w' _ _ => rfirst_any s 46 w' (by omega),
     fun γ w' _ _ => rone_any w',
     ⟨_, rfl, rfl⟩,
     congrArg (fun z => some (Value.bool z)) (decide_eq_true (by omega) : decide (((at_ 47 s : Nat) : Int) < (s.size : Int)) = true),
     rfl,
     fun w' _ => slice_hi (k := at_ 47 s) (by kernel_rfl) rfl rfl (by omega),
     congrArg (fun z => some (Value.int .i64 z)) (by rw [wrap_small (by omega) (by omega)]; omega : IntKind.wrap .i64 (((at_ 47 s : Nat) : Int) + (1 : Int)) = ((at_ 47 s + 1 : Nat) : Int)),
     fun w' _ => slice_lo (k := at_ 47 s + 1) (by kernel_rfl) rfl rfl (by omega),
     fun γ w' _ _ => by have h := rdigits_v (s.extract (at_ 47 s + 1) s.size) w' (by omega); rw [hy] at h; exact h,
     fun γ w' _ _ => by have h := rdigits_v (s.extract 0 (at_ 47 s)) w' (by omega); rw [hx] at h; exact h,
     congrArg (fun z => some (Value.bool z)) (rfl : (!true) = false),
     rfl,
     congrArg (fun z => some (Value.bool z)) (rfl : (!false) = true),
     rfl⟩
theorem rParse_false_whole_ok (s : ByteArray) (x : Nat) (w : World) (hs : s.size ≤ 1000) (hp : 0 < s.size) (h2 : (bts s).getD 0 0 ≠ 45) (h47 : ¬ at_ 47 s < s.size) (h46 : ¬ at_ 46 s < s.size) (hx : digV (bts s) = some x) :
    Calls Tryz.prog 67 #[.string s] w fun e w' => e = .returned (.tuple #[QV (Rat.divInt (iv false (can (x))) (((1) : Nat) : Int)), .bool (decide ((((1) : Nat) : Int) ≠ 0))]) ∧ Below w.heap.size w w' := by
  have zu : s.size ≤ s.size := by exact Nat.le_refl _
  have zx := digV_val hx
  rw [bts_length] at zx
  have z1 : (can 1).size = 1 := rfl
  have hY := iv_can 1
  exact SX.run (w := w) [.string s, .int .i64 (s.size : Int), .bool true, .int .u8 (((bts s).getD 0 0 : Nat) : Int), .bool false, .int .i64 ((at_ 47 s : Nat) : Int), .int .i64 ((at_ 46 s : Nat) : Int), .bool false, .string (can 1), .int .i64 (s.size : Int), .bool false, .int .i64 (s.size : Int), .bool false, .bool false, .string (can (x)), .bool true, .bool false, .bool (sg (Rat.divInt (iv false (can (x))) (((1) : Nat) : Int)).num), .string (mg (Rat.divInt (iv false (can (x))) (((1) : Nat) : Int)).num), .string (dm (Rat.divInt (iv false (can (x))) (((1) : Nat) : Int)).den), .bool (decide ((((1) : Nat) : Int) ≠ 0))] [.b true, .b false, .b false, .b false, .b false] [.c (.p (.at 0))] 1 (.tup [.agg [.p (.at 17), .p (.at 18), .p (.at 19)], .c (.p (.at 20))]) [.len (.p (.at 0)) 1, .op2 false .gtr (.p (.at 1)) (.p (.lit (.int .i64 0))) 2, .isB 2 true, .prim (.index 9 (.tmp 22) (.const (.int .i64 0))) 5 [(22, .one (.c (.p (.at 0)))), (21, .one (.c (.p (.at 2))))] (.one (.c (.p (.at 3)))), .op2 false .eql (.p (.at 3)) (.p (.lit (.int .u8 45))) 4, .isB 4 false, .call 105 [.c (.p (.at 0)), .c (.p (.lit (.int .u8 47)))] (.one (.c (.p (.at 5)))) [], .call 105 [.c (.p (.at 0)), .c (.p (.lit (.int .u8 46)))] (.one (.c (.p (.at 6)))) [], .call 84 [] (.one (.agg [.p (.at 7), .p (.at 8)])) [], .len (.p (.at 0)) 9, .op2 false .lss (.p (.at 5)) (.p (.at 9)) 10, .isB 10 false, .len (.p (.at 0)) 11, .op2 false .lss (.p (.at 6)) (.p (.at 11)) 12, .isB 12 false, .call 106 [.c (.p (.at 0))] (.tup [.agg [.p (.at 13), .p (.at 14)], .c (.p (.at 15))]) [], .op1 .not (.p (.at 15)) 16, .isB 16 false, .call 47 [.agg [.p (.at 4), .p (.at 14)], .agg [.p (.at 7), .p (.at 8)]] (.tup [.agg [.p (.at 17), .p (.at 18), .p (.at 19)], .c (.p (.at 20))]) []] Tryz.func67 (by kernel_rfl) rfl (by kernel_rfl) rfl (by kernel_rfl)
    ⟨⟨_, rfl, rfl⟩,
     congrArg (fun z => some (Value.bool z)) (decide_eq_true (by omega) : decide ((s.size : Int) > (0 : Int)) = true),
     rfl,
     fun w' _ => index_str (k := 0) (by kernel_rfl) rfl rfl (by omega),
     congrArg (fun z => some (Value.bool z)) (beq_eq_false_iff_ne.2 (by omega) : ((((bts s).getD 0 0 : Nat) : Int) == (45 : Int)) = false),
     rfl,
     fun γ w' _ _ => rfirst_any s 47 w' (by omega),
     fun γ w' _ _ => rfirst_any s 46 w' (by omega),
     fun γ w' _ _ => rone_any w',
     ⟨_, rfl, rfl⟩,
     congrArg (fun z => some (Value.bool z)) (decide_eq_false (by omega) : decide (((at_ 47 s : Nat) : Int) < (s.size : Int)) = false),
     rfl,
     ⟨_, rfl, rfl⟩,
     congrArg (fun z => some (Value.bool z)) (decide_eq_false (by omega) : decide (((at_ 46 s : Nat) : Int) < (s.size : Int)) = false),
     rfl,
     fun γ w' _ _ => by have h := rdigits_v s w' (by omega); rw [hx] at h; exact h,
     congrArg (fun z => some (Value.bool z)) (rfl : (!true) = false),
     rfl,
     fun γ w' _ _ => by have h := rMake_any false false (can (x)) (can 1) w' (by omega) (by omega); rw [makeV_eq, hY] at h; exact h⟩
theorem rParse_false_whole_no (s : ByteArray) (w : World) (hs : s.size ≤ 1000) (hp : 0 < s.size) (h2 : (bts s).getD 0 0 ≠ 45) (h47 : ¬ at_ 47 s < s.size) (h46 : ¬ at_ 46 s < s.size) (hx : digV (bts s) = none) :
    Calls Tryz.prog 67 #[.string s] w fun e w' => e = .returned (.tuple #[Q3 false ⟨#[]⟩ ⟨#[]⟩, .bool false]) ∧ Below w.heap.size w w' := by
  have zu : s.size ≤ s.size := by exact Nat.le_refl _
  exact SX.run (w := w) [.string s, .int .i64 (s.size : Int), .bool true, .int .u8 (((bts s).getD 0 0 : Nat) : Int), .bool false, .int .i64 ((at_ 47 s : Nat) : Int), .int .i64 ((at_ 46 s : Nat) : Int), .bool false, .string (can 1), .int .i64 (s.size : Int), .bool false, .int .i64 (s.size : Int), .bool false, .bool false, .string (can 0), .bool false, .bool true] [.b true, .b false, .b false, .b false, .b true] [.c (.p (.at 0))] 1 (.tup [.agg [.p (.lit (.bool false)), .p (.lit (.string ⟨#[]⟩)), .p (.lit (.string ⟨#[]⟩))], .c (.p (.lit (.bool false)))]) [.len (.p (.at 0)) 1, .op2 false .gtr (.p (.at 1)) (.p (.lit (.int .i64 0))) 2, .isB 2 true, .prim (.index 9 (.tmp 22) (.const (.int .i64 0))) 5 [(22, .one (.c (.p (.at 0)))), (21, .one (.c (.p (.at 2))))] (.one (.c (.p (.at 3)))), .op2 false .eql (.p (.at 3)) (.p (.lit (.int .u8 45))) 4, .isB 4 false, .call 105 [.c (.p (.at 0)), .c (.p (.lit (.int .u8 47)))] (.one (.c (.p (.at 5)))) [], .call 105 [.c (.p (.at 0)), .c (.p (.lit (.int .u8 46)))] (.one (.c (.p (.at 6)))) [], .call 84 [] (.one (.agg [.p (.at 7), .p (.at 8)])) [], .len (.p (.at 0)) 9, .op2 false .lss (.p (.at 5)) (.p (.at 9)) 10, .isB 10 false, .len (.p (.at 0)) 11, .op2 false .lss (.p (.at 6)) (.p (.at 11)) 12, .isB 12 false, .call 106 [.c (.p (.at 0))] (.tup [.agg [.p (.at 13), .p (.at 14)], .c (.p (.at 15))]) [], .op1 .not (.p (.at 15)) 16, .isB 16 true] Tryz.func67 (by kernel_rfl) rfl (by kernel_rfl) rfl (by kernel_rfl)
    ⟨⟨_, rfl, rfl⟩,
     congrArg (fun z => some (Value.bool z)) (decide_eq_true (by omega) : decide ((s.size : Int) > (0 : Int)) = true),
     rfl,
     fun w' _ => index_str (k := 0) (by kernel_rfl) rfl rfl (by omega),
     congrArg (fun z => some (Value.bool z)) (beq_eq_false_iff_ne.2 (by omega) : ((((bts s).getD 0 0 : Nat) : Int) == (45 : Int)) = false),
     rfl,
     fun γ w' _ _ => rfirst_any s 47 w' (by omega),
     fun γ w' _ _ => rfirst_any s 46 w' (by omega),
     fun γ w' _ _ => rone_any w',
     ⟨_, rfl, rfl⟩,
     congrArg (fun z => some (Value.bool z)) (decide_eq_false (by omega) : decide (((at_ 47 s : Nat) : Int) < (s.size : Int)) = false),
     rfl,
     ⟨_, rfl, rfl⟩,
     congrArg (fun z => some (Value.bool z)) (decide_eq_false (by omega) : decide (((at_ 46 s : Nat) : Int) < (s.size : Int)) = false),
     rfl,
     fun γ w' _ _ => by have h := rdigits_v s w' (by omega); rw [hx] at h; exact h,
     congrArg (fun z => some (Value.bool z)) (rfl : (!false) = true),
     rfl⟩
set_option maxHeartbeats 1000000 in
set_option maxRecDepth 100000 in
theorem rParse_false_point_ok (s : ByteArray) (x y : Nat) (w : World) (hs : s.size ≤ 1000) (hp : 0 < s.size) (h2 : (bts s).getD 0 0 ≠ 45) (h47 : ¬ at_ 47 s < s.size) (h46 : at_ 46 s < s.size) (hx : digV (bts (s.extract 0 (at_ 46 s))) = some x) (hy : digV (bts (s.extract (at_ 46 s + 1) s.size)) = some y) :
    Calls Tryz.prog 67 #[.string s] w fun e w' => e = .returned (.tuple #[QV (Rat.divInt (iv false (can (x * 10 ^ (s.extract (at_ 46 s + 1) s.size).size + y))) (((10 ^ (s.extract (at_ 46 s + 1) s.size).size) : Nat) : Int)), .bool (decide ((((10 ^ (s.extract (at_ 46 s + 1) s.size).size) : Nat) : Int) ≠ 0))]) ∧ Below w.heap.size w w' := by
  have zu : s.size ≤ s.size := by exact Nat.le_refl _
  have za : (s.extract 0 (at_ 46 s)).size ≤ s.size := by rw [ByteArray.size_extract]; omega
  have zb : (s.extract (at_ 46 s + 1) s.size).size ≤ s.size := by rw [ByteArray.size_extract]; omega
  have zab : ((s.extract 0 (at_ 46 s)) ++ (s.extract (at_ 46 s + 1) s.size)).size ≤ s.size := piece_size _ _
  have hxy : digV (bts ((s.extract 0 (at_ 46 s)) ++ (s.extract (at_ 46 s + 1) s.size))) = some (x * 10 ^ (s.extract (at_ 46 s + 1) s.size).size + y) := by rw [bts_append, digV_app hx hy, bts_length]
  have zx := digV_val hxy
  rw [bts_length] at zx
  have zy : (mg (((10 ^ (s.extract (at_ 46 s + 1) s.size).size : Nat)) : Int)).size ≤ 1001 := Nat.le_trans (mg_size_le (k := (s.extract (at_ 46 s + 1) s.size).size + 1) (by show (10 ^ (s.extract (at_ 46 s + 1) s.size).size : Nat) < _; exact Nat.lt_of_le_of_lt (pow10_le _) (Nat.pow_lt_pow_right (by omega) (by omega)))) (by omega)
  have hY := iv_Z (((10 ^ (s.extract (at_ 46 s + 1) s.size).size : Nat)) : Int)
  exact SX.run (w := w) (.string s :: .int .i64 (s.size : Int) :: .bool true :: .int .u8 (((bts s).getD 0 0 : Nat) : Int) :: .bool false :: .int .i64 ((at_ 47 s : Nat) : Int) :: .int .i64 ((at_ 46 s : Nat) : Int) :: .bool false :: .string (can 1) :: .int .i64 (s.size : Int) :: .bool false :: .int .i64 (s.size : Int) :: .bool true :: .string (s.extract 0 (at_ 46 s)) :: .int .i64 ((at_ 46 s + 1 : Nat) : Int) :: .string (s.extract (at_ 46 s + 1) s.size) :: .bool false :: .string (can (y)) :: .bool true :: .bool false :: .string (can (x)) :: .bool true :: .string ((s.extract 0 (at_ 46 s)) ++ (s.extract (at_ 46 s + 1) s.size)) :: .int .i64 (((s.extract (at_ 46 s + 1) s.size).size : Nat) : Int) :: .bool (sg (((10 ^ (s.extract (at_ 46 s + 1) s.size).size : Nat)) : Int)) :: .string (mg (((10 ^ (s.extract (at_ 46 s + 1) s.size).size : Nat)) : Int)) :: .bool false :: .string (can (x * 10 ^ (s.extract (at_ 46 s + 1) s.size).size + y)) :: .bool true :: .bool false :: .bool false :: .bool (sg (Rat.divInt (iv false (can (x * 10 ^ (s.extract (at_ 46 s + 1) s.size).size + y))) (((10 ^ (s.extract (at_ 46 s + 1) s.size).size) : Nat) : Int)).num) :: .string (mg (Rat.divInt (iv false (can (x * 10 ^ (s.extract (at_ 46 s + 1) s.size).size + y))) (((10 ^ (s.extract (at_ 46 s + 1) s.size).size) : Nat) : Int)).num) :: .string (dm (Rat.divInt (iv false (can (x * 10 ^ (s.extract (at_ 46 s + 1) s.size).size + y))) (((10 ^ (s.extract (at_ 46 s + 1) s.size).size) : Nat) : Int)).den) :: .bool (decide ((((10 ^ (s.extract (at_ 46 s + 1) s.size).size) : Nat) : Int) ≠ 0)) :: []) [.b true, .b false, .b false, .b true, .b true, .lp [(15, .one (.c (.p (.at 23))))] [(1025, .p (.at 24)), (1026, .p (.at 25))] 26 (.exit 0), .b false, .b false] [.c (.p (.at 0))] 1 (.tup [.agg [.p (.at 31), .p (.at 32), .p (.at 33)], .c (.p (.at 34))]) (.len (.p (.at 0)) 1 :: .op2 false .gtr (.p (.at 1)) (.p (.lit (.int .i64 0))) 2 :: .isB 2 true :: .prim (.index 9 (.tmp 22) (.const (.int .i64 0))) 5 [(22, .one (.c (.p (.at 0)))), (21, .one (.c (.p (.at 2))))] (.one (.c (.p (.at 3)))) :: .op2 false .eql (.p (.at 3)) (.p (.lit (.int .u8 45))) 4 :: .isB 4 false :: .call 105 [.c (.p (.at 0)), .c (.p (.lit (.int .u8 47)))] (.one (.c (.p (.at 5)))) [] :: .call 105 [.c (.p (.at 0)), .c (.p (.lit (.int .u8 46)))] (.one (.c (.p (.at 6)))) [] :: .call 84 [] (.one (.agg [.p (.at 7), .p (.at 8)])) [] :: .len (.p (.at 0)) 9 :: .op2 false .lss (.p (.at 5)) (.p (.at 9)) 10 :: .isB 10 false :: .len (.p (.at 0)) 11 :: .op2 false .lss (.p (.at 6)) (.p (.at 11)) 12 :: .isB 12 true :: .prim (.slice 9 (.tmp 54) none (some (.tmp 55)) none) 9 [(54, .one (.c (.p (.at 0)))), (55, .one (.c (.p (.at 6))))] (.one (.c (.p (.at 13)))) :: .op2 false .add (.p (.at 6)) (.p (.lit (.int .i64 1))) 14 :: .prim (.slice 9 (.tmp 57) (some (.tmp 59)) none none) 9 [(57, .one (.c (.p (.at 0)))), (59, .one (.c (.p (.at 14))))] (.one (.c (.p (.at 15)))) :: .call 106 [.c (.p (.at 15))] (.tup [.agg [.p (.at 16), .p (.at 17)], .c (.p (.at 18))]) [] :: .call 106 [.c (.p (.at 13))] (.tup [.agg [.p (.at 19), .p (.at 20)], .c (.p (.at 21))]) [] :: .isB 18 true :: .op2 false .add (.p (.at 13)) (.p (.at 15)) 22 :: SX.obAt Tryz.prog Tryz.f67 [.b true, .b false, .b false, .b true, .b true, .lp [(15, .one (.c (.p (.at 23))))] [(1025, .p (.at 24)), (1026, .p (.at 25))] 26 (.exit 0), .b false, .b false] 22 :: .call 106 [.c (.p (.at 22))] (.tup [.agg [.p (.at 26), .p (.at 27)], .c (.p (.at 28))]) [] :: .op1 .not (.p (.at 21)) 29 :: .isB 29 false :: .op1 .not (.p (.at 28)) 30 :: .isB 30 false :: .call 47 [.agg [.p (.at 4), .p (.at 27)], .agg [.p (.at 24), .p (.at 25)]] (.tup [.agg [.p (.at 31), .p (.at 32), .p (.at 33)], .c (.p (.at 34))]) [] :: []) Tryz.func67 (by kernel_rfl) rfl (by kernel_rfl) rfl (by kernel_rfl)
    ⟨⟨_, rfl, rfl⟩,
     congrArg (fun z => some (Value.bool z)) (decide_eq_true (by omega) : decide ((s.size : Int) > (0 : Int)) = true),
     rfl,
     fun w' _ => index_str (k := 0) (by kernel_rfl) rfl rfl (by omega),
     congrArg (fun z => some (Value.bool z)) (beq_eq_false_iff_ne.2 (by omega) : ((((bts s).getD 0 0 : Nat) : Int) == (45 : Int)) = false),
     rfl,
     fun γ w' _ _ => rfirst_any s 47 w' (by omega),
     fun γ w' _ _ => rfirst_any s 46 w' (by omega),
     fun γ w' _ _ => rone_any w',
     ⟨_, rfl, rfl⟩,
     congrArg (fun z => some (Value.bool z)) (decide_eq_false (by omega) : decide (((at_ 47 s : Nat) : Int) < (s.size : Int)) = false),
     rfl,
     ⟨_, rfl, rfl⟩,
     congrArg (fun z => some (Value.bool z)) (decide_eq_true (by omega) : decide (((at_ 46 s : Nat) : Int) < (s.size : Int)) = true),
     rfl,
     fun w' _ => slice_hi (k := at_ 46 s) (by kernel_rfl) rfl rfl (by omega),
     congrArg (fun z => some (Value.int .i64 z)) (by rw [wrap_small (by omega) (by omega)]; omega : IntKind.wrap .i64 (((at_ 46 s : Nat) : Int) + (1 : Int)) = ((at_ 46 s + 1 : Nat) : Int)),
     fun w' _ => slice_lo (k := at_ 46 s + 1) (by kernel_rfl) rfl rfl (by omega),
     fun γ w' _ _ => by have h := rdigits_v (s.extract (at_ 46 s + 1) s.size) w' (by omega); rw [hy] at h; exact h,
     fun γ w' _ _ => by have h := rdigits_v (s.extract 0 (at_ 46 s)) w' (by omega); rw [hx] at h; exact h,
     rfl,
     if_neg (cat_ok (by omega)),
     (by
      obtain ⟨body, hbody⟩ : ∃ body : Nat → List Value, body = fun k => if k = (s.extract (at_ 46 s + 1) s.size).size then ([.int .i64 ((s.extract (at_ 46 s + 1) s.size).size : Int), .bool (decide ((k : Int) < ((s.extract (at_ 46 s + 1) s.size).size : Int)))] : List Value) else [.int .i64 ((s.extract (at_ 46 s + 1) s.size).size : Int), .bool (decide ((k : Int) < ((s.extract (at_ 46 s + 1) s.size).size : Int))), .bool (sg (10 : Int)), .string (mg (10 : Int)), .bool (sg (((10 ^ (k + 1) : Nat)) : Int)), .string (mg (((10 ^ (k + 1) : Nat)) : Int)), .int .i64 ((k + 1 : Nat) : Int)] := ⟨_, rfl⟩
      have hall : ∀ k, (body k).all Value.oneCell' = true := by intro k; rw [hbody]; simp only []; (repeat' split) <;> rfl
      refine SX.loop_holds (by kernel_rfl) (SX.obAt Tryz.prog Tryz.f67 [.b true, .b false, .b false, .b true, .b true, .lp [(15, .one (.c (.p (.at 23))))] [(1025, .p (.at 24)), (1026, .p (.at 25))] 26 (.exit 0), .b false, .b false] 22) [(15, .one (.c (.p (.at 23))))] [(1025, .p (.at 24)), (1026, .p (.at 25))] 4 23 26 ((s.extract (at_ 46 s + 1) s.size).size) (fun k => SX.env (.string s :: .int .i64 (s.size : Int) :: .bool true :: .int .u8 (((bts s).getD 0 0 : Nat) : Int) :: .bool false :: .int .i64 ((at_ 47 s : Nat) : Int) :: .int .i64 ((at_ 46 s : Nat) : Int) :: .bool false :: .string (can 1) :: .int .i64 (s.size : Int) :: .bool false :: .int .i64 (s.size : Int) :: .bool true :: .string (s.extract 0 (at_ 46 s)) :: .int .i64 ((at_ 46 s + 1 : Nat) : Int) :: .string (s.extract (at_ 46 s + 1) s.size) :: .bool false :: .string (can (y)) :: .bool true :: .bool false :: .string (can (x)) :: .bool true :: .string ((s.extract 0 (at_ 46 s)) ++ (s.extract (at_ 46 s + 1) s.size)) :: .int .i64 (k : Int) :: .bool (sg (((10 ^ k : Nat)) : Int)) :: .string (mg (((10 ^ k : Nat)) : Int)) :: body k)) (fun k => SX.env_ok (by simp only [List.all_cons, hall k]; rfl)) (eT := [(.one (.c (.p (.lit (.int .i64 0)))), .one (.c (.p (.at 23))))]) (eM := [(.p (.at 7), .p (.at 24)), (.p (.at 8), .p (.at 25))]) (by kernel_rfl) (SX.eqT_cons (rfl) (SX.eqT_nil)) (SX.eqM_cons (by rw [Nat.pow_zero]; rfl) (SX.eqM_cons (by rw [Nat.pow_zero]; rfl) (SX.eqM_nil))) (fun k => SX.env_agree rfl) (fun k hk => ?_)
      by_cases hc0 : k = (s.extract (at_ 46 s + 1) s.size).size
      · have eb : body k = [.int .i64 ((s.extract (at_ 46 s + 1) s.size).size : Int), .bool (decide ((k : Int) < ((s.extract (at_ 46 s + 1) s.size).size : Int)))] := by rw [hbody]; simp only [if_pos hc0]
        refine ⟨[.b false], false, [.len (.p (.at 15)) 26, .op2 false .lss (.p (.at 23)) (.p (.at 26)) 27, .isB 27 false], [(.one (.c (.p (.at 23))), .one (.c (.p (.at 23))))], [(.p (.at 24), .p (.at 24)), (.p (.at 25), .p (.at 25))], by kernel_rfl, ?_, SX.eqT_cons (by first | rfl | (rw [eb]; rfl) | (rw [eb, hc0]; rfl) | (rw [eb]; simp)) (SX.eqT_nil), SX.eqM_cons (by rw [eb, hc0]; rfl) (SX.eqM_cons (by rw [eb, hc0]; rfl) (SX.eqM_nil)), fun h => absurd h (by decide)⟩
        rw [eb]
        exact SX.All.mem (l := [.len (.p (.at 15)) 26, .op2 false .lss (.p (.at 23)) (.p (.at 26)) 27, .isB 27 false]) (⟨⟨_, rfl, rfl⟩,
             rfl,
             congrArg Value.bool (decide_eq_false (by omega) : (decide ((k : Int) < ((s.extract (at_ 46 s + 1) s.size).size : Int))) = false)⟩)
      · have eb : body k = [.int .i64 ((s.extract (at_ 46 s + 1) s.size).size : Int), .bool (decide ((k : Int) < ((s.extract (at_ 46 s + 1) s.size).size : Int))), .bool (sg (10 : Int)), .string (mg (10 : Int)), .bool (sg (((10 ^ (k + 1) : Nat)) : Int)), .string (mg (((10 ^ (k + 1) : Nat)) : Int)), .int .i64 ((k + 1 : Nat) : Int)] := by rw [hbody]; simp only [if_neg hc0]
        have t1 : 10 ^ k < 256 ^ (k + 1) := Nat.lt_of_le_of_lt (pow10_le k) (Nat.pow_lt_pow_right (by omega) (by omega))
        have fD : (mg (((10 ^ k : Nat)) : Int)).size ≤ 1001 := Nat.le_trans (mg_size_le (k := k + 1) (by show (10 ^ k : Nat) < _; exact t1)) (by omega)
        have fT : (mg (10 : Int)).size ≤ 1 := mg_size_le (by decide)
        have hst : (((10 ^ k : Nat)) : Int) * (10 : Int) = (((10 ^ (k + 1) : Nat)) : Int) := by rw [Nat.pow_succ, Int.natCast_mul]; rfl
        have f201 : (mg (10 : Int)).size ≤ 8 := mg_size_le (by first | decide | omega)
        refine ⟨[.b true], true, [.len (.p (.at 15)) 26, .op2 false .lss (.p (.at 23)) (.p (.at 26)) 27, .isB 27 true, .call 38 [.c (.p (.lit (.int .i64 10)))] (.one (.agg [.p (.at 28), .p (.at 29)])) [], .call 37 [.agg [.p (.at 24), .p (.at 25)], .agg [.p (.at 28), .p (.at 29)]] (.one (.agg [.p (.at 30), .p (.at 31)])) [], .op2 false .add (.p (.at 23)) (.p (.lit (.int .i64 1))) 32], [(.one (.c (.p (.at 32))), .one (.c (.p (.at 23))))], [(.p (.at 30), .p (.at 24)), (.p (.at 31), .p (.at 25))], by kernel_rfl, ?_, SX.eqT_cons (by first | rfl | (rw [eb]; rfl) | (rw [eb]; simp)) (SX.eqT_nil), SX.eqM_cons (by first | rfl | (rw [eb]; rfl) | (rw [eb]; simp)) (SX.eqM_cons (by first | rfl | (rw [eb]; rfl) | (rw [eb]; simp)) (SX.eqM_nil)), fun _ => by omega⟩
        rw [eb]
        exact SX.All.mem (l := [.len (.p (.at 15)) 26, .op2 false .lss (.p (.at 23)) (.p (.at 26)) 27, .isB 27 true, .call 38 [.c (.p (.lit (.int .i64 10)))] (.one (.agg [.p (.at 28), .p (.at 29)])) [], .call 37 [.agg [.p (.at 24), .p (.at 25)], .agg [.p (.at 28), .p (.at 29)]] (.one (.agg [.p (.at 30), .p (.at 31)])) [], .op2 false .add (.p (.at 23)) (.p (.lit (.int .i64 1))) 32]) (⟨⟨_, rfl, rfl⟩,
             rfl,
             congrArg Value.bool (decide_eq_true (by omega) : (decide ((k : Int) < ((s.extract (at_ 46 s + 1) s.size).size : Int))) = true),
             fun γ w' _ _ => From_any 10 w' (by omega) (by omega),
             fun γ w' _ _ => by have h := refMul2_any (sg (((10 ^ k : Nat)) : Int)) (sg (10 : Int)) (mg (((10 ^ k : Nat)) : Int)) (mg (10 : Int)) w' (by omega) (by omega); simp only [iv_Z] at h; rw [hst] at h; exact h,
             congrArg (fun z => some (Value.int .i64 z)) (by rw [wrap_small (by omega) (by omega)]; omega : IntKind.wrap .i64 ((k : Int) + (1 : Int)) = ((k + 1 : Nat) : Int))⟩)),
     fun γ w' _ _ => by have h := rdigits_v ((s.extract 0 (at_ 46 s)) ++ (s.extract (at_ 46 s + 1) s.size)) w' (by omega); rw [hxy] at h; exact h,
     congrArg (fun z => some (Value.bool z)) (rfl : (!true) = false),
     rfl,
     congrArg (fun z => some (Value.bool z)) (rfl : (!true) = false),
     rfl,
     fun γ w' _ _ => by have h := rMake_any false (sg (((10 ^ (s.extract (at_ 46 s + 1) s.size).size : Nat)) : Int)) (can (x * 10 ^ (s.extract (at_ 46 s + 1) s.size).size + y)) (mg (((10 ^ (s.extract (at_ 46 s + 1) s.size).size : Nat)) : Int)) w' (by omega) (by omega); rw [makeV_eq, hY] at h; exact h⟩
set_option maxHeartbeats 1000000 in
set_option maxRecDepth 100000 in
theorem rParse_false_point_up (s : ByteArray) (y : Nat) (w : World) (hs : s.size ≤ 1000) (hp : 0 < s.size) (h2 : (bts s).getD 0 0 ≠ 45) (h47 : ¬ at_ 47 s < s.size) (h46 : at_ 46 s < s.size) (hx : digV (bts (s.extract 0 (at_ 46 s))) = none) (hy : digV (bts (s.extract (at_ 46 s + 1) s.size)) = some y) :
    Calls Tryz.prog 67 #[.string s] w fun e w' => e = .returned (.tuple #[Q3 false ⟨#[]⟩ ⟨#[]⟩, .bool false]) ∧ Below w.heap.size w w' := by
  have zu : s.size ≤ s.size := by exact Nat.le_refl _
  have za : (s.extract 0 (at_ 46 s)).size ≤ s.size := by rw [ByteArray.size_extract]; omega
  have zb : (s.extract (at_ 46 s + 1) s.size).size ≤ s.size := by rw [ByteArray.size_extract]; omega
  have zab : ((s.extract 0 (at_ 46 s)) ++ (s.extract (at_ 46 s + 1) s.size)).size ≤ s.size := piece_size _ _
  exact SX.run (w := w) (.string s :: .int .i64 (s.size : Int) :: .bool true :: .int .u8 (((bts s).getD 0 0 : Nat) : Int) :: .bool false :: .int .i64 ((at_ 47 s : Nat) : Int) :: .int .i64 ((at_ 46 s : Nat) : Int) :: .bool false :: .string (can 1) :: .int .i64 (s.size : Int) :: .bool false :: .int .i64 (s.size : Int) :: .bool true :: .string (s.extract 0 (at_ 46 s)) :: .int .i64 ((at_ 46 s + 1 : Nat) : Int) :: .string (s.extract (at_ 46 s + 1) s.size) :: .bool false :: .string (can (y)) :: .bool true :: .bool false :: .string (can 0) :: .bool false :: .string ((s.extract 0 (at_ 46 s)) ++ (s.extract (at_ 46 s + 1) s.size)) :: .int .i64 (((s.extract (at_ 46 s + 1) s.size).size : Nat) : Int) :: .bool (sg (((10 ^ (s.extract (at_ 46 s + 1) s.size).size : Nat)) : Int)) :: .string (mg (((10 ^ (s.extract (at_ 46 s + 1) s.size).size : Nat)) : Int)) :: .bool false :: .string (can ((digV (bts ((s.extract 0 (at_ 46 s)) ++ (s.extract (at_ 46 s + 1) s.size)))).getD 0)) :: .bool (digV (bts ((s.extract 0 (at_ 46 s)) ++ (s.extract (at_ 46 s + 1) s.size)))).isSome :: .bool true :: []) [.b true, .b false, .b false, .b true, .b true, .lp [(15, .one (.c (.p (.at 23))))] [(1025, .p (.at 24)), (1026, .p (.at 25))] 26 (.exit 0), .b true] [.c (.p (.at 0))] 1 (.tup [.agg [.p (.lit (.bool false)), .p (.lit (.string ⟨#[]⟩)), .p (.lit (.string ⟨#[]⟩))], .c (.p (.lit (.bool false)))]) [.len (.p (.at 0)) 1, .op2 false .gtr (.p (.at 1)) (.p (.lit (.int .i64 0))) 2, .isB 2 true, .prim (.index 9 (.tmp 22) (.const (.int .i64 0))) 5 [(22, .one (.c (.p (.at 0)))), (21, .one (.c (.p (.at 2))))] (.one (.c (.p (.at 3)))), .op2 false .eql (.p (.at 3)) (.p (.lit (.int .u8 45))) 4, .isB 4 false, .call 105 [.c (.p (.at 0)), .c (.p (.lit (.int .u8 47)))] (.one (.c (.p (.at 5)))) [], .call 105 [.c (.p (.at 0)), .c (.p (.lit (.int .u8 46)))] (.one (.c (.p (.at 6)))) [], .call 84 [] (.one (.agg [.p (.at 7), .p (.at 8)])) [], .len (.p (.at 0)) 9, .op2 false .lss (.p (.at 5)) (.p (.at 9)) 10, .isB 10 false, .len (.p (.at 0)) 11, .op2 false .lss (.p (.at 6)) (.p (.at 11)) 12, .isB 12 true, .prim (.slice 9 (.tmp 54) none (some (.tmp 55)) none) 9 [(54, .one (.c (.p (.at 0)))), (55, .one (.c (.p (.at 6))))] (.one (.c (.p (.at 13)))), .op2 false .add (.p (.at 6)) (.p (.lit (.int .i64 1))) 14, .prim (.slice 9 (.tmp 57) (some (.tmp 59)) none none) 9 [(57, .one (.c (.p (.at 0)))), (59, .one (.c (.p (.at 14))))] (.one (.c (.p (.at 15)))), .call 106 [.c (.p (.at 15))] (.tup [.agg [.p (.at 16), .p (.at 17)], .c (.p (.at 18))]) [], .call 106 [.c (.p (.at 13))] (.tup [.agg [.p (.at 19), .p (.at 20)], .c (.p (.at 21))]) [], .isB 18 true, .op2 false .add (.p (.at 13)) (.p (.at 15)) 22, SX.obAt Tryz.prog Tryz.f67 [.b true, .b false, .b false, .b true, .b true, .lp [(15, .one (.c (.p (.at 23))))] [(1025, .p (.at 24)), (1026, .p (.at 25))] 26 (.exit 0), .b true] 22, .call 106 [.c (.p (.at 22))] (.tup [.agg [.p (.at 26), .p (.at 27)], .c (.p (.at 28))]) [], .op1 .not (.p (.at 21)) 29, .isB 29 true] Tryz.func67 (by kernel_rfl) rfl (by kernel_rfl) rfl (by kernel_rfl)
    ⟨⟨_, rfl, rfl⟩,
     congrArg (fun z => some (Value.bool z)) (decide_eq_true (by omega) : decide ((s.size : Int) > (0 : Int)) = true),
     rfl,
     fun w' _ => index_str (k := 0) (by kernel_rfl) rfl rfl (by omega),
     congrArg (fun z => some (Value.bool z)) (beq_eq_false_iff_ne.2 (by omega) : ((((bts s).getD 0 0 : Nat) : Int) == (45 : Int)) = false),
     rfl,
     fun γ w' _ _ => rfirst_any s 47 w' (by omega),
     fun γ w' _ _ => rfirst_any s 46 w' (by omega),
     fun γ w' _ _ => rone_any w',
     ⟨_, rfl, rfl⟩,
     congrArg (fun z => some (Value.bool z)) (decide_eq_false (by omega) : decide (((at_ 47 s : Nat) : Int) < (s.size : Int)) = false),
     rfl,
     ⟨_, rfl, rfl⟩,
     congrArg (fun z => some (Value.bool z)) (decide_eq_true (by omega) : decide (((at_ 46 s : Nat) : Int) < (s.size : Int)) = true),
     rfl,
     fun w' _ => slice_hi (k := at_ 46 s) (by kernel_rfl) rfl rfl (by omega),
     congrArg (fun z => some (Value.int .i64 z)) (by rw [wrap_small (by omega) (by omega)]; omega : IntKind.wrap .i64 (((at_ 46 s : Nat) : Int) + (1 : Int)) = ((at_ 46 s + 1 : Nat) : Int)),
     fun w' _ => slice_lo (k := at_ 46 s + 1) (by kernel_rfl) rfl rfl (by omega),
     fun γ w' _ _ => by have h := rdigits_v (s.extract (at_ 46 s + 1) s.size) w' (by omega); rw [hy] at h; exact h,
     fun γ w' _ _ => by have h := rdigits_v (s.extract 0 (at_ 46 s)) w' (by omega); rw [hx] at h; exact h,
     rfl,
     if_neg (cat_ok (by omega)),
     (by
      obtain ⟨body, hbody⟩ : ∃ body : Nat → List Value, body = fun k => if k = (s.extract (at_ 46 s + 1) s.size).size then ([.int .i64 ((s.extract (at_ 46 s + 1) s.size).size : Int), .bool (decide ((k : Int) < ((s.extract (at_ 46 s + 1) s.size).size : Int)))] : List Value) else [.int .i64 ((s.extract (at_ 46 s + 1) s.size).size : Int), .bool (decide ((k : Int) < ((s.extract (at_ 46 s + 1) s.size).size : Int))), .bool (sg (10 : Int)), .string (mg (10 : Int)), .bool (sg (((10 ^ (k + 1) : Nat)) : Int)), .string (mg (((10 ^ (k + 1) : Nat)) : Int)), .int .i64 ((k + 1 : Nat) : Int)] := ⟨_, rfl⟩
      have hall : ∀ k, (body k).all Value.oneCell' = true := by intro k; rw [hbody]; simp only []; (repeat' split) <;> rfl
      refine SX.loop_holds (by kernel_rfl) (SX.obAt Tryz.prog Tryz.f67 [.b true, .b false, .b false, .b true, .b true, .lp [(15, .one (.c (.p (.at 23))))] [(1025, .p (.at 24)), (1026, .p (.at 25))] 26 (.exit 0), .b true] 22) [(15, .one (.c (.p (.at 23))))] [(1025, .p (.at 24)), (1026, .p (.at 25))] 4 23 26 ((s.extract (at_ 46 s + 1) s.size).size) (fun k => SX.env (.string s :: .int .i64 (s.size : Int) :: .bool true :: .int .u8 (((bts s).getD 0 0 : Nat) : Int) :: .bool false :: .int .i64 ((at_ 47 s : Nat) : Int) :: .int .i64 ((at_ 46 s : Nat) : Int) :: .bool false :: .string (can 1) :: .int .i64 (s.size : Int) :: .bool false :: .int .i64 (s.size : Int) :: .bool true :: .string (s.extract 0 (at_ 46 s)) :: .int .i64 ((at_ 46 s + 1 : Nat) : Int) :: .string (s.extract (at_ 46 s + 1) s.size) :: .bool false :: .string (can (y)) :: .bool true :: .bool false :: .string (can 0) :: .bool false :: .string ((s.extract 0 (at_ 46 s)) ++ (s.extract (at_ 46 s + 1) s.size)) :: .int .i64 (k : Int) :: .bool (sg (((10 ^ k : Nat)) : Int)) :: .string (mg (((10 ^ k : Nat)) : Int)) :: body k)) (fun k => SX.env_ok (by simp only [List.all_cons, hall k]; rfl)) (eT := [(.one (.c (.p (.lit (.int .i64 0)))), .one (.c (.p (.at 23))))]) (eM := [(.p (.at 7), .p (.at 24)), (.p (.at 8), .p (.at 25))]) (by kernel_rfl) (SX.eqT_cons (rfl) (SX.eqT_nil)) (SX.eqM_cons (by rw [Nat.pow_zero]; rfl) (SX.eqM_cons (by rw [Nat.pow_zero]; rfl) (SX.eqM_nil))) (fun k => SX.env_agree rfl) (fun k hk => ?_)
      by_cases hc0 : k = (s.extract (at_ 46 s + 1) s.size).size
      · have eb : body k = [.int .i64 ((s.extract (at_ 46 s + 1) s.size).size : Int), .bool (decide ((k : Int) < ((s.extract (at_ 46 s + 1) s.size).size : Int)))] := by rw [hbody]; simp only [if_pos hc0]
        refine ⟨[.b false], false, [.len (.p (.at 15)) 26, .op2 false .lss (.p (.at 23)) (.p (.at 26)) 27, .isB 27 false], [(.one (.c (.p (.at 23))), .one (.c (.p (.at 23))))], [(.p (.at 24), .p (.at 24)), (.p (.at 25), .p (.at 25))], by kernel_rfl, ?_, SX.eqT_cons (by first | rfl | (rw [eb]; rfl) | (rw [eb, hc0]; rfl) | (rw [eb]; simp)) (SX.eqT_nil), SX.eqM_cons (by rw [eb, hc0]; rfl) (SX.eqM_cons (by rw [eb, hc0]; rfl) (SX.eqM_nil)), fun h => absurd h (by decide)⟩
        rw [eb]
        exact SX.All.mem (l := [.len (.p (.at 15)) 26, .op2 false .lss (.p (.at 23)) (.p (.at 26)) 27, .isB 27 false]) (⟨⟨_, rfl, rfl⟩,
             rfl,
             congrArg Value.bool (decide_eq_false (by omega) : (decide ((k : Int) < ((s.extract (at_ 46 s + 1) s.size).size : Int))) = false)⟩)
      · have eb : body k = [.int .i64 ((s.extract (at_ 46 s + 1) s.size).size : Int), .bool (decide ((k : Int) < ((s.extract (at_ 46 s + 1) s.size).size : Int))), .bool (sg (10 : Int)), .string (mg (10 : Int)), .bool (sg (((10 ^ (k + 1) : Nat)) : Int)), .string (mg (((10 ^ (k + 1) : Nat)) : Int)), .int .i64 ((k + 1 : Nat) : Int)] := by rw [hbody]; simp only [if_neg hc0]
        have t1 : 10 ^ k < 256 ^ (k + 1) := Nat.lt_of_le_of_lt (pow10_le k) (Nat.pow_lt_pow_right (by omega) (by omega))
        have fD : (mg (((10 ^ k : Nat)) : Int)).size ≤ 1001 := Nat.le_trans (mg_size_le (k := k + 1) (by show (10 ^ k : Nat) < _; exact t1)) (by omega)
        have fT : (mg (10 : Int)).size ≤ 1 := mg_size_le (by decide)
        have hst : (((10 ^ k : Nat)) : Int) * (10 : Int) = (((10 ^ (k + 1) : Nat)) : Int) := by rw [Nat.pow_succ, Int.natCast_mul]; rfl
        have f201 : (mg (10 : Int)).size ≤ 8 := mg_size_le (by first | decide | omega)
        refine ⟨[.b true], true, [.len (.p (.at 15)) 26, .op2 false .lss (.p (.at 23)) (.p (.at 26)) 27, .isB 27 true, .call 38 [.c (.p (.lit (.int .i64 10)))] (.one (.agg [.p (.at 28), .p (.at 29)])) [], .call 37 [.agg [.p (.at 24), .p (.at 25)], .agg [.p (.at 28), .p (.at 29)]] (.one (.agg [.p (.at 30), .p (.at 31)])) [], .op2 false .add (.p (.at 23)) (.p (.lit (.int .i64 1))) 32], [(.one (.c (.p (.at 32))), .one (.c (.p (.at 23))))], [(.p (.at 30), .p (.at 24)), (.p (.at 31), .p (.at 25))], by kernel_rfl, ?_, SX.eqT_cons (by first | rfl | (rw [eb]; rfl) | (rw [eb]; simp)) (SX.eqT_nil), SX.eqM_cons (by first | rfl | (rw [eb]; rfl) | (rw [eb]; simp)) (SX.eqM_cons (by first | rfl | (rw [eb]; rfl) | (rw [eb]; simp)) (SX.eqM_nil)), fun _ => by omega⟩
        rw [eb]
        exact SX.All.mem (l := [.len (.p (.at 15)) 26, .op2 false .lss (.p (.at 23)) (.p (.at 26)) 27, .isB 27 true, .call 38 [.c (.p (.lit (.int .i64 10)))] (.one (.agg [.p (.at 28), .p (.at 29)])) [], .call 37 [.agg [.p (.at 24), .p (.at 25)], .agg [.p (.at 28), .p (.at 29)]] (.one (.agg [.p (.at 30), .p (.at 31)])) [], .op2 false .add (.p (.at 23)) (.p (.lit (.int .i64 1))) 32]) (⟨⟨_, rfl, rfl⟩,
             rfl,
             congrArg Value.bool (decide_eq_true (by omega) : (decide ((k : Int) < ((s.extract (at_ 46 s + 1) s.size).size : Int))) = true),
             fun γ w' _ _ => From_any 10 w' (by omega) (by omega),
             fun γ w' _ _ => by have h := refMul2_any (sg (((10 ^ k : Nat)) : Int)) (sg (10 : Int)) (mg (((10 ^ k : Nat)) : Int)) (mg (10 : Int)) w' (by omega) (by omega); simp only [iv_Z] at h; rw [hst] at h; exact h,
             congrArg (fun z => some (Value.int .i64 z)) (by rw [wrap_small (by omega) (by omega)]; omega : IntKind.wrap .i64 ((k : Int) + (1 : Int)) = ((k + 1 : Nat) : Int))⟩)),
     fun γ w' _ _ => rdigits_v ((s.extract 0 (at_ 46 s)) ++ (s.extract (at_ 46 s + 1) s.size)) w' (by omega),
     congrArg (fun z => some (Value.bool z)) (rfl : (!false) = true),
     rfl⟩
set_option maxHeartbeats 1000000 in
set_option maxRecDepth 100000 in
theorem rParse_false_point_lo (s : ByteArray) (w : World) (hs : s.size ≤ 1000) (hp : 0 < s.size) (h2 : (bts s).getD 0 0 ≠ 45) (h47 : ¬ at_ 47 s < s.size) (h46 : at_ 46 s < s.size) (hy : digV (bts (s.extract (at_ 46 s + 1) s.size)) = none) :
    Calls Tryz.prog 67 #[.string s] w fun e w' => e = .returned (.tuple #[Q3 false ⟨#[]⟩ ⟨#[]⟩, .bool false]) ∧ Below w.heap.size w w' := by
  have zu : s.size ≤ s.size := by exact Nat.le_refl _
  have za : (s.extract 0 (at_ 46 s)).size ≤ s.size := by rw [ByteArray.size_extract]; omega
  have zb : (s.extract (at_ 46 s + 1) s.size).size ≤ s.size := by rw [ByteArray.size_extract]; omega
  have zab : ((s.extract 0 (at_ 46 s)) ++ (s.extract (at_ 46 s + 1) s.size)).size ≤ s.size := piece_size _ _
  exact SX.run (w := w) (.string s :: .int .i64 (s.size : Int) :: .bool true :: .int .u8 (((bts s).getD 0 0 : Nat) : Int) :: .bool false :: .int .i64 ((at_ 47 s : Nat) : Int) :: .int .i64 ((at_ 46 s : Nat) : Int) :: .bool false :: .string (can 1) :: .int .i64 (s.size : Int) :: .bool false :: .int .i64 (s.size : Int) :: .bool true :: .string (s.extract 0 (at_ 46 s)) :: .int .i64 ((at_ 46 s + 1 : Nat) : Int) :: .string (s.extract (at_ 46 s + 1) s.size) :: .bool false :: .string (can 0) :: .bool false :: .bool false :: .string (can ((digV (bts (s.extract 0 (at_ 46 s)))).getD 0)) :: .bool (digV (bts (s.extract 0 (at_ 46 s)))).isSome :: .string ((s.extract 0 (at_ 46 s)) ++ (s.extract (at_ 46 s + 1) s.size)) :: .int .i64 (((s.extract (at_ 46 s + 1) s.size).size : Nat) : Int) :: .bool (sg (((10 ^ (s.extract (at_ 46 s + 1) s.size).size : Nat)) : Int)) :: .string (mg (((10 ^ (s.extract (at_ 46 s + 1) s.size).size : Nat)) : Int)) :: .bool false :: .string (can ((digV (bts ((s.extract 0 (at_ 46 s)) ++ (s.extract (at_ 46 s + 1) s.size)))).getD 0)) :: .bool (digV (bts ((s.extract 0 (at_ 46 s)) ++ (s.extract (at_ 46 s + 1) s.size)))).isSome :: []) [.b true, .b false, .b false, .b true, .b false, .lp [(15, .one (.c (.p (.at 23))))] [(1025, .p (.at 24)), (1026, .p (.at 25))] 26 (.exit 0)] [.c (.p (.at 0))] 1 (.tup [.agg [.p (.lit (.bool false)), .p (.lit (.string ⟨#[]⟩)), .p (.lit (.string ⟨#[]⟩))], .c (.p (.lit (.bool false)))]) [.len (.p (.at 0)) 1, .op2 false .gtr (.p (.at 1)) (.p (.lit (.int .i64 0))) 2, .isB 2 true, .prim (.index 9 (.tmp 22) (.const (.int .i64 0))) 5 [(22, .one (.c (.p (.at 0)))), (21, .one (.c (.p (.at 2))))] (.one (.c (.p (.at 3)))), .op2 false .eql (.p (.at 3)) (.p (.lit (.int .u8 45))) 4, .isB 4 false, .call 105 [.c (.p (.at 0)), .c (.p (.lit (.int .u8 47)))] (.one (.c (.p (.at 5)))) [], .call 105 [.c (.p (.at 0)), .c (.p (.lit (.int .u8 46)))] (.one (.c (.p (.at 6)))) [], .call 84 [] (.one (.agg [.p (.at 7), .p (.at 8)])) [], .len (.p (.at 0)) 9, .op2 false .lss (.p (.at 5)) (.p (.at 9)) 10, .isB 10 false, .len (.p (.at 0)) 11, .op2 false .lss (.p (.at 6)) (.p (.at 11)) 12, .isB 12 true, .prim (.slice 9 (.tmp 54) none (some (.tmp 55)) none) 9 [(54, .one (.c (.p (.at 0)))), (55, .one (.c (.p (.at 6))))] (.one (.c (.p (.at 13)))), .op2 false .add (.p (.at 6)) (.p (.lit (.int .i64 1))) 14, .prim (.slice 9 (.tmp 57) (some (.tmp 59)) none none) 9 [(57, .one (.c (.p (.at 0)))), (59, .one (.c (.p (.at 14))))] (.one (.c (.p (.at 15)))), .call 106 [.c (.p (.at 15))] (.tup [.agg [.p (.at 16), .p (.at 17)], .c (.p (.at 18))]) [], .call 106 [.c (.p (.at 13))] (.tup [.agg [.p (.at 19), .p (.at 20)], .c (.p (.at 21))]) [], .isB 18 false, .op2 false .add (.p (.at 13)) (.p (.at 15)) 22, SX.obAt Tryz.prog Tryz.f67 [.b true, .b false, .b false, .b true, .b false, .lp [(15, .one (.c (.p (.at 23))))] [(1025, .p (.at 24)), (1026, .p (.at 25))] 26 (.exit 0)] 22, .call 106 [.c (.p (.at 22))] (.tup [.agg [.p (.at 26), .p (.at 27)], .c (.p (.at 28))]) []] Tryz.func67 (by kernel_rfl) rfl (by kernel_rfl) rfl (by kernel_rfl)
    ⟨⟨_, rfl, rfl⟩,
     congrArg (fun z => some (Value.bool z)) (decide_eq_true (by omega) : decide ((s.size : Int) > (0 : Int)) = true),
     rfl,
     fun w' _ => index_str (k := 0) (by kernel_rfl) rfl rfl (by omega),
     congrArg (fun z => some (Value.bool z)) (beq_eq_false_iff_ne.2 (by omega) : ((((bts s).getD 0 0 : Nat) : Int) == (45 : Int)) = false),
     rfl,
     fun γ w' _ _ => rfirst_any s 47 w' (by omega),
     fun γ w' _ _ => rfirst_any s 46 w' (by omega),
     fun γ w' _ _ => rone_any w',
     ⟨_, rfl, rfl⟩,
     congrArg (fun z => some (Value.bool z)) (decide_eq_false (by omega) : decide (((at_ 47 s : Nat) : Int) < (s.size : Int)) = false),
     rfl,
     ⟨_, rfl, rfl⟩,
     congrArg (fun z => some (Value.bool z)) (decide_eq_true (by omega) : decide (((at_ 46 s : Nat) : Int) < (s.size : Int)) = true),
     rfl,
     fun w' _ => slice_hi (k := at_ 46 s) (by kernel_rfl) rfl rfl (by omega),
     congrArg (fun z => some (Value.int .i64 z)) (by rw [wrap_small (by omega) (by omega)]; omega : IntKind.wrap .i64 (((at_ 46 s : Nat) : Int) + (1 : Int)) = ((at_ 46 s + 1 : Nat) : Int)),
     fun w' _ => slice_lo (k := at_ 46 s + 1) (by kernel_rfl) rfl rfl (by omega),
     fun γ w' _ _ => by have h := rdigits_v (s.extract (at_ 46 s + 1) s.size) w' (by omega); rw [hy] at h; exact h,
     fun γ w' _ _ => rdigits_v (s.extract 0 (at_ 46 s)) w' (by omega),
     rfl,
     if_neg (cat_ok (by omega)),
     (by
      obtain ⟨body, hbody⟩ : ∃ body : Nat → List Value, body = fun k => if k = (s.extract (at_ 46 s + 1) s.size).size then ([.int .i64 ((s.extract (at_ 46 s + 1) s.size).size : Int), .bool (decide ((k : Int) < ((s.extract (at_ 46 s + 1) s.size).size : Int)))] : List Value) else [.int .i64 ((s.extract (at_ 46 s + 1) s.size).size : Int), .bool (decide ((k : Int) < ((s.extract (at_ 46 s + 1) s.size).size : Int))), .bool (sg (10 : Int)), .string (mg (10 : Int)), .bool (sg (((10 ^ (k + 1) : Nat)) : Int)), .string (mg (((10 ^ (k + 1) : Nat)) : Int)), .int .i64 ((k + 1 : Nat) : Int)] := ⟨_, rfl⟩
      have hall : ∀ k, (body k).all Value.oneCell' = true := by intro k; rw [hbody]; simp only []; (repeat' split) <;> rfl
      refine SX.loop_holds (by kernel_rfl) (SX.obAt Tryz.prog Tryz.f67 [.b true, .b false, .b false, .b true, .b false, .lp [(15, .one (.c (.p (.at 23))))] [(1025, .p (.at 24)), (1026, .p (.at 25))] 26 (.exit 0)] 22) [(15, .one (.c (.p (.at 23))))] [(1025, .p (.at 24)), (1026, .p (.at 25))] 4 23 26 ((s.extract (at_ 46 s + 1) s.size).size) (fun k => SX.env (.string s :: .int .i64 (s.size : Int) :: .bool true :: .int .u8 (((bts s).getD 0 0 : Nat) : Int) :: .bool false :: .int .i64 ((at_ 47 s : Nat) : Int) :: .int .i64 ((at_ 46 s : Nat) : Int) :: .bool false :: .string (can 1) :: .int .i64 (s.size : Int) :: .bool false :: .int .i64 (s.size : Int) :: .bool true :: .string (s.extract 0 (at_ 46 s)) :: .int .i64 ((at_ 46 s + 1 : Nat) : Int) :: .string (s.extract (at_ 46 s + 1) s.size) :: .bool false :: .string (can 0) :: .bool false :: .bool false :: .string (can ((digV (bts (s.extract 0 (at_ 46 s)))).getD 0)) :: .bool (digV (bts (s.extract 0 (at_ 46 s)))).isSome :: .string ((s.extract 0 (at_ 46 s)) ++ (s.extract (at_ 46 s + 1) s.size)) :: .int .i64 (k : Int) :: .bool (sg (((10 ^ k : Nat)) : Int)) :: .string (mg (((10 ^ k : Nat)) : Int)) :: body k)) (fun k => SX.env_ok (by simp only [List.all_cons, hall k]; rfl)) (eT := [(.one (.c (.p (.lit (.int .i64 0)))), .one (.c (.p (.at 23))))]) (eM := [(.p (.at 7), .p (.at 24)), (.p (.at 8), .p (.at 25))]) (by kernel_rfl) (SX.eqT_cons (rfl) (SX.eqT_nil)) (SX.eqM_cons (by rw [Nat.pow_zero]; rfl) (SX.eqM_cons (by rw [Nat.pow_zero]; rfl) (SX.eqM_nil))) (fun k => SX.env_agree rfl) (fun k hk => ?_)
      by_cases hc0 : k = (s.extract (at_ 46 s + 1) s.size).size
      · have eb : body k = [.int .i64 ((s.extract (at_ 46 s + 1) s.size).size : Int), .bool (decide ((k : Int) < ((s.extract (at_ 46 s + 1) s.size).size : Int)))] := by rw [hbody]; simp only [if_pos hc0]
        refine ⟨[.b false], false, [.len (.p (.at 15)) 26, .op2 false .lss (.p (.at 23)) (.p (.at 26)) 27, .isB 27 false], [(.one (.c (.p (.at 23))), .one (.c (.p (.at 23))))], [(.p (.at 24), .p (.at 24)), (.p (.at 25), .p (.at 25))], by kernel_rfl, ?_, SX.eqT_cons (by first | rfl | (rw [eb]; rfl) | (rw [eb, hc0]; rfl) | (rw [eb]; simp)) (SX.eqT_nil), SX.eqM_cons (by rw [eb, hc0]; rfl) (SX.eqM_cons (by rw [eb, hc0]; rfl) (SX.eqM_nil)), fun h => absurd h (by decide)⟩
        rw [eb]
        exact SX.All.mem (l := [.len (.p (.at 15)) 26, .op2 false .lss (.p (.at 23)) (.p (.at 26)) 27, .isB 27 false]) (⟨⟨_, rfl, rfl⟩,
             rfl,
             congrArg Value.bool (decide_eq_false (by omega) : (decide ((k : Int) < ((s.extract (at_ 46 s + 1) s.size).size : Int))) = false)⟩)
      · have eb : body k = [.int .i64 ((s.extract (at_ 46 s + 1) s.size).size : Int), .bool (decide ((k : Int) < ((s.extract (at_ 46 s + 1) s.size).size : Int))), .bool (sg (10 : Int)), .string (mg (10 : Int)), .bool (sg (((10 ^ (k + 1) : Nat)) : Int)), .string (mg (((10 ^ (k + 1) : Nat)) : Int)), .int .i64 ((k + 1 : Nat) : Int)] := by rw [hbody]; simp only [if_neg hc0]
        have t1 : 10 ^ k < 256 ^ (k + 1) := Nat.lt_of_le_of_lt (pow10_le k) (Nat.pow_lt_pow_right (by omega) (by omega))
        have fD : (mg (((10 ^ k : Nat)) : Int)).size ≤ 1001 := Nat.le_trans (mg_size_le (k := k + 1) (by show (10 ^ k : Nat) < _; exact t1)) (by omega)
        have fT : (mg (10 : Int)).size ≤ 1 := mg_size_le (by decide)
        have hst : (((10 ^ k : Nat)) : Int) * (10 : Int) = (((10 ^ (k + 1) : Nat)) : Int) := by rw [Nat.pow_succ, Int.natCast_mul]; rfl
        have f201 : (mg (10 : Int)).size ≤ 8 := mg_size_le (by first | decide | omega)
        refine ⟨[.b true], true, [.len (.p (.at 15)) 26, .op2 false .lss (.p (.at 23)) (.p (.at 26)) 27, .isB 27 true, .call 38 [.c (.p (.lit (.int .i64 10)))] (.one (.agg [.p (.at 28), .p (.at 29)])) [], .call 37 [.agg [.p (.at 24), .p (.at 25)], .agg [.p (.at 28), .p (.at 29)]] (.one (.agg [.p (.at 30), .p (.at 31)])) [], .op2 false .add (.p (.at 23)) (.p (.lit (.int .i64 1))) 32], [(.one (.c (.p (.at 32))), .one (.c (.p (.at 23))))], [(.p (.at 30), .p (.at 24)), (.p (.at 31), .p (.at 25))], by kernel_rfl, ?_, SX.eqT_cons (by first | rfl | (rw [eb]; rfl) | (rw [eb]; simp)) (SX.eqT_nil), SX.eqM_cons (by first | rfl | (rw [eb]; rfl) | (rw [eb]; simp)) (SX.eqM_cons (by first | rfl | (rw [eb]; rfl) | (rw [eb]; simp)) (SX.eqM_nil)), fun _ => by omega⟩
        rw [eb]
        exact SX.All.mem (l := [.len (.p (.at 15)) 26, .op2 false .lss (.p (.at 23)) (.p (.at 26)) 27, .isB 27 true, .call 38 [.c (.p (.lit (.int .i64 10)))] (.one (.agg [.p (.at 28), .p (.at 29)])) [], .call 37 [.agg [.p (.at 24), .p (.at 25)], .agg [.p (.at 28), .p (.at 29)]] (.one (.agg [.p (.at 30), .p (.at 31)])) [], .op2 false .add (.p (.at 23)) (.p (.lit (.int .i64 1))) 32]) (⟨⟨_, rfl, rfl⟩,
             rfl,
             congrArg Value.bool (decide_eq_true (by omega) : (decide ((k : Int) < ((s.extract (at_ 46 s + 1) s.size).size : Int))) = true),
             fun γ w' _ _ => From_any 10 w' (by omega) (by omega),
             fun γ w' _ _ => by have h := refMul2_any (sg (((10 ^ k : Nat)) : Int)) (sg (10 : Int)) (mg (((10 ^ k : Nat)) : Int)) (mg (10 : Int)) w' (by omega) (by omega); simp only [iv_Z] at h; rw [hst] at h; exact h,
             congrArg (fun z => some (Value.int .i64 z)) (by rw [wrap_small (by omega) (by omega)]; omega : IntKind.wrap .i64 ((k : Int) + (1 : Int)) = ((k + 1 : Nat) : Int))⟩)),
     fun γ w' _ _ => rdigits_v ((s.extract 0 (at_ 46 s)) ++ (s.extract (at_ 46 s + 1) s.size)) w' (by omega)⟩
theorem rParse_true_slash_ok (s u : ByteArray) (x y : Nat) (w : World) (hs : s.size ≤ 1000) (hp : 0 < s.size) (h2 : (bts s).getD 0 0 = 45) (hU : s.extract 1 s.size = u) (h47 : at_ 47 u < u.size) (hx : digV (bts (u.extract 0 (at_ 47 u))) = some x) (hy : digV (bts (u.extract (at_ 47 u + 1) u.size)) = some y) :
    Calls Tryz.prog 67 #[.string s] w fun e w' => e = .returned (.tuple #[QV (Rat.divInt (iv true (can (x))) (((y) : Nat) : Int)), .bool (decide ((((y) : Nat) : Int) ≠ 0))]) ∧ Below w.heap.size w w' := by
  have zu : u.size ≤ s.size := by rw [← hU, ByteArray.size_extract]; omega
  have za : (u.extract 0 (at_ 47 u)).size ≤ 1000 := by rw [ByteArray.size_extract]; omega
  have zb : (u.extract (at_ 47 u + 1) u.size).size ≤ 1000 := by rw [ByteArray.size_extract]; omega
  have zx := digV_val hx
  have zy := digV_val hy
  rw [bts_length] at zx zy
  have hY := iv_can y
  exact SX.run (w := w) [.string s, .int .i64 (s.size : Int), .bool true, .int .u8 (((bts s).getD 0 0 : Nat) : Int), .bool true, .string u, .int .i64 ((at_ 47 u : Nat) : Int), .int .i64 ((at_ 46 u : Nat) : Int), .bool false, .string (can 1), .int .i64 (u.size : Int), .bool true, .string (u.extract 0 (at_ 47 u)), .int .i64 ((at_ 47 u + 1 : Nat) : Int), .string (u.extract (at_ 47 u + 1) u.size), .bool false, .string (can (y)), .bool true, .bool false, .string (can (x)), .bool true, .bool false, .bool false, .bool (sg (Rat.divInt (iv true (can (x))) (((y) : Nat) : Int)).num), .string (mg (Rat.divInt (iv true (can (x))) (((y) : Nat) : Int)).num), .string (dm (Rat.divInt (iv true (can (x))) (((y) : Nat) : Int)).den), .bool (decide ((((y) : Nat) : Int) ≠ 0))] [.b true, .b true, .b true, .b false, .b false] [.c (.p (.at 0))] 1 (.tup [.agg [.p (.at 23), .p (.at 24), .p (.at 25)], .c (.p (.at 26))]) [.len (.p (.at 0)) 1, .op2 false .gtr (.p (.at 1)) (.p (.lit (.int .i64 0))) 2, .isB 2 true, .prim (.index 9 (.tmp 22) (.const (.int .i64 0))) 5 [(22, .one (.c (.p (.at 0)))), (21, .one (.c (.p (.at 2))))] (.one (.c (.p (.at 3)))), .op2 false .eql (.p (.at 3)) (.p (.lit (.int .u8 45))) 4, .isB 4 true, .prim (.slice 9 (.tmp 27) (some (.const (.int .i64 1))) none none) 9 [(27, .one (.c (.p (.at 0))))] (.one (.c (.p (.at 5)))), .call 105 [.c (.p (.at 5)), .c (.p (.lit (.int .u8 47)))] (.one (.c (.p (.at 6)))) [], .call 105 [.c (.p (.at 5)), .c (.p (.lit (.int .u8 46)))] (.one (.c (.p (.at 7)))) [], .call 84 [] (.one (.agg [.p (.at 8), .p (.at 9)])) [], .len (.p (.at 5)) 10, .op2 false .lss (.p (.at 6)) (.p (.at 10)) 11, .isB 11 true, .prim (.slice 9 (.tmp 39) none (some (.tmp 40)) none) 9 [(39, .one (.c (.p (.at 5)))), (40, .one (.c (.p (.at 6))))] (.one (.c (.p (.at 12)))), .op2 false .add (.p (.at 6)) (.p (.lit (.int .i64 1))) 13, .prim (.slice 9 (.tmp 43) (some (.tmp 45)) none none) 9 [(43, .one (.c (.p (.at 5)))), (45, .one (.c (.p (.at 13))))] (.one (.c (.p (.at 14)))), .call 106 [.c (.p (.at 14))] (.tup [.agg [.p (.at 15), .p (.at 16)], .c (.p (.at 17))]) [], .call 106 [.c (.p (.at 12))] (.tup [.agg [.p (.at 18), .p (.at 19)], .c (.p (.at 20))]) [], .op1 .not (.p (.at 17)) 21, .isB 21 false, .op1 .not (.p (.at 20)) 22, .isB 22 false, .call 47 [.agg [.p (.at 4), .p (.at 19)], .agg [.p (.at 15), .p (.at 16)]] (.tup [.agg [.p (.at 23), .p (.at 24), .p (.at 25)], .c (.p (.at 26))]) []] Tryz.func67 (by kernel_rfl) rfl (by kernel_rfl) rfl (by kernel_rfl)
    ⟨⟨_, rfl, rfl⟩,
     congrArg (fun z => some (Value.bool z)) (decide_eq_true (by omega) : decide ((s.size : Int) > (0 : Int)) = true),
     rfl,
     fun w' _ => index_str (k := 0) (by kernel_rfl) rfl rfl (by omega),
     congrArg (fun z => some (Value.bool z)) (by rw [h2]; rfl : ((((bts s).getD 0 0 : Nat) : Int) == (45 : Int)) = true),
     rfl,
     fun w' _ => (slice_lo (s := s) (k := 1) (by kernel_rfl) rfl rfl (by omega)).trans (by rw [hU]; rfl),
     fun γ w' _ _ => rfirst_any u 47 w' (by omega),
     fun γ w' _ _ => rfirst_any u 46 w' (by omega),
     fun γ w' _ _ => rone_any w',
     ⟨_, rfl, rfl⟩,
     congrArg (fun z => some (Value.bool z)) (decide_eq_true (by omega) : decide (((at_ 47 u : Nat) : Int) < (u.size : Int)) = true),
     rfl,
     fun w' _ => slice_hi (k := at_ 47 u) (by kernel_rfl) rfl rfl (by omega),
     congrArg (fun z => some (Value.int .i64 z)) (by rw [wrap_small (by omega) (by omega)]; omega : IntKind.wrap .i64 (((at_ 47 u : Nat) : Int) + (1 : Int)) = ((at_ 47 u + 1 : Nat) : Int)),
     fun w' _ => slice_lo (k := at_ 47 u + 1) (by kernel_rfl) rfl rfl (by omega),
     fun γ w' _ _ => by have h := rdigits_v (u.extract (at_ 47 u + 1) u.size) w' (by omega); rw [hy] at h; exact h,
     fun γ w' _ _ => by have h := rdigits_v (u.extract 0 (at_ 47 u)) w' (by omega); rw [hx] at h; exact h,
     congrArg (fun z => some (Value.bool z)) (rfl : (!true) = false),
     rfl,
     congrArg (fun z => some (Value.bool z)) (rfl : (!true) = false),
     rfl,
     fun γ w' _ _ => by have h := rMake_any true false (can (x)) (can (y)) w' (by omega) (by omega); rw [makeV_eq, hY] at h; exact h⟩
theorem rParse_true_slash_lo (s u : ByteArray) (w : World) (hs : s.size ≤ 1000) (hp : 0 < s.size) (h2 : (bts s).getD 0 0 = 45) (hU : s.extract 1 s.size = u) (h47 : at_ 47 u < u.size) (hy : digV (bts (u.extract (at_ 47 u + 1) u.size)) = none) :
    Calls Tryz.prog 67 #[.string s] w fun e w' => e = .returned (.tuple #[Q3 false ⟨#[]⟩ ⟨#[]⟩, .bool false]) ∧ Below w.heap.size w w' := by
  have zu : u.size ≤ s.size := by rw [← hU, ByteArray.size_extract]; omega
  have za : (u.extract 0 (at_ 47 u)).size ≤ 1000 := by rw [ByteArray.size_extract]; omega
  have zb : (u.extract (at_ 47 u + 1) u.size).size ≤ 1000 := by rw [ByteArray.size_extract]; omega
  exact SX.run (w := w) [.string s, .int .i64 (s.size : Int), .bool true, .int .u8 (((bts s).getD 0 0 : Nat) : Int), .bool true, .string u, .int .i64 ((at_ 47 u : Nat) : Int), .int .i64 ((at_ 46 u : Nat) : Int), .bool false, .string (can 1), .int .i64 (u.size : Int), .bool true, .string (u.extract 0 (at_ 47 u)), .int .i64 ((at_ 47 u + 1 : Nat) : Int), .string (u.extract (at_ 47 u + 1) u.size), .bool false, .string (can 0), .bool false, .bool false, .string (can ((digV (bts (u.extract 0 (at_ 47 u)))).getD 0)), .bool (digV (bts (u.extract 0 (at_ 47 u)))).isSome, .bool true] [.b true, .b true, .b true, .b true] [.c (.p (.at 0))] 1 (.tup [.agg [.p (.lit (.bool false)), .p (.lit (.string ⟨#[]⟩)), .p (.lit (.string ⟨#[]⟩))], .c (.p (.lit (.bool false)))]) [.len (.p (.at 0)) 1, .op2 false .gtr (.p (.at 1)) (.p (.lit (.int .i64 0))) 2, .isB 2 true, .prim (.index 9 (.tmp 22) (.const (.int .i64 0))) 5 [(22, .one (.c (.p (.at 0)))), (21, .one (.c (.p (.at 2))))] (.one (.c (.p (.at 3)))), .op2 false .eql (.p (.at 3)) (.p (.lit (.int .u8 45))) 4, .isB 4 true, .prim (.slice 9 (.tmp 27) (some (.const (.int .i64 1))) none none) 9 [(27, .one (.c (.p (.at 0))))] (.one (.c (.p (.at 5)))), .call 105 [.c (.p (.at 5)), .c (.p (.lit (.int .u8 47)))] (.one (.c (.p (.at 6)))) [], .call 105 [.c (.p (.at 5)), .c (.p (.lit (.int .u8 46)))] (.one (.c (.p (.at 7)))) [], .call 84 [] (.one (.agg [.p (.at 8), .p (.at 9)])) [], .len (.p (.at 5)) 10, .op2 false .lss (.p (.at 6)) (.p (.at 10)) 11, .isB 11 true, .prim (.slice 9 (.tmp 39) none (some (.tmp 40)) none) 9 [(39, .one (.c (.p (.at 5)))), (40, .one (.c (.p (.at 6))))] (.one (.c (.p (.at 12)))), .op2 false .add (.p (.at 6)) (.p (.lit (.int .i64 1))) 13, .prim (.slice 9 (.tmp 43) (some (.tmp 45)) none none) 9 [(43, .one (.c (.p (.at 5)))), (45, .one (.c (.p (.at 13))))] (.one (.c (.p (.at 14)))), .call 106 [.c (.p (.at 14))] (.tup [.agg [.p (.at 15), .p (.at 16)], .c (.p (.at 17))]) [], .call 106 [.c (.p (.at 12))] (.tup [.agg [.p (.at 18), .p (.at 19)], .c (.p (.at 20))]) [], .op1 .not (.p (.at 17)) 21, .isB 21 true] Tryz.func67 (by kernel_rfl) rfl (by kernel_rfl) rfl (by kernel_rfl)
    ⟨⟨_, rfl, rfl⟩,
     congrArg (fun z => some (Value.bool z)) (decide_eq_true (by omega) : decide ((s.size : Int) > (0 : Int)) = true),
     rfl,
     fun w' _ => index_str (k := 0) (by kernel_rfl) rfl rfl (by omega),
     congrArg (fun z => some (Value.bool z)) (by rw [h2]; rfl : ((((bts s).getD 0 0 : Nat) : Int) == (45 : Int)) = true),
     rfl,
     fun w' _ => (slice_lo (s := s) (k := 1) (by kernel_rfl) rfl rfl (by omega)).trans (by rw [hU]; rfl),
     fun γ w' _ _ => rfirst_any u 47 w' (by omega),
     fun γ w' _ _ => rfirst_any u 46 w' (by omega),
     fun γ w' _ _ => rone_any w',
     ⟨_, rfl, rfl⟩,
     congrArg (fun z => some (Value.bool z)) (decide_eq_true (by omega) : decide (((at_ 47 u : Nat) : Int) < (u.size : Int)) = true),
     rfl,
     fun w' _ => slice_hi (k := at_ 47 u) (by kernel_rfl) rfl rfl (by omega),
     congrArg (fun z => some (Value.int .i64 z)) (by rw [wrap_small (by omega) (by omega)]; omega : IntKind.wrap .i64 (((at_ 47 u : Nat) : Int) + (1 : Int)) = ((at_ 47 u + 1 : Nat) : Int)),
     fun w' _ => slice_lo (k := at_ 47 u + 1) (by kernel_rfl) rfl rfl (by omega),
     fun γ w' _ _ => by have h := rdigits_v (u.extract (at_ 47 u + 1) u.size) w' (by omega); rw [hy] at h; exact h,
     fun γ w' _ _ => rdigits_v (u.extract 0 (at_ 47 u)) w' (by omega),
     congrArg (fun z => some (Value.bool z)) (rfl : (!false) = true),
     rfl⟩
theorem rParse_true_slash_up (s u : ByteArray) (y : Nat) (w : World) (hs : s.size ≤ 1000) (hp : 0 < s.size) (h2 : (bts s).getD 0 0 = 45) (hU : s.extract 1 s.size = u) (h47 : at_ 47 u < u.size) (hx : digV (bts (u.extract 0 (at_ 47 u))) = none) (hy : digV (bts (u.extract (at_ 47 u + 1) u.size)) = some y) :
    Calls Tryz.prog 67 #[.string s] w fun e w' => e = .returned (.tuple #[Q3 false ⟨#[]⟩ ⟨#[]⟩, .bool false]) ∧ Below w.heap.size w w' := by
  have zu : u.size ≤ s.size := by rw [← hU, ByteArray.size_extract]; omega
  have za : (u.extract 0 (at_ 47 u)).size ≤ 1000 := by rw [ByteArray.size_extract]; omega
  have zb : (u.extract (at_ 47 u + 1) u.size).size ≤ 1000 := by rw [ByteArray.size_extract]; omega
  exact SX.run (w := w) [.string s, .int .i64 (s.size : Int), .bool true, .int .u8 (((bts s).getD 0 0 : Nat) : Int), .bool true, .string u, .int .i64 ((at_ 47 u : Nat) : Int), .int .i64 ((at_ 46 u : Nat) : Int), .bool false, .string (can 1), .int .i64 (u.size : Int), .bool true, .string (u.extract 0 (at_ 47 u)), .int .i64 ((at_ 47 u + 1 : Nat) : Int), .string (u.extract (at_ 47 u + 1) u.size), .bool false, .string (can (y)), .bool true, .bool false, .string (can 0), .bool false, .bool false, .bool true] [.b true, .b true, .b true, .b false, .b true] [.c (.p (.at 0))] 1 (.tup [.agg [.p (.lit (.bool false)), .p (.lit (.string ⟨#[]⟩)), .p (.lit (.string ⟨#[]⟩))], .c (.p (.lit (.bool false)))]) [.len (.p (.at 0)) 1, .op2 false .gtr (.p (.at 1)) (.p (.lit (.int .i64 0))) 2, .isB 2 true, .prim (.index 9 (.tmp 22) (.const (.int .i64 0))) 5 [(22, .one (.c (.p (.at 0)))), (21, .one (.c (.p (.at 2))))] (.one (.c (.p (.at 3)))), .op2 false .eql (.p (.at 3)) (.p (.lit (.int .u8 45))) 4, .isB 4 true, .prim (.slice 9 (.tmp 27) (some (.const (.int .i64 1))) none none) 9 [(27, .one (.c (.p (.at 0))))] (.one (.c (.p (.at 5)))), .call 105 [.c (.p (.at 5)), .c (.p (.lit (.int .u8 47)))] (.one (.c (.p (.at 6)))) [], .call 105 [.c (.p (.at 5)), .c (.p (.lit (.int .u8 46)))] (.one (.c (.p (.at 7)))) [], .call 84 [] (.one (.agg [.p (.at 8), .p (.at 9)])) [], .len (.p (.at 5)) 10, .op2 false .lss (.p (.at 6)) (.p (.at 10)) 11, .isB 11 true, .prim (.slice 9 (.tmp 39) none (some (.tmp 40)) none) 9 [(39, .one (.c (.p (.at 5)))), (40, .one (.c (.p (.at 6))))] (.one (.c (.p (.at 12)))), .op2 false .add (.p (.at 6)) (.p (.lit (.int .i64 1))) 13, .prim (.slice 9 (.tmp 43) (some (.tmp 45)) none none) 9 [(43, .one (.c (.p (.at 5)))), (45, .one (.c (.p (.at 13))))] (.one (.c (.p (.at 14)))), .call 106 [.c (.p (.at 14))] (.tup [.agg [.p (.at 15), .p (.at 16)], .c (.p (.at 17))]) [], .call 106 [.c (.p (.at 12))] (.tup [.agg [.p (.at 18), .p (.at 19)], .c (.p (.at 20))]) [], .op1 .not (.p (.at 17)) 21, .isB 21 false, .op1 .not (.p (.at 20)) 22, .isB 22 true] Tryz.func67 (by kernel_rfl) rfl (by kernel_rfl) rfl (by kernel_rfl)
    ⟨⟨_, rfl, rfl⟩,
     congrArg (fun z => some (Value.bool z)) (decide_eq_true (by omega) : decide ((s.size : Int) > (0 : Int)) = true),
     rfl,
     fun w' _ => index_str (k := 0) (by kernel_rfl) rfl rfl (by omega),
     congrArg (fun z => some (Value.bool z)) (by rw [h2]; rfl : ((((bts s).getD 0 0 : Nat) : Int) == (45 : Int)) = true),
     rfl,
     fun w' _ => (slice_lo (s := s) (k := 1) (by kernel_rfl) rfl rfl (by omega)).trans (by rw [hU]; rfl),
     fun γ w' _ _ => rfirst_any u 47 w' (by omega),
     fun γ w' _ _ => rfirst_any u 46 w' (by omega),
     fun γ w' _ _ => rone_any w',
     ⟨_, rfl, rfl⟩,
     congrArg (fun z => some (Value.bool z)) (decide_eq_true (by omega) : decide (((at_ 47 u : Nat) : Int) < (u.size : Int)) = true),
     rfl,
     fun w' _ => slice_hi (k := at_ 47 u) (by kernel_rfl) rfl rfl (by omega),
     congrArg (fun z => some (Value.int .i64 z)) (by rw [wrap_small (by omega) (by omega)]; omega : IntKind.wrap .i64 (((at_ 47 u : Nat) : Int) + (1 : Int)) = ((at_ 47 u + 1 : Nat) : Int)),
     fun w' _ => slice_lo (k := at_ 47 u + 1) (by kernel_rfl) rfl rfl (by omega),
     fun γ w' _ _ => by have h := rdigits_v (u.extract (at_ 47 u + 1) u.size) w' (by omega); rw [hy] at h; exact h,
     fun γ w' _ _ => by have h := rdigits_v (u.extract 0 (at_ 47 u)) w' (by omega); rw [hx] at h; exact h,
     congrArg (fun z => some (Value.bool z)) (rfl : (!true) = false),
     rfl,
     congrArg (fun z => some (Value.bool z)) (rfl : (!false) = true),
     rfl⟩
theorem rParse_true_whole_ok (s u : ByteArray) (x : Nat) (w : World) (hs : s.size ≤ 1000) (hp : 0 < s.size) (h2 : (bts s).getD 0 0 = 45) (hU : s.extract 1 s.size = u) (h47 : ¬ at_ 47 u < u.size) (h46 : ¬ at_ 46 u < u.size) (hx : digV (bts u) = some x) :
    Calls Tryz.prog 67 #[.string s] w fun e w' => e = .returned (.tuple #[QV (Rat.divInt (iv true (can (x))) (((1) : Nat) : Int)), .bool (decide ((((1) : Nat) : Int) ≠ 0))]) ∧ Below w.heap.size w w' := by
  have zu : u.size ≤ s.size := by rw [← hU, ByteArray.size_extract]; omega
  have zx := digV_val hx
  rw [bts_length] at zx
  have z1 : (can 1).size = 1 := rfl
  have hY := iv_can 1
  exact SX.run (w := w) [.string s, .int .i64 (s.size : Int), .bool true, .int .u8 (((bts s).getD 0 0 : Nat) : Int), .bool true, .string u, .int .i64 ((at_ 47 u : Nat) : Int), .int .i64 ((at_ 46 u : Nat) : Int), .bool false, .string (can 1), .int .i64 (u.size : Int), .bool false, .int .i64 (u.size : Int), .bool false, .bool false, .string (can (x)), .bool true, .bool false, .bool (sg (Rat.divInt (iv true (can (x))) (((1) : Nat) : Int)).num), .string (mg (Rat.divInt (iv true (can (x))) (((1) : Nat) : Int)).num), .string (dm (Rat.divInt (iv true (can (x))) (((1) : Nat) : Int)).den), .bool (decide ((((1) : Nat) : Int) ≠ 0))] [.b true, .b true, .b false, .b false, .b false] [.c (.p (.at 0))] 1 (.tup [.agg [.p (.at 18), .p (.at 19), .p (.at 20)], .c (.p (.at 21))]) [.len (.p (.at 0)) 1, .op2 false .gtr (.p (.at 1)) (.p (.lit (.int .i64 0))) 2, .isB 2 true, .prim (.index 9 (.tmp 22) (.const (.int .i64 0))) 5 [(22, .one (.c (.p (.at 0)))), (21, .one (.c (.p (.at 2))))] (.one (.c (.p (.at 3)))), .op2 false .eql (.p (.at 3)) (.p (.lit (.int .u8 45))) 4, .isB 4 true, .prim (.slice 9 (.tmp 27) (some (.const (.int .i64 1))) none none) 9 [(27, .one (.c (.p (.at 0))))] (.one (.c (.p (.at 5)))), .call 105 [.c (.p (.at 5)), .c (.p (.lit (.int .u8 47)))] (.one (.c (.p (.at 6)))) [], .call 105 [.c (.p (.at 5)), .c (.p (.lit (.int .u8 46)))] (.one (.c (.p (.at 7)))) [], .call 84 [] (.one (.agg [.p (.at 8), .p (.at 9)])) [], .len (.p (.at 5)) 10, .op2 false .lss (.p (.at 6)) (.p (.at 10)) 11, .isB 11 false, .len (.p (.at 5)) 12, .op2 false .lss (.p (.at 7)) (.p (.at 12)) 13, .isB 13 false, .call 106 [.c (.p (.at 5))] (.tup [.agg [.p (.at 14), .p (.at 15)], .c (.p (.at 16))]) [], .op1 .not (.p (.at 16)) 17, .isB 17 false, .call 47 [.agg [.p (.at 4), .p (.at 15)], .agg [.p (.at 8), .p (.at 9)]] (.tup [.agg [.p (.at 18), .p (.at 19), .p (.at 20)], .c (.p (.at 21))]) []] Tryz.func67 (by kernel_rfl) rfl (by kernel_rfl) rfl (by kernel_rfl)
    ⟨⟨_, rfl, rfl⟩,
     congrArg (fun z => some (Value.bool z)) (decide_eq_true (by omega) : decide ((s.size : Int) > (0 : Int)) = true),
     rfl,
     fun w' _ => index_str (k := 0) (by kernel_rfl) rfl rfl (by omega),
     congrArg (fun z => some (Value.bool z)) (by rw [h2]; rfl : ((((bts s).getD 0 0 : Nat) : Int) == (45 : Int)) = true),
     rfl,
     fun w' _ => (slice_lo (s := s) (k := 1) (by kernel_rfl) rfl rfl (by omega)).trans (by rw [hU]; rfl),
     fun γ w' _ _ => rfirst_any u 47 w' (by omega),
     fun γ w' _ _ => rfirst_any u 46 w' (by omega),
     fun γ w' _ _ => rone_any w',
     ⟨_, rfl, rfl⟩,
     congrArg (fun z => some (Value.bool z)) (decide_eq_false (by omega) : decide (((at_ 47 u : Nat) : Int) < (u.size : Int)) = false),
     rfl,
     ⟨_, rfl, rfl⟩,
     congrArg (fun z => some (Value.bool z)) (decide_eq_false (by omega) : decide (((at_ 46 u : Nat) : Int) < (u.size : Int)) = false),
     rfl,
     fun γ w' _ _ => by have h := rdigits_v u w' (by omega); rw [hx] at h; exact h,
     congrArg (fun z => some (Value.bool z)) (rfl : (!true) = false),
     rfl,
     fun γ w' _ _ => by have h := rMake_any true false (can (x)) (can 1) w' (by omega) (by omega); rw [makeV_eq, hY] at h; exact h⟩
theorem rParse_true_whole_no (s u : ByteArray) (w : World) (hs : s.size ≤ 1000) (hp : 0 < s.size) (h2 : (bts s).getD 0 0 = 45) (hU : s.extract 1 s.size = u) (h47 : ¬ at_ 47 u < u.size) (h46 : ¬ at_ 46 u < u.size) (hx : digV (bts u) = none) :
    Calls Tryz.prog 67 #[.string s] w fun e w' => e = .returned (.tuple #[Q3 false ⟨#[]⟩ ⟨#[]⟩, .bool false]) ∧ Below w.heap.size w w' := by
  have zu : u.size ≤ s.size := by rw [← hU, ByteArray.size_extract]; omega
  exact SX.run (w := w) [.string s, .int .i64 (s.size : Int), .bool true, .int .u8 (((bts s).getD 0 0 : Nat) : Int), .bool true, .string u, .int .i64 ((at_ 47 u : Nat) : Int), .int .i64 ((at_ 46 u : Nat) : Int), .bool false, .string (can 1), .int .i64 (u.size : Int), .bool false, .int .i64 (u.size : Int), .bool false, .bool false, .string (can 0), .bool false, .bool true] [.b true, .b true, .b false, .b false, .b true] [.c (.p (.at 0))] 1 (.tup [.agg [.p (.lit (.bool false)), .p (.lit (.string ⟨#[]⟩)), .p (.lit (.string ⟨#[]⟩))], .c (.p (.lit (.bool false)))]) [.len (.p (.at 0)) 1, .op2 false .gtr (.p (.at 1)) (.p (.lit (.int .i64 0))) 2, .isB 2 true, .prim (.index 9 (.tmp 22) (.const (.int .i64 0))) 5 [(22, .one (.c (.p (.at 0)))), (21, .one (.c (.p (.at 2))))] (.one (.c (.p (.at 3)))), .op2 false .eql (.p (.at 3)) (.p (.lit (.int .u8 45))) 4, .isB 4 true, .prim (.slice 9 (.tmp 27) (some (.const (.int .i64 1))) none none) 9 [(27, .one (.c (.p (.at 0))))] (.one (.c (.p (.at 5)))), .call 105 [.c (.p (.at 5)), .c (.p (.lit (.int .u8 47)))] (.one (.c (.p (.at 6)))) [], .call 105 [.c (.p (.at 5)), .c (.p (.lit (.int .u8 46)))] (.one (.c (.p (.at 7)))) [], .call 84 [] (.one (.agg [.p (.at 8), .p (.at 9)])) [], .len (.p (.at 5)) 10, .op2 false .lss (.p (.at 6)) (.p (.at 10)) 11, .isB 11 false, .len (.p (.at 5)) 12, .op2 false .lss (.p (.at 7)) (.p (.at 12)) 13, .isB 13 false, .call 106 [.c (.p (.at 5))] (.tup [.agg [.p (.at 14), .p (.at 15)], .c (.p (.at 16))]) [], .op1 .not (.p (.at 16)) 17, .isB 17 true] Tryz.func67 (by kernel_rfl) rfl (by kernel_rfl) rfl (by kernel_rfl)
    ⟨⟨_, rfl, rfl⟩,
     congrArg (fun z => some (Value.bool z)) (decide_eq_true (by omega) : decide ((s.size : Int) > (0 : Int)) = true),
     rfl,
     fun w' _ => index_str (k := 0) (by kernel_rfl) rfl rfl (by omega),
     congrArg (fun z => some (Value.bool z)) (by rw [h2]; rfl : ((((bts s).getD 0 0 : Nat) : Int) == (45 : Int)) = true),
     rfl,
     fun w' _ => (slice_lo (s := s) (k := 1) (by kernel_rfl) rfl rfl (by omega)).trans (by rw [hU]; rfl),
     fun γ w' _ _ => rfirst_any u 47 w' (by omega),
     fun γ w' _ _ => rfirst_any u 46 w' (by omega),
     fun γ w' _ _ => rone_any w',
     ⟨_, rfl, rfl⟩,
     congrArg (fun z => some (Value.bool z)) (decide_eq_false (by omega) : decide (((at_ 47 u : Nat) : Int) < (u.size : Int)) = false),
     rfl,
     ⟨_, rfl, rfl⟩,
     congrArg (fun z => some (Value.bool z)) (decide_eq_false (by omega) : decide (((at_ 46 u : Nat) : Int) < (u.size : Int)) = false),
     rfl,
     fun γ w' _ _ => by have h := rdigits_v u w' (by omega); rw [hx] at h; exact h,
     congrArg (fun z => some (Value.bool z)) (rfl : (!false) = true),
     rfl⟩
set_option maxHeartbeats 1000000 in
set_option maxRecDepth 100000 in
theorem rParse_true_point_ok (s u : ByteArray) (x y : Nat) (w : World) (hs : s.size ≤ 1000) (hp : 0 < s.size) (h2 : (bts s).getD 0 0 = 45) (hU : s.extract 1 s.size = u) (h47 : ¬ at_ 47 u < u.size) (h46 : at_ 46 u < u.size) (hx : digV (bts (u.extract 0 (at_ 46 u))) = some x) (hy : digV (bts (u.extract (at_ 46 u + 1) u.size)) = some y) :
    Calls Tryz.prog 67 #[.string s] w fun e w' => e = .returned (.tuple #[QV (Rat.divInt (iv true (can (x * 10 ^ (u.extract (at_ 46 u + 1) u.size).size + y))) (((10 ^ (u.extract (at_ 46 u + 1) u.size).size) : Nat) : Int)), .bool (decide ((((10 ^ (u.extract (at_ 46 u + 1) u.size).size) : Nat) : Int) ≠ 0))]) ∧ Below w.heap.size w w' := by
  have zu : u.size ≤ s.size := by rw [← hU, ByteArray.size_extract]; omega
  have za : (u.extract 0 (at_ 46 u)).size ≤ u.size := by rw [ByteArray.size_extract]; omega
  have zb : (u.extract (at_ 46 u + 1) u.size).size ≤ u.size := by rw [ByteArray.size_extract]; omega
  have zab : ((u.extract 0 (at_ 46 u)) ++ (u.extract (at_ 46 u + 1) u.size)).size ≤ u.size := piece_size _ _
  have hxy : digV (bts ((u.extract 0 (at_ 46 u)) ++ (u.extract (at_ 46 u + 1) u.size))) = some (x * 10 ^ (u.extract (at_ 46 u + 1) u.size).size + y) := by rw [bts_append, digV_app hx hy, bts_length]
  have zx := digV_val hxy
  rw [bts_length] at zx
  have zy : (mg (((10 ^ (u.extract (at_ 46 u + 1) u.size).size : Nat)) : Int)).size ≤ 1001 := Nat.le_trans (mg_size_le (k := (u.extract (at_ 46 u + 1) u.size).size + 1) (by show (10 ^ (u.extract (at_ 46 u + 1) u.size).size : Nat) < _; exact Nat.lt_of_le_of_lt (pow10_le _) (Nat.pow_lt_pow_right (by omega) (by omega)))) (by omega)
  have hY := iv_Z (((10 ^ (u.extract (at_ 46 u + 1) u.size).size : Nat)) : Int)
  exact SX.run (w := w) (.string s :: .int .i64 (s.size : Int) :: .bool true :: .int .u8 (((bts s).getD 0 0 : Nat) : Int) :: .bool true :: .string u :: .int .i64 ((at_ 47 u : Nat) : Int) :: .int .i64 ((at_ 46 u : Nat) : Int) :: .bool false :: .string (can 1) :: .int .i64 (u.size : Int) :: .bool false :: .int .i64 (u.size : Int) :: .bool true :: .string (u.extract 0 (at_ 46 u)) :: .int .i64 ((at_ 46 u + 1 : Nat) : Int) :: .string (u.extract (at_ 46 u + 1) u.size) :: .bool false :: .string (can (y)) :: .bool true :: .bool false :: .string (can (x)) :: .bool true :: .string ((u.extract 0 (at_ 46 u)) ++ (u.extract (at_ 46 u + 1) u.size)) :: .int .i64 (((u.extract (at_ 46 u + 1) u.size).size : Nat) : Int) :: .bool (sg (((10 ^ (u.extract (at_ 46 u + 1) u.size).size : Nat)) : Int)) :: .string (mg (((10 ^ (u.extract (at_ 46 u + 1) u.size).size : Nat)) : Int)) :: .bool false :: .string (can (x * 10 ^ (u.extract (at_ 46 u + 1) u.size).size + y)) :: .bool true :: .bool false :: .bool false :: .bool (sg (Rat.divInt (iv true (can (x * 10 ^ (u.extract (at_ 46 u + 1) u.size).size + y))) (((10 ^ (u.extract (at_ 46 u + 1) u.size).size) : Nat) : Int)).num) :: .string (mg (Rat.divInt (iv true (can (x * 10 ^ (u.extract (at_ 46 u + 1) u.size).size + y))) (((10 ^ (u.extract (at_ 46 u + 1) u.size).size) : Nat) : Int)).num) :: .string (dm (Rat.divInt (iv true (can (x * 10 ^ (u.extract (at_ 46 u + 1) u.size).size + y))) (((10 ^ (u.extract (at_ 46 u + 1) u.size).size) : Nat) : Int)).den) :: .bool (decide ((((10 ^ (u.extract (at_ 46 u + 1) u.size).size) : Nat) : Int) ≠ 0)) :: []) [.b true, .b true, .b false, .b true, .b true, .lp [(15, .one (.c (.p (.at 24))))] [(1025, .p (.at 25)), (1026, .p (.at 26))] 27 (.exit 0), .b false, .b false] [.c (.p (.at 0))] 1 (.tup [.agg [.p (.at 32), .p (.at 33), .p (.at 34)], .c (.p (.at 35))]) (.len (.p (.at 0)) 1 :: .op2 false .gtr (.p (.at 1)) (.p (.lit (.int .i64 0))) 2 :: .isB 2 true :: .prim (.index 9 (.tmp 22) (.const (.int .i64 0))) 5 [(22, .one (.c (.p (.at 0)))), (21, .one (.c (.p (.at 2))))] (.one (.c (.p (.at 3)))) :: .op2 false .eql (.p (.at 3)) (.p (.lit (.int .u8 45))) 4 :: .isB 4 true :: .prim (.slice 9 (.tmp 27) (some (.const (.int .i64 1))) none none) 9 [(27, .one (.c (.p (.at 0))))] (.one (.c (.p (.at 5)))) :: .call 105 [.c (.p (.at 5)), .c (.p (.lit (.int .u8 47)))] (.one (.c (.p (.at 6)))) [] :: .call 105 [.c (.p (.at 5)), .c (.p (.lit (.int .u8 46)))] (.one (.c (.p (.at 7)))) [] :: .call 84 [] (.one (.agg [.p (.at 8), .p (.at 9)])) [] :: .len (.p (.at 5)) 10 :: .op2 false .lss (.p (.at 6)) (.p (.at 10)) 11 :: .isB 11 false :: .len (.p (.at 5)) 12 :: .op2 false .lss (.p (.at 7)) (.p (.at 12)) 13 :: .isB 13 true :: .prim (.slice 9 (.tmp 54) none (some (.tmp 55)) none) 9 [(54, .one (.c (.p (.at 5)))), (55, .one (.c (.p (.at 7))))] (.one (.c (.p (.at 14)))) :: .op2 false .add (.p (.at 7)) (.p (.lit (.int .i64 1))) 15 :: .prim (.slice 9 (.tmp 57) (some (.tmp 59)) none none) 9 [(57, .one (.c (.p (.at 5)))), (59, .one (.c (.p (.at 15))))] (.one (.c (.p (.at 16)))) :: .call 106 [.c (.p (.at 16))] (.tup [.agg [.p (.at 17), .p (.at 18)], .c (.p (.at 19))]) [] :: .call 106 [.c (.p (.at 14))] (.tup [.agg [.p (.at 20), .p (.at 21)], .c (.p (.at 22))]) [] :: .isB 19 true :: .op2 false .add (.p (.at 14)) (.p (.at 16)) 23 :: SX.obAt Tryz.prog Tryz.f67 [.b true, .b true, .b false, .b true, .b true, .lp [(15, .one (.c (.p (.at 24))))] [(1025, .p (.at 25)), (1026, .p (.at 26))] 27 (.exit 0), .b false, .b false] 23 :: .call 106 [.c (.p (.at 23))] (.tup [.agg [.p (.at 27), .p (.at 28)], .c (.p (.at 29))]) [] :: .op1 .not (.p (.at 22)) 30 :: .isB 30 false :: .op1 .not (.p (.at 29)) 31 :: .isB 31 false :: .call 47 [.agg [.p (.at 4), .p (.at 28)], .agg [.p (.at 25), .p (.at 26)]] (.tup [.agg [.p (.at 32), .p (.at 33), .p (.at 34)], .c (.p (.at 35))]) [] :: []) Tryz.func67 (by kernel_rfl) rfl (by kernel_rfl) rfl (by kernel_rfl)
    ⟨⟨_, rfl, rfl⟩,
     congrArg (fun z => some (Value.bool z)) (decide_eq_true (by omega) : decide ((s.size : Int) > (0 : Int)) = true),
     rfl,
     fun w' _ => index_str (k := 0) (by kernel_rfl) rfl rfl (by omega),
     congrArg (fun z => some (Value.bool z)) (by rw [h2]; rfl : ((((bts s).getD 0 0 : Nat) : Int) == (45 : Int)) = true),
     rfl,
     fun w' _ => (slice_lo (s := s) (k := 1) (by kernel_rfl) rfl rfl (by omega)).trans (by rw [hU]; rfl),
     fun γ w' _ _ => rfirst_any u 47 w' (by omega),
     fun γ w' _ _ => rfirst_any u 46 w' (by omega),
     fun γ w' _ _ => rone_any w',
     ⟨_, rfl, rfl⟩,
     congrArg (fun z => some (Value.bool z)) (decide_eq_false (by omega) : decide (((at_ 47 u : Nat) : Int) < (u.size : Int)) = false),
     rfl,
     ⟨_, rfl, rfl⟩,
     congrArg (fun z => some (Value.bool z)) (decide_eq_true (by omega) : decide (((at_ 46 u : Nat) : Int) < (u.size : Int)) = true),
     rfl,
     fun w' _ => slice_hi (k := at_ 46 u) (by kernel_rfl) rfl rfl (by omega),
     congrArg (fun z => some (Value.int .i64 z)) (by rw [wrap_small (by omega) (by omega)]; omega : IntKind.wrap .i64 (((at_ 46 u : Nat) : Int) + (1 : Int)) = ((at_ 46 u + 1 : Nat) : Int)),
     fun w' _ => slice_lo (k := at_ 46 u + 1) (by kernel_rfl) rfl rfl (by omega),
     fun γ w' _ _ => by have h := rdigits_v (u.extract (at_ 46 u + 1) u.size) w' (by omega); rw [hy] at h; exact h,
     fun γ w' _ _ => by have h := rdigits_v (u.extract 0 (at_ 46 u)) w' (by omega); rw [hx] at h; exact h,
     rfl,
     if_neg (cat_ok (by omega)),
     (by
      obtain ⟨body, hbody⟩ : ∃ body : Nat → List Value, body = fun k => if k = (u.extract (at_ 46 u + 1) u.size).size then ([.int .i64 ((u.extract (at_ 46 u + 1) u.size).size : Int), .bool (decide ((k : Int) < ((u.extract (at_ 46 u + 1) u.size).size : Int)))] : List Value) else [.int .i64 ((u.extract (at_ 46 u + 1) u.size).size : Int), .bool (decide ((k : Int) < ((u.extract (at_ 46 u + 1) u.size).size : Int))), .bool (sg (10 : Int)), .string (mg (10 : Int)), .bool (sg (((10 ^ (k + 1) : Nat)) : Int)), .string (mg (((10 ^ (k + 1) : Nat)) : Int)), .int .i64 ((k + 1 : Nat) : Int)] := ⟨_, rfl⟩
      have hall : ∀ k, (body k).all Value.oneCell' = true := by intro k; rw [hbody]; simp only []; (repeat' split) <;> rfl
      refine SX.loop_holds (by kernel_rfl) (SX.obAt Tryz.prog Tryz.f67 [.b true, .b true, .b false, .b true, .b true, .lp [(15, .one (.c (.p (.at 24))))] [(1025, .p (.at 25)), (1026, .p (.at 26))] 27 (.exit 0), .b false, .b false] 23) [(15, .one (.c (.p (.at 24))))] [(1025, .p (.at 25)), (1026, .p (.at 26))] 4 24 27 ((u.extract (at_ 46 u + 1) u.size).size) (fun k => SX.env (.string s :: .int .i64 (s.size : Int) :: .bool true :: .int .u8 (((bts s).getD 0 0 : Nat) : Int) :: .bool true :: .string u :: .int .i64 ((at_ 47 u : Nat) : Int) :: .int .i64 ((at_ 46 u : Nat) : Int) :: .bool false :: .string (can 1) :: .int .i64 (u.size : Int) :: .bool false :: .int .i64 (u.size : Int) :: .bool true :: .string (u.extract 0 (at_ 46 u)) :: .int .i64 ((at_ 46 u + 1 : Nat) : Int) :: .string (u.extract (at_ 46 u + 1) u.size) :: .bool false :: .string (can (y)) :: .bool true :: .bool false :: .string (can (x)) :: .bool true :: .string ((u.extract 0 (at_ 46 u)) ++ (u.extract (at_ 46 u + 1) u.size)) :: .int .i64 (k : Int) :: .bool (sg (((10 ^ k : Nat)) : Int)) :: .string (mg (((10 ^ k : Nat)) : Int)) :: body k)) (fun k => SX.env_ok (by simp only [List.all_cons, hall k]; rfl)) (eT := [(.one (.c (.p (.lit (.int .i64 0)))), .one (.c (.p (.at 24))))]) (eM := [(.p (.at 8), .p (.at 25)), (.p (.at 9), .p (.at 26))]) (by kernel_rfl) (SX.eqT_cons (rfl) (SX.eqT_nil)) (SX.eqM_cons (by rw [Nat.pow_zero]; rfl) (SX.eqM_cons (by rw [Nat.pow_zero]; rfl) (SX.eqM_nil))) (fun k => SX.env_agree rfl) (fun k hk => ?_)
      by_cases hc0 : k = (u.extract (at_ 46 u + 1) u.size).size
      · have eb : body k = [.int .i64 ((u.extract (at_ 46 u + 1) u.size).size : Int), .bool (decide ((k : Int) < ((u.extract (at_ 46 u + 1) u.size).size : Int)))] := by rw [hbody]; simp only [if_pos hc0]
        refine ⟨[.b false], false, [.len (.p (.at 16)) 27, .op2 false .lss (.p (.at 24)) (.p (.at 27)) 28, .isB 28 false], [(.one (.c (.p (.at 24))), .one (.c (.p (.at 24))))], [(.p (.at 25), .p (.at 25)), (.p (.at 26), .p (.at 26))], by kernel_rfl, ?_, SX.eqT_cons (by first | rfl | (rw [eb]; rfl) | (rw [eb, hc0]; rfl) | (rw [eb]; simp)) (SX.eqT_nil), SX.eqM_cons (by rw [eb, hc0]; rfl) (SX.eqM_cons (by rw [eb, hc0]; rfl) (SX.eqM_nil)), fun h => absurd h (by decide)⟩
        rw [eb]
        exact SX.All.mem (l := [.len (.p (.at 16)) 27, .op2 false .lss (.p (.at 24)) (.p (.at 27)) 28, .isB 28 false]) (⟨⟨_, rfl, rfl⟩,
             rfl,
             congrArg Value.bool (decide_eq_false (by omega) : (decide ((k : Int) < ((u.extract (at_ 46 u + 1) u.size).size : Int))) = false)⟩)
      · have eb : body k = [.int .i64 ((u.extract (at_ 46 u + 1) u.size).size : Int), .bool (decide ((k : Int) < ((u.extract (at_ 46 u + 1) u.size).size : Int))), .bool (sg (10 : Int)), .string (mg (10 : Int)), .bool (sg (((10 ^ (k + 1) : Nat)) : Int)), .string (mg (((10 ^ (k + 1) : Nat)) : Int)), .int .i64 ((k + 1 : Nat) : Int)] := by rw [hbody]; simp only [if_neg hc0]
        have t1 : 10 ^ k < 256 ^ (k + 1) := Nat.lt_of_le_of_lt (pow10_le k) (Nat.pow_lt_pow_right (by omega) (by omega))
        have fD : (mg (((10 ^ k : Nat)) : Int)).size ≤ 1001 := Nat.le_trans (mg_size_le (k := k + 1) (by show (10 ^ k : Nat) < _; exact t1)) (by omega)
        have fT : (mg (10 : Int)).size ≤ 1 := mg_size_le (by decide)
        have hst : (((10 ^ k : Nat)) : Int) * (10 : Int) = (((10 ^ (k + 1) : Nat)) : Int) := by rw [Nat.pow_succ, Int.natCast_mul]; rfl
        have f201 : (mg (10 : Int)).size ≤ 8 := mg_size_le (by first | decide | omega)
        refine ⟨[.b true], true, [.len (.p (.at 16)) 27, .op2 false .lss (.p (.at 24)) (.p (.at 27)) 28, .isB 28 true, .call 38 [.c (.p (.lit (.int .i64 10)))] (.one (.agg [.p (.at 29), .p (.at 30)])) [], .call 37 [.agg [.p (.at 25), .p (.at 26)], .agg [.p (.at 29), .p (.at 30)]] (.one (.agg [.p (.at 31), .p (.at 32)])) [], .op2 false .add (.p (.at 24)) (.p (.lit (.int .i64 1))) 33], [(.one (.c (.p (.at 33))), .one (.c (.p (.at 24))))], [(.p (.at 31), .p (.at 25)), (.p (.at 32), .p (.at 26))], by kernel_rfl, ?_, SX.eqT_cons (by first | rfl | (rw [eb]; rfl) | (rw [eb]; simp)) (SX.eqT_nil), SX.eqM_cons (by first | rfl | (rw [eb]; rfl) | (rw [eb]; simp)) (SX.eqM_cons (by first | rfl | (rw [eb]; rfl) | (rw [eb]; simp)) (SX.eqM_nil)), fun _ => by omega⟩
        rw [eb]
        exact SX.All.mem (l := [.len (.p (.at 16)) 27, .op2 false .lss (.p (.at 24)) (.p (.at 27)) 28, .isB 28 true, .call 38 [.c (.p (.lit (.int .i64 10)))] (.one (.agg [.p (.at 29), .p (.at 30)])) [], .call 37 [.agg [.p (.at 25), .p (.at 26)], .agg [.p (.at 29), .p (.at 30)]] (.one (.agg [.p (.at 31), .p (.at 32)])) [], .op2 false .add (.p (.at 24)) (.p (.lit (.int .i64 1))) 33]) (⟨⟨_, rfl, rfl⟩,
             rfl,
             congrArg Value.bool (decide_eq_true (by omega) : (decide ((k : Int) < ((u.extract (at_ 46 u + 1) u.size).size : Int))) = true),
             fun γ w' _ _ => From_any 10 w' (by omega) (by omega),
             fun γ w' _ _ => by have h := refMul2_any (sg (((10 ^ k : Nat)) : Int)) (sg (10 : Int)) (mg (((10 ^ k : Nat)) : Int)) (mg (10 : Int)) w' (by omega) (by omega); simp only [iv_Z] at h; rw [hst] at h; exact h,
             congrArg (fun z => some (Value.int .i64 z)) (by rw [wrap_small (by omega) (by omega)]; omega : IntKind.wrap .i64 ((k : Int) + (1 : Int)) = ((k + 1 : Nat) : Int))⟩)),
     fun γ w' _ _ => by have h := rdigits_v ((u.extract 0 (at_ 46 u)) ++ (u.extract (at_ 46 u + 1) u.size)) w' (by omega); rw [hxy] at h; exact h,
     congrArg (fun z => some (Value.bool z)) (rfl : (!true) = false),
     rfl,
     congrArg (fun z => some (Value.bool z)) (rfl : (!true) = false),
     rfl,
     fun γ w' _ _ => by have h := rMake_any true (sg (((10 ^ (u.extract (at_ 46 u + 1) u.size).size : Nat)) : Int)) (can (x * 10 ^ (u.extract (at_ 46 u + 1) u.size).size + y)) (mg (((10 ^ (u.extract (at_ 46 u + 1) u.size).size : Nat)) : Int)) w' (by omega) (by omega); rw [makeV_eq, hY] at h; exact h⟩
set_option maxHeartbeats 1000000 in
set_option maxRecDepth 100000 in
theorem rParse_true_point_up (s u : ByteArray) (y : Nat) (w : World) (hs : s.size ≤ 1000) (hp : 0 < s.size) (h2 : (bts s).getD 0 0 = 45) (hU : s.extract 1 s.size = u) (h47 : ¬ at_ 47 u < u.size) (h46 : at_ 46 u < u.size) (hx : digV (bts (u.extract 0 (at_ 46 u))) = none) (hy : digV (bts (u.extract (at_ 46 u + 1) u.size)) = some y) :
    Calls Tryz.prog 67 #[.string s] w fun e w' => e = .returned (.tuple #[Q3 false ⟨#[]⟩ ⟨#[]⟩, .bool false]) ∧ Below w.heap.size w w' := by
  have zu : u.size ≤ s.size := by rw [← hU, ByteArray.size_extract]; omega
  have za : (u.extract 0 (at_ 46 u)).size ≤ u.size := by rw [ByteArray.size_extract]; omega
  have zb : (u.extract (at_ 46 u + 1) u.size).size ≤ u.size := by rw [ByteArray.size_extract]; omega
  have zab : ((u.extract 0 (at_ 46 u)) ++ (u.extract (at_ 46 u + 1) u.size)).size ≤ u.size := piece_size _ _
  exact SX.run (w := w) (.string s :: .int .i64 (s.size : Int) :: .bool true :: .int .u8 (((bts s).getD 0 0 : Nat) : Int) :: .bool true :: .string u :: .int .i64 ((at_ 47 u : Nat) : Int) :: .int .i64 ((at_ 46 u : Nat) : Int) :: .bool false :: .string (can 1) :: .int .i64 (u.size : Int) :: .bool false :: .int .i64 (u.size : Int) :: .bool true :: .string (u.extract 0 (at_ 46 u)) :: .int .i64 ((at_ 46 u + 1 : Nat) : Int) :: .string (u.extract (at_ 46 u + 1) u.size) :: .bool false :: .string (can (y)) :: .bool true :: .bool false :: .string (can 0) :: .bool false :: .string ((u.extract 0 (at_ 46 u)) ++ (u.extract (at_ 46 u + 1) u.size)) :: .int .i64 (((u.extract (at_ 46 u + 1) u.size).size : Nat) : Int) :: .bool (sg (((10 ^ (u.extract (at_ 46 u + 1) u.size).size : Nat)) : Int)) :: .string (mg (((10 ^ (u.extract (at_ 46 u + 1) u.size).size : Nat)) : Int)) :: .bool false :: .string (can ((digV (bts ((u.extract 0 (at_ 46 u)) ++ (u.extract (at_ 46 u + 1) u.size)))).getD 0)) :: .bool (digV (bts ((u.extract 0 (at_ 46 u)) ++ (u.extract (at_ 46 u + 1) u.size)))).isSome :: .bool true :: []) [.b true, .b true, .b false, .b true, .b true, .lp [(15, .one (.c (.p (.at 24))))] [(1025, .p (.at 25)), (1026, .p (.at 26))] 27 (.exit 0), .b true] [.c (.p (.at 0))] 1 (.tup [.agg [.p (.lit (.bool false)), .p (.lit (.string ⟨#[]⟩)), .p (.lit (.string ⟨#[]⟩))], .c (.p (.lit (.bool false)))]) [.len (.p (.at 0)) 1, .op2 false .gtr (.p (.at 1)) (.p (.lit (.int .i64 0))) 2, .isB 2 true, .prim (.index 9 (.tmp 22) (.const (.int .i64 0))) 5 [(22, .one (.c (.p (.at 0)))), (21, .one (.c (.p (.at 2))))] (.one (.c (.p (.at 3)))), .op2 false .eql (.p (.at 3)) (.p (.lit (.int .u8 45))) 4, .isB 4 true, .prim (.slice 9 (.tmp 27) (some (.const (.int .i64 1))) none none) 9 [(27, .one (.c (.p (.at 0))))] (.one (.c (.p (.at 5)))), .call 105 [.c (.p (.at 5)), .c (.p (.lit (.int .u8 47)))] (.one (.c (.p (.at 6)))) [], .call 105 [.c (.p (.at 5)), .c (.p (.lit (.int .u8 46)))] (.one (.c (.p (.at 7)))) [], .call 84 [] (.one (.agg [.p (.at 8), .p (.at 9)])) [], .len (.p (.at 5)) 10, .op2 false .lss (.p (.at 6)) (.p (.at 10)) 11, .isB 11 false, .len (.p (.at 5)) 12, .op2 false .lss (.p (.at 7)) (.p (.at 12)) 13, .isB 13 true, .prim (.slice 9 (.tmp 54) none (some (.tmp 55)) none) 9 [(54, .one (.c (.p (.at 5)))), (55, .one (.c (.p (.at 7))))] (.one (.c (.p (.at 14)))), .op2 false .add (.p (.at 7)) (.p (.lit (.int .i64 1))) 15, .prim (.slice 9 (.tmp 57) (some (.tmp 59)) none none) 9 [(57, .one (.c (.p (.at 5)))), (59, .one (.c (.p (.at 15))))] (.one (.c (.p (.at 16)))), .call 106 [.c (.p (.at 16))] (.tup [.agg [.p (.at 17), .p (.at 18)], .c (.p (.at 19))]) [], .call 106 [.c (.p (.at 14))] (.tup [.agg [.p (.at 20), .p (.at 21)], .c (.p (.at 22))]) [], .isB 19 true, .op2 false .add (.p (.at 14)) (.p (.at 16)) 23, SX.obAt Tryz.prog Tryz.f67 [.b true, .b true, .b false, .b true, .b true, .lp [(15, .one (.c (.p (.at 24))))] [(1025, .p (.at 25)), (1026, .p (.at 26))] 27 (.exit 0), .b true] 23, .call 106 [.c (.p (.at 23))] (.tup [.agg [.p (.at 27), .p (.at 28)], .c (.p (.at 29))]) [], .op1 .not (.p (.at 22)) 30, .isB 30 true] Tryz.func67 (by kernel_rfl) rfl (by kernel_rfl) rfl (by kernel_rfl)
    ⟨⟨_, rfl, rfl⟩,
     congrArg (fun z => some (Value.bool z)) (decide_eq_true (by omega) : decide ((s.size : Int) > (0 : Int)) = true),
     rfl,
     fun w' _ => index_str (k := 0) (by kernel_rfl) rfl rfl (by omega),
     congrArg (fun z => some (Value.bool z)) (by rw [h2]; rfl : ((((bts s).getD 0 0 : Nat) : Int) == (45 : Int)) = true),
     rfl,
     fun w' _ => (slice_lo (s := s) (k := 1) (by kernel_rfl) rfl rfl (by omega)).trans (by rw [hU]; rfl),
     fun γ w' _ _ => rfirst_any u 47 w' (by omega),
     fun γ w' _ _ => rfirst_any u 46 w' (by omega),
     fun γ w' _ _ => rone_any w',
     ⟨_, rfl, rfl⟩,
     congrArg (fun z => some (Value.bool z)) (decide_eq_false (by omega) : decide (((at_ 47 u : Nat) : Int) < (u.size : Int)) = false),
     rfl,
     ⟨_, rfl, rfl⟩,
     congrArg (fun z => some (Value.bool z)) (decide_eq_true (by omega) : decide (((at_ 46 u : Nat) : Int) < (u.size : Int)) = true),
     rfl,
     fun w' _ => slice_hi (k := at_ 46 u) (by kernel_rfl) rfl rfl (by omega),
     congrArg (fun z => some (Value.int .i64 z)) (by rw [wrap_small (by omega) (by omega)]; omega : IntKind.wrap .i64 (((at_ 46 u : Nat) : Int) + (1 : Int)) = ((at_ 46 u + 1 : Nat) : Int)),
     fun w' _ => slice_lo (k := at_ 46 u + 1) (by kernel_rfl) rfl rfl (by omega),
     fun γ w' _ _ => by have h := rdigits_v (u.extract (at_ 46 u + 1) u.size) w' (by omega); rw [hy] at h; exact h,
     fun γ w' _ _ => by have h := rdigits_v (u.extract 0 (at_ 46 u)) w' (by omega); rw [hx] at h; exact h,
     rfl,
     if_neg (cat_ok (by omega)),
     (by
      obtain ⟨body, hbody⟩ : ∃ body : Nat → List Value, body = fun k => if k = (u.extract (at_ 46 u + 1) u.size).size then ([.int .i64 ((u.extract (at_ 46 u + 1) u.size).size : Int), .bool (decide ((k : Int) < ((u.extract (at_ 46 u + 1) u.size).size : Int)))] : List Value) else [.int .i64 ((u.extract (at_ 46 u + 1) u.size).size : Int), .bool (decide ((k : Int) < ((u.extract (at_ 46 u + 1) u.size).size : Int))), .bool (sg (10 : Int)), .string (mg (10 : Int)), .bool (sg (((10 ^ (k + 1) : Nat)) : Int)), .string (mg (((10 ^ (k + 1) : Nat)) : Int)), .int .i64 ((k + 1 : Nat) : Int)] := ⟨_, rfl⟩
      have hall : ∀ k, (body k).all Value.oneCell' = true := by intro k; rw [hbody]; simp only []; (repeat' split) <;> rfl
      refine SX.loop_holds (by kernel_rfl) (SX.obAt Tryz.prog Tryz.f67 [.b true, .b true, .b false, .b true, .b true, .lp [(15, .one (.c (.p (.at 24))))] [(1025, .p (.at 25)), (1026, .p (.at 26))] 27 (.exit 0), .b true] 23) [(15, .one (.c (.p (.at 24))))] [(1025, .p (.at 25)), (1026, .p (.at 26))] 4 24 27 ((u.extract (at_ 46 u + 1) u.size).size) (fun k => SX.env (.string s :: .int .i64 (s.size : Int) :: .bool true :: .int .u8 (((bts s).getD 0 0 : Nat) : Int) :: .bool true :: .string u :: .int .i64 ((at_ 47 u : Nat) : Int) :: .int .i64 ((at_ 46 u : Nat) : Int) :: .bool false :: .string (can 1) :: .int .i64 (u.size : Int) :: .bool false :: .int .i64 (u.size : Int) :: .bool true :: .string (u.extract 0 (at_ 46 u)) :: .int .i64 ((at_ 46 u + 1 : Nat) : Int) :: .string (u.extract (at_ 46 u + 1) u.size) :: .bool false :: .string (can (y)) :: .bool true :: .bool false :: .string (can 0) :: .bool false :: .string ((u.extract 0 (at_ 46 u)) ++ (u.extract (at_ 46 u + 1) u.size)) :: .int .i64 (k : Int) :: .bool (sg (((10 ^ k : Nat)) : Int)) :: .string (mg (((10 ^ k : Nat)) : Int)) :: body k)) (fun k => SX.env_ok (by simp only [List.all_cons, hall k]; rfl)) (eT := [(.one (.c (.p (.lit (.int .i64 0)))), .one (.c (.p (.at 24))))]) (eM := [(.p (.at 8), .p (.at 25)), (.p (.at 9), .p (.at 26))]) (by kernel_rfl) (SX.eqT_cons (rfl) (SX.eqT_nil)) (SX.eqM_cons (by rw [Nat.pow_zero]; rfl) (SX.eqM_cons (by rw [Nat.pow_zero]; rfl) (SX.eqM_nil))) (fun k => SX.env_agree rfl) (fun k hk => ?_)
      by_cases hc0 : k = (u.extract (at_ 46 u + 1) u.size).size
      · have eb : body k = [.int .i64 ((u.extract (at_ 46 u + 1) u.size).size : Int), .bool (decide ((k : Int) < ((u.extract (at_ 46 u + 1) u.size).size : Int)))] := by rw [hbody]; simp only [if_pos hc0]
        refine ⟨[.b false], false, [.len (.p (.at 16)) 27, .op2 false .lss (.p (.at 24)) (.p (.at 27)) 28, .isB 28 false], [(.one (.c (.p (.at 24))), .one (.c (.p (.at 24))))], [(.p (.at 25), .p (.at 25)), (.p (.at 26), .p (.at 26))], by kernel_rfl, ?_, SX.eqT_cons (by first | rfl | (rw [eb]; rfl) | (rw [eb, hc0]; rfl) | (rw [eb]; simp)) (SX.eqT_nil), SX.eqM_cons (by rw [eb, hc0]; rfl) (SX.eqM_cons (by rw [eb, hc0]; rfl) (SX.eqM_nil)), fun h => absurd h (by decide)⟩
        rw [eb]
        exact SX.All.mem (l := [.len (.p (.at 16)) 27, .op2 false .lss (.p (.at 24)) (.p (.at 27)) 28, .isB 28 false]) (⟨⟨_, rfl, rfl⟩,
             rfl,
             congrArg Value.bool (decide_eq_false (by omega) : (decide ((k : Int) < ((u.extract (at_ 46 u + 1) u.size).size : Int))) = false)⟩)
      · have eb : body k = [.int .i64 ((u.extract (at_ 46 u + 1) u.size).size : Int), .bool (decide ((k : Int) < ((u.extract (at_ 46 u + 1) u.size).size : Int))), .bool (sg (10 : Int)), .string (mg (10 : Int)), .bool (sg (((10 ^ (k + 1) : Nat)) : Int)), .string (mg (((10 ^ (k + 1) : Nat)) : Int)), .int .i64 ((k + 1 : Nat) : Int)] := by rw [hbody]; simp only [if_neg hc0]
        have t1 : 10 ^ k < 256 ^ (k + 1) := Nat.lt_of_le_of_lt (pow10_le k) (Nat.pow_lt_pow_right (by omega) (by omega))
        have fD : (mg (((10 ^ k : Nat)) : Int)).size ≤ 1001 := Nat.le_trans (mg_size_le (k := k + 1) (by show (10 ^ k : Nat) < _; exact t1)) (by omega)
        have fT : (mg (10 : Int)).size ≤ 1 := mg_size_le (by decide)
        have hst : (((10 ^ k : Nat)) : Int) * (10 : Int) = (((10 ^ (k + 1) : Nat)) : Int) := by rw [Nat.pow_succ, Int.natCast_mul]; rfl
        have f201 : (mg (10 : Int)).size ≤ 8 := mg_size_le (by first | decide | omega)
        refine ⟨[.b true], true, [.len (.p (.at 16)) 27, .op2 false .lss (.p (.at 24)) (.p (.at 27)) 28, .isB 28 true, .call 38 [.c (.p (.lit (.int .i64 10)))] (.one (.agg [.p (.at 29), .p (.at 30)])) [], .call 37 [.agg [.p (.at 25), .p (.at 26)], .agg [.p (.at 29), .p (.at 30)]] (.one (.agg [.p (.at 31), .p (.at 32)])) [], .op2 false .add (.p (.at 24)) (.p (.lit (.int .i64 1))) 33], [(.one (.c (.p (.at 33))), .one (.c (.p (.at 24))))], [(.p (.at 31), .p (.at 25)), (.p (.at 32), .p (.at 26))], by kernel_rfl, ?_, SX.eqT_cons (by first | rfl | (rw [eb]; rfl) | (rw [eb]; simp)) (SX.eqT_nil), SX.eqM_cons (by first | rfl | (rw [eb]; rfl) | (rw [eb]; simp)) (SX.eqM_cons (by first | rfl | (rw [eb]; rfl) | (rw [eb]; simp)) (SX.eqM_nil)), fun _ => by omega⟩
        rw [eb]
        exact SX.All.mem (l := [.len (.p (.at 16)) 27, .op2 false .lss (.p (.at 24)) (.p (.at 27)) 28, .isB 28 true, .call 38 [.c (.p (.lit (.int .i64 10)))] (.one (.agg [.p (.at 29), .p (.at 30)])) [], .call 37 [.agg [.p (.at 25), .p (.at 26)], .agg [.p (.at 29), .p (.at 30)]] (.one (.agg [.p (.at 31), .p (.at 32)])) [], .op2 false .add (.p (.at 24)) (.p (.lit (.int .i64 1))) 33]) (⟨⟨_, rfl, rfl⟩,
             rfl,
             congrArg Value.bool (decide_eq_true (by omega) : (decide ((k : Int) < ((u.extract (at_ 46 u + 1) u.size).size : Int))) = true),
             fun γ w' _ _ => From_any 10 w' (by omega) (by omega),
             fun γ w' _ _ => by have h := refMul2_any (sg (((10 ^ k : Nat)) : Int)) (sg (10 : Int)) (mg (((10 ^ k : Nat)) : Int)) (mg (10 : Int)) w' (by omega) (by omega); simp only [iv_Z] at h; rw [hst] at h; exact h,
             congrArg (fun z => some (Value.int .i64 z)) (by rw [wrap_small (by omega) (by omega)]; omega : IntKind.wrap .i64 ((k : Int) + (1 : Int)) = ((k + 1 : Nat) : Int))⟩)),
     fun γ w' _ _ => rdigits_v ((u.extract 0 (at_ 46 u)) ++ (u.extract (at_ 46 u + 1) u.size)) w' (by omega),
     congrArg (fun z => some (Value.bool z)) (rfl : (!false) = true),
     rfl⟩
set_option maxHeartbeats 1000000 in
set_option maxRecDepth 100000 in
theorem rParse_true_point_lo (s u : ByteArray) (w : World) (hs : s.size ≤ 1000) (hp : 0 < s.size) (h2 : (bts s).getD 0 0 = 45) (hU : s.extract 1 s.size = u) (h47 : ¬ at_ 47 u < u.size) (h46 : at_ 46 u < u.size) (hy : digV (bts (u.extract (at_ 46 u + 1) u.size)) = none) :
    Calls Tryz.prog 67 #[.string s] w fun e w' => e = .returned (.tuple #[Q3 false ⟨#[]⟩ ⟨#[]⟩, .bool false]) ∧ Below w.heap.size w w' := by
  have zu : u.size ≤ s.size := by rw [← hU, ByteArray.size_extract]; omega
  have za : (u.extract 0 (at_ 46 u)).size ≤ u.size := by rw [ByteArray.size_extract]; omega
  have zb : (u.extract (at_ 46 u + 1) u.size).size ≤ u.size := by rw [ByteArray.size_extract]; omega
  have zab : ((u.extract 0 (at_ 46 u)) ++ (u.extract (at_ 46 u + 1) u.size)).size ≤ u.size := piece_size _ _
  exact SX.run (w := w) (.string s :: .int .i64 (s.size : Int) :: .bool true :: .int .u8 (((bts s).getD 0 0 : Nat) : Int) :: .bool true :: .string u :: .int .i64 ((at_ 47 u : Nat) : Int) :: .int .i64 ((at_ 46 u : Nat) : Int) :: .bool false :: .string (can 1) :: .int .i64 (u.size : Int) :: .bool false :: .int .i64 (u.size : Int) :: .bool true :: .string (u.extract 0 (at_ 46 u)) :: .int .i64 ((at_ 46 u + 1 : Nat) : Int) :: .string (u.extract (at_ 46 u + 1) u.size) :: .bool false :: .string (can 0) :: .bool false :: .bool false :: .string (can ((digV (bts (u.extract 0 (at_ 46 u)))).getD 0)) :: .bool (digV (bts (u.extract 0 (at_ 46 u)))).isSome :: .string ((u.extract 0 (at_ 46 u)) ++ (u.extract (at_ 46 u + 1) u.size)) :: .int .i64 (((u.extract (at_ 46 u + 1) u.size).size : Nat) : Int) :: .bool (sg (((10 ^ (u.extract (at_ 46 u + 1) u.size).size : Nat)) : Int)) :: .string (mg (((10 ^ (u.extract (at_ 46 u + 1) u.size).size : Nat)) : Int)) :: .bool false :: .string (can ((digV (bts ((u.extract 0 (at_ 46 u)) ++ (u.extract (at_ 46 u + 1) u.size)))).getD 0)) :: .bool (digV (bts ((u.extract 0 (at_ 46 u)) ++ (u.extract (at_ 46 u + 1) u.size)))).isSome :: []) [.b true, .b true, .b false, .b true, .b false, .lp [(15, .one (.c (.p (.at 24))))] [(1025, .p (.at 25)), (1026, .p (.at 26))] 27 (.exit 0)] [.c (.p (.at 0))] 1 (.tup [.agg [.p (.lit (.bool false)), .p (.lit (.string ⟨#[]⟩)), .p (.lit (.string ⟨#[]⟩))], .c (.p (.lit (.bool false)))]) [.len (.p (.at 0)) 1, .op2 false .gtr (.p (.at 1)) (.p (.lit (.int .i64 0))) 2, .isB 2 true, .prim (.index 9 (.tmp 22) (.const (.int .i64 0))) 5 [(22, .one (.c (.p (.at 0)))), (21, .one (.c (.p (.at 2))))] (.one (.c (.p (.at 3)))), .op2 false .eql (.p (.at 3)) (.p (.lit (.int .u8 45))) 4, .isB 4 true, .prim (.slice 9 (.tmp 27) (some (.const (.int .i64 1))) none none) 9 [(27, .one (.c (.p (.at 0))))] (.one (.c (.p (.at 5)))), .call 105 [.c (.p (.at 5)), .c (.p (.lit (.int .u8 47)))] (.one (.c (.p (.at 6)))) [], .call 105 [.c (.p (.at 5)), .c (.p (.lit (.int .u8 46)))] (.one (.c (.p (.at 7)))) [], .call 84 [] (.one (.agg [.p (.at 8), .p (.at 9)])) [], .len (.p (.at 5)) 10, .op2 false .lss (.p (.at 6)) (.p (.at 10)) 11, .isB 11 false, .len (.p (.at 5)) 12, .op2 false .lss (.p (.at 7)) (.p (.at 12)) 13, .isB 13 true, .prim (.slice 9 (.tmp 54) none (some (.tmp 55)) none) 9 [(54, .one (.c (.p (.at 5)))), (55, .one (.c (.p (.at 7))))] (.one (.c (.p (.at 14)))), .op2 false .add (.p (.at 7)) (.p (.lit (.int .i64 1))) 15, .prim (.slice 9 (.tmp 57) (some (.tmp 59)) none none) 9 [(57, .one (.c (.p (.at 5)))), (59, .one (.c (.p (.at 15))))] (.one (.c (.p (.at 16)))), .call 106 [.c (.p (.at 16))] (.tup [.agg [.p (.at 17), .p (.at 18)], .c (.p (.at 19))]) [], .call 106 [.c (.p (.at 14))] (.tup [.agg [.p (.at 20), .p (.at 21)], .c (.p (.at 22))]) [], .isB 19 false, .op2 false .add (.p (.at 14)) (.p (.at 16)) 23, SX.obAt Tryz.prog Tryz.f67 [.b true, .b true, .b false, .b true, .b false, .lp [(15, .one (.c (.p (.at 24))))] [(1025, .p (.at 25)), (1026, .p (.at 26))] 27 (.exit 0)] 23, .call 106 [.c (.p (.at 23))] (.tup [.agg [.p (.at 27), .p (.at 28)], .c (.p (.at 29))]) []] Tryz.func67 (by kernel_rfl) rfl (by kernel_rfl) rfl (by kernel_rfl)
    ⟨⟨_, rfl, rfl⟩,
     congrArg (fun z => some (Value.bool z)) (decide_eq_true (by omega) : decide ((s.size : Int) > (0 : Int)) = true),
     rfl,
     fun w' _ => index_str (k := 0) (by kernel_rfl) rfl rfl (by omega),
     congrArg (fun z => some (Value.bool z)) (by rw [h2]; rfl : ((((bts s).getD 0 0 : Nat) : Int) == (45 : Int)) = true),
     rfl,
     fun w' _ => (slice_lo (s := s) (k := 1) (by kernel_rfl) rfl rfl (by omega)).trans (by rw [hU]; rfl),
     fun γ w' _ _ => rfirst_any u 47 w' (by omega),
     fun γ w' _ _ => rfirst_any u 46 w' (by omega),
     fun γ w' _ _ => rone_any w',
     ⟨_, rfl, rfl⟩,
     congrArg (fun z => some (Value.bool z)) (decide_eq_false (by omega) : decide (((at_ 47 u : Nat) : Int) < (u.size : Int)) = false),
     rfl,
     ⟨_, rfl, rfl⟩,
     congrArg (fun z => some (Value.bool z)) (decide_eq_true (by omega) : decide (((at_ 46 u : Nat) : Int) < (u.size : Int)) = true),
     rfl,
     fun w' _ => slice_hi (k := at_ 46 u) (by kernel_rfl) rfl rfl (by omega),
     congrArg (fun z => some (Value.int .i64 z)) (by rw [wrap_small (by omega) (by omega)]; omega : IntKind.wrap .i64 (((at_ 46 u : Nat) : Int) + (1 : Int)) = ((at_ 46 u + 1 : Nat) : Int)),
     fun w' _ => slice_lo (k := at_ 46 u + 1) (by kernel_rfl) rfl rfl (by omega),
     fun γ w' _ _ => by have h := rdigits_v (u.extract (at_ 46 u + 1) u.size) w' (by omega); rw [hy] at h; exact h,
     fun γ w' _ _ => rdigits_v (u.extract 0 (at_ 46 u)) w' (by omega),
     rfl,
     if_neg (cat_ok (by omega)),
     (by
      obtain ⟨body, hbody⟩ : ∃ body : Nat → List Value, body = fun k => if k = (u.extract (at_ 46 u + 1) u.size).size then ([.int .i64 ((u.extract (at_ 46 u + 1) u.size).size : Int), .bool (decide ((k : Int) < ((u.extract (at_ 46 u + 1) u.size).size : Int)))] : List Value) else [.int .i64 ((u.extract (at_ 46 u + 1) u.size).size : Int), .bool (decide ((k : Int) < ((u.extract (at_ 46 u + 1) u.size).size : Int))), .bool (sg (10 : Int)), .string (mg (10 : Int)), .bool (sg (((10 ^ (k + 1) : Nat)) : Int)), .string (mg (((10 ^ (k + 1) : Nat)) : Int)), .int .i64 ((k + 1 : Nat) : Int)] := ⟨_, rfl⟩
      have hall : ∀ k, (body k).all Value.oneCell' = true := by intro k; rw [hbody]; simp only []; (repeat' split) <;> rfl
      refine SX.loop_holds (by kernel_rfl) (SX.obAt Tryz.prog Tryz.f67 [.b true, .b true, .b false, .b true, .b false, .lp [(15, .one (.c (.p (.at 24))))] [(1025, .p (.at 25)), (1026, .p (.at 26))] 27 (.exit 0)] 23) [(15, .one (.c (.p (.at 24))))] [(1025, .p (.at 25)), (1026, .p (.at 26))] 4 24 27 ((u.extract (at_ 46 u + 1) u.size).size) (fun k => SX.env (.string s :: .int .i64 (s.size : Int) :: .bool true :: .int .u8 (((bts s).getD 0 0 : Nat) : Int) :: .bool true :: .string u :: .int .i64 ((at_ 47 u : Nat) : Int) :: .int .i64 ((at_ 46 u : Nat) : Int) :: .bool false :: .string (can 1) :: .int .i64 (u.size : Int) :: .bool false :: .int .i64 (u.size : Int) :: .bool true :: .string (u.extract 0 (at_ 46 u)) :: .int .i64 ((at_ 46 u + 1 : Nat) : Int) :: .string (u.extract (at_ 46 u + 1) u.size) :: .bool false :: .string (can 0) :: .bool false :: .bool false :: .string (can ((digV (bts (u.extract 0 (at_ 46 u)))).getD 0)) :: .bool (digV (bts (u.extract 0 (at_ 46 u)))).isSome :: .string ((u.extract 0 (at_ 46 u)) ++ (u.extract (at_ 46 u + 1) u.size)) :: .int .i64 (k : Int) :: .bool (sg (((10 ^ k : Nat)) : Int)) :: .string (mg (((10 ^ k : Nat)) : Int)) :: body k)) (fun k => SX.env_ok (by simp only [List.all_cons, hall k]; rfl)) (eT := [(.one (.c (.p (.lit (.int .i64 0)))), .one (.c (.p (.at 24))))]) (eM := [(.p (.at 8), .p (.at 25)), (.p (.at 9), .p (.at 26))]) (by kernel_rfl) (SX.eqT_cons (rfl) (SX.eqT_nil)) (SX.eqM_cons (by rw [Nat.pow_zero]; rfl) (SX.eqM_cons (by rw [Nat.pow_zero]; rfl) (SX.eqM_nil))) (fun k => SX.env_agree rfl) (fun k hk => ?_)
      by_cases hc0 : k = (u.extract (at_ 46 u + 1) u.size).size
      · have eb : body k = [.int .i64 ((u.extract (at_ 46 u + 1) u.size).size : Int), .bool (decide ((k : Int) < ((u.extract (at_ 46 u + 1) u.size).size : Int)))] := by rw [hbody]; simp only [if_pos hc0]
        refine ⟨[.b false], false, [.len (.p (.at 16)) 27, .op2 false .lss (.p (.at 24)) (.p (.at 27)) 28, .isB 28 false], [(.one (.c (.p (.at 24))), .one (.c (.p (.at 24))))], [(.p (.at 25), .p (.at 25)), (.p (.at 26), .p (.at 26))], by kernel_rfl, ?_, SX.eqT_cons (by first | rfl | (rw [eb]; rfl) | (rw [eb, hc0]; rfl) | (rw [eb]; simp)) (SX.eqT_nil), SX.eqM_cons (by rw [eb, hc0]; rfl) (SX.eqM_cons (by rw [eb, hc0]; rfl) (SX.eqM_nil)), fun h => absurd h (by decide)⟩
        rw [eb]
        exact SX.All.mem (l := [.len (.p (.at 16)) 27, .op2 false .lss (.p (.at 24)) (.p (.at 27)) 28, .isB 28 false]) (⟨⟨_, rfl, rfl⟩,
             rfl,
             congrArg Value.bool (decide_eq_false (by omega) : (decide ((k : Int) < ((u.extract (at_ 46 u + 1) u.size).size : Int))) = false)⟩)
      · have eb : body k = [.int .i64 ((u.extract (at_ 46 u + 1) u.size).size : Int), .bool (decide ((k : Int) < ((u.extract (at_ 46 u + 1) u.size).size : Int))), .bool (sg (10 : Int)), .string (mg (10 : Int)), .bool (sg (((10 ^ (k + 1) : Nat)) : Int)), .string (mg (((10 ^ (k + 1) : Nat)) : Int)), .int .i64 ((k + 1 : Nat) : Int)] := by rw [hbody]; simp only [if_neg hc0]
        have t1 : 10 ^ k < 256 ^ (k + 1) := Nat.lt_of_le_of_lt (pow10_le k) (Nat.pow_lt_pow_right (by omega) (by omega))
        have fD : (mg (((10 ^ k : Nat)) : Int)).size ≤ 1001 := Nat.le_trans (mg_size_le (k := k + 1) (by show (10 ^ k : Nat) < _; exact t1)) (by omega)
        have fT : (mg (10 : Int)).size ≤ 1 := mg_size_le (by decide)
        have hst : (((10 ^ k : Nat)) : Int) * (10 : Int) = (((10 ^ (k + 1) : Nat)) : Int) := by rw [Nat.pow_succ, Int.natCast_mul]; rfl
        have f201 : (mg (10 : Int)).size ≤ 8 := mg_size_le (by first | decide | omega)
        refine ⟨[.b true], true, [.len (.p (.at 16)) 27, .op2 false .lss (.p (.at 24)) (.p (.at 27)) 28, .isB 28 true, .call 38 [.c (.p (.lit (.int .i64 10)))] (.one (.agg [.p (.at 29), .p (.at 30)])) [], .call 37 [.agg [.p (.at 25), .p (.at 26)], .agg [.p (.at 29), .p (.at 30)]] (.one (.agg [.p (.at 31), .p (.at 32)])) [], .op2 false .add (.p (.at 24)) (.p (.lit (.int .i64 1))) 33], [(.one (.c (.p (.at 33))), .one (.c (.p (.at 24))))], [(.p (.at 31), .p (.at 25)), (.p (.at 32), .p (.at 26))], by kernel_rfl, ?_, SX.eqT_cons (by first | rfl | (rw [eb]; rfl) | (rw [eb]; simp)) (SX.eqT_nil), SX.eqM_cons (by first | rfl | (rw [eb]; rfl) | (rw [eb]; simp)) (SX.eqM_cons (by first | rfl | (rw [eb]; rfl) | (rw [eb]; simp)) (SX.eqM_nil)), fun _ => by omega⟩
        rw [eb]
        exact SX.All.mem (l := [.len (.p (.at 16)) 27, .op2 false .lss (.p (.at 24)) (.p (.at 27)) 28, .isB 28 true, .call 38 [.c (.p (.lit (.int .i64 10)))] (.one (.agg [.p (.at 29), .p (.at 30)])) [], .call 37 [.agg [.p (.at 25), .p (.at 26)], .agg [.p (.at 29), .p (.at 30)]] (.one (.agg [.p (.at 31), .p (.at 32)])) [], .op2 false .add (.p (.at 24)) (.p (.lit (.int .i64 1))) 33]) (⟨⟨_, rfl, rfl⟩,
             rfl,
             congrArg Value.bool (decide_eq_true (by omega) : (decide ((k : Int) < ((u.extract (at_ 46 u + 1) u.size).size : Int))) = true),
             fun γ w' _ _ => From_any 10 w' (by omega) (by omega),
             fun γ w' _ _ => by have h := refMul2_any (sg (((10 ^ k : Nat)) : Int)) (sg (10 : Int)) (mg (((10 ^ k : Nat)) : Int)) (mg (10 : Int)) w' (by omega) (by omega); simp only [iv_Z] at h; rw [hst] at h; exact h,
             congrArg (fun z => some (Value.int .i64 z)) (by rw [wrap_small (by omega) (by omega)]; omega : IntKind.wrap .i64 ((k : Int) + (1 : Int)) = ((k + 1 : Nat) : Int))⟩)),
     fun γ w' _ _ => rdigits_v ((u.extract 0 (at_ 46 u)) ++ (u.extract (at_ 46 u + 1) u.size)) w' (by omega)⟩
theorem rParse_empty (s : ByteArray) (w : World) (hs : s.size = 0) :
    Calls Tryz.prog 67 #[.string s] w fun e w' => e = .returned (.tuple #[Q3 false ⟨#[]⟩ ⟨#[]⟩, .bool false]) ∧ Below w.heap.size w w' := by
  have hx : digV (bts s) = none := digV_none (.inl (bts_nil_iff.2 hs))
  have e1 := at_le 47 s
  have e2 := at_le 46 s
  exact SX.run (w := w) [.string s, .int .i64 (s.size : Int), .bool false, .int .i64 ((at_ 47 s : Nat) : Int), .int .i64 ((at_ 46 s : Nat) : Int), .bool false, .string (can 1), .int .i64 (s.size : Int), .bool false, .int .i64 (s.size : Int), .bool false, .bool false, .string (can 0), .bool false, .bool true] [.b false, .b false, .b false, .b true] [.c (.p (.at 0))] 1 (.tup [.agg [.p (.lit (.bool false)), .p (.lit (.string ⟨#[]⟩)), .p (.lit (.string ⟨#[]⟩))], .c (.p (.lit (.bool false)))]) [.len (.p (.at 0)) 1, .op2 false .gtr (.p (.at 1)) (.p (.lit (.int .i64 0))) 2, .isB 2 false, .call 105 [.c (.p (.at 0)), .c (.p (.lit (.int .u8 47)))] (.one (.c (.p (.at 3)))) [], .call 105 [.c (.p (.at 0)), .c (.p (.lit (.int .u8 46)))] (.one (.c (.p (.at 4)))) [], .call 84 [] (.one (.agg [.p (.at 5), .p (.at 6)])) [], .len (.p (.at 0)) 7, .op2 false .lss (.p (.at 3)) (.p (.at 7)) 8, .isB 8 false, .len (.p (.at 0)) 9, .op2 false .lss (.p (.at 4)) (.p (.at 9)) 10, .isB 10 false, .call 106 [.c (.p (.at 0))] (.tup [.agg [.p (.at 11), .p (.at 12)], .c (.p (.at 13))]) [], .op1 .not (.p (.at 13)) 14, .isB 14 true] Tryz.func67 (by kernel_rfl) rfl (by kernel_rfl) rfl (by kernel_rfl)
    ⟨⟨_, rfl, rfl⟩,
     congrArg (fun z => some (Value.bool z)) (decide_eq_false (by omega) : decide ((s.size : Int) > (0 : Int)) = false),
     rfl,
     fun γ w' _ _ => rfirst_any s 47 w' (by omega),
     fun γ w' _ _ => rfirst_any s 46 w' (by omega),
     fun γ w' _ _ => rone_any w',
     ⟨_, rfl, rfl⟩,
     congrArg (fun z => some (Value.bool z)) (decide_eq_false (by omega) : decide (((at_ 47 s : Nat) : Int) < (s.size : Int)) = false),
     rfl,
     ⟨_, rfl, rfl⟩,
     congrArg (fun z => some (Value.bool z)) (decide_eq_false (by omega) : decide (((at_ 46 s : Nat) : Int) < (s.size : Int)) = false),
     rfl,
     fun γ w' _ _ => by have h := rdigits_v s w' (by omega); rw [hx] at h; exact h,
     congrArg (fun z => some (Value.bool z)) (rfl : (!false) = true),
     rfl⟩
theorem rParse_plain (s : ByteArray) (w : World) (hs : s.size ≤ 1000) (hp : 0 < s.size) (h2 : (bts s).getD 0 0 ≠ 45) :
    Calls Tryz.prog 67 #[.string s] w fun e w' => e = .returned (signV false (fracV s)) ∧ Below w.heap.size w w' := by
  by_cases h47 : at_ 47 s < s.size
  · rw [show fracV s = (digV (bts (s.extract 0 (at_ 47 s)))).bind fun x => (digV (bts (s.extract (at_ 47 s + 1) s.size))).bind fun y => some (x, y) from if_pos h47]
    cases hy : digV (bts (s.extract (at_ 47 s + 1) s.size)) with
    | none =>
      have h := rParse_false_slash_lo s w hs hp h2 h47 hy
      cases digV (bts (s.extract 0 (at_ 47 s))) <;> exact h
    | some y =>
      cases hx : digV (bts (s.extract 0 (at_ 47 s))) with
      | none => exact rParse_false_slash_up s y w hs hp h2 h47 hx hy
      | some x =>
        have h := rParse_false_slash_ok s x y w hs hp h2 h47 hx hy
        rw [← makeV_eq] at h
        exact h
  · by_cases h46 : at_ 46 s < s.size
    · rw [show fracV s = (digV (bts (s.extract 0 (at_ 46 s)))).bind fun x => (digV (bts (s.extract (at_ 46 s + 1) s.size))).bind fun y => some (x * 10 ^ (s.extract (at_ 46 s + 1) s.size).size + y, 10 ^ (s.extract (at_ 46 s + 1) s.size).size) from (if_neg h47).trans (if_pos h46)]
      cases hy : digV (bts (s.extract (at_ 46 s + 1) s.size)) with
      | none =>
        have h := rParse_false_point_lo s w hs hp h2 h47 h46 hy
        cases digV (bts (s.extract 0 (at_ 46 s))) <;> exact h
      | some y =>
        cases hx : digV (bts (s.extract 0 (at_ 46 s))) with
        | none => exact rParse_false_point_up s y w hs hp h2 h47 h46 hx hy
        | some x =>
          have h := rParse_false_point_ok s x y w hs hp h2 h47 h46 hx hy
          rw [← makeV_eq] at h
          exact h
    · rw [show fracV s = (digV (bts s)).bind fun x => some (x, 1) from (if_neg h47).trans (if_neg h46)]
      cases hx : digV (bts s) with
      | none => exact rParse_false_whole_no s w hs hp h2 h47 h46 hx
      | some x =>
        have h := rParse_false_whole_ok s x w hs hp h2 h47 h46 hx
        rw [← makeV_eq] at h
        exact h

theorem rParse_minus (s u : ByteArray) (w : World) (hs : s.size ≤ 1000) (hp : 0 < s.size) (h2 : (bts s).getD 0 0 = 45) (hU : s.extract 1 s.size = u) :
    Calls Tryz.prog 67 #[.string s] w fun e w' => e = .returned (signV true (fracV u)) ∧ Below w.heap.size w w' := by
  by_cases h47 : at_ 47 u < u.size
  · rw [show fracV u = (digV (bts (u.extract 0 (at_ 47 u)))).bind fun x => (digV (bts (u.extract (at_ 47 u + 1) u.size))).bind fun y => some (x, y) from if_pos h47]
    cases hy : digV (bts (u.extract (at_ 47 u + 1) u.size)) with
    | none =>
      have h := rParse_true_slash_lo s u w hs hp h2 hU h47 hy
      cases digV (bts (u.extract 0 (at_ 47 u))) <;> exact h
    | some y =>
      cases hx : digV (bts (u.extract 0 (at_ 47 u))) with
      | none => exact rParse_true_slash_up s u y w hs hp h2 hU h47 hx hy
      | some x =>
        have h := rParse_true_slash_ok s u x y w hs hp h2 hU h47 hx hy
        rw [← makeV_eq] at h
        exact h
  · by_cases h46 : at_ 46 u < u.size
    · rw [show fracV u = (digV (bts (u.extract 0 (at_ 46 u)))).bind fun x => (digV (bts (u.extract (at_ 46 u + 1) u.size))).bind fun y => some (x * 10 ^ (u.extract (at_ 46 u + 1) u.size).size + y, 10 ^ (u.extract (at_ 46 u + 1) u.size).size) from (if_neg h47).trans (if_pos h46)]
      cases hy : digV (bts (u.extract (at_ 46 u + 1) u.size)) with
      | none =>
        have h := rParse_true_point_lo s u w hs hp h2 hU h47 h46 hy
        cases digV (bts (u.extract 0 (at_ 46 u))) <;> exact h
      | some y =>
        cases hx : digV (bts (u.extract 0 (at_ 46 u))) with
        | none => exact rParse_true_point_up s u y w hs hp h2 hU h47 h46 hx hy
        | some x =>
          have h := rParse_true_point_ok s u x y w hs hp h2 hU h47 h46 hx hy
          rw [← makeV_eq] at h
          exact h
    · rw [show fracV u = (digV (bts u)).bind fun x => some (x, 1) from (if_neg h47).trans (if_neg h46)]
      cases hx : digV (bts u) with
      | none => exact rParse_true_whole_no s u w hs hp h2 hU h47 h46 hx
      | some x =>
        have h := rParse_true_whole_ok s u x w hs hp h2 hU h47 h46 hx
        rw [← makeV_eq] at h
        exact h

theorem rParse_any (s : ByteArray) (w : World) (hs : s.size ≤ 1000) :
    Calls Tryz.prog 67 #[.string s] w fun e w' => e = .returned (parseQV s) ∧ Below w.heap.size w w' := by
  unfold parseQV
  by_cases h2 : (bts s).getD 0 0 = 45
  · have hp : 0 < s.size := by
      by_cases h0 : s.size = 0
      · rw [bts_nil_iff.2 h0] at h2; cases h2
      · omega
    have hn : negS s = true := by rw [negS_eq, decide_eq_true h2]
    rw [hn, restS_true hn]
    exact rParse_minus s _ w hs hp h2 rfl
  · have hn : negS s = false := by rw [negS_eq, decide_eq_false h2]
    rw [hn, restS_false hn]
    by_cases h0 : s.size = 0
    · have hf : fracV s = none := by
        have e1 := at_le 47 s
        have e2 := at_le 46 s
        unfold fracV
        rw [if_neg (by omega), if_neg (by omega), digV_none (.inl (bts_nil_iff.2 h0))]
        rfl
      rw [hf]
      exact rParse_empty s w h0
    · exact rParse_plain s w hs (by omega) h2
end Go.Proofs.YtdgppfccolhaeaaGreatDoor
