/- Texts of rational numbers, Floor and Fits of the reference. -/
import Derived.Test.YtdgppfccolhaeaaGreatDoorQd
import Derived.Test.YtdgppfccolhaeaaGreatDoorQt
import Derived.Test.YtdgppfccolhaeaaGreatDoorPq
import Derived.Test.YtdgppfccolhaeaaGreatDoorShelf
import Derived.Test.YtdgppfccolhaeaaGreatDoorN4
set_option linter.unusedVariables false
set_option linter.unusedSimpArgs false
namespace Go.Proofs.YtdgppfccolhaeaaGreatDoor
open Go.RowKit NM SX
theorem rText_one (n : Bool) (s t : ByteArray) (w : World) (hs : s.size ≤ 100000) (ht : t.size ≤ 100000) (h1 : (rq n s t).den = 1) :
    Calls Tryz.prog 50 #[.agg #[.bool n, .string s, .string t]] w fun e w' => e = .returned (.string (decZ (rq n s t).num)) ∧ Below w.heap.size w w' := by
  have k0 := Rk.rq (n := n) hs ht (by omega)
  have k2 := mg_den k0
  have k1 := k0.1
  have z1 := decZ_size k1
  have z2 := decZ_size k2
  have z3 : (⟨#[47]⟩ : ByteArray).size = 1 := rfl
  have z4 : (decZ (rq n s t).num ++ ⟨#[47]⟩).size = (decZ (rq n s t).num).size + 1 := by rw [ByteArray.size_append, z3]
  have f1 : Rk (rq n s t) 100000 := Rk.rq (n := n) (by omega) (by omega) (by omega)
  exact SX.run (w := w) [.bool n, .string s, .string t, .bool (sg ((rq n s t).num)), .string (mg ((rq n s t).num)), .bool (sg (((rq n s t).den : Nat) : Int)), .string (mg (((rq n s t).den : Nat) : Int)), .bool (sg (1 : Int)), .string (mg (1 : Int)), .bool true, .string (decZ ((rq n s t).num))] [.b true] [.agg [.p (.at 0), .p (.at 1), .p (.at 2)]] 3 (.one (.c (.p (.at 10)))) [.call 54 [.agg [.p (.at 0), .p (.at 1), .p (.at 2)]] (.tup [.agg [.p (.at 3), .p (.at 4)], .agg [.p (.at 5), .p (.at 6)]]) [], .call 84 [] (.one (.agg [.p (.at 7), .p (.at 8)])) [], .eqs false [.b, .s] [.p (.at 5), .p (.at 6)] [.p (.at 7), .p (.at 8)] 9, .isB 9 true, .call 89 [.agg [.p (.at 3), .p (.at 4)]] (.one (.c (.p (.at 10)))) []] Tryz.func50 (by kernel_rfl) rfl (by kernel_rfl) rfl (by kernel_rfl)
    ⟨fun γ w' _ _ => rParts_any n s t w' (by omega) (by omega),
     fun γ w' _ _ => rone_any w',
     ⟨rfl, rfl, show Value.bool true = Value.bool (false != eqL [.bool (sg (((rq n s t).den : Nat) : Int)), .string (mg (((rq n s t).den : Nat) : Int))] [.bool (sg (1 : Int)), .string (mg (1 : Int))]) from by rw [eqL_Z, decide_eq_true (by omega : (((rq n s t).den : Nat) : Int) = (1 : Int))]; rfl⟩,
     rfl,
     fun γ w' _ _ => by have h := refText2_any (sg ((rq n s t).num)) (mg ((rq n s t).num)) w' (by omega); simp only [iv_Z] at h; exact h⟩
theorem rText_two (n : Bool) (s t : ByteArray) (w : World) (hs : s.size ≤ 100000) (ht : t.size ≤ 100000) (h1 : (rq n s t).den ≠ 1) :
    Calls Tryz.prog 50 #[.agg #[.bool n, .string s, .string t]] w fun e w' => e = .returned (.string (decZ (rq n s t).num ++ ⟨#[47]⟩ ++ decZ (((rq n s t).den : Nat) : Int))) ∧ Below w.heap.size w w' := by
  have k0 := Rk.rq (n := n) hs ht (by omega)
  have k2 := mg_den k0
  have k1 := k0.1
  have z1 := decZ_size k1
  have z2 := decZ_size k2
  have z3 : (⟨#[47]⟩ : ByteArray).size = 1 := rfl
  have z4 : (decZ (rq n s t).num ++ ⟨#[47]⟩).size = (decZ (rq n s t).num).size + 1 := by rw [ByteArray.size_append, z3]
  have f1 : Rk (rq n s t) 100000 := Rk.rq (n := n) (by omega) (by omega) (by omega)
  exact SX.run (w := w) [.bool n, .string s, .string t, .bool (sg ((rq n s t).num)), .string (mg ((rq n s t).num)), .bool (sg (((rq n s t).den : Nat) : Int)), .string (mg (((rq n s t).den : Nat) : Int)), .bool (sg (1 : Int)), .string (mg (1 : Int)), .bool false, .string (decZ ((rq n s t).num)), .string ((decZ ((rq n s t).num)) ++ (⟨#[47]⟩ : ByteArray)), .string (decZ (((rq n s t).den : Nat) : Int)), .string (((decZ ((rq n s t).num)) ++ (⟨#[47]⟩ : ByteArray)) ++ (decZ (((rq n s t).den : Nat) : Int)))] [.b false] [.agg [.p (.at 0), .p (.at 1), .p (.at 2)]] 3 (.one (.c (.p (.at 13)))) [.call 54 [.agg [.p (.at 0), .p (.at 1), .p (.at 2)]] (.tup [.agg [.p (.at 3), .p (.at 4)], .agg [.p (.at 5), .p (.at 6)]]) [], .call 84 [] (.one (.agg [.p (.at 7), .p (.at 8)])) [], .eqs false [.b, .s] [.p (.at 5), .p (.at 6)] [.p (.at 7), .p (.at 8)] 9, .isB 9 false, .call 89 [.agg [.p (.at 3), .p (.at 4)]] (.one (.c (.p (.at 10)))) [], .op2 false .add (.p (.at 10)) (.p (.lit (.string ⟨#[47]⟩))) 11, .call 89 [.agg [.p (.at 5), .p (.at 6)]] (.one (.c (.p (.at 12)))) [], .op2 false .add (.p (.at 11)) (.p (.at 12)) 13] Tryz.func50 (by kernel_rfl) rfl (by kernel_rfl) rfl (by kernel_rfl)
    ⟨fun γ w' _ _ => rParts_any n s t w' (by omega) (by omega),
     fun γ w' _ _ => rone_any w',
     ⟨rfl, rfl, show Value.bool false = Value.bool (false != eqL [.bool (sg (((rq n s t).den : Nat) : Int)), .string (mg (((rq n s t).den : Nat) : Int))] [.bool (sg (1 : Int)), .string (mg (1 : Int))]) from by rw [eqL_Z, decide_eq_false (by omega : ¬ (((rq n s t).den : Nat) : Int) = (1 : Int))]; rfl⟩,
     rfl,
     fun γ w' _ _ => by have h := refText2_any (sg ((rq n s t).num)) (mg ((rq n s t).num)) w' (by omega); simp only [iv_Z] at h; exact h,
     if_neg (cat_ok (by omega)),
     fun γ w' _ _ => by have h := refText2_any (sg (((rq n s t).den : Nat) : Int)) (mg (((rq n s t).den : Nat) : Int)) w' (by omega); simp only [iv_Z] at h; exact h,
     if_neg (cat_ok (by omega))⟩
theorem Format_one (n : Bool) (s t : ByteArray) (w : World) (hs : s.size ≤ 100000) (ht : t.size ≤ 100000) (hT : TabC w) (h1 : (rq n s t).den = 1) :
    Calls Tryz.prog 48 #[.agg #[.bool n, .string s, .string t]] w fun e w' => e = .returned (.string (decZ (rq n s t).num)) ∧ Below w.heap.size w w' := by
  have k0 := Rk.rq (n := n) hs ht (by omega)
  have k2 := mg_den k0
  have k1 := k0.1
  have z1 := decZ_size k1
  have z2 := decZ_size k2
  have z3 : (⟨#[47]⟩ : ByteArray).size = 1 := rfl
  have z4 : (decZ (rq n s t).num ++ ⟨#[47]⟩).size = (decZ (rq n s t).num).size + 1 := by rw [ByteArray.size_append, z3]
  have k4 := k0.dm
  exact SX.run (w := w) [.bool n, .string s, .string t, .bool (sg (rq n s t).num), .string (mg (rq n s t).num), .string (dm (rq n s t).den), .bool (sg ((rq n s t).num)), .string (mg ((rq n s t).num)), .bool (sg (((rq n s t).den : Nat) : Int)), .string (mg (((rq n s t).den : Nat) : Int)), .bool true, .string (decZ ((rq n s t).num))] [.b true] [.agg [.p (.at 0), .p (.at 1), .p (.at 2)]] 3 (.one (.c (.p (.at 11)))) [.call 68 [.agg [.p (.at 0), .p (.at 1), .p (.at 2)]] (.one (.agg [.p (.at 3), .p (.at 4), .p (.at 5)])) [], .call 69 [.agg [.p (.at 3), .p (.at 4), .p (.at 5)]] (.tup [.agg [.p (.at 6), .p (.at 7)], .agg [.p (.at 8), .p (.at 9)]]) [], .op2 false .eql (.p (.at 5)) (.p (.lit (.string ⟨#[]⟩))) 10, .isB 10 true, .call 85 [.agg [.p (.at 6), .p (.at 7)]] (.one (.c (.p (.at 11)))) []] Tryz.func48 (by kernel_rfl) rfl (by kernel_rfl) rfl (by kernel_rfl)
    ⟨fun γ w' hb _ => NormQ_any n s t w' (by omega) (by omega) (hT.later hb),
     fun γ w' _ _ => by have h := parts_any (sg (rq n s t).num) (mg (rq n s t).num) (dm (rq n s t).den) w' (by simp [maxLen]; omega); rw [dnb_dm (Rat.den_nz _), ← Z_nat] at h; exact h,
     congrArg (fun z => some (Value.bool z)) (by rw [dm_beq_nil (Rat.den_nz _)]; exact decide_eq_true h1 : ((dm (rq n s t).den).toList == (⟨#[]⟩ : ByteArray).toList) = true),
     rfl,
     fun γ w' _ _ => by have h := Format2_any (sg ((rq n s t).num)) (mg ((rq n s t).num)) w' (by omega); simp only [iv_Z] at h; exact h⟩
theorem Format_two (n : Bool) (s t : ByteArray) (w : World) (hs : s.size ≤ 100000) (ht : t.size ≤ 100000) (hT : TabC w) (h1 : (rq n s t).den ≠ 1) :
    Calls Tryz.prog 48 #[.agg #[.bool n, .string s, .string t]] w fun e w' => e = .returned (.string (decZ (rq n s t).num ++ ⟨#[47]⟩ ++ decZ (((rq n s t).den : Nat) : Int))) ∧ Below w.heap.size w w' := by
  have k0 := Rk.rq (n := n) hs ht (by omega)
  have k2 := mg_den k0
  have k1 := k0.1
  have z1 := decZ_size k1
  have z2 := decZ_size k2
  have z3 : (⟨#[47]⟩ : ByteArray).size = 1 := rfl
  have z4 : (decZ (rq n s t).num ++ ⟨#[47]⟩).size = (decZ (rq n s t).num).size + 1 := by rw [ByteArray.size_append, z3]
  have k4 := k0.dm
  exact SX.run (w := w) [.bool n, .string s, .string t, .bool (sg (rq n s t).num), .string (mg (rq n s t).num), .string (dm (rq n s t).den), .bool (sg ((rq n s t).num)), .string (mg ((rq n s t).num)), .bool (sg (((rq n s t).den : Nat) : Int)), .string (mg (((rq n s t).den : Nat) : Int)), .bool false, .string (decZ ((rq n s t).num)), .string ((decZ ((rq n s t).num)) ++ (⟨#[47]⟩ : ByteArray)), .string (decZ (((rq n s t).den : Nat) : Int)), .string (((decZ ((rq n s t).num)) ++ (⟨#[47]⟩ : ByteArray)) ++ (decZ (((rq n s t).den : Nat) : Int)))] [.b false] [.agg [.p (.at 0), .p (.at 1), .p (.at 2)]] 3 (.one (.c (.p (.at 14)))) [.call 68 [.agg [.p (.at 0), .p (.at 1), .p (.at 2)]] (.one (.agg [.p (.at 3), .p (.at 4), .p (.at 5)])) [], .call 69 [.agg [.p (.at 3), .p (.at 4), .p (.at 5)]] (.tup [.agg [.p (.at 6), .p (.at 7)], .agg [.p (.at 8), .p (.at 9)]]) [], .op2 false .eql (.p (.at 5)) (.p (.lit (.string ⟨#[]⟩))) 10, .isB 10 false, .call 85 [.agg [.p (.at 6), .p (.at 7)]] (.one (.c (.p (.at 11)))) [], .op2 false .add (.p (.at 11)) (.p (.lit (.string ⟨#[47]⟩))) 12, .call 85 [.agg [.p (.at 8), .p (.at 9)]] (.one (.c (.p (.at 13)))) [], .op2 false .add (.p (.at 12)) (.p (.at 13)) 14] Tryz.func48 (by kernel_rfl) rfl (by kernel_rfl) rfl (by kernel_rfl)
    ⟨fun γ w' hb _ => NormQ_any n s t w' (by omega) (by omega) (hT.later hb),
     fun γ w' _ _ => by have h := parts_any (sg (rq n s t).num) (mg (rq n s t).num) (dm (rq n s t).den) w' (by simp [maxLen]; omega); rw [dnb_dm (Rat.den_nz _), ← Z_nat] at h; exact h,
     congrArg (fun z => some (Value.bool z)) (by rw [dm_beq_nil (Rat.den_nz _)]; exact decide_eq_false h1 : ((dm (rq n s t).den).toList == (⟨#[]⟩ : ByteArray).toList) = false),
     rfl,
     fun γ w' _ _ => by have h := Format2_any (sg ((rq n s t).num)) (mg ((rq n s t).num)) w' (by omega); simp only [iv_Z] at h; exact h,
     if_neg (cat_ok (by omega)),
     fun γ w' _ _ => by have h := Format2_any (sg (((rq n s t).den : Nat) : Int)) (mg (((rq n s t).den : Nat) : Int)) w' (by omega); simp only [iv_Z] at h; exact h,
     if_neg (cat_ok (by omega))⟩
theorem rText_any (n : Bool) (s t : ByteArray) (w : World) (hs : s.size ≤ 100000) (ht : t.size ≤ 100000) :
    Calls Tryz.prog 50 #[.agg #[.bool n, .string s, .string t]] w fun e w' => e = .returned (.string (textQ (rq n s t))) ∧ Below w.heap.size w w' := by
  unfold textQ
  by_cases h1 : (rq n s t).den = 1
  · rw [if_pos h1]; exact rText_one n s t w hs ht h1
  · rw [if_neg h1]; exact rText_two n s t w hs ht h1
theorem FormatQ_any (n : Bool) (s t : ByteArray) (w : World) (hs : s.size ≤ 100000) (ht : t.size ≤ 100000) (hT : TabC w) :
    Calls Tryz.prog 48 #[.agg #[.bool n, .string s, .string t]] w fun e w' => e = .returned (.string (textQ (rq n s t))) ∧ Below w.heap.size w w' := by
  unfold textQ
  by_cases h1 : (rq n s t).den = 1
  · rw [if_pos h1]; exact Format_one n s t w hs ht hT h1
  · rw [if_neg h1]; exact Format_two n s t w hs ht hT h1
theorem cut_yes (s : ByteArray) (c : UInt8) (w : World) (hs : s.size ≤ 1048576) (hk : at_ c.toNat s < s.size) :
    Calls Tryz.prog 155 #[.string s, .string ⟨#[c]⟩] w fun e w' => e = .returned (.tuple #[.string (s.extract 0 (at_ c.toNat s)), .string (s.extract (at_ c.toNat s + 1) s.size), .bool true]) ∧ Below w.heap.size w w' := by
  exact SX.run (w := w) [.string s, .string ⟨#[c]⟩, .int .i64 ((at_ c.toNat s : Nat) : Int), .bool true, .string (s.extract 0 (at_ c.toNat s)), .int .i64 ((⟨#[c]⟩ : ByteArray).size : Int), .int .i64 ((at_ c.toNat s + 1 : Nat) : Int), .string (s.extract (at_ c.toNat s + 1) s.size)] [.b true] [.c (.p (.at 0)), .c (.p (.at 1))] 2 (.tup [.c (.p (.at 4)), .c (.p (.at 7)), .c (.p (.lit (.bool true)))]) [.call 154 [.c (.p (.at 0)), .c (.p (.at 1))] (.one (.c (.p (.at 2)))) [], .op2 false .geq (.p (.at 2)) (.p (.lit (.int .i64 0))) 3, .isB 3 true, .prim (.slice 9 (.tmp 13) none (some (.tmp 14)) none) 9 [(13, .one (.c (.p (.at 0)))), (14, .one (.c (.p (.at 2))))] (.one (.c (.p (.at 4)))), .len (.p (.at 1)) 5, .op2 false .add (.p (.at 2)) (.p (.at 5)) 6, .prim (.slice 9 (.tmp 16) (some (.tmp 20)) none none) 9 [(16, .one (.c (.p (.at 0)))), (20, .one (.c (.p (.at 6))))] (.one (.c (.p (.at 7))))] Tryz.func155 (by kernel_rfl) rfl (by kernel_rfl) rfl (by kernel_rfl)
    ⟨fun γ w' _ _ => by have h := Tryz.stringslite_Index_one s c w'; rw [indexByte_at, if_pos hk] at h; exact h.mono fun _ _ h => ⟨h.1, h.2 ▸ Below.refl _ _⟩,
     congrArg (fun z => some (Value.bool z)) (decide_eq_true (by omega) : decide (((at_ c.toNat s : Nat) : Int) ≥ (0 : Int)) = true),
     rfl,
     fun w' _ => slice_hi (k := at_ c.toNat s) (by kernel_rfl) rfl rfl (by omega),
     ⟨_, rfl, rfl⟩,
     congrArg (fun z => some (Value.int .i64 z)) (by have z : (⟨#[c]⟩ : ByteArray).size = 1 := rfl; rw [z, wrap_small (by omega) (by omega)]; omega : IntKind.wrap .i64 (((at_ c.toNat s : Nat) : Int) + ((⟨#[c]⟩ : ByteArray).size : Int)) = ((at_ c.toNat s + 1 : Nat) : Int)),
     fun w' _ => slice_lo (k := at_ c.toNat s + 1) (by kernel_rfl) rfl rfl (by omega)⟩
theorem cut_no (s : ByteArray) (c : UInt8) (w : World) (hk : ¬ at_ c.toNat s < s.size) :
    Calls Tryz.prog 155 #[.string s, .string ⟨#[c]⟩] w fun e w' => e = .returned (.tuple #[.string s, .string ⟨#[]⟩, .bool false]) ∧ Below w.heap.size w w' := by
  exact SX.run (w := w) [.string s, .string ⟨#[c]⟩, .int .i64 (-1), .bool false] [.b false] [.c (.p (.at 0)), .c (.p (.at 1))] 2 (.tup [.c (.p (.at 0)), .c (.p (.lit (.string ⟨#[]⟩))), .c (.p (.lit (.bool false)))]) [.call 154 [.c (.p (.at 0)), .c (.p (.at 1))] (.one (.c (.p (.at 2)))) [], .op2 false .geq (.p (.at 2)) (.p (.lit (.int .i64 0))) 3, .isB 3 false] Tryz.func155 (by kernel_rfl) rfl (by kernel_rfl) rfl (by kernel_rfl)
    ⟨fun γ w' _ _ => by have h := Tryz.stringslite_Index_one s c w'; rw [indexByte_at, if_neg hk] at h; exact h.mono fun _ _ h => ⟨h.1, h.2 ▸ Below.refl _ _⟩,
     congrArg (fun z => some (Value.bool z)) (rfl : decide (((-1) : Int) ≥ (0 : Int)) = false),
     rfl⟩
theorem Cut_yes (s : ByteArray) (c : UInt8) (w : World) (hs : s.size ≤ 1048576) (hk : at_ c.toNat s < s.size) :
    Calls Tryz.prog 134 #[.string s, .string ⟨#[c]⟩] w fun e w' => e = .returned (.tuple #[.string (s.extract 0 (at_ c.toNat s)), .string (s.extract (at_ c.toNat s + 1) s.size), .bool true]) ∧ Below w.heap.size w w' := by
  exact SX.run (w := w) [.string s, .string ⟨#[c]⟩, .string (s.extract 0 (at_ c.toNat s)), .string (s.extract (at_ c.toNat s + 1) s.size), .bool true] [] [.c (.p (.at 0)), .c (.p (.at 1))] 2 (.tup [.c (.p (.at 2)), .c (.p (.at 3)), .c (.p (.at 4))]) [.call 155 [.c (.p (.at 0)), .c (.p (.at 1))] (.tup [.c (.p (.at 2)), .c (.p (.at 3)), .c (.p (.at 4))]) []] Tryz.func134 (by kernel_rfl) rfl (by kernel_rfl) rfl (by kernel_rfl)
    (SX.All.one (fun γ w' _ _ => cut_yes s c w' hs hk))
theorem Cut_no (s : ByteArray) (c : UInt8) (w : World) (hs : s.size ≤ 1048576) (hk : ¬ at_ c.toNat s < s.size) :
    Calls Tryz.prog 134 #[.string s, .string ⟨#[c]⟩] w fun e w' => e = .returned (.tuple #[.string s, .string ⟨#[]⟩, .bool false]) ∧ Below w.heap.size w w' := by
  exact SX.run (w := w) [.string s, .string ⟨#[c]⟩, .string s, .string ⟨#[]⟩, .bool false] [] [.c (.p (.at 0)), .c (.p (.at 1))] 2 (.tup [.c (.p (.at 2)), .c (.p (.at 3)), .c (.p (.at 4))]) [.call 155 [.c (.p (.at 0)), .c (.p (.at 1))] (.tup [.c (.p (.at 2)), .c (.p (.at 3)), .c (.p (.at 4))]) []] Tryz.func134 (by kernel_rfl) rfl (by kernel_rfl) rfl (by kernel_rfl)
    (SX.All.one (fun γ w' _ _ => cut_no s c w' hk))
theorem pd_zero (s : ByteArray) (w : World) (h0 : (trimZ s).size = 0) :
    Calls Tryz.prog 104 #[.string s] w fun e w' => e = .returned (.tuple #[.string ⟨#[]⟩, .bool (decide (s.size ≠ 0))]) ∧ Below w.heap.size w w' := by
  exact SX.run (w := w) [.string s, .string (trimZ s), .bool true, .bool (decide (s.size ≠ 0))] [.b true] [.c (.p (.at 0))] 1 (.tup [.c (.p (.lit (.string ⟨#[]⟩))), .c (.p (.at 3))]) [.call 136 [.c (.p (.at 0)), .c (.p (.lit (.string ⟨#[48]⟩)))] (.one (.c (.p (.at 1)))) [], .op2 false .eql (.p (.at 1)) (.p (.lit (.string ⟨#[]⟩))) 2, .isB 2 true, .op2 false .neq (.p (.at 0)) (.p (.lit (.string ⟨#[]⟩))) 3] Tryz.func104 (by kernel_rfl) rfl (by kernel_rfl) rfl (by kernel_rfl)
    ⟨fun γ w' _ _ => (Tryz.strings_TrimLeft_one s 48 (by decide) w').mono fun _ _ h => ⟨h.1, h.2 ▸ Below.refl _ _⟩,
     congrArg (fun z => some (Value.bool z)) (by rw [str_eq_nil]; exact decide_eq_true h0 : ((trimZ s).toList == (⟨#[]⟩ : ByteArray).toList) = true),
     rfl,
     congrArg (fun z => some (Value.bool z)) (by rw [str_eq_nil, decide_not])⟩
theorem pd_more (s : ByteArray) (v : ByteArray) (b : Bool) (w : World) (hs : s.size ≤ 1048576) (h0 : (trimZ s).size ≠ 0) (hv : parseVal (trimZ s) = .tuple #[.string v, .bool b]) :
    Calls Tryz.prog 104 #[.string s] w fun e w' => e = .returned (.tuple #[.string v, .bool b]) ∧ Below w.heap.size w w' := by
  have z := trimZ_size s
  exact SX.run (w := w) [.string s, .string (trimZ s), .bool false, .string v, .bool b] [.b false] [.c (.p (.at 0))] 1 (.tup [.c (.p (.at 3)), .c (.p (.at 4))]) [.call 136 [.c (.p (.at 0)), .c (.p (.lit (.string ⟨#[48]⟩)))] (.one (.c (.p (.at 1)))) [], .op2 false .eql (.p (.at 1)) (.p (.lit (.string ⟨#[]⟩))) 2, .isB 2 false, .call 137 [.c (.p (.at 1))] (.tup [.c (.p (.at 3)), .c (.p (.at 4))]) []] Tryz.func104 (by kernel_rfl) rfl (by kernel_rfl) rfl (by kernel_rfl)
    ⟨fun γ w' _ _ => (Tryz.strings_TrimLeft_one s 48 (by decide) w').mono fun _ _ h => ⟨h.1, h.2 ▸ Below.refl _ _⟩,
     congrArg (fun z => some (Value.bool z)) (by rw [str_eq_nil]; exact decide_eq_false h0 : ((trimZ s).toList == (⟨#[]⟩ : ByteArray).toList) = false),
     rfl,
     fun γ w' _ _ => by have h := Parse_any (trimZ s) w' (by omega); rw [hv] at h; exact h⟩
theorem parseDigits_any (s : ByteArray) (w : World) (hs : s.size ≤ 1048576) :
    Calls Tryz.prog 104 #[.string s] w fun e w' => e = .returned (.tuple #[.string (can ((digV (bts s)).getD 0)), .bool (digV (bts s)).isSome]) ∧ Below w.heap.size w w' := by
  have hz := bts_trimZ s
  by_cases h0 : (trimZ s).size = 0
  · have h := pd_zero s w h0
    have hn : bts (trimZ s) = [] := bts_nil_iff.2 h0
    by_cases hs0 : s.size = 0
    · rw [digV_none (.inl (bts_nil_iff.2 hs0))]
      rw [decide_eq_false (by omega)] at h
      exact h
    · have ha : allDig (bts s) = true := by rw [allDig_zeros, ← hz, hn]; rfl
      rw [digV_some (fun e => hs0 (bts_nil_iff.1 e)) ha, decVal_zeros, ← hz, hn]
      rw [decide_eq_true hs0] at h
      exact h
  · have hn : bts s ≠ [] := fun e => h0 (by have := trimZ_size s; rw [bts_nil_iff] at e; omega)
    cases ha : allDig (bts s) with
    | true =>
      rw [digV_some hn ha, decVal_zeros, ← hz]
      exact pd_more s _ _ w hs h0 (parseVal_yes ((decimal_trim h0).2 ha))
    | false =>
      rw [digV_none (.inr ha)]
      exact pd_more s _ _ w hs h0 (parseVal_no (fun h => by rw [(decimal_trim h0).1 h] at ha; cases ha))
/-- The texts of a numerator and a denominator, and whether the point is no hindrance. -/
def splitV (s : ByteArray) : ByteArray × ByteArray × Bool :=
  if at_ 47 s < s.size then (s.extract 0 (at_ 47 s), s.extract (at_ 47 s + 1) s.size, true)
  else if at_ 46 s < s.size then (s.extract 0 (at_ 46 s) ++ s.extract (at_ 46 s + 1) s.size, ⟨#[49]⟩ ++ ⟨(Lib.repeatL [48] (s.extract (at_ 46 s + 1) s.size).size).toArray⟩, decide ((s.extract 0 (at_ 46 s)).size ≠ 0) && decide ((s.extract (at_ 46 s + 1) s.size).size ≠ 0))
  else (s, ⟨#[49]⟩, true)
theorem split_slash (s : ByteArray) (w : World) (hs : s.size ≤ 1048576) (h47 : at_ 47 s < s.size) :
    Calls Tryz.prog 103 #[.string s] w fun e w' => e = .returned (.tuple #[.string (s.extract 0 (at_ 47 s)), .string (s.extract (at_ 47 s + 1) s.size), .bool true]) ∧ Below w.heap.size w w' := by
  exact SX.run (w := w) [.string s, .string (s.extract 0 (at_ 47 s)), .string (s.extract (at_ 47 s + 1) s.size), .bool true] [.b true] [.c (.p (.at 0))] 1 (.tup [.c (.p (.at 1)), .c (.p (.at 2)), .c (.p (.lit (.bool true)))]) [.call 134 [.c (.p (.at 0)), .c (.p (.lit (.string ⟨#[47]⟩)))] (.tup [.c (.p (.at 1)), .c (.p (.at 2)), .c (.p (.at 3))]) [], .isB 3 true] Tryz.func103 (by kernel_rfl) rfl (by kernel_rfl) rfl (by kernel_rfl)
    ⟨fun γ w' _ _ => Cut_yes s 47 w' hs h47,
     rfl⟩
theorem split_whole (s : ByteArray) (w : World) (hs : s.size ≤ 1048576) (h47 : ¬ at_ 47 s < s.size) (h46 : ¬ at_ 46 s < s.size) :
    Calls Tryz.prog 103 #[.string s] w fun e w' => e = .returned (.tuple #[.string s, .string ⟨#[49]⟩, .bool true]) ∧ Below w.heap.size w w' := by
  exact SX.run (w := w) [.string s, .string s, .string ⟨#[]⟩, .bool false, .string s, .string ⟨#[]⟩, .bool false, .bool true] [.b false, .b true] [.c (.p (.at 0))] 1 (.tup [.c (.p (.at 0)), .c (.p (.lit (.string ⟨#[49]⟩))), .c (.p (.lit (.bool true)))]) [.call 134 [.c (.p (.at 0)), .c (.p (.lit (.string ⟨#[47]⟩)))] (.tup [.c (.p (.at 1)), .c (.p (.at 2)), .c (.p (.at 3))]) [], .isB 3 false, .call 134 [.c (.p (.at 0)), .c (.p (.lit (.string ⟨#[46]⟩)))] (.tup [.c (.p (.at 4)), .c (.p (.at 5)), .c (.p (.at 6))]) [], .op1 .not (.p (.at 6)) 7, .isB 7 true] Tryz.func103 (by kernel_rfl) rfl (by kernel_rfl) rfl (by kernel_rfl)
    ⟨fun γ w' _ _ => Cut_no s 47 w' hs h47,
     rfl,
     fun γ w' _ _ => Cut_no s 46 w' hs h46,
     congrArg (fun z => some (Value.bool z)) (rfl : (!false) = true),
     rfl⟩
theorem split_point_t (s : ByteArray) (w : World) (hs : s.size ≤ 1048576) (h47 : ¬ at_ 47 s < s.size) (h46 : at_ 46 s < s.size) (h0 : (s.extract 0 (at_ 46 s)).size ≠ 0) :
    Calls Tryz.prog 103 #[.string s] w fun e w' => e = .returned (.tuple #[.string ((s.extract 0 (at_ 46 s)) ++ (s.extract (at_ 46 s + 1) s.size)), .string (⟨#[49]⟩ ++ ⟨(Lib.repeatL [48] (s.extract (at_ 46 s + 1) s.size).size).toArray⟩), .bool (!((s.extract (at_ 46 s + 1) s.size).toList == (⟨#[]⟩ : ByteArray).toList))]) ∧ Below w.heap.size w w' := by
  have z1 : (s.extract 0 (at_ 46 s)).size ≤ s.size := by rw [ByteArray.size_extract]; omega
  have z2 : (s.extract (at_ 46 s + 1) s.size).size ≤ s.size := by rw [ByteArray.size_extract]; omega
  have z3 : (⟨(Lib.repeatL [48] (s.extract (at_ 46 s + 1) s.size).size).toArray⟩ : ByteArray).size = (s.extract (at_ 46 s + 1) s.size).size := by show (Lib.repeatL [48] _).toArray.size = _; rw [List.size_toArray, Lib.repeatL_length]; simp
  have z4 : (⟨#[49]⟩ : ByteArray).size = 1 := rfl
  exact SX.run (w := w) [.string s, .string s, .string ⟨#[]⟩, .bool false, .string (s.extract 0 (at_ 46 s)), .string (s.extract (at_ 46 s + 1) s.size), .bool true, .bool false, .string ((s.extract 0 (at_ 46 s)) ++ (s.extract (at_ 46 s + 1) s.size)), .int .i64 ((s.extract (at_ 46 s + 1) s.size).size : Int), .string ⟨(Lib.repeatL [48] (s.extract (at_ 46 s + 1) s.size).size).toArray⟩, .string ((⟨#[49]⟩ : ByteArray) ++ (⟨(Lib.repeatL [48] (s.extract (at_ 46 s + 1) s.size).size).toArray⟩ : ByteArray)), .bool true, .bool (!((s.extract (at_ 46 s + 1) s.size).toList == (⟨#[]⟩ : ByteArray).toList))] [.b false, .b false, .b true] [.c (.p (.at 0))] 1 (.tup [.c (.p (.at 8)), .c (.p (.at 11)), .c (.p (.at 13))]) [.call 134 [.c (.p (.at 0)), .c (.p (.lit (.string ⟨#[47]⟩)))] (.tup [.c (.p (.at 1)), .c (.p (.at 2)), .c (.p (.at 3))]) [], .isB 3 false, .call 134 [.c (.p (.at 0)), .c (.p (.lit (.string ⟨#[46]⟩)))] (.tup [.c (.p (.at 4)), .c (.p (.at 5)), .c (.p (.at 6))]) [], .op1 .not (.p (.at 6)) 7, .isB 7 false, .op2 false .add (.p (.at 4)) (.p (.at 5)) 8, .len (.p (.at 5)) 9, .call 135 [.c (.p (.lit (.string ⟨#[48]⟩))), .c (.p (.at 9))] (.one (.c (.p (.at 10)))) [], .op2 false .add (.p (.lit (.string ⟨#[49]⟩))) (.p (.at 10)) 11, .op2 false .neq (.p (.at 4)) (.p (.lit (.string ⟨#[]⟩))) 12, .isB 12 true, .op2 false .neq (.p (.at 5)) (.p (.lit (.string ⟨#[]⟩))) 13] Tryz.func103 (by kernel_rfl) rfl (by kernel_rfl) rfl (by kernel_rfl)
    ⟨fun γ w' _ _ => Cut_no s 47 w' hs h47,
     rfl,
     fun γ w' _ _ => Cut_yes s 46 w' hs h46,
     congrArg (fun z => some (Value.bool z)) (rfl : (!true) = false),
     rfl,
     if_neg (cat_ok (by omega)),
     ⟨_, rfl, rfl⟩,
     fun γ w' _ _ => Tryz.strings_Repeat ⟨#[48]⟩ (s.extract (at_ 46 s + 1) s.size).size w' (by omega) (by show 1 * _ ≤ _; omega),
     if_neg (cat_ok (by omega)),
     congrArg (fun z => some (Value.bool z)) (by rw [str_eq_nil]; simp only [decide_eq_false (show (s.extract 0 (at_ 46 s)).size = 0 → False from h0), Bool.not_false] : (!((s.extract 0 (at_ 46 s)).toList == (⟨#[]⟩ : ByteArray).toList)) = true),
     rfl,
     rfl⟩
theorem split_point_f (s : ByteArray) (w : World) (hs : s.size ≤ 1048576) (h47 : ¬ at_ 47 s < s.size) (h46 : at_ 46 s < s.size) (h0 : (s.extract 0 (at_ 46 s)).size = 0) :
    Calls Tryz.prog 103 #[.string s] w fun e w' => e = .returned (.tuple #[.string ((s.extract 0 (at_ 46 s)) ++ (s.extract (at_ 46 s + 1) s.size)), .string (⟨#[49]⟩ ++ ⟨(Lib.repeatL [48] (s.extract (at_ 46 s + 1) s.size).size).toArray⟩), .bool false]) ∧ Below w.heap.size w w' := by
  have z1 : (s.extract 0 (at_ 46 s)).size ≤ s.size := by rw [ByteArray.size_extract]; omega
  have z2 : (s.extract (at_ 46 s + 1) s.size).size ≤ s.size := by rw [ByteArray.size_extract]; omega
  have z3 : (⟨(Lib.repeatL [48] (s.extract (at_ 46 s + 1) s.size).size).toArray⟩ : ByteArray).size = (s.extract (at_ 46 s + 1) s.size).size := by show (Lib.repeatL [48] _).toArray.size = _; rw [List.size_toArray, Lib.repeatL_length]; simp
  have z4 : (⟨#[49]⟩ : ByteArray).size = 1 := rfl
  exact SX.run (w := w) [.string s, .string s, .string ⟨#[]⟩, .bool false, .string (s.extract 0 (at_ 46 s)), .string (s.extract (at_ 46 s + 1) s.size), .bool true, .bool false, .string ((s.extract 0 (at_ 46 s)) ++ (s.extract (at_ 46 s + 1) s.size)), .int .i64 ((s.extract (at_ 46 s + 1) s.size).size : Int), .string ⟨(Lib.repeatL [48] (s.extract (at_ 46 s + 1) s.size).size).toArray⟩, .string ((⟨#[49]⟩ : ByteArray) ++ (⟨(Lib.repeatL [48] (s.extract (at_ 46 s + 1) s.size).size).toArray⟩ : ByteArray)), .bool false] [.b false, .b false, .b false] [.c (.p (.at 0))] 1 (.tup [.c (.p (.at 8)), .c (.p (.at 11)), .c (.p (.lit (.bool false)))]) [.call 134 [.c (.p (.at 0)), .c (.p (.lit (.string ⟨#[47]⟩)))] (.tup [.c (.p (.at 1)), .c (.p (.at 2)), .c (.p (.at 3))]) [], .isB 3 false, .call 134 [.c (.p (.at 0)), .c (.p (.lit (.string ⟨#[46]⟩)))] (.tup [.c (.p (.at 4)), .c (.p (.at 5)), .c (.p (.at 6))]) [], .op1 .not (.p (.at 6)) 7, .isB 7 false, .op2 false .add (.p (.at 4)) (.p (.at 5)) 8, .len (.p (.at 5)) 9, .call 135 [.c (.p (.lit (.string ⟨#[48]⟩))), .c (.p (.at 9))] (.one (.c (.p (.at 10)))) [], .op2 false .add (.p (.lit (.string ⟨#[49]⟩))) (.p (.at 10)) 11, .op2 false .neq (.p (.at 4)) (.p (.lit (.string ⟨#[]⟩))) 12, .isB 12 false] Tryz.func103 (by kernel_rfl) rfl (by kernel_rfl) rfl (by kernel_rfl)
    ⟨fun γ w' _ _ => Cut_no s 47 w' hs h47,
     rfl,
     fun γ w' _ _ => Cut_yes s 46 w' hs h46,
     congrArg (fun z => some (Value.bool z)) (rfl : (!true) = false),
     rfl,
     if_neg (cat_ok (by omega)),
     ⟨_, rfl, rfl⟩,
     fun γ w' _ _ => Tryz.strings_Repeat ⟨#[48]⟩ (s.extract (at_ 46 s + 1) s.size).size w' (by omega) (by show 1 * _ ≤ _; omega),
     if_neg (cat_ok (by omega)),
     congrArg (fun z => some (Value.bool z)) (by rw [str_eq_nil]; simp only [decide_eq_true (show (s.extract 0 (at_ 46 s)).size = 0 from h0), Bool.not_true] : (!((s.extract 0 (at_ 46 s)).toList == (⟨#[]⟩ : ByteArray).toList)) = false),
     rfl⟩
theorem split_any (s : ByteArray) (w : World) (hs : s.size ≤ 1048576) :
    Calls Tryz.prog 103 #[.string s] w fun e w' => e = .returned (.tuple #[.string (splitV s).1, .string (splitV s).2.1, .bool (splitV s).2.2]) ∧ Below w.heap.size w w' := by
  unfold splitV
  by_cases h47 : at_ 47 s < s.size
  · simp only [if_pos h47]
    exact split_slash s w hs h47
  · simp only [if_neg h47]
    by_cases h46 : at_ 46 s < s.size
    · simp only [if_pos h46]
      by_cases h0 : (s.extract 0 (at_ 46 s)).size = 0
      · rw [decide_eq_false (show ¬ (s.extract 0 (at_ 46 s)).size ≠ 0 from fun h => h h0), Bool.false_and]
        exact split_point_f s w hs h47 h46 h0
      · rw [decide_eq_true (show (s.extract 0 (at_ 46 s)).size ≠ 0 from h0), Bool.true_and, decide_not, ← str_eq_nil]
        exact split_point_t s w hs h47 h46 h0
    · simp only [if_neg h46]
      exact split_whole s w hs h47 h46
theorem repeat_val (n : Nat) : digV (bts (⟨#[49]⟩ ++ ⟨(Lib.repeatL [48] n).toArray⟩)) = some (10 ^ n) := by
  have e : ∀ n, bts ⟨(Lib.repeatL [48] n).toArray⟩ = List.replicate n 48 := by
    intro n
    unfold bts
    show List.map _ (Lib.repeatL [48] n) = _
    induction n with
    | zero => rfl
    | succ n ih => rw [Lib.repeatL, List.map_append, ih]; rfl
  rw [bts_append, e]
  have ha : allDig (List.replicate n 48) = true := by simp [allDig]
  have hz : decVal (List.replicate n 48) = 0 := by rw [decVal_zeros]; simp; rfl
  show digV ([49] ++ _) = _
  rw [digV_some (by simp) (by rw [allDig_append, ha]; rfl), decVal_app _ _ ha, hz, List.length_replicate]
  show some (1 * 10 ^ n + 0) = _
  rw [Nat.one_mul, Nat.add_zero]
theorem frac_split (u : ByteArray) : fracV u = if (splitV u).2.2 = true then (digV (bts (splitV u).1)).bind fun x => (digV (bts (splitV u).2.1)).bind fun y => some (x, y) else none := by
  unfold fracV splitV
  by_cases h47 : at_ 47 u < u.size
  · simp only [if_pos h47, if_true]
  · simp only [if_neg h47]
    by_cases h46 : at_ 46 u < u.size
    · simp only [if_pos h46]
      generalize u.extract 0 (at_ 46 u) = a
      generalize u.extract (at_ 46 u + 1) u.size = b
      rw [repeat_val]
      by_cases ha : a.size = 0
      · rw [digV_none (.inl (bts_nil_iff.2 ha)), decide_eq_false (by omega), Bool.false_and, if_neg (by decide)]
        rfl
      · by_cases hb : b.size = 0
        · rw [digV_none (l := bts b) (.inl (bts_nil_iff.2 hb)), decide_eq_false (p := b.size ≠ 0) (by omega), Bool.and_false, if_neg (by decide)]
          cases digV (bts a) <;> rfl
        · rw [decide_eq_true ha, decide_eq_true hb, Bool.true_and, if_pos rfl]
          have na : bts a ≠ [] := fun e => ha (bts_nil_iff.1 e)
          have nb : bts b ≠ [] := fun e => hb (bts_nil_iff.1 e)
          cases ca : allDig (bts a) with
          | false =>
            rw [digV_none (.inr ca), digV_none (l := bts (a ++ b)) (.inr (by rw [bts_append, allDig_append, ca]; rfl))]
            rfl
          | true =>
            cases cb : allDig (bts b) with
            | false =>
              rw [digV_none (l := bts b) (.inr cb), digV_none (l := bts (a ++ b)) (.inr (by rw [bts_append, allDig_append, ca, cb]; rfl))]
              cases digV (bts a) <;> rfl
            | true =>
              rw [bts_append, digV_app (digV_some na ca) (digV_some nb cb), digV_some na ca, digV_some nb cb, bts_length]
              rfl
    · simp only [if_neg h46, if_true]
      rfl
theorem splitV_size (s : ByteArray) : (splitV s).1.size ≤ s.size ∧ (splitV s).2.1.size ≤ s.size + 1 := by
  have z4 : (⟨#[49]⟩ : ByteArray).size = 1 := rfl
  unfold splitV
  split
  · exact ⟨by rw [ByteArray.size_extract]; omega, by rw [ByteArray.size_extract]; omega⟩
  · split
    · have z3 : ∀ n, (⟨(Lib.repeatL [48] n).toArray⟩ : ByteArray).size = n := fun n => by show (Lib.repeatL [48] n).toArray.size = n; rw [List.size_toArray, Lib.repeatL_length]; simp
      have h46 := at_le 46 s
      refine ⟨?_, ?_⟩ <;> simp only [ByteArray.size_append, z3, z4, ByteArray.size_extract] <;> omega
    · exact ⟨Nat.le_refl _, by show (⟨#[49]⟩ : ByteArray).size ≤ _; omega⟩
theorem Parse_1 (s a b : ByteArray) (c : Bool) (w : World) (hs : s.size ≤ 1000) (hS : splitV (restS s) = (a, b, c)) (hok : c = false) :
    Calls Tryz.prog 65 #[.string s] w fun e w' => e = .returned (.tuple #[Q3 false ⟨#[]⟩ ⟨#[]⟩, .bool false]) ∧ Below w.heap.size w w' := by
  have z0 := restS_size s
  have z1 := splitV_size (restS s)
  rw [hS] at z1
  have za : a.size ≤ (restS s).size := z1.1
  have zb : b.size ≤ (restS s).size + 1 := z1.2
  exact SX.run (w := w) [.string s, .string (restS s), .bool (negS s), .string a, .string b, .bool false, .bool true] [.b true] [.c (.p (.at 0))] 1 (.tup [.agg [.p (.lit (.bool false)), .p (.lit (.string ⟨#[]⟩)), .p (.lit (.string ⟨#[]⟩))], .c (.p (.lit (.bool false)))]) [.call 62 [.c (.p (.at 0)), .c (.p (.lit (.string ⟨#[45]⟩)))] (.tup [.c (.p (.at 1)), .c (.p (.at 2))]) [], .call 103 [.c (.p (.at 1))] (.tup [.c (.p (.at 3)), .c (.p (.at 4)), .c (.p (.at 5))]) [], .op1 .not (.p (.at 5)) 6, .isB 6 true] Tryz.func65 (by kernel_rfl) rfl (by kernel_rfl) rfl (by kernel_rfl)
    ⟨fun γ w' _ _ => (Tryz.strings_CutPrefix s ⟨#[45]⟩ w').mono fun _ _ h => ⟨h.1, h.2 ▸ Below.refl _ _⟩,
     fun γ w' _ _ => by have h := split_any (restS s) w' (by omega); rw [hS, hok] at h; exact h,
     congrArg (fun z => some (Value.bool z)) (rfl : (!false) = true),
     rfl⟩
theorem Parse_2 (s a b : ByteArray) (c : Bool) (w : World) (hs : s.size ≤ 1000) (hS : splitV (restS s) = (a, b, c)) (hok : c = true) (ha : digV (bts a) = none) :
    Calls Tryz.prog 65 #[.string s] w fun e w' => e = .returned (.tuple #[Q3 false ⟨#[]⟩ ⟨#[]⟩, .bool false]) ∧ Below w.heap.size w w' := by
  have z0 := restS_size s
  have z1 := splitV_size (restS s)
  rw [hS] at z1
  have za : a.size ≤ (restS s).size := z1.1
  have zb : b.size ≤ (restS s).size + 1 := z1.2
  exact SX.run (w := w) [.string s, .string (restS s), .bool (negS s), .string a, .string b, .bool true, .bool false, .string (can 0), .bool false, .string (can ((digV (bts b)).getD 0)), .bool (digV (bts b)).isSome, .bool true] [.b false, .b true] [.c (.p (.at 0))] 1 (.tup [.agg [.p (.lit (.bool false)), .p (.lit (.string ⟨#[]⟩)), .p (.lit (.string ⟨#[]⟩))], .c (.p (.lit (.bool false)))]) [.call 62 [.c (.p (.at 0)), .c (.p (.lit (.string ⟨#[45]⟩)))] (.tup [.c (.p (.at 1)), .c (.p (.at 2))]) [], .call 103 [.c (.p (.at 1))] (.tup [.c (.p (.at 3)), .c (.p (.at 4)), .c (.p (.at 5))]) [], .op1 .not (.p (.at 5)) 6, .isB 6 false, .call 104 [.c (.p (.at 3))] (.tup [.c (.p (.at 7)), .c (.p (.at 8))]) [], .call 104 [.c (.p (.at 4))] (.tup [.c (.p (.at 9)), .c (.p (.at 10))]) [], .op1 .not (.p (.at 8)) 11, .isB 11 true] Tryz.func65 (by kernel_rfl) rfl (by kernel_rfl) rfl (by kernel_rfl)
    ⟨fun γ w' _ _ => (Tryz.strings_CutPrefix s ⟨#[45]⟩ w').mono fun _ _ h => ⟨h.1, h.2 ▸ Below.refl _ _⟩,
     fun γ w' _ _ => by have h := split_any (restS s) w' (by omega); rw [hS, hok] at h; exact h,
     congrArg (fun z => some (Value.bool z)) (rfl : (!true) = false),
     rfl,
     fun γ w' _ _ => by have h := parseDigits_any a w' (by omega); rw [ha] at h; exact h,
     fun γ w' _ _ => parseDigits_any b w' (by omega),
     congrArg (fun z => some (Value.bool z)) (rfl : (!false) = true),
     rfl⟩
theorem Parse_3 (s a b : ByteArray) (c : Bool) (x : Nat) (w : World) (hs : s.size ≤ 1000) (hS : splitV (restS s) = (a, b, c)) (hok : c = true) (ha : digV (bts a) = some x) (hb : digV (bts b) = none) :
    Calls Tryz.prog 65 #[.string s] w fun e w' => e = .returned (.tuple #[Q3 false ⟨#[]⟩ ⟨#[]⟩, .bool false]) ∧ Below w.heap.size w w' := by
  have z0 := restS_size s
  have z1 := splitV_size (restS s)
  rw [hS] at z1
  have za : a.size ≤ (restS s).size := z1.1
  have zb : b.size ≤ (restS s).size + 1 := z1.2
  exact SX.run (w := w) [.string s, .string (restS s), .bool (negS s), .string a, .string b, .bool true, .bool false, .string (can x), .bool true, .string (can 0), .bool false, .bool false, .bool true] [.b false, .b false, .b true] [.c (.p (.at 0))] 1 (.tup [.agg [.p (.lit (.bool false)), .p (.lit (.string ⟨#[]⟩)), .p (.lit (.string ⟨#[]⟩))], .c (.p (.lit (.bool false)))]) [.call 62 [.c (.p (.at 0)), .c (.p (.lit (.string ⟨#[45]⟩)))] (.tup [.c (.p (.at 1)), .c (.p (.at 2))]) [], .call 103 [.c (.p (.at 1))] (.tup [.c (.p (.at 3)), .c (.p (.at 4)), .c (.p (.at 5))]) [], .op1 .not (.p (.at 5)) 6, .isB 6 false, .call 104 [.c (.p (.at 3))] (.tup [.c (.p (.at 7)), .c (.p (.at 8))]) [], .call 104 [.c (.p (.at 4))] (.tup [.c (.p (.at 9)), .c (.p (.at 10))]) [], .op1 .not (.p (.at 8)) 11, .isB 11 false, .op1 .not (.p (.at 10)) 12, .isB 12 true] Tryz.func65 (by kernel_rfl) rfl (by kernel_rfl) rfl (by kernel_rfl)
    ⟨fun γ w' _ _ => (Tryz.strings_CutPrefix s ⟨#[45]⟩ w').mono fun _ _ h => ⟨h.1, h.2 ▸ Below.refl _ _⟩,
     fun γ w' _ _ => by have h := split_any (restS s) w' (by omega); rw [hS, hok] at h; exact h,
     congrArg (fun z => some (Value.bool z)) (rfl : (!true) = false),
     rfl,
     fun γ w' _ _ => by have h := parseDigits_any a w' (by omega); rw [ha] at h; exact h,
     fun γ w' _ _ => by have h := parseDigits_any b w' (by omega); rw [hb] at h; exact h,
     congrArg (fun z => some (Value.bool z)) (rfl : (!true) = false),
     rfl,
     congrArg (fun z => some (Value.bool z)) (rfl : (!false) = true),
     rfl⟩
theorem Parse_4 (s a b : ByteArray) (c : Bool) (x y : Nat) (w : World) (hs : s.size ≤ 1000) (hS : splitV (restS s) = (a, b, c)) (hok : c = true) (ha : digV (bts a) = some x) (hb : digV (bts b) = some y) (hy : y = 0) :
    Calls Tryz.prog 65 #[.string s] w fun e w' => e = .returned (.tuple #[Q3 false ⟨#[]⟩ ⟨#[]⟩, .bool false]) ∧ Below w.heap.size w w' := by
  have z0 := restS_size s
  have z1 := splitV_size (restS s)
  rw [hS] at z1
  have za : a.size ≤ (restS s).size := z1.1
  have zb : b.size ≤ (restS s).size + 1 := z1.2
  exact SX.run (w := w) [.string s, .string (restS s), .bool (negS s), .string a, .string b, .bool true, .bool false, .string (can x), .bool true, .string (can y), .bool true, .bool false, .bool false, .bool true] [.b false, .b false, .b false, .b true] [.c (.p (.at 0))] 1 (.tup [.agg [.p (.lit (.bool false)), .p (.lit (.string ⟨#[]⟩)), .p (.lit (.string ⟨#[]⟩))], .c (.p (.lit (.bool false)))]) [.call 62 [.c (.p (.at 0)), .c (.p (.lit (.string ⟨#[45]⟩)))] (.tup [.c (.p (.at 1)), .c (.p (.at 2))]) [], .call 103 [.c (.p (.at 1))] (.tup [.c (.p (.at 3)), .c (.p (.at 4)), .c (.p (.at 5))]) [], .op1 .not (.p (.at 5)) 6, .isB 6 false, .call 104 [.c (.p (.at 3))] (.tup [.c (.p (.at 7)), .c (.p (.at 8))]) [], .call 104 [.c (.p (.at 4))] (.tup [.c (.p (.at 9)), .c (.p (.at 10))]) [], .op1 .not (.p (.at 8)) 11, .isB 11 false, .op1 .not (.p (.at 10)) 12, .isB 12 false, .op2 false .eql (.p (.at 9)) (.p (.lit (.string ⟨#[]⟩))) 13, .isB 13 true] Tryz.func65 (by kernel_rfl) rfl (by kernel_rfl) rfl (by kernel_rfl)
    ⟨fun γ w' _ _ => (Tryz.strings_CutPrefix s ⟨#[45]⟩ w').mono fun _ _ h => ⟨h.1, h.2 ▸ Below.refl _ _⟩,
     fun γ w' _ _ => by have h := split_any (restS s) w' (by omega); rw [hS, hok] at h; exact h,
     congrArg (fun z => some (Value.bool z)) (rfl : (!true) = false),
     rfl,
     fun γ w' _ _ => by have h := parseDigits_any a w' (by omega); rw [ha] at h; exact h,
     fun γ w' _ _ => by have h := parseDigits_any b w' (by omega); rw [hb] at h; exact h,
     congrArg (fun z => some (Value.bool z)) (rfl : (!true) = false),
     rfl,
     congrArg (fun z => some (Value.bool z)) (rfl : (!true) = false),
     rfl,
     congrArg (fun z => some (Value.bool z)) (by rw [can_beq_nil]; exact decide_eq_true hy : ((can y).toList == (⟨#[]⟩ : ByteArray).toList) = true),
     rfl⟩
theorem Parse_5 (s a b : ByteArray) (c : Bool) (x y : Nat) (w : World) (hs : s.size ≤ 1000) (hS : splitV (restS s) = (a, b, c)) (hT : TabC w) (hok : c = true) (ha : digV (bts a) = some x) (hb : digV (bts b) = some y) (hy : y ≠ 0) :
    Calls Tryz.prog 65 #[.string s] w fun e w' => e = .returned (.tuple #[QV (rq (negS s) (can x) (can y)), .bool true]) ∧ Below w.heap.size w w' := by
  have z0 := restS_size s
  have z1 := splitV_size (restS s)
  rw [hS] at z1
  have za : a.size ≤ (restS s).size := z1.1
  have zb : b.size ≤ (restS s).size + 1 := z1.2
  have zx := digV_val ha
  have zy := digV_val hb
  rw [bts_length] at zx zy
  exact SX.run (w := w) [.string s, .string (restS s), .bool (negS s), .string a, .string b, .bool true, .bool false, .string (can x), .bool true, .string (can y), .bool true, .bool false, .bool false, .bool false, .bool (sg (rq (negS s) (can x) (can y)).num), .string (mg (rq (negS s) (can x) (can y)).num), .string (dm (rq (negS s) (can x) (can y)).den)] [.b false, .b false, .b false, .b false] [.c (.p (.at 0))] 1 (.tup [.agg [.p (.at 14), .p (.at 15), .p (.at 16)], .c (.p (.lit (.bool true)))]) [.call 62 [.c (.p (.at 0)), .c (.p (.lit (.string ⟨#[45]⟩)))] (.tup [.c (.p (.at 1)), .c (.p (.at 2))]) [], .call 103 [.c (.p (.at 1))] (.tup [.c (.p (.at 3)), .c (.p (.at 4)), .c (.p (.at 5))]) [], .op1 .not (.p (.at 5)) 6, .isB 6 false, .call 104 [.c (.p (.at 3))] (.tup [.c (.p (.at 7)), .c (.p (.at 8))]) [], .call 104 [.c (.p (.at 4))] (.tup [.c (.p (.at 9)), .c (.p (.at 10))]) [], .op1 .not (.p (.at 8)) 11, .isB 11 false, .op1 .not (.p (.at 10)) 12, .isB 12 false, .op2 false .eql (.p (.at 9)) (.p (.lit (.string ⟨#[]⟩))) 13, .isB 13 false, .call 68 [.agg [.p (.at 2), .p (.at 7), .p (.at 9)]] (.one (.agg [.p (.at 14), .p (.at 15), .p (.at 16)])) []] Tryz.func65 (by kernel_rfl) rfl (by kernel_rfl) rfl (by kernel_rfl)
    ⟨fun γ w' _ _ => (Tryz.strings_CutPrefix s ⟨#[45]⟩ w').mono fun _ _ h => ⟨h.1, h.2 ▸ Below.refl _ _⟩,
     fun γ w' _ _ => by have h := split_any (restS s) w' (by omega); rw [hS, hok] at h; exact h,
     congrArg (fun z => some (Value.bool z)) (rfl : (!true) = false),
     rfl,
     fun γ w' _ _ => by have h := parseDigits_any a w' (by omega); rw [ha] at h; exact h,
     fun γ w' _ _ => by have h := parseDigits_any b w' (by omega); rw [hb] at h; exact h,
     congrArg (fun z => some (Value.bool z)) (rfl : (!true) = false),
     rfl,
     congrArg (fun z => some (Value.bool z)) (rfl : (!true) = false),
     rfl,
     congrArg (fun z => some (Value.bool z)) (by rw [can_beq_nil]; exact decide_eq_false hy : ((can y).toList == (⟨#[]⟩ : ByteArray).toList) = false),
     rfl,
     fun γ w' hb _ => NormQ_any (negS s) (can x) (can y) w' (by omega) (by omega) (hT.later hb)⟩
theorem ParseQ_any (s : ByteArray) (w : World) (hs : s.size ≤ 1000) (hT : TabC w) :
    Calls Tryz.prog 65 #[.string s] w fun e w' => e = .returned (parseQV s) ∧ Below w.heap.size w w' := by
  unfold parseQV
  rw [frac_split]
  obtain ⟨a, b, c, hS⟩ : ∃ a b c, splitV (restS s) = (a, b, c) := ⟨_, _, _, rfl⟩
  simp only [hS]
  cases hc : c with
  | false => exact Parse_1 s a b c w hs hS hc
  | true =>
    rw [if_pos rfl]
    cases ha : digV (bts a) with
    | none => exact Parse_2 s a b c w hs hS hc ha
    | some x =>
      cases hb : digV (bts b) with
      | none => exact Parse_3 s a b c x w hs hS hc ha hb
      | some y =>
        simp only [Option.bind_some]
        by_cases hy : y = 0
        · rw [hy, bad_sign]
          exact Parse_4 s a b c x y w hs hS hc ha hb hy
        · rw [← norm_sign hy]
          exact Parse_5 s a b c x y w hs hS hT hc ha hb hy
end Go.Proofs.YtdgppfccolhaeaaGreatDoor
