/- Package rational: arithmetic. -/
import Derived.Test.YtodcomijjmobdaaGreatDoorQ0
import Derived.Test.YtodcomijjmobdaaGreatDoorN5
set_option linter.unusedVariables false
set_option linter.unusedSimpArgs false
namespace Go.Proofs.YtodcomijjmobdaaGreatDoor
open Go.RowKit NM SX
theorem Normalize_b (a : ByteArray) (w : World) (ha : a.size ≤ maxLen) :
    Calls Tryz.prog 140 #[.string a] w fun e w' => e = .returned (.string (can (nat a))) ∧ Below w.heap.size w w' :=
  (Normalize_any a w ha).mono fun _ _ h => ⟨h.1, h.2 ▸ Below.refl _ _⟩
theorem TabC.later {w w' : World} (h : TabC w) (hb : Below w.heap.size w w') : TabC w' := fun j hj => (hb.cell (cell_lt (h j hj))).trans (h j hj)
theorem onBoth_any (n : Bool) (s t : ByteArray) (g : FuncId) (first caps : Array Value) (F : ByteArray → ByteArray) (w : World) (hg : callable Tryz.prog g = true) (hF : ∀ x, (x = s ∨ x = t) → ∀ w2, Below w.heap.size w w2 → Calls Tryz.prog g (first ++ #[.string x] ++ caps) w2 fun e w3 => e = .returned (.string (F x)) ∧ Below w2.heap.size w2 w3) :
    Calls Tryz.prog 144 #[.agg #[.bool n, .string s, .string t], .func (.func g) first caps] w fun e w' => e = .returned (Q3 n (F s) (F t)) ∧ Below w.heap.size w w' := by
  exact SX.run (w := w) [.bool n, .string s, .string t, .func (.func g) first caps, .string (F s), .string (F t)] [] [.agg [.p (.at 0), .p (.at 1), .p (.at 2)], .c (.p (.at 3))] 4 (.one (.agg [.p (.at 0), .p (.at 4), .p (.at 5)])) [.callv 3 [.c (.p (.at 1))] (.one (.c (.p (.at 4)))) [], .callv 3 [.c (.p (.at 2))] (.one (.c (.p (.at 5)))) []] Tryz.func144 (by kernel_rfl) rfl (by kernel_rfl) rfl (by kernel_rfl)
    ⟨⟨g, first, caps, rfl, hg, fun γ w' hb _ => hF s (.inl rfl) w' hb⟩,
     ⟨g, first, caps, rfl, hg, fun γ w' hb _ => hF t (.inr rfl) w' hb⟩⟩
theorem Norm1_any (x : ByteArray) (g : Nat) (d : ByteArray) (w : World) (hx : x.size ≤ 4294967296) (hd : d.size ≤ 4294967296) (h0 : nat d ≠ 0) (hc : w.cell? ⟨g, 0, none⟩ = some (.string d)) :
    Calls Tryz.prog 146 #[.string x, .pointer (some ⟨g, 0, none⟩)] w fun e w' => e = .returned (.string (can (nat x / nat d))) ∧ Below w.heap.size w w' := by
  exact SX.run (w := w) [.string x, .pointer (some ⟨g, 0, none⟩), .string d, .string (can (nat x / nat d)), .string (can (nat x % nat d)), .bool true] [] [.c (.p (.at 0)), .c (.p (.at 1))] 2 (.one (.c (.p (.at 3)))) [.prim (.load 9 (.tmp 1)) 9 [(1, .one (.c (.p (.at 1))))] (.one (.c (.p (.at 2)))), .call 138 [.c (.p (.at 0)), .c (.p (.at 2))] (.tup [.c (.p (.at 3)), .c (.p (.at 4)), .c (.p (.at 5))]) []] Tryz.func146 (by kernel_rfl) rfl (by kernel_rfl) rfl (by kernel_rfl)
    ⟨fun w' hb => load_old (by kernel_rfl) rfl ((hb.cell (cell_lt hc)).trans hc),
     fun γ w' _ _ => by have h := Div_any x d w' hx hd; rw [divVal_pos h0] at h; exact h⟩
theorem Norm_z (n : Bool) (s t : ByteArray) (w : World) (hs : s.size ≤ 1048576) (ht : t.size ≤ 1048576) (hS : nat s = 0) :
    Calls Tryz.prog 122 #[.agg #[.bool n, .string s, .string t]] w fun e w' => e = .returned (Q3 false ⟨#[]⟩ ⟨#[]⟩) ∧ Below w.heap.size w w' := by
  exact SX.run (w := w) [.bool n, .string s, .string t, .bool n, .string (can (nat s)), .string (can (nat t)), .bool true] [.b true] [.agg [.p (.at 0), .p (.at 1), .p (.at 2)]] 3 (.one (.agg [.p (.lit (.bool false)), .p (.lit (.string ⟨#[]⟩)), .p (.lit (.string ⟨#[]⟩))])) [.call 144 [.agg [.p (.at 0), .p (.at 1), .p (.at 2)], .c (.fn 140 [])] (.one (.agg [.p (.at 3), .p (.at 4), .p (.at 5)])) [], .op2 false .eql (.p (.at 4)) (.p (.lit (.string ⟨#[]⟩))) 6, .isB 6 true] Tryz.func122 (by kernel_rfl) rfl (by kernel_rfl) rfl (by kernel_rfl)
    ⟨fun γ w' _ _ => onBoth_any n s t 140 #[] #[] (fun x => can (nat x)) w' (by kernel_rfl) (fun x hx w2 _ => Normalize_b x w2 (by rcases hx with rfl | rfl <;> (simp [maxLen]; omega))),
     congrArg (fun z => some (Value.bool z)) (by rw [can_beq_nil]; exact decide_eq_true hS : ((can (nat s)).toList == (⟨#[]⟩ : ByteArray).toList) = true),
     rfl⟩
theorem Norm_d (n : Bool) (s t : ByteArray) (w : World) (hs : s.size ≤ 1048576) (ht : t.size ≤ 1048576) (hS : nat s ≠ 0) (hT0 : nat t = 0) :
    Calls Tryz.prog 122 #[.agg #[.bool n, .string s, .string t]] w fun e w' => e = .returned (Q3 n (can (nat s)) (can (nat t))) ∧ Below w.heap.size w w' := by
  exact SX.run (w := w) [.bool n, .string s, .string t, .bool n, .string (can (nat s)), .string (can (nat t)), .bool false, .bool true] [.b false, .b true] [.agg [.p (.at 0), .p (.at 1), .p (.at 2)]] 3 (.one (.agg [.p (.at 3), .p (.at 4), .p (.at 5)])) [.call 144 [.agg [.p (.at 0), .p (.at 1), .p (.at 2)], .c (.fn 140 [])] (.one (.agg [.p (.at 3), .p (.at 4), .p (.at 5)])) [], .op2 false .eql (.p (.at 4)) (.p (.lit (.string ⟨#[]⟩))) 6, .isB 6 false, .op2 false .eql (.p (.at 5)) (.p (.lit (.string ⟨#[]⟩))) 7, .isB 7 true] Tryz.func122 (by kernel_rfl) rfl (by kernel_rfl) rfl (by kernel_rfl)
    ⟨fun γ w' _ _ => onBoth_any n s t 140 #[] #[] (fun x => can (nat x)) w' (by kernel_rfl) (fun x hx w2 _ => Normalize_b x w2 (by rcases hx with rfl | rfl <;> (simp [maxLen]; omega))),
     congrArg (fun z => some (Value.bool z)) (by rw [can_beq_nil]; exact decide_eq_false hS : ((can (nat s)).toList == (⟨#[]⟩ : ByteArray).toList) = false),
     rfl,
     congrArg (fun z => some (Value.bool z)) (by rw [can_beq_nil]; exact decide_eq_true hT0 : ((can (nat t)).toList == (⟨#[]⟩ : ByteArray).toList) = true),
     rfl⟩
theorem Norm_tt (n : Bool) (s t : ByteArray) (G : Nat) (w : World) (hs : s.size ≤ 1048576) (ht : t.size ≤ 1048576) (hT : TabC w) (hS : nat s ≠ 0) (hT0 : nat t ≠ 0) (hG : Nat.gcd (nat s) (nat t) = G) (hG0 : G ≠ 0) (hA :  G = 1) (hB :  nat t = 1) :
    Calls Tryz.prog 122 #[.agg #[.bool n, .string s, .string t]] w fun e w' => e = .returned (Q3 n (can (nat s)) ⟨#[]⟩) ∧ Below w.heap.size w w' := by
  have z1 := can_size_le_size s
  have z2 := can_size_le_size t
  have z3 : (can G).size ≤ 1048576 := by rw [← hG]; exact Nat.le_trans (can_mono (Nat.gcd_le_left _ (by omega))) (by omega)
  exact SX.run (w := w) [.bool n, .string s, .string t, .bool n, .string (can (nat s)), .string (can (nat t)), .bool false, .bool false, .string (can G), .bool false, .bool true] [.b false, .b false, .b false, .b true] [.agg [.p (.at 0), .p (.at 1), .p (.at 2)]] 3 (.one (.agg [.p (.at 3), .p (.at 4), .p (.lit (.string ⟨#[]⟩))])) [.call 144 [.agg [.p (.at 0), .p (.at 1), .p (.at 2)], .c (.fn 140 [])] (.one (.agg [.p (.at 3), .p (.at 4), .p (.at 5)])) [], .op2 false .eql (.p (.at 4)) (.p (.lit (.string ⟨#[]⟩))) 6, .isB 6 false, .op2 false .eql (.p (.at 5)) (.p (.lit (.string ⟨#[]⟩))) 7, .isB 7 false, .call 145 [.c (.p (.at 4)), .c (.p (.at 5))] (.one (.c (.p (.at 8)))) [], .op2 false .neq (.p (.at 8)) (.p (.lit (.string ⟨#[1]⟩))) 9, .isB 9 false, .op2 false .eql (.p (.at 5)) (.p (.lit (.string ⟨#[1]⟩))) 10, .isB 10 true] Tryz.func122 (by kernel_rfl) rfl (by kernel_rfl) rfl (by kernel_rfl)
    ⟨fun γ w' _ _ => onBoth_any n s t 140 #[] #[] (fun x => can (nat x)) w' (by kernel_rfl) (fun x hx w2 _ => Normalize_b x w2 (by rcases hx with rfl | rfl <;> (simp [maxLen]; omega))),
     congrArg (fun z => some (Value.bool z)) (by rw [can_beq_nil]; exact decide_eq_false hS : ((can (nat s)).toList == (⟨#[]⟩ : ByteArray).toList) = false),
     rfl,
     congrArg (fun z => some (Value.bool z)) (by rw [can_beq_nil]; exact decide_eq_false hT0 : ((can (nat t)).toList == (⟨#[]⟩ : ByteArray).toList) = false),
     rfl,
     fun γ w' hb _ => by have h := Gcd_any (can (nat s)) (can (nat t)) w' (by omega) (by omega) (hT.later hb); rw [nat_can, nat_can, hG] at h; exact h,
     congrArg (fun z => some (Value.bool z)) (by rw [can_beq_one]; rw [decide_eq_true hA]; rfl : (!((can G).toList == (⟨#[1]⟩ : ByteArray).toList)) = false),
     rfl,
     congrArg (fun z => some (Value.bool z)) (by rw [can_beq_one]; exact decide_eq_true hB : ((can (nat t)).toList == (⟨#[1]⟩ : ByteArray).toList) = true),
     rfl⟩
theorem Norm_tf (n : Bool) (s t : ByteArray) (G : Nat) (w : World) (hs : s.size ≤ 1048576) (ht : t.size ≤ 1048576) (hT : TabC w) (hS : nat s ≠ 0) (hT0 : nat t ≠ 0) (hG : Nat.gcd (nat s) (nat t) = G) (hG0 : G ≠ 0) (hA :  G = 1) (hB : ¬ nat t = 1) :
    Calls Tryz.prog 122 #[.agg #[.bool n, .string s, .string t]] w fun e w' => e = .returned (Q3 n (can (nat s)) (can (nat t))) ∧ Below w.heap.size w w' := by
  have z1 := can_size_le_size s
  have z2 := can_size_le_size t
  have z3 : (can G).size ≤ 1048576 := by rw [← hG]; exact Nat.le_trans (can_mono (Nat.gcd_le_left _ (by omega))) (by omega)
  exact SX.run (w := w) [.bool n, .string s, .string t, .bool n, .string (can (nat s)), .string (can (nat t)), .bool false, .bool false, .string (can G), .bool false, .bool false] [.b false, .b false, .b false, .b false] [.agg [.p (.at 0), .p (.at 1), .p (.at 2)]] 3 (.one (.agg [.p (.at 3), .p (.at 4), .p (.at 5)])) [.call 144 [.agg [.p (.at 0), .p (.at 1), .p (.at 2)], .c (.fn 140 [])] (.one (.agg [.p (.at 3), .p (.at 4), .p (.at 5)])) [], .op2 false .eql (.p (.at 4)) (.p (.lit (.string ⟨#[]⟩))) 6, .isB 6 false, .op2 false .eql (.p (.at 5)) (.p (.lit (.string ⟨#[]⟩))) 7, .isB 7 false, .call 145 [.c (.p (.at 4)), .c (.p (.at 5))] (.one (.c (.p (.at 8)))) [], .op2 false .neq (.p (.at 8)) (.p (.lit (.string ⟨#[1]⟩))) 9, .isB 9 false, .op2 false .eql (.p (.at 5)) (.p (.lit (.string ⟨#[1]⟩))) 10, .isB 10 false] Tryz.func122 (by kernel_rfl) rfl (by kernel_rfl) rfl (by kernel_rfl)
    ⟨fun γ w' _ _ => onBoth_any n s t 140 #[] #[] (fun x => can (nat x)) w' (by kernel_rfl) (fun x hx w2 _ => Normalize_b x w2 (by rcases hx with rfl | rfl <;> (simp [maxLen]; omega))),
     congrArg (fun z => some (Value.bool z)) (by rw [can_beq_nil]; exact decide_eq_false hS : ((can (nat s)).toList == (⟨#[]⟩ : ByteArray).toList) = false),
     rfl,
     congrArg (fun z => some (Value.bool z)) (by rw [can_beq_nil]; exact decide_eq_false hT0 : ((can (nat t)).toList == (⟨#[]⟩ : ByteArray).toList) = false),
     rfl,
     fun γ w' hb _ => by have h := Gcd_any (can (nat s)) (can (nat t)) w' (by omega) (by omega) (hT.later hb); rw [nat_can, nat_can, hG] at h; exact h,
     congrArg (fun z => some (Value.bool z)) (by rw [can_beq_one]; rw [decide_eq_true hA]; rfl : (!((can G).toList == (⟨#[1]⟩ : ByteArray).toList)) = false),
     rfl,
     congrArg (fun z => some (Value.bool z)) (by rw [can_beq_one]; exact decide_eq_false hB : ((can (nat t)).toList == (⟨#[1]⟩ : ByteArray).toList) = false),
     rfl⟩
theorem Norm_ft (n : Bool) (s t : ByteArray) (G : Nat) (w : World) (hs : s.size ≤ 1048576) (ht : t.size ≤ 1048576) (hT : TabC w) (hS : nat s ≠ 0) (hT0 : nat t ≠ 0) (hG : Nat.gcd (nat s) (nat t) = G) (hG0 : G ≠ 0) (hA : ¬ G = 1) (hB :  nat t / G = 1) :
    Calls Tryz.prog 122 #[.agg #[.bool n, .string s, .string t]] w fun e w' => e = .returned (Q3 n (can (nat s / G)) ⟨#[]⟩) ∧ Below w.heap.size w w' := by
  have z1 := can_size_le_size s
  have z2 := can_size_le_size t
  have z3 : (can G).size ≤ 1048576 := by rw [← hG]; exact Nat.le_trans (can_mono (Nat.gcd_le_left _ (by omega))) (by omega)
  exact SX.run (w := w) [.bool n, .string s, .string t, .bool n, .string (can (nat s)), .string (can (nat t)), .bool false, .bool false, .string (can G), .bool true, .bool n, .string (can (nat s / G)), .string (can (nat t / G)), .bool true] [.b false, .b false, .b true, .b true] [.agg [.p (.at 0), .p (.at 1), .p (.at 2)]] 3 (.one (.agg [.p (.at 10), .p (.at 11), .p (.lit (.string ⟨#[]⟩))])) [.call 144 [.agg [.p (.at 0), .p (.at 1), .p (.at 2)], .c (.fn 140 [])] (.one (.agg [.p (.at 3), .p (.at 4), .p (.at 5)])) [], .op2 false .eql (.p (.at 4)) (.p (.lit (.string ⟨#[]⟩))) 6, .isB 6 false, .op2 false .eql (.p (.at 5)) (.p (.lit (.string ⟨#[]⟩))) 7, .isB 7 false, .call 145 [.c (.p (.at 4)), .c (.p (.at 5))] (.one (.c (.p (.at 8)))) [], .op2 false .neq (.p (.at 8)) (.p (.lit (.string ⟨#[1]⟩))) 9, .isB 9 true, .call 144 [.agg [.p (.at 3), .p (.at 4), .p (.at 5)], .c (.fn 146 [.ptr 2 0])] (.one (.agg [.p (.at 10), .p (.at 11), .p (.at 12)])) [(2049, .p (.at 8))], .op2 false .eql (.p (.at 12)) (.p (.lit (.string ⟨#[1]⟩))) 13, .isB 13 true] Tryz.func122 (by kernel_rfl) rfl (by kernel_rfl) rfl (by kernel_rfl)
    ⟨fun γ w' _ _ => onBoth_any n s t 140 #[] #[] (fun x => can (nat x)) w' (by kernel_rfl) (fun x hx w2 _ => Normalize_b x w2 (by rcases hx with rfl | rfl <;> (simp [maxLen]; omega))),
     congrArg (fun z => some (Value.bool z)) (by rw [can_beq_nil]; exact decide_eq_false hS : ((can (nat s)).toList == (⟨#[]⟩ : ByteArray).toList) = false),
     rfl,
     congrArg (fun z => some (Value.bool z)) (by rw [can_beq_nil]; exact decide_eq_false hT0 : ((can (nat t)).toList == (⟨#[]⟩ : ByteArray).toList) = false),
     rfl,
     fun γ w' hb _ => by have h := Gcd_any (can (nat s)) (can (nat t)) w' (by omega) (by omega) (hT.later hb); rw [nat_can, nat_can, hG] at h; exact h,
     congrArg (fun z => some (Value.bool z)) (by rw [can_beq_one]; rw [decide_eq_false hA]; rfl : (!((can G).toList == (⟨#[1]⟩ : ByteArray).toList)) = true),
     rfl,
     fun γ w' _ hm => by have h := onBoth_any n (can (nat s)) (can (nat t)) 146 #[] #[.pointer (some ⟨γ 2, 0, none⟩)] (fun x => can (nat x / nat (can G))) w' (by kernel_rfl) (fun x hx w2 hb2 => Norm1_any x (γ 2) (can G) w2 (by rcases hx with rfl | rfl <;> omega) (by omega) (by rw [nat_can]; exact hG0) ((hb2.cell (cell_lt (hm 2049 _ rfl))).trans (hm 2049 _ rfl))); simp only [nat_can] at h; exact h,
     congrArg (fun z => some (Value.bool z)) (by rw [can_beq_one]; exact decide_eq_true hB : ((can (nat t / G)).toList == (⟨#[1]⟩ : ByteArray).toList) = true),
     rfl⟩
theorem Norm_ff (n : Bool) (s t : ByteArray) (G : Nat) (w : World) (hs : s.size ≤ 1048576) (ht : t.size ≤ 1048576) (hT : TabC w) (hS : nat s ≠ 0) (hT0 : nat t ≠ 0) (hG : Nat.gcd (nat s) (nat t) = G) (hG0 : G ≠ 0) (hA : ¬ G = 1) (hB : ¬ nat t / G = 1) :
    Calls Tryz.prog 122 #[.agg #[.bool n, .string s, .string t]] w fun e w' => e = .returned (Q3 n (can (nat s / G)) (can (nat t / G))) ∧ Below w.heap.size w w' := by
  have z1 := can_size_le_size s
  have z2 := can_size_le_size t
  have z3 : (can G).size ≤ 1048576 := by rw [← hG]; exact Nat.le_trans (can_mono (Nat.gcd_le_left _ (by omega))) (by omega)
  exact SX.run (w := w) [.bool n, .string s, .string t, .bool n, .string (can (nat s)), .string (can (nat t)), .bool false, .bool false, .string (can G), .bool true, .bool n, .string (can (nat s / G)), .string (can (nat t / G)), .bool false] [.b false, .b false, .b true, .b false] [.agg [.p (.at 0), .p (.at 1), .p (.at 2)]] 3 (.one (.agg [.p (.at 10), .p (.at 11), .p (.at 12)])) [.call 144 [.agg [.p (.at 0), .p (.at 1), .p (.at 2)], .c (.fn 140 [])] (.one (.agg [.p (.at 3), .p (.at 4), .p (.at 5)])) [], .op2 false .eql (.p (.at 4)) (.p (.lit (.string ⟨#[]⟩))) 6, .isB 6 false, .op2 false .eql (.p (.at 5)) (.p (.lit (.string ⟨#[]⟩))) 7, .isB 7 false, .call 145 [.c (.p (.at 4)), .c (.p (.at 5))] (.one (.c (.p (.at 8)))) [], .op2 false .neq (.p (.at 8)) (.p (.lit (.string ⟨#[1]⟩))) 9, .isB 9 true, .call 144 [.agg [.p (.at 3), .p (.at 4), .p (.at 5)], .c (.fn 146 [.ptr 2 0])] (.one (.agg [.p (.at 10), .p (.at 11), .p (.at 12)])) [(2049, .p (.at 8))], .op2 false .eql (.p (.at 12)) (.p (.lit (.string ⟨#[1]⟩))) 13, .isB 13 false] Tryz.func122 (by kernel_rfl) rfl (by kernel_rfl) rfl (by kernel_rfl)
    ⟨fun γ w' _ _ => onBoth_any n s t 140 #[] #[] (fun x => can (nat x)) w' (by kernel_rfl) (fun x hx w2 _ => Normalize_b x w2 (by rcases hx with rfl | rfl <;> (simp [maxLen]; omega))),
     congrArg (fun z => some (Value.bool z)) (by rw [can_beq_nil]; exact decide_eq_false hS : ((can (nat s)).toList == (⟨#[]⟩ : ByteArray).toList) = false),
     rfl,
     congrArg (fun z => some (Value.bool z)) (by rw [can_beq_nil]; exact decide_eq_false hT0 : ((can (nat t)).toList == (⟨#[]⟩ : ByteArray).toList) = false),
     rfl,
     fun γ w' hb _ => by have h := Gcd_any (can (nat s)) (can (nat t)) w' (by omega) (by omega) (hT.later hb); rw [nat_can, nat_can, hG] at h; exact h,
     congrArg (fun z => some (Value.bool z)) (by rw [can_beq_one]; rw [decide_eq_false hA]; rfl : (!((can G).toList == (⟨#[1]⟩ : ByteArray).toList)) = true),
     rfl,
     fun γ w' _ hm => by have h := onBoth_any n (can (nat s)) (can (nat t)) 146 #[] #[.pointer (some ⟨γ 2, 0, none⟩)] (fun x => can (nat x / nat (can G))) w' (by kernel_rfl) (fun x hx w2 hb2 => Norm1_any x (γ 2) (can G) w2 (by rcases hx with rfl | rfl <;> omega) (by omega) (by rw [nat_can]; exact hG0) ((hb2.cell (cell_lt (hm 2049 _ rfl))).trans (hm 2049 _ rfl))); simp only [nat_can] at h; exact h,
     congrArg (fun z => some (Value.bool z)) (by rw [can_beq_one]; exact decide_eq_false hB : ((can (nat t / G)).toList == (⟨#[1]⟩ : ByteArray).toList) = false),
     rfl⟩
theorem NormQ_any (n : Bool) (s t : ByteArray) (w : World) (hs : s.size ≤ 1048576) (ht : t.size ≤ 1048576) (hT : TabC w) :
    Calls Tryz.prog 122 #[.agg #[.bool n, .string s, .string t]] w fun e w' => e = .returned (QV (rq n s t)) ∧ Below w.heap.size w w' := by
  rw [norm_eq]
  by_cases hS : nat s = 0
  · rw [decide_eq_true hS, Bool.not_true, Bool.and_false, hS, Nat.gcd_zero_left, Nat.zero_div, Nat.div_self (Nat.pos_of_ne_zero (dn_pos t))]
    exact Norm_z n s t w hs ht hS
  · rw [decide_eq_false hS, Bool.not_false, Bool.and_true]
    by_cases hT0 : nat t = 0
    · rw [dn_zero hT0, Nat.gcd_one_right, Nat.div_one, Nat.div_one]
      have h := Norm_d n s t w hs ht hS hT0
      rw [hT0] at h
      exact h
    · rw [dn_ne hT0]
      have hG0 : Nat.gcd (nat s) (nat t) ≠ 0 := by
        have := Nat.gcd_pos_of_pos_right (nat s) (Nat.pos_of_ne_zero hT0)
        omega
      generalize hG : Nat.gcd (nat s) (nat t) = G at *
      by_cases hA : G = 1
      · rw [hA, Nat.div_one, Nat.div_one]
        by_cases hB : nat t = 1
        · rw [show dm (nat t) = ⟨#[]⟩ from if_pos hB]
          exact Norm_tt n s t G w hs ht hT hS hT0 hG hG0 hA hB
        · rw [show dm (nat t) = can (nat t) from if_neg hB]
          exact Norm_tf n s t G w hs ht hT hS hT0 hG hG0 hA hB
      · by_cases hB : nat t / G = 1
        · rw [show dm (nat t / G) = ⟨#[]⟩ from if_pos hB]
          exact Norm_ft n s t G w hs ht hT hS hT0 hG hG0 hA hB
        · rw [show dm (nat t / G) = can (nat t / G) from if_neg hB]
          exact Norm_ff n s t G w hs ht hT hS hT0 hG hG0 hA hB
theorem parts_z (n : Bool) (s t : ByteArray) (w : World) (ht : t.size ≤ maxLen) (h : nat t = 0) :
    Calls Tryz.prog 96 #[.agg #[.bool n, .string s, .string t]] w fun e w' => e = .returned (.tuple #[I2 n s, I2 false ⟨#[1]⟩]) ∧ Below w.heap.size w w' := by
  have e : iv false t = 0 := by rw [iv_false, h]; rfl
  exact SX.run (w := w) [.bool n, .string s, .string t, .int .i64 0, .bool true] [.b true] [.agg [.p (.at 0), .p (.at 1), .p (.at 2)]] 3 (.tup [.agg [.p (.at 0), .p (.at 1)], .agg [.p (.lit (.bool false)), .p (.lit (.string ⟨#[1]⟩))]]) [.call 78 [.agg [.p (.lit (.bool false)), .p (.at 2)]] (.one (.c (.p (.at 3)))) [], .op2 false .eql (.p (.at 3)) (.p (.lit (.int .i64 0))) 4, .isB 4 true] Tryz.func96 (by kernel_rfl) rfl (by kernel_rfl) rfl (by kernel_rfl)
    ⟨fun γ w' _ _ => by have h := Sign2_any false t w' ht; rw [e] at h; exact h,
     congrArg (fun z => some (Value.bool z)) (rfl : ((0 : Int) == (0 : Int)) = true),
     rfl⟩
theorem parts_p (n : Bool) (s t : ByteArray) (w : World) (ht : t.size ≤ maxLen) (h : nat t ≠ 0) :
    Calls Tryz.prog 96 #[.agg #[.bool n, .string s, .string t]] w fun e w' => e = .returned (.tuple #[I2 n s, I2 false t]) ∧ Below w.heap.size w w' := by
  have e : cmpZ (iv false t) 0 = 1 := cmpZ_gt (by rw [iv_false]; omega)
  exact SX.run (w := w) [.bool n, .string s, .string t, .int .i64 1, .bool false] [.b false] [.agg [.p (.at 0), .p (.at 1), .p (.at 2)]] 3 (.tup [.agg [.p (.at 0), .p (.at 1)], .agg [.p (.lit (.bool false)), .p (.at 2)]]) [.call 78 [.agg [.p (.lit (.bool false)), .p (.at 2)]] (.one (.c (.p (.at 3)))) [], .op2 false .eql (.p (.at 3)) (.p (.lit (.int .i64 0))) 4, .isB 4 false] Tryz.func96 (by kernel_rfl) rfl (by kernel_rfl) rfl (by kernel_rfl)
    ⟨fun γ w' _ _ => by have h := Sign2_any false t w' ht; rw [e] at h; exact h,
     congrArg (fun z => some (Value.bool z)) (rfl : ((1 : Int) == (0 : Int)) = false),
     rfl⟩
theorem parts_any (n : Bool) (s t : ByteArray) (w : World) (ht : t.size ≤ maxLen) :
    Calls Tryz.prog 96 #[.agg #[.bool n, .string s, .string t]] w fun e w' => e = .returned (.tuple #[I2 n s, I2 false (dnb t)]) ∧ Below w.heap.size w w' := by
  by_cases h : nat t = 0
  · rw [dnb_zero h]; exact parts_z n s t w ht h
  · rw [dnb_pos h]; exact parts_p n s t w ht h
theorem Make_z (n m : Bool) (s t : ByteArray) (w : World) (hs : s.size ≤ 1048576) (ht : t.size ≤ 1048576) (h0 : iv m t = 0) :
    Calls Tryz.prog 63 #[.agg #[.bool n, .string s], .agg #[.bool m, .string t]] w fun e w' => e = .returned (.tuple #[Q3 false ⟨#[]⟩ ⟨#[]⟩, .bool false]) ∧ Below w.heap.size w w' := by
  exact SX.run (w := w) [.bool n, .string s, .bool m, .string t, .int .i64 0, .bool true] [.b true] [.agg [.p (.at 0), .p (.at 1)], .agg [.p (.at 2), .p (.at 3)]] 4 (.tup [.agg [.p (.lit (.bool false)), .p (.lit (.string ⟨#[]⟩)), .p (.lit (.string ⟨#[]⟩))], .c (.p (.lit (.bool false)))]) [.call 78 [.agg [.p (.at 2), .p (.at 3)]] (.one (.c (.p (.at 4)))) [], .op2 false .eql (.p (.at 4)) (.p (.lit (.int .i64 0))) 5, .isB 5 true] Tryz.func63 (by kernel_rfl) rfl (by kernel_rfl) rfl (by kernel_rfl)
    ⟨fun γ w' _ _ => by have h := Sign2_any m t w' (by simp [maxLen]; omega); rw [h0] at h; exact h,
     congrArg (fun z => some (Value.bool z)) (rfl : ((0 : Int) == (0 : Int)) = true),
     rfl⟩
theorem Make_p (n m : Bool) (s t : ByteArray) (w : World) (hs : s.size ≤ 1048576) (ht : t.size ≤ 1048576) (hT : TabC w) (h0 : iv m t ≠ 0) :
    Calls Tryz.prog 63 #[.agg #[.bool n, .string s], .agg #[.bool m, .string t]] w fun e w' => e = .returned (.tuple #[QV (Rat.divInt (iv n s) (iv m t)), .bool true]) ∧ Below w.heap.size w w' := by
  exact SX.run (w := w) [.bool n, .string s, .bool m, .string t, .int .i64 (cmpZ (iv m t) 0), .bool false, .bool (!(n == m)), .bool (sg (Rat.divInt (iv n s) (iv m t)).num), .string (mg (Rat.divInt (iv n s) (iv m t)).num), .string (dm (Rat.divInt (iv n s) (iv m t)).den)] [.b false] [.agg [.p (.at 0), .p (.at 1)], .agg [.p (.at 2), .p (.at 3)]] 4 (.tup [.agg [.p (.at 7), .p (.at 8), .p (.at 9)], .c (.p (.lit (.bool true)))]) [.call 78 [.agg [.p (.at 2), .p (.at 3)]] (.one (.c (.p (.at 4)))) [], .op2 false .eql (.p (.at 4)) (.p (.lit (.int .i64 0))) 5, .isB 5 false, .op2 true .neq (.p (.at 0)) (.p (.at 2)) 6, .call 122 [.agg [.p (.at 6), .p (.at 1), .p (.at 3)]] (.one (.agg [.p (.at 7), .p (.at 8), .p (.at 9)])) []] Tryz.func63 (by kernel_rfl) rfl (by kernel_rfl) rfl (by kernel_rfl)
    ⟨fun γ w' _ _ => Sign2_any m t w' (by simp [maxLen]; omega),
     congrArg (fun z => some (Value.bool z)) (by simp only [beq_eq_false_iff_ne]; unfold cmpZ; split <;> (try split) <;> omega : ((cmpZ (iv m t) 0) == (0 : Int)) = false),
     rfl,
     rfl,
     fun γ w' hb _ => by have h := NormQ_any (!(n == m)) s t w' hs ht (hT.later hb); rw [rq_make h0] at h; exact h⟩
theorem Make_any (n m : Bool) (s t : ByteArray) (w : World) (hs : s.size ≤ 1048576) (ht : t.size ≤ 1048576) (hT : TabC w) :
    Calls Tryz.prog 63 #[.agg #[.bool n, .string s], .agg #[.bool m, .string t]] w fun e w' => e = .returned (makeV (iv n s) (iv m t)) ∧ Below w.heap.size w w' := by
  by_cases h0 : iv m t = 0
  · rw [makeV_zero h0]; exact Make_z n m s t w hs ht h0
  · rw [makeV_pos h0]; exact Make_p n m s t w hs ht hT h0
theorem FromQ_any (z : Int) (w : World) (h1 : -9223372036854775808 ≤ z) (h2 : z ≤ 9223372036854775807) :
    Calls Tryz.prog 34 #[.int .i64 z] w fun e w' => e = .returned (QV (z : Rat)) ∧ Below w.heap.size w w' := by
  exact SX.run (w := w) [.int .i64 z, .bool (sg z), .string (mg z)] [] [.c (.p (.at 0))] 1 (.one (.agg [.p (.at 1), .p (.at 2), .p (.lit (.string ⟨#[]⟩))])) [.call 89 [.c (.p (.at 0))] (.one (.agg [.p (.at 1), .p (.at 2)])) []] Tryz.func34 (by kernel_rfl) rfl (by kernel_rfl) rfl (by kernel_rfl)
    fun γ w' _ _ => FromInt64_any z w' h1 h2
theorem NumDenom_any (n : Bool) (s t : ByteArray) (w : World) (hs : s.size ≤ 1048576) (ht : t.size ≤ 1048576) (hT : TabC w) :
    Calls Tryz.prog 98 #[.agg #[.bool n, .string s, .string t]] w fun e w' => e = .returned (.tuple #[Z (rq n s t).num, Z (((rq n s t).den : Nat) : Int)]) ∧ Below w.heap.size w w' := by
  have k0 := Rk.rq (n := n) hs ht (by omega)
  have k2 := k0.dm
  have f1 : Rk (rq n s t) 1048576 := Rk.rq (n := n) (by omega) (by omega) (by omega)
  exact SX.run (w := w) [.bool n, .string s, .string t, .bool (sg (rq n s t).num), .string (mg (rq n s t).num), .string (dm (rq n s t).den), .bool (sg ((rq n s t).num)), .string (mg ((rq n s t).num)), .bool (sg (((rq n s t).den : Nat) : Int)), .string (mg (((rq n s t).den : Nat) : Int))] [] [.agg [.p (.at 0), .p (.at 1), .p (.at 2)]] 3 (.tup [.agg [.p (.at 6), .p (.at 7)], .agg [.p (.at 8), .p (.at 9)]]) [.call 122 [.agg [.p (.at 0), .p (.at 1), .p (.at 2)]] (.one (.agg [.p (.at 3), .p (.at 4), .p (.at 5)])) [], .call 96 [.agg [.p (.at 3), .p (.at 4), .p (.at 5)]] (.tup [.agg [.p (.at 6), .p (.at 7)], .agg [.p (.at 8), .p (.at 9)]]) []] Tryz.func98 (by kernel_rfl) rfl (by kernel_rfl) rfl (by kernel_rfl)
    ⟨fun γ w' hb _ => NormQ_any n s t w' (by omega) (by omega) (hT.later hb),
     fun γ w' _ _ => by have h := parts_any (sg (rq n s t).num) (mg (rq n s t).num) (dm (rq n s t).den) w' (by simp [maxLen]; omega); rw [dnb_dm (Rat.den_nz _), ← Z_nat] at h; exact h⟩
theorem cross_any (n : Bool) (s t : ByteArray) (m : Bool) (p q : ByteArray) (w : World) (hs : s.size ≤ 100000) (ht : t.size ≤ 100000) (hp : p.size ≤ 100000) (hq : q.size ≤ 100000) :
    Calls Tryz.prog 97 #[.agg #[.bool n, .string s, .string t], .agg #[.bool m, .string p, .string q]] w fun e w' => e = .returned (.tuple #[Z (iv n s * ((dn q : Nat) : Int)), Z (iv m p * ((dn t : Nat) : Int))]) ∧ Below w.heap.size w w' := by
  have f1 : (mg (iv n s)).size ≤ 100000 := mg_iv_size (n := n) hs
  have f2 : (dnb q).size ≤ 100000 := dnb_size hq (by omega)
  have f3 : (mg ((dn q : Nat) : Int)).size ≤ 100000 := dn_size hq (by omega)
  have f4 : (mg ((iv n s) * ((dn q : Nat) : Int))).size ≤ 200000 := mg_mul_size f1 f3
  have f5 : (mg (iv m p)).size ≤ 100000 := mg_iv_size (n := m) hp
  have f6 : (dnb t).size ≤ 100000 := dnb_size ht (by omega)
  have f7 : (mg ((dn t : Nat) : Int)).size ≤ 100000 := dn_size ht (by omega)
  have f8 : (mg ((iv m p) * ((dn t : Nat) : Int))).size ≤ 200000 := mg_mul_size f5 f7
  exact SX.run (w := w) [.bool n, .string s, .string t, .bool m, .string p, .string q, .bool n, .string s, .bool false, .string (dnb t), .bool m, .string p, .bool false, .string (dnb q), .bool (sg ((iv n s) * ((dn q : Nat) : Int))), .string (mg ((iv n s) * ((dn q : Nat) : Int))), .bool (sg ((iv m p) * ((dn t : Nat) : Int))), .string (mg ((iv m p) * ((dn t : Nat) : Int)))] [] [.agg [.p (.at 0), .p (.at 1), .p (.at 2)], .agg [.p (.at 3), .p (.at 4), .p (.at 5)]] 6 (.tup [.agg [.p (.at 14), .p (.at 15)], .agg [.p (.at 16), .p (.at 17)]]) [.call 96 [.agg [.p (.at 0), .p (.at 1), .p (.at 2)]] (.tup [.agg [.p (.at 6), .p (.at 7)], .agg [.p (.at 8), .p (.at 9)]]) [], .call 96 [.agg [.p (.at 3), .p (.at 4), .p (.at 5)]] (.tup [.agg [.p (.at 10), .p (.at 11)], .agg [.p (.at 12), .p (.at 13)]]) [], .call 59 [.agg [.p (.at 6), .p (.at 7)], .agg [.p (.at 12), .p (.at 13)]] (.one (.agg [.p (.at 14), .p (.at 15)])) [], .call 59 [.agg [.p (.at 10), .p (.at 11)], .agg [.p (.at 8), .p (.at 9)]] (.one (.agg [.p (.at 16), .p (.at 17)])) []] Tryz.func97 (by kernel_rfl) rfl (by kernel_rfl) rfl (by kernel_rfl)
    ⟨fun γ w' _ _ => parts_any n s t w' (by simp [maxLen]; omega),
     fun γ w' _ _ => parts_any m p q w' (by simp [maxLen]; omega),
     fun γ w' _ _ => by have h := Mul2_any n false s (dnb q) w' (by omega) (by omega); (try simp only [iv_dnb] at h); exact h,
     fun γ w' _ _ => by have h := Mul2_any m false p (dnb t) w' (by omega) (by omega); (try simp only [iv_dnb] at h); exact h⟩
theorem MulQ_any (n : Bool) (s t : ByteArray) (m : Bool) (p q : ByteArray) (w : World) (hs : s.size ≤ 100000) (ht : t.size ≤ 100000) (hp : p.size ≤ 100000) (hq : q.size ≤ 100000) (hT : TabC w) :
    Calls Tryz.prog 36 #[.agg #[.bool n, .string s, .string t], .agg #[.bool m, .string p, .string q]] w fun e w' => e = .returned (QV (rq n s t * rq m p q)) ∧ Below w.heap.size w w' := by
  have HM : makeV (iv n s * iv m p) (((dn t : Nat) : Int) * ((dn q : Nat) : Int)) = .tuple #[QV (rq n s t * rq m p q), .bool true] := by rw [makeV_pos (by have h1 := dn_pos t; have h2 := dn_pos q; exact Int.mul_ne_zero (by omega) (by omega)), ← Rat.divInt_mul_divInt]; rfl
  have f1 : (mg (iv n s)).size ≤ 100000 := mg_iv_size (n := n) hs
  have f2 : (mg (iv m p)).size ≤ 100000 := mg_iv_size (n := m) hp
  have f3 : (mg ((iv n s) * (iv m p))).size ≤ 200000 := mg_mul_size f1 f2
  have f4 : (dnb t).size ≤ 100000 := dnb_size ht (by omega)
  have f5 : (mg ((dn t : Nat) : Int)).size ≤ 100000 := dn_size ht (by omega)
  have f6 : (dnb q).size ≤ 100000 := dnb_size hq (by omega)
  have f7 : (mg ((dn q : Nat) : Int)).size ≤ 100000 := dn_size hq (by omega)
  have f8 : (mg (((dn t : Nat) : Int) * ((dn q : Nat) : Int))).size ≤ 200000 := mg_mul_size f5 f7
  exact SX.run (w := w) [.bool n, .string s, .string t, .bool m, .string p, .string q, .bool n, .string s, .bool false, .string (dnb t), .bool m, .string p, .bool false, .string (dnb q), .bool (sg ((iv n s) * (iv m p))), .string (mg ((iv n s) * (iv m p))), .bool (sg (((dn t : Nat) : Int) * ((dn q : Nat) : Int))), .string (mg (((dn t : Nat) : Int) * ((dn q : Nat) : Int))), .bool (sg (rq n s t * rq m p q).num), .string (mg (rq n s t * rq m p q).num), .string (dm (rq n s t * rq m p q).den), .bool true] [] [.agg [.p (.at 0), .p (.at 1), .p (.at 2)], .agg [.p (.at 3), .p (.at 4), .p (.at 5)]] 6 (.one (.agg [.p (.at 18), .p (.at 19), .p (.at 20)])) [.call 96 [.agg [.p (.at 0), .p (.at 1), .p (.at 2)]] (.tup [.agg [.p (.at 6), .p (.at 7)], .agg [.p (.at 8), .p (.at 9)]]) [], .call 96 [.agg [.p (.at 3), .p (.at 4), .p (.at 5)]] (.tup [.agg [.p (.at 10), .p (.at 11)], .agg [.p (.at 12), .p (.at 13)]]) [], .call 59 [.agg [.p (.at 6), .p (.at 7)], .agg [.p (.at 10), .p (.at 11)]] (.one (.agg [.p (.at 14), .p (.at 15)])) [], .call 59 [.agg [.p (.at 8), .p (.at 9)], .agg [.p (.at 12), .p (.at 13)]] (.one (.agg [.p (.at 16), .p (.at 17)])) [], .call 63 [.agg [.p (.at 14), .p (.at 15)], .agg [.p (.at 16), .p (.at 17)]] (.tup [.agg [.p (.at 18), .p (.at 19), .p (.at 20)], .c (.p (.at 21))]) []] Tryz.func36 (by kernel_rfl) rfl (by kernel_rfl) rfl (by kernel_rfl)
    ⟨fun γ w' _ _ => parts_any n s t w' (by simp [maxLen]; omega),
     fun γ w' _ _ => parts_any m p q w' (by simp [maxLen]; omega),
     fun γ w' _ _ => Mul2_any n m s p w' (by omega) (by omega),
     fun γ w' _ _ => by have h := Mul2_any false false (dnb t) (dnb q) w' (by omega) (by omega); (try simp only [iv_dnb] at h); exact h,
     fun γ w' hb _ => by have h := Make_any (sg ((iv n s) * (iv m p))) (sg (((dn t : Nat) : Int) * ((dn q : Nat) : Int))) (mg ((iv n s) * (iv m p))) (mg (((dn t : Nat) : Int) * ((dn q : Nat) : Int))) w' (by omega) (by omega) (hT.later hb); simp only [iv_Z, iv_dnb] at h; rw [HM] at h; exact h⟩
theorem DivQ_p (n : Bool) (s t : ByteArray) (m : Bool) (p q : ByteArray) (w : World) (hs : s.size ≤ 100000) (ht : t.size ≤ 100000) (hp : p.size ≤ 100000) (hq : q.size ≤ 100000) (hT : TabC w) (h : iv m p ≠ 0) :
    Calls Tryz.prog 37 #[.agg #[.bool n, .string s, .string t], .agg #[.bool m, .string p, .string q]] w fun e w' => e = .returned (.tuple #[QV (rq n s t / rq m p q), .bool true]) ∧ Below w.heap.size w w' := by
  have HM : makeV (iv n s * ((dn q : Nat) : Int)) (iv m p * ((dn t : Nat) : Int)) = .tuple #[QV (rq n s t / rq m p q), .bool true] := by rw [Int.mul_comm (iv m p), makeV_pos (Int.mul_ne_zero (by have := dn_pos t; omega) h), divInt_div]; rfl
  have f1 : (mg (iv n s)).size ≤ 100000 := mg_iv_size (n := n) hs
  have f2 : (dnb t).size ≤ 100000 := dnb_size ht (by omega)
  have f3 : (mg ((dn t : Nat) : Int)).size ≤ 100000 := dn_size ht (by omega)
  have f4 : (mg (iv m p)).size ≤ 100000 := mg_iv_size (n := m) hp
  have f5 : (dnb q).size ≤ 100000 := dnb_size hq (by omega)
  have f6 : (mg ((dn q : Nat) : Int)).size ≤ 100000 := dn_size hq (by omega)
  have f7 : (mg ((iv n s) * ((dn q : Nat) : Int))).size ≤ 200000 := mg_mul_size f1 f6
  have f8 : (mg ((iv m p) * ((dn t : Nat) : Int))).size ≤ 200000 := mg_mul_size f4 f3
  exact SX.run (w := w) [.bool n, .string s, .string t, .bool m, .string p, .string q, .bool (sg ((iv n s) * ((dn q : Nat) : Int))), .string (mg ((iv n s) * ((dn q : Nat) : Int))), .bool (sg ((iv m p) * ((dn t : Nat) : Int))), .string (mg ((iv m p) * ((dn t : Nat) : Int))), .bool (sg (rq n s t / rq m p q).num), .string (mg (rq n s t / rq m p q).num), .string (dm (rq n s t / rq m p q).den), .bool true] [] [.agg [.p (.at 0), .p (.at 1), .p (.at 2)], .agg [.p (.at 3), .p (.at 4), .p (.at 5)]] 6 (.tup [.agg [.p (.at 10), .p (.at 11), .p (.at 12)], .c (.p (.at 13))]) [.call 97 [.agg [.p (.at 0), .p (.at 1), .p (.at 2)], .agg [.p (.at 3), .p (.at 4), .p (.at 5)]] (.tup [.agg [.p (.at 6), .p (.at 7)], .agg [.p (.at 8), .p (.at 9)]]) [], .call 63 [.agg [.p (.at 6), .p (.at 7)], .agg [.p (.at 8), .p (.at 9)]] (.tup [.agg [.p (.at 10), .p (.at 11), .p (.at 12)], .c (.p (.at 13))]) []] Tryz.func37 (by kernel_rfl) rfl (by kernel_rfl) rfl (by kernel_rfl)
    ⟨fun γ w' _ _ => cross_any n s t m p q w' (by omega) (by omega) (by omega) (by omega),
     fun γ w' hb _ => by have h := Make_any (sg ((iv n s) * ((dn q : Nat) : Int))) (sg ((iv m p) * ((dn t : Nat) : Int))) (mg ((iv n s) * ((dn q : Nat) : Int))) (mg ((iv m p) * ((dn t : Nat) : Int))) w' (by omega) (by omega) (hT.later hb); simp only [iv_Z, iv_dnb] at h; rw [HM] at h; exact h⟩
theorem DivQ_z (n : Bool) (s t : ByteArray) (m : Bool) (p q : ByteArray) (w : World) (hs : s.size ≤ 100000) (ht : t.size ≤ 100000) (hp : p.size ≤ 100000) (hq : q.size ≤ 100000) (hT : TabC w) (h : iv m p = 0) :
    Calls Tryz.prog 37 #[.agg #[.bool n, .string s, .string t], .agg #[.bool m, .string p, .string q]] w fun e w' => e = .returned (.tuple #[Q3 false ⟨#[]⟩ ⟨#[]⟩, .bool false]) ∧ Below w.heap.size w w' := by
  have HM : makeV (iv n s * ((dn q : Nat) : Int)) (iv m p * ((dn t : Nat) : Int)) = .tuple #[Q3 false ⟨#[]⟩ ⟨#[]⟩, .bool false] := by rw [makeV_zero (by rw [h, Int.zero_mul])]
  have f1 : (mg (iv n s)).size ≤ 100000 := mg_iv_size (n := n) hs
  have f2 : (dnb t).size ≤ 100000 := dnb_size ht (by omega)
  have f3 : (mg ((dn t : Nat) : Int)).size ≤ 100000 := dn_size ht (by omega)
  have f4 : (mg (iv m p)).size ≤ 100000 := mg_iv_size (n := m) hp
  have f5 : (dnb q).size ≤ 100000 := dnb_size hq (by omega)
  have f6 : (mg ((dn q : Nat) : Int)).size ≤ 100000 := dn_size hq (by omega)
  have f7 : (mg ((iv n s) * ((dn q : Nat) : Int))).size ≤ 200000 := mg_mul_size f1 f6
  have f8 : (mg ((iv m p) * ((dn t : Nat) : Int))).size ≤ 200000 := mg_mul_size f4 f3
  exact SX.run (w := w) [.bool n, .string s, .string t, .bool m, .string p, .string q, .bool (sg ((iv n s) * ((dn q : Nat) : Int))), .string (mg ((iv n s) * ((dn q : Nat) : Int))), .bool (sg ((iv m p) * ((dn t : Nat) : Int))), .string (mg ((iv m p) * ((dn t : Nat) : Int))), .bool false, .string ⟨#[]⟩, .string ⟨#[]⟩, .bool false] [] [.agg [.p (.at 0), .p (.at 1), .p (.at 2)], .agg [.p (.at 3), .p (.at 4), .p (.at 5)]] 6 (.tup [.agg [.p (.at 10), .p (.at 11), .p (.at 12)], .c (.p (.at 13))]) [.call 97 [.agg [.p (.at 0), .p (.at 1), .p (.at 2)], .agg [.p (.at 3), .p (.at 4), .p (.at 5)]] (.tup [.agg [.p (.at 6), .p (.at 7)], .agg [.p (.at 8), .p (.at 9)]]) [], .call 63 [.agg [.p (.at 6), .p (.at 7)], .agg [.p (.at 8), .p (.at 9)]] (.tup [.agg [.p (.at 10), .p (.at 11), .p (.at 12)], .c (.p (.at 13))]) []] Tryz.func37 (by kernel_rfl) rfl (by kernel_rfl) rfl (by kernel_rfl)
    ⟨fun γ w' _ _ => cross_any n s t m p q w' (by omega) (by omega) (by omega) (by omega),
     fun γ w' hb _ => by have h := Make_any (sg ((iv n s) * ((dn q : Nat) : Int))) (sg ((iv m p) * ((dn t : Nat) : Int))) (mg ((iv n s) * ((dn q : Nat) : Int))) (mg ((iv m p) * ((dn t : Nat) : Int))) w' (by omega) (by omega) (hT.later hb); simp only [iv_Z, iv_dnb] at h; rw [HM] at h; exact h⟩
theorem DivQ_any (n : Bool) (s t : ByteArray) (m : Bool) (p q : ByteArray) (w : World) (hs : s.size ≤ 100000) (ht : t.size ≤ 100000) (hp : p.size ≤ 100000) (hq : q.size ≤ 100000) (hT : TabC w) :
    Calls Tryz.prog 37 #[.agg #[.bool n, .string s, .string t], .agg #[.bool m, .string p, .string q]] w fun e w' => e = .returned (quoQ (rq n s t) (rq m p q)) ∧ Below w.heap.size w w' := by
  by_cases h : iv m p = 0
  · rw [quoQ_zero (rq_zero.2 h)]; exact DivQ_z n s t m p q w hs ht hp hq hT h
  · rw [quoQ_pos (fun e => h (rq_zero.1 e))]; exact DivQ_p n s t m p q w hs ht hp hq hT h
end Go.Proofs.YtodcomijjmobdaaGreatDoor
