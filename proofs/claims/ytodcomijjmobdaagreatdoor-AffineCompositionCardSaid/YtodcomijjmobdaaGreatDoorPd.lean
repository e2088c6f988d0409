/- Package point: arithmetic. -/
import Derived.Test.YtodcomijjmobdaaGreatDoorPu
set_option linter.unusedVariables false
set_option linter.unusedSimpArgs false
namespace Go.Proofs.YtodcomijjmobdaaGreatDoor
open Go.RowKit NM SX
theorem rdz4 {w : World} {g : Nat} {a0 a1 a2 a3 : Bool} {s0 s1 s2 s3 : ByteArray} (h0 : w.cell? ⟨g, 0, none⟩ = some (.bool a0)) (h1 : w.cell? ⟨g, 1, none⟩ = some (.string s0)) (h2 : w.cell? ⟨g, 2, none⟩ = some (.bool a1)) (h3 : w.cell? ⟨g, 3, none⟩ = some (.string s1))
    (h4 : w.cell? ⟨g, 4, none⟩ = some (.bool a2)) (h5 : w.cell? ⟨g, 5, none⟩ = some (.string s2)) (h6 : w.cell? ⟨g, 6, none⟩ = some (.bool a3)) (h7 : w.cell? ⟨g, 7, none⟩ = some (.string s3)) : RdZ w (some ⟨g, 0, none⟩) [(a0, s0), (a1, s1), (a2, s2), (a3, s3)] := by
  have hg : g < w.heap.size := by
    unfold World.cell? at h0
    split at h0
    · rename_i hb; exact (Array.getElem?_eq_some_iff.1 hb).1
    · simp at h0
  intro k hk
  match k, hk with
  | 0, _ => exact ⟨g, rfl, h0, h1, hg⟩
  | 1, _ => exact ⟨g, rfl, h2, h3, hg⟩
  | 2, _ => exact ⟨g, rfl, h4, h5, hg⟩
  | 3, _ => exact ⟨g, rfl, h6, h7, hg⟩
theorem abs_iv (n : Bool) (s : ByteArray) : (iv n s).natAbs = nat s := by
  cases n
  · rw [iv_false]; rfl
  · show (iv (!false) s).natAbs = _
    rw [iv_not, Int.natAbs_neg, iv_false]; rfl
theorem parts_zero (b0 : Bool) (s0 : ByteArray) (b1 : Bool) (s1 : ByteArray) (b2 : Bool) (s2 : ByteArray) (b3 : Bool) (s3 : ByteArray) (w : World) (h0 : s0.size ≤ 1000000) (h1 : s1.size ≤ 1000000) (h2 : s2.size ≤ 1000000) (h3 : s3.size ≤ 1000000) (hd : iv b3 s3 = 0) :
    Calls Tryz.prog 119 #[.agg #[.bool b0, .string s0, .bool b1, .string s1, .bool b2, .string s2, .bool b3, .string s3]] w fun e w' => e = .returned (.tuple #[.agg #[.bool b0, .string s0, .bool b1, .string s1, .bool b2, .string s2], Z 1]) ∧ Below w.heap.size w w' := by
  exact SX.run (w := w) [.bool b0, .string s0, .bool b1, .string s1, .bool b2, .string s2, .bool b3, .string s3, .int .i64 (cmpZ (iv b3 s3) 0), .bool true, .bool (sg (1 : Int)), .string (mg (1 : Int))] [.b true] [.agg [.p (.at 0), .p (.at 1), .p (.at 2), .p (.at 3), .p (.at 4), .p (.at 5), .p (.at 6), .p (.at 7)]] 8 (.tup [.agg [.p (.at 0), .p (.at 1), .p (.at 2), .p (.at 3), .p (.at 4), .p (.at 5)], .agg [.p (.at 10), .p (.at 11)]]) [.call 78 [.agg [.p (.at 6), .p (.at 7)]] (.one (.c (.p (.at 8)))) [], .op2 false .eql (.p (.at 8)) (.p (.lit (.int .i64 0))) 9, .isB 9 true, .call 89 [.c (.p (.lit (.int .i64 1)))] (.one (.agg [.p (.at 10), .p (.at 11)])) []] Tryz.func119 (by kernel_rfl) rfl (by kernel_rfl) rfl (by kernel_rfl)
    ⟨fun γ w' _ _ => Sign2_any b3 s3 w' (by simp [maxLen]; omega),
     congrArg (fun z => some (Value.bool z)) (by rw [cmpZ_eq0]; exact decide_eq_true hd : ((cmpZ (iv b3 s3) 0) == (0 : Int)) = true),
     rfl,
     fun γ w' _ _ => FromInt64_any 1 w' (by decide) (by decide)⟩
theorem parts_minus (b0 : Bool) (s0 : ByteArray) (b1 : Bool) (s1 : ByteArray) (b2 : Bool) (s2 : ByteArray) (b3 : Bool) (s3 : ByteArray) (w : World) (h0 : s0.size ≤ 1000000) (h1 : s1.size ≤ 1000000) (h2 : s2.size ≤ 1000000) (h3 : s3.size ≤ 1000000) (hd : iv b3 s3 < 0) :
    Calls Tryz.prog 119 #[.agg #[.bool b0, .string s0, .bool b1, .string s1, .bool b2, .string s2, .bool b3, .string s3]] w fun e w' => e = .returned (.tuple #[.agg #[.bool (sg (-(iv b0 s0))), .string (mg (-(iv b0 s0))), .bool (sg (-(iv b1 s1))), .string (mg (-(iv b1 s1))), .bool (sg (-(iv b2 s2))), .string (mg (-(iv b2 s2)))], .agg #[.bool (sg (-(iv b3 s3))), .string (mg (-(iv b3 s3)))]]) ∧ Below w.heap.size w w' := by
  exact SX.run (w := w) [.bool b0, .string s0, .bool b1, .string s1, .bool b2, .string s2, .bool b3, .string s3, .int .i64 (cmpZ (iv b3 s3) 0), .bool false, .bool true, .bool (sg (-(iv b3 s3))), .string (mg (-(iv b3 s3))), .bool (sg (-(iv b0 s0))), .string (mg (-(iv b0 s0))), .bool (sg (-(iv b1 s1))), .string (mg (-(iv b1 s1))), .bool (sg (-(iv b2 s2))), .string (mg (-(iv b2 s2)))] [.b false, .b true] [.agg [.p (.at 0), .p (.at 1), .p (.at 2), .p (.at 3), .p (.at 4), .p (.at 5), .p (.at 6), .p (.at 7)]] 8 (.tup [.agg [.p (.at 13), .p (.at 14), .p (.at 15), .p (.at 16), .p (.at 17), .p (.at 18)], .agg [.p (.at 11), .p (.at 12)]]) [.call 78 [.agg [.p (.at 6), .p (.at 7)]] (.one (.c (.p (.at 8)))) [], .op2 false .eql (.p (.at 8)) (.p (.lit (.int .i64 0))) 9, .isB 9 false, .op2 false .eql (.p (.at 8)) (.p (.lit (.int .i64 (-1)))) 10, .isB 10 true, .call 77 [.agg [.p (.at 6), .p (.at 7)]] (.one (.agg [.p (.at 11), .p (.at 12)])) [], .call 77 [.agg [.p (.at 0), .p (.at 1)]] (.one (.agg [.p (.at 13), .p (.at 14)])) [], .call 77 [.agg [.p (.at 2), .p (.at 3)]] (.one (.agg [.p (.at 15), .p (.at 16)])) [], .call 77 [.agg [.p (.at 4), .p (.at 5)]] (.one (.agg [.p (.at 17), .p (.at 18)])) []] Tryz.func119 (by kernel_rfl) rfl (by kernel_rfl) rfl (by kernel_rfl)
    ⟨fun γ w' _ _ => Sign2_any b3 s3 w' (by simp [maxLen]; omega),
     congrArg (fun z => some (Value.bool z)) (by rw [cmpZ_eq0]; exact decide_eq_false (by omega) : ((cmpZ (iv b3 s3) 0) == (0 : Int)) = false),
     rfl,
     congrArg (fun z => some (Value.bool z)) (by rw [cmpZ_eqm]; exact decide_eq_true hd : ((cmpZ (iv b3 s3) 0) == ((-1) : Int)) = true),
     rfl,
     fun γ w' _ _ => Neg2_any b3 s3 w' (by simp [maxLen]; omega),
     fun γ w' _ _ => Neg2_any b0 s0 w' (by simp [maxLen]; omega),
     fun γ w' _ _ => Neg2_any b1 s1 w' (by simp [maxLen]; omega),
     fun γ w' _ _ => Neg2_any b2 s2 w' (by simp [maxLen]; omega)⟩
theorem parts_plus (b0 : Bool) (s0 : ByteArray) (b1 : Bool) (s1 : ByteArray) (b2 : Bool) (s2 : ByteArray) (b3 : Bool) (s3 : ByteArray) (w : World) (h0 : s0.size ≤ 1000000) (h1 : s1.size ≤ 1000000) (h2 : s2.size ≤ 1000000) (h3 : s3.size ≤ 1000000) (hd : 0 < iv b3 s3) :
    Calls Tryz.prog 119 #[.agg #[.bool b0, .string s0, .bool b1, .string s1, .bool b2, .string s2, .bool b3, .string s3]] w fun e w' => e = .returned (.tuple #[.agg #[.bool b0, .string s0, .bool b1, .string s1, .bool b2, .string s2], .agg #[.bool b3, .string s3]]) ∧ Below w.heap.size w w' := by
  exact SX.run (w := w) [.bool b0, .string s0, .bool b1, .string s1, .bool b2, .string s2, .bool b3, .string s3, .int .i64 (cmpZ (iv b3 s3) 0), .bool false, .bool false] [.b false, .b false] [.agg [.p (.at 0), .p (.at 1), .p (.at 2), .p (.at 3), .p (.at 4), .p (.at 5), .p (.at 6), .p (.at 7)]] 8 (.tup [.agg [.p (.at 0), .p (.at 1), .p (.at 2), .p (.at 3), .p (.at 4), .p (.at 5)], .agg [.p (.at 6), .p (.at 7)]]) [.call 78 [.agg [.p (.at 6), .p (.at 7)]] (.one (.c (.p (.at 8)))) [], .op2 false .eql (.p (.at 8)) (.p (.lit (.int .i64 0))) 9, .isB 9 false, .op2 false .eql (.p (.at 8)) (.p (.lit (.int .i64 (-1)))) 10, .isB 10 false] Tryz.func119 (by kernel_rfl) rfl (by kernel_rfl) rfl (by kernel_rfl)
    ⟨fun γ w' _ _ => Sign2_any b3 s3 w' (by simp [maxLen]; omega),
     congrArg (fun z => some (Value.bool z)) (by rw [cmpZ_eq0]; exact decide_eq_false (by omega) : ((cmpZ (iv b3 s3) 0) == (0 : Int)) = false),
     rfl,
     congrArg (fun z => some (Value.bool z)) (by rw [cmpZ_eqm]; exact decide_eq_false (by omega) : ((cmpZ (iv b3 s3) 0) == ((-1) : Int)) = false),
     rfl⟩
theorem parts_ex {v : Value} {q : Z4} {k : Nat} (h : IsF v q k) (hk : k ≤ 1000000) (h1 : 1 ≤ k) : ∃ (a0 : Bool) (a1 : ByteArray) (a2 : Bool) (a3 : ByteArray) (a4 : Bool) (a5 : ByteArray) (a6 : Bool) (a7 : ByteArray),
    (∀ w : World, Calls Tryz.prog 119 #[v] w fun e w' => e = .returned (.tuple #[.agg #[.bool a0, .string a1, .bool a2, .string a3, .bool a4, .string a5], .agg #[.bool a6, .string a7]]) ∧ Below w.heap.size w w') ∧
    IsF (.agg #[.bool a0, .string a1, .bool a2, .string a3, .bool a4, .string a5, .bool a6, .string a7]) (turn q) k := by
  obtain ⟨b0, s0, b1, s1, b2, s2, b3, s3, rfl, e0, z0, e1, z1, e2, z2, e3, z3⟩ := h
  rcases Int.lt_trichotomy q.d 0 with hd | hd | hd
  · rw [turn_minus hd]
    refine ⟨_, _, _, _, _, _, _, _, fun w => parts_minus b0 s0 b1 s1 b2 s2 b3 s3 w (by omega) (by omega) (by omega) (by omega) (by omega), ?_⟩
    rw [e0, e1, e2, e3]
    rw [← e0, ← e1, ← e2, ← e3]
    exact ⟨_, _, _, _, _, _, _, _, rfl, iv_Z _, mg_neg_size (mg_iv_size z0), iv_Z _, mg_neg_size (mg_iv_size z1), iv_Z _, mg_neg_size (mg_iv_size z2), iv_Z _, mg_neg_size (mg_iv_size z3)⟩
  · rw [turn_zero hd]
    exact ⟨_, _, _, _, _, _, _, _, fun w => parts_zero b0 s0 b1 s1 b2 s2 b3 s3 w (by omega) (by omega) (by omega) (by omega) (by omega), ⟨_, _, _, _, _, _, _, _, rfl, e0, z0, e1, z1, e2, z2, iv_Z _, Nat.le_trans (show (mg 1).size ≤ 1 by decide) h1⟩⟩
  · rw [turn_plus hd]
    exact ⟨_, _, _, _, _, _, _, _, fun w => parts_plus b0 s0 b1 s1 b2 s2 b3 s3 w (by omega) (by omega) (by omega) (by omega) (by omega), ⟨_, _, _, _, _, _, _, _, rfl, e0, z0, e1, z1, e2, z2, e3, z3⟩⟩
theorem reduced_raw (b0 : Bool) (s0 : ByteArray) (b1 : Bool) (s1 : ByteArray) (b2 : Bool) (s2 : ByteArray) (b3 : Bool) (s3 : ByteArray) (q : Z4) (k : Nat) (w : World) (h0 : s0.size ≤ k) (h1 : s1.size ≤ k) (h2 : s2.size ≤ k) (h3 : s3.size ≤ k) (hk : k ≤ 1000000) (e0 : iv b0 s0 = q.a) (e1 : iv b1 s1 = q.b) (e2 : iv b2 s2 = q.c) (e3 : iv b3 s3 = q.d) (hT : TabC w) :
    Calls Tryz.prog 120 #[.agg #[.bool b0, .string s0, .bool b1, .string s1, .bool b2, .string s2], .agg #[.bool b3, .string s3]] w fun e w' => e = .returned (FV ⟨divq q.a ((g4 q.a q.b q.c q.d : Nat) : Int), divq q.b ((g4 q.a q.b q.c q.d : Nat) : Int), divq q.c ((g4 q.a q.b q.c q.d : Nat) : Int), divq q.d ((g4 q.a q.b q.c q.d : Nat) : Int)⟩) ∧ Below w.heap.size w w' := by
  have hsz : ∀ x ∈ [(b3, s3), (b0, s0), (b1, s1), (b2, s2)], x.2.size ≤ 134217728 := by
    intro x hx
    simp only [List.mem_cons, List.not_mem_nil, or_false] at hx
    rcases hx with rfl | rfl | rfl | rfl <;> simp <;> omega
  have hg : gcdL [(b3, s3), (b0, s0), (b1, s1), (b2, s2)] = g4 q.a q.b q.c q.d := by
    show Nat.gcd (Nat.gcd (Nat.gcd (Nat.gcd 0 (nat s3)) (nat s0)) (nat s1)) (nat s2) = _
    rw [← gcd_first, ← e0, ← e1, ← e2, ← e3, abs_iv, abs_iv, abs_iv, abs_iv]
  have hz : Fk q k := by
    rw [Fk, ← e0, ← e1, ← e2, ← e3]
    exact ⟨mg_iv_size h0, mg_iv_size h1, mg_iv_size h2, mg_iv_size h3⟩
  have hG := g4_size hz
  unfold Zk at hG
  exact SX.run (w := w) (.bool b0 :: .string s0 :: .bool b1 :: .string s1 :: .bool b2 :: .string s2 :: .bool b3 :: .string s3 :: .bool (sg ((g4 q.a q.b q.c q.d : Nat) : Int)) :: .string (mg ((g4 q.a q.b q.c q.d : Nat) : Int)) :: .bool (sg (divq q.a ((g4 q.a q.b q.c q.d : Nat) : Int))) :: .string (mg (divq q.a ((g4 q.a q.b q.c q.d : Nat) : Int))) :: .bool (sg (divr q.a ((g4 q.a q.b q.c q.d : Nat) : Int))) :: .string (mg (divr q.a ((g4 q.a q.b q.c q.d : Nat) : Int))) :: .bool (decide (((g4 q.a q.b q.c q.d : Nat) : Int) ≠ 0)) :: .bool (sg (divq q.b ((g4 q.a q.b q.c q.d : Nat) : Int))) :: .string (mg (divq q.b ((g4 q.a q.b q.c q.d : Nat) : Int))) :: .bool (sg (divr q.b ((g4 q.a q.b q.c q.d : Nat) : Int))) :: .string (mg (divr q.b ((g4 q.a q.b q.c q.d : Nat) : Int))) :: .bool (decide (((g4 q.a q.b q.c q.d : Nat) : Int) ≠ 0)) :: .bool (sg (divq q.c ((g4 q.a q.b q.c q.d : Nat) : Int))) :: .string (mg (divq q.c ((g4 q.a q.b q.c q.d : Nat) : Int))) :: .bool (sg (divr q.c ((g4 q.a q.b q.c q.d : Nat) : Int))) :: .string (mg (divr q.c ((g4 q.a q.b q.c q.d : Nat) : Int))) :: .bool (decide (((g4 q.a q.b q.c q.d : Nat) : Int) ≠ 0)) :: .bool (sg (divq q.d ((g4 q.a q.b q.c q.d : Nat) : Int))) :: .string (mg (divq q.d ((g4 q.a q.b q.c q.d : Nat) : Int))) :: .bool (sg (divr q.d ((g4 q.a q.b q.c q.d : Nat) : Int))) :: .string (mg (divr q.d ((g4 q.a q.b q.c q.d : Nat) : Int))) :: .bool (decide (((g4 q.a q.b q.c q.d : Nat) : Int) ≠ 0)) :: []) [] [.agg [.p (.at 0), .p (.at 1), .p (.at 2), .p (.at 3), .p (.at 4), .p (.at 5)], .agg [.p (.at 6), .p (.at 7)]] 8 (.one (.agg [.p (.at 10), .p (.at 11), .p (.at 15), .p (.at 16), .p (.at 20), .p (.at 21), .p (.at 25), .p (.at 26)])) [.call 133 [.c (.p (.slc 3 0 4 4))] (.one (.agg [.p (.at 8), .p (.at 9)])) [(3073, .p (.at 6)), (3074, .p (.at 7)), (3075, .p (.at 0)), (3076, .p (.at 1)), (3077, .p (.at 2)), (3078, .p (.at 3)), (3079, .p (.at 4)), (3080, .p (.at 5))], .call 113 [.agg [.p (.at 0), .p (.at 1)], .agg [.p (.at 8), .p (.at 9)]] (.tup [.agg [.p (.at 10), .p (.at 11)], .agg [.p (.at 12), .p (.at 13)], .c (.p (.at 14))]) [], .call 113 [.agg [.p (.at 2), .p (.at 3)], .agg [.p (.at 8), .p (.at 9)]] (.tup [.agg [.p (.at 15), .p (.at 16)], .agg [.p (.at 17), .p (.at 18)], .c (.p (.at 19))]) [], .call 113 [.agg [.p (.at 4), .p (.at 5)], .agg [.p (.at 8), .p (.at 9)]] (.tup [.agg [.p (.at 20), .p (.at 21)], .agg [.p (.at 22), .p (.at 23)], .c (.p (.at 24))]) [], .call 113 [.agg [.p (.at 6), .p (.at 7)], .agg [.p (.at 8), .p (.at 9)]] (.tup [.agg [.p (.at 25), .p (.at 26)], .agg [.p (.at 27), .p (.at 28)], .c (.p (.at 29))]) []] Tryz.func120 (by kernel_rfl) rfl (by kernel_rfl) rfl (by kernel_rfl)
    ⟨fun γ w' hb hm => by have h := GcdZ_any (some ⟨γ 3, 0, none⟩) [(b3, s3), (b0, s0), (b1, s1), (b2, s2)] 4 4 w' rfl (by simp) hsz (rdz4 (hm 3073 _ rfl) (hm 3074 _ rfl) (hm 3075 _ rfl) (hm 3076 _ rfl) (hm 3077 _ rfl) (hm 3078 _ rfl) (hm 3079 _ rfl) (hm 3080 _ rfl)) (hT.later hb); rw [hg] at h; exact h,
     fun γ w' _ _ => by have h := Div2_any b0 (sg ((g4 q.a q.b q.c q.d : Nat) : Int)) s0 (mg ((g4 q.a q.b q.c q.d : Nat) : Int)) w' (by omega) (by omega); rw [iv_Z, e0, divZ_eq] at h; exact h,
     fun γ w' _ _ => by have h := Div2_any b1 (sg ((g4 q.a q.b q.c q.d : Nat) : Int)) s1 (mg ((g4 q.a q.b q.c q.d : Nat) : Int)) w' (by omega) (by omega); rw [iv_Z, e1, divZ_eq] at h; exact h,
     fun γ w' _ _ => by have h := Div2_any b2 (sg ((g4 q.a q.b q.c q.d : Nat) : Int)) s2 (mg ((g4 q.a q.b q.c q.d : Nat) : Int)) w' (by omega) (by omega); rw [iv_Z, e2, divZ_eq] at h; exact h,
     fun γ w' _ _ => by have h := Div2_any b3 (sg ((g4 q.a q.b q.c q.d : Nat) : Int)) s3 (mg ((g4 q.a q.b q.c q.d : Nat) : Int)) w' (by omega) (by omega); rw [iv_Z, e3, divZ_eq] at h; exact h⟩
theorem reduced_any {b0 b1 b2 b3 : Bool} {s0 s1 s2 s3 : ByteArray} {q : Z4} {p : P3} {k : Nat} (h : IsF (.agg #[.bool b0, .string s0, .bool b1, .string s1, .bool b2, .string s2, .bool b3, .string s3]) q k) (hk : k ≤ 1000000) (hp : pt q = p) (hd : 0 < q.d) (w : World) (hT : TabC w) :
    Calls Tryz.prog 120 #[.agg #[.bool b0, .string s0, .bool b1, .string s1, .bool b2, .string s2], .agg #[.bool b3, .string s3]] w fun e w' => e = .returned (PV p) ∧ Below w.heap.size w w' := by
  have hi := h.in
  have h := reduced_raw b0 s0 b1 s1 b2 s2 b3 s3 q k w hi.1.2 hi.2.1.2 hi.2.2.1.2 hi.2.2.2.2 hk hi.1.1 hi.2.1.1 hi.2.2.1.1 hi.2.2.2.1 hT
  rw [← prim_divq (g4_last hd), ← PV_pos hd, hp] at h
  exact h
theorem pNormalize {ux0 : Value} {x0 : P3} {kx0 : Nat} (hx0 : IsP ux0 x0 kx0) (lx0 : kx0 ≤ 50000) (w : World) (hT : TabC w) :
    Calls Tryz.prog 60 #[ux0] w fun e w' => e = .returned (PV x0) ∧ Below w.heap.size w w' := by
  replace hx0 := hx0.up lx0
  have zx0 := hx0.sz (by decide)
  obtain ⟨x0q, hx0q, ex0⟩ := id hx0
  obtain ⟨x00, x01, x02, x03, x04, x05, x06, x07, rfl, ex00, sx01, ex01, sx03, ex02, sx05, ex03, sx07⟩ := id hx0q
  have wx00 : IsZ (.agg #[.bool x00, .string x01]) x0q.a 50000 := ⟨x00, x01, rfl, ex00, sx01⟩
  have zx00 := wx00.sz
  have wx01 : IsZ (.agg #[.bool x02, .string x03]) x0q.b 50000 := ⟨x02, x03, rfl, ex01, sx03⟩
  have zx01 := wx01.sz
  have wx02 : IsZ (.agg #[.bool x04, .string x05]) x0q.c 50000 := ⟨x04, x05, rfl, ex02, sx05⟩
  have zx02 := wx02.sz
  have wx03 : IsZ (.agg #[.bool x06, .string x07]) x0q.d 50000 := ⟨x06, x07, rfl, ex03, sx07⟩
  have zx03 := wx03.sz
  obtain ⟨t0_0, t0_1, t0_2, t0_3, t0_4, t0_5, t0_6, t0_7, t0_c, t0_h⟩ := parts_ex hx0q (by decide) (by decide)
  have t0_z := t0_h.sz
  have e1 : pt (turn x0q) = x0 := (by rw [pt_turn, ex0])
  have f2 : Pk x0 50000 := Pk.up (Pk.red e1 t0_z (by decide)) (by decide)
  exact SX.run (w := w) (List.flatten [[.bool x00, .string x01, .bool x02, .string x03, .bool x04, .string x05, .bool x06, .string x07, .bool t0_0, .string t0_1, .bool t0_2, .string t0_3, .bool t0_4, .string t0_5, .bool t0_6, .string t0_7], pc x0]) [] [.ga 0 8] 8 (.one (.ga 16 8)) [.call 119 [.ga 0 8] (.tup [.ga 8 6, .ga 14 2]) [], .call 120 [.ga 8 6, .ga 14 2] (.one (.ga 16 8)) []] Tryz.func60 (by kernel_rfl) rfl (by kernel_rfl) rfl (by kernel_rfl)
    ⟨fun γ w' _ _ => t0_c w',
     fun γ w' hb _ => reduced_any t0_h (by decide) e1 (turn_pos _) w' (hT.later hb)⟩
theorem pFromCoords {ux0 : Value} {x0 : P3} {kx0 : Nat} (hx0 : IsV ux0 x0 kx0) (lx0 : kx0 ≤ 50000) (w : World) (hT : TabC w) :
    Calls Tryz.prog 91 #[ux0] w fun e w' => e = .returned (PV x0) ∧ Below w.heap.size w w' := by
  replace hx0 := hx0.up lx0
  have zx0 := hx0.sz (by decide)
  obtain ⟨x00, x01, x02, x03, x04, x05, x06, x07, x08, rfl, ex00, sx01, sx02, ex01, sx04, sx05, ex02, sx07, sx08⟩ := id hx0
  have wx00 : IsQ (.agg #[.bool x00, .string x01, .string x02]) x0.x 50000 := ⟨x00, x01, x02, rfl, ex00, sx01, sx02⟩
  have zx00 := wx00.sz (by decide)
  have wx01 : IsQ (.agg #[.bool x03, .string x04, .string x05]) x0.y 50000 := ⟨x03, x04, x05, rfl, ex01, sx04, sx05⟩
  have zx01 := wx01.sz (by decide)
  have wx02 : IsQ (.agg #[.bool x06, .string x07, .string x08]) x0.z 50000 := ⟨x06, x07, x08, rfl, ex02, sx07, sx08⟩
  have zx02 := wx02.sz (by decide)
  have f1 : Zk (1 : Int) 8 := mg_size_le (k := 8) (by first | decide | omega)
  have f2 : Zk x0.x.num 50000 := Zk.up (zx00.1) (by decide)
  have f3 : Zk (x0.x.den : Int) 50000 := Zk.up (zx00.2) (by decide)
  have f4 : Zk (x0.x.num * (1 : Int)) 50008 := Zk.up (mg_mul_size f2 f1) (by decide)
  have f5 : Zk ((1 : Int) * (x0.x.den : Int)) 50008 := Zk.up (mg_mul_size f1 f3) (by decide)
  have f6 : Zk x0.y.num 50000 := Zk.up (zx01.1) (by decide)
  have f7 : Zk (x0.y.den : Int) 50000 := Zk.up (zx01.2) (by decide)
  have f8 : Zk (x0.y.num * ((1 : Int) * (x0.x.den : Int))) 100008 := Zk.up (mg_mul_size f6 f5) (by decide)
  have f9 : Zk ((x0.x.num * (1 : Int)) * (x0.y.den : Int)) 100008 := Zk.up (mg_mul_size f4 f7) (by decide)
  have f10 : Zk (((1 : Int) * (x0.x.den : Int)) * (x0.y.den : Int)) 100008 := Zk.up (mg_mul_size f5 f7) (by decide)
  have f11 : Zk x0.z.num 50000 := Zk.up (zx02.1) (by decide)
  have f12 : Zk (x0.z.den : Int) 50000 := Zk.up (zx02.2) (by decide)
  have f13 : Zk (x0.z.num * (((1 : Int) * (x0.x.den : Int)) * (x0.y.den : Int))) 150008 := Zk.up (mg_mul_size f11 f10) (by decide)
  have f14 : Zk (((x0.x.num * (1 : Int)) * (x0.y.den : Int)) * (x0.z.den : Int)) 150008 := Zk.up (mg_mul_size f9 f12) (by decide)
  have f15 : Zk ((x0.y.num * ((1 : Int) * (x0.x.den : Int))) * (x0.z.den : Int)) 150008 := Zk.up (mg_mul_size f8 f12) (by decide)
  have f16 : Zk ((((1 : Int) * (x0.x.den : Int)) * (x0.y.den : Int)) * (x0.z.den : Int)) 150008 := Zk.up (mg_mul_size f10 f12) (by decide)
  have e17 : pt (Z4.mk (((x0.x.num * (1 : Int)) * (x0.y.den : Int)) * (x0.z.den : Int)) ((x0.y.num * ((1 : Int) * (x0.x.den : Int))) * (x0.z.den : Int)) (x0.z.num * (((1 : Int) * (x0.x.den : Int)) * (x0.y.den : Int))) ((((1 : Int) * (x0.x.den : Int)) * (x0.y.den : Int)) * (x0.z.den : Int))) = x0 := (hom_prog x0)
  have f18 : Pk x0 150008 := Pk.up (Pk.red e17 (Fk.mk f14 f15 f13 f16) (by decide)) (by decide)
  exact SX.run (w := w) (List.flatten [[.bool x00, .string x01, .string x02, .bool x03, .string x04, .string x05, .bool x06, .string x07, .string x08], zc (1 : Int), zc x0.x.num, zc (x0.x.den : Int), zc (x0.x.num * (1 : Int)), zc ((1 : Int) * (x0.x.den : Int)), zc x0.y.num, zc (x0.y.den : Int), zc (x0.y.num * ((1 : Int) * (x0.x.den : Int))), zc ((x0.x.num * (1 : Int)) * (x0.y.den : Int)), zc (((1 : Int) * (x0.x.den : Int)) * (x0.y.den : Int)), zc x0.z.num, zc (x0.z.den : Int), zc (x0.z.num * (((1 : Int) * (x0.x.den : Int)) * (x0.y.den : Int))), zc (((x0.x.num * (1 : Int)) * (x0.y.den : Int)) * (x0.z.den : Int)), zc ((x0.y.num * ((1 : Int) * (x0.x.den : Int))) * (x0.z.den : Int)), zc ((((1 : Int) * (x0.x.den : Int)) * (x0.y.den : Int)) * (x0.z.den : Int)), pc x0]) [] [.ga 0 9] 9 (.one (.ga 41 8)) [.call 89 [.c (.p (.lit (.int .i64 1)))] (.one (.ga 9 2)) [], .call 98 [.ga 0 3] (.tup [.ga 11 2, .ga 13 2]) [], .call 59 [.ga 11 2, .ga 9 2] (.one (.ga 15 2)) [], .call 59 [.ga 9 2, .ga 13 2] (.one (.ga 17 2)) [], .call 98 [.ga 3 3] (.tup [.ga 19 2, .ga 21 2]) [], .call 59 [.ga 19 2, .ga 17 2] (.one (.ga 23 2)) [], .call 59 [.ga 15 2, .ga 21 2] (.one (.ga 25 2)) [], .call 59 [.ga 17 2, .ga 21 2] (.one (.ga 27 2)) [], .call 98 [.ga 6 3] (.tup [.ga 29 2, .ga 31 2]) [], .call 59 [.ga 29 2, .ga 27 2] (.one (.ga 33 2)) [], .call 59 [.ga 25 2, .ga 31 2] (.one (.ga 35 2)) [], .call 59 [.ga 23 2, .ga 31 2] (.one (.ga 37 2)) [], .call 59 [.ga 27 2, .ga 31 2] (.one (.ga 39 2)) [], .call 120 [.agg [.pa 35, .pa 36, .pa 37, .pa 38, .pa 33, .pa 34], .ga 39 2] (.one (.ga 41 8)) []] Tryz.func91 (by kernel_rfl) rfl (by kernel_rfl) rfl (by kernel_rfl)
    ⟨fun γ w' _ _ => FromInt64_any 1 w' (by first | decide | omega) (by first | decide | omega),
     fun γ w' hb _ => qParts wx00 (by decide) w' (hT.later hb),
     fun γ w' _ _ => iMul (IsZ.can f2) (by decide) (IsZ.can f1) (by decide) w',
     fun γ w' _ _ => iMul (IsZ.can f1) (by decide) (IsZ.can f3) (by decide) w',
     fun γ w' hb _ => qParts wx01 (by decide) w' (hT.later hb),
     fun γ w' _ _ => iMul (IsZ.can f6) (by decide) (IsZ.can f5) (by decide) w',
     fun γ w' _ _ => iMul (IsZ.can f4) (by decide) (IsZ.can f7) (by decide) w',
     fun γ w' _ _ => iMul (IsZ.can f5) (by decide) (IsZ.can f7) (by decide) w',
     fun γ w' hb _ => qParts wx02 (by decide) w' (hT.later hb),
     fun γ w' _ _ => iMul (IsZ.can f11) (by decide) (IsZ.can f10) (by decide) w',
     fun γ w' _ _ => iMul (IsZ.can f9) (by decide) (IsZ.can f12) (by decide) w',
     fun γ w' _ _ => iMul (IsZ.can f8) (by decide) (IsZ.can f12) (by decide) w',
     fun γ w' _ _ => iMul (IsZ.can f10) (by decide) (IsZ.can f12) (by decide) w',
     fun γ w' hb _ => reduced_any (IsF.mk (IsZ.can f14) (IsZ.can f15) (IsZ.can f13) (IsZ.can f16)) (by decide) e17 (hom_prog_pos x0) w' (hT.later hb)⟩
theorem pCombine {ux0 : Value} {x0 : P3} {kx0 : Nat} (hx0 : IsP ux0 x0 kx0) (lx0 : kx0 ≤ 200000) {ux1 : Value} {x1 : P3} {kx1 : Nat} (hx1 : IsP ux1 x1 kx1) (lx1 : kx1 ≤ 200000) {ux2 : Value} {x2 : Int} {kx2 : Nat} (hx2 : IsZ ux2 x2 kx2) (lx2 : kx2 ≤ 200000) {ux3 : Value} {x3 : Int} {kx3 : Nat} (hx3 : IsZ ux3 x3 kx3) (lx3 : kx3 ≤ 200000) {ux4 : Value} {x4 : Int} {kx4 : Nat} (hx4 : IsZ ux4 x4 kx4) (lx4 : kx4 ≤ 200000) (w : World) (hT : TabC w) (hd : 0 < x4) :
    Calls Tryz.prog 99 #[ux0, ux1, ux2, ux3, ux4] w fun e w' => e = .returned (PV (combP x0 x1 x2 x3 x4)) ∧ Below w.heap.size w w' := by
  replace hx0 := hx0.up lx0
  have zx0 := hx0.sz (by decide)
  obtain ⟨x0q, hx0q, ex0⟩ := id hx0
  obtain ⟨x00, x01, x02, x03, x04, x05, x06, x07, rfl, ex00, sx01, ex01, sx03, ex02, sx05, ex03, sx07⟩ := id hx0q
  have wx00 : IsZ (.agg #[.bool x00, .string x01]) x0q.a 200000 := ⟨x00, x01, rfl, ex00, sx01⟩
  have zx00 := wx00.sz
  have wx01 : IsZ (.agg #[.bool x02, .string x03]) x0q.b 200000 := ⟨x02, x03, rfl, ex01, sx03⟩
  have zx01 := wx01.sz
  have wx02 : IsZ (.agg #[.bool x04, .string x05]) x0q.c 200000 := ⟨x04, x05, rfl, ex02, sx05⟩
  have zx02 := wx02.sz
  have wx03 : IsZ (.agg #[.bool x06, .string x07]) x0q.d 200000 := ⟨x06, x07, rfl, ex03, sx07⟩
  have zx03 := wx03.sz
  replace hx1 := hx1.up lx1
  have zx1 := hx1.sz (by decide)
  obtain ⟨x1q, hx1q, ex1⟩ := id hx1
  obtain ⟨x10, x11, x12, x13, x14, x15, x16, x17, rfl, ex10, sx11, ex11, sx13, ex12, sx15, ex13, sx17⟩ := id hx1q
  have wx10 : IsZ (.agg #[.bool x10, .string x11]) x1q.a 200000 := ⟨x10, x11, rfl, ex10, sx11⟩
  have zx10 := wx10.sz
  have wx11 : IsZ (.agg #[.bool x12, .string x13]) x1q.b 200000 := ⟨x12, x13, rfl, ex11, sx13⟩
  have zx11 := wx11.sz
  have wx12 : IsZ (.agg #[.bool x14, .string x15]) x1q.c 200000 := ⟨x14, x15, rfl, ex12, sx15⟩
  have zx12 := wx12.sz
  have wx13 : IsZ (.agg #[.bool x16, .string x17]) x1q.d 200000 := ⟨x16, x17, rfl, ex13, sx17⟩
  have zx13 := wx13.sz
  replace hx2 := hx2.up lx2
  have zx2 := hx2.sz
  obtain ⟨x20, x21, rfl, ex20, sx21⟩ := id hx2
  replace hx3 := hx3.up lx3
  have zx3 := hx3.sz
  obtain ⟨x30, x31, rfl, ex30, sx31⟩ := id hx3
  replace hx4 := hx4.up lx4
  have zx4 := hx4.sz
  obtain ⟨x40, x41, rfl, ex40, sx41⟩ := id hx4
  obtain ⟨t0_0, t0_1, t0_2, t0_3, t0_4, t0_5, t0_6, t0_7, t0_c, t0_h⟩ := parts_ex hx0q (by decide) (by decide)
  have t0_z := t0_h.sz
  obtain ⟨t1_0, t1_1, t1_2, t1_3, t1_4, t1_5, t1_6, t1_7, t1_c, t1_h⟩ := parts_ex hx1q (by decide) (by decide)
  have t1_z := t1_h.sz
  have f1 : Zk (x2 * (turn x1q).d) 400000 := Zk.up (mg_mul_size zx2 t1_z.2.2.2) (by decide)
  have f2 : Zk (x3 * (turn x0q).d) 400000 := Zk.up (mg_mul_size zx3 t0_z.2.2.2) (by decide)
  have f3 : Zk ((x2 * (turn x1q).d) * (turn x0q).a) 600000 := Zk.up (mg_mul_size f1 t0_z.1) (by decide)
  have f4 : Zk ((x3 * (turn x0q).d) * (turn x1q).a) 600000 := Zk.up (mg_mul_size f2 t1_z.1) (by decide)
  have f5 : Zk (((x2 * (turn x1q).d) * (turn x0q).a) + ((x3 * (turn x0q).d) * (turn x1q).a)) 600001 := Zk.up (Is.add f3 f4) (by decide)
  have f6 : Zk ((x2 * (turn x1q).d) * (turn x0q).b) 600000 := Zk.up (mg_mul_size f1 t0_z.2.1) (by decide)
  have f7 : Zk ((x3 * (turn x0q).d) * (turn x1q).b) 600000 := Zk.up (mg_mul_size f2 t1_z.2.1) (by decide)
  have f8 : Zk (((x2 * (turn x1q).d) * (turn x0q).b) + ((x3 * (turn x0q).d) * (turn x1q).b)) 600001 := Zk.up (Is.add f6 f7) (by decide)
  have f9 : Zk ((x2 * (turn x1q).d) * (turn x0q).c) 600000 := Zk.up (mg_mul_size f1 t0_z.2.2.1) (by decide)
  have f10 : Zk ((x3 * (turn x0q).d) * (turn x1q).c) 600000 := Zk.up (mg_mul_size f2 t1_z.2.2.1) (by decide)
  have f11 : Zk (((x2 * (turn x1q).d) * (turn x0q).c) + ((x3 * (turn x0q).d) * (turn x1q).c)) 600001 := Zk.up (Is.add f9 f10) (by decide)
  have f12 : Zk ((turn x0q).d * (turn x1q).d) 400000 := Zk.up (mg_mul_size t0_z.2.2.2 t1_z.2.2.2) (by decide)
  have f13 : Zk (x4 * ((turn x0q).d * (turn x1q).d)) 600000 := Zk.up (mg_mul_size zx4 f12) (by decide)
  have e14 : pt (Z4.mk (((x2 * (turn x1q).d) * (turn x0q).a) + ((x3 * (turn x0q).d) * (turn x1q).a)) (((x2 * (turn x1q).d) * (turn x0q).b) + ((x3 * (turn x0q).d) * (turn x1q).b)) (((x2 * (turn x1q).d) * (turn x0q).c) + ((x3 * (turn x0q).d) * (turn x1q).c)) (x4 * ((turn x0q).d * (turn x1q).d))) = (combP x0 x1 x2 x3 x4) := (by rw [← ex0, ← ex1]; exact comb_pt hd)
  have f15 : Pk (combP x0 x1 x2 x3 x4) 600001 := Pk.up (Pk.red e14 (Fk.mk f5 f8 f11 f13) (by decide)) (by decide)
  exact SX.run (w := w) (List.flatten [[.bool x00, .string x01, .bool x02, .string x03, .bool x04, .string x05, .bool x06, .string x07, .bool x10, .string x11, .bool x12, .string x13, .bool x14, .string x15, .bool x16, .string x17, .bool x20, .string x21, .bool x30, .string x31, .bool x40, .string x41, .bool t0_0, .string t0_1, .bool t0_2, .string t0_3, .bool t0_4, .string t0_5, .bool t0_6, .string t0_7, .bool t1_0, .string t1_1, .bool t1_2, .string t1_3, .bool t1_4, .string t1_5, .bool t1_6, .string t1_7], zc (x2 * (turn x1q).d), zc (x3 * (turn x0q).d), zc ((x2 * (turn x1q).d) * (turn x0q).a), zc ((x3 * (turn x0q).d) * (turn x1q).a), zc (((x2 * (turn x1q).d) * (turn x0q).a) + ((x3 * (turn x0q).d) * (turn x1q).a)), zc ((x2 * (turn x1q).d) * (turn x0q).b), zc ((x3 * (turn x0q).d) * (turn x1q).b), zc (((x2 * (turn x1q).d) * (turn x0q).b) + ((x3 * (turn x0q).d) * (turn x1q).b)), zc ((x2 * (turn x1q).d) * (turn x0q).c), zc ((x3 * (turn x0q).d) * (turn x1q).c), zc (((x2 * (turn x1q).d) * (turn x0q).c) + ((x3 * (turn x0q).d) * (turn x1q).c)), zc ((turn x0q).d * (turn x1q).d), zc (x4 * ((turn x0q).d * (turn x1q).d)), pc (combP x0 x1 x2 x3 x4)]) [] [.ga 0 8, .ga 8 8, .ga 16 2, .ga 18 2, .ga 20 2] 22 (.one (.ga 64 8)) [.call 119 [.ga 0 8] (.tup [.ga 22 6, .ga 28 2]) [], .call 119 [.ga 8 8] (.tup [.ga 30 6, .ga 36 2]) [], .call 59 [.ga 16 2, .ga 36 2] (.one (.ga 38 2)) [], .call 59 [.ga 18 2, .ga 28 2] (.one (.ga 40 2)) [], .call 59 [.ga 38 2, .ga 22 2] (.one (.ga 42 2)) [], .call 59 [.ga 40 2, .ga 30 2] (.one (.ga 44 2)) [], .call 87 [.ga 42 2, .ga 44 2] (.one (.ga 46 2)) [], .call 59 [.ga 38 2, .ga 24 2] (.one (.ga 48 2)) [], .call 59 [.ga 40 2, .ga 32 2] (.one (.ga 50 2)) [], .call 87 [.ga 48 2, .ga 50 2] (.one (.ga 52 2)) [], .call 59 [.ga 38 2, .ga 26 2] (.one (.ga 54 2)) [], .call 59 [.ga 40 2, .ga 34 2] (.one (.ga 56 2)) [], .call 87 [.ga 54 2, .ga 56 2] (.one (.ga 58 2)) [], .call 59 [.ga 28 2, .ga 36 2] (.one (.ga 60 2)) [], .call 59 [.ga 20 2, .ga 60 2] (.one (.ga 62 2)) [], .call 120 [.agg [.pa 46, .pa 47, .pa 52, .pa 53, .pa 58, .pa 59], .ga 62 2] (.one (.ga 64 8)) []] Tryz.func99 (by kernel_rfl) rfl (by kernel_rfl) rfl (by kernel_rfl)
    ⟨fun γ w' _ _ => t0_c w',
     fun γ w' _ _ => t1_c w',
     fun γ w' _ _ => iMul hx2 (by decide) t1_h.zd (by decide) w',
     fun γ w' _ _ => iMul hx3 (by decide) t0_h.zd (by decide) w',
     fun γ w' _ _ => iMul (IsZ.can f1) (by decide) t0_h.za (by decide) w',
     fun γ w' _ _ => iMul (IsZ.can f2) (by decide) t1_h.za (by decide) w',
     fun γ w' _ _ => iAdd (IsZ.can f3) (by decide) (IsZ.can f4) (by decide) w',
     fun γ w' _ _ => iMul (IsZ.can f1) (by decide) t0_h.zb (by decide) w',
     fun γ w' _ _ => iMul (IsZ.can f2) (by decide) t1_h.zb (by decide) w',
     fun γ w' _ _ => iAdd (IsZ.can f6) (by decide) (IsZ.can f7) (by decide) w',
     fun γ w' _ _ => iMul (IsZ.can f1) (by decide) t0_h.zc (by decide) w',
     fun γ w' _ _ => iMul (IsZ.can f2) (by decide) t1_h.zc (by decide) w',
     fun γ w' _ _ => iAdd (IsZ.can f9) (by decide) (IsZ.can f10) (by decide) w',
     fun γ w' _ _ => iMul t0_h.zd (by decide) t1_h.zd (by decide) w',
     fun γ w' _ _ => iMul hx4 (by decide) (IsZ.can f12) (by decide) w',
     fun γ w' hb _ => reduced_any (IsF.mk (IsZ.can f5) (IsZ.can f8) (IsZ.can f11) (IsZ.can f13)) (by decide) e14 (Int.mul_pos hd (Int.mul_pos (turn_pos _) (turn_pos _))) w' (hT.later hb)⟩
theorem pLerp {ux0 : Value} {x0 : P3} {kx0 : Nat} (hx0 : IsP ux0 x0 kx0) (lx0 : kx0 ≤ 10000) {ux1 : Value} {x1 : P3} {kx1 : Nat} (hx1 : IsP ux1 x1 kx1) (lx1 : kx1 ≤ 10000) {ux2 : Value} {x2 : Rat} {kx2 : Nat} (hx2 : IsQ ux2 x2 kx2) (lx2 : kx2 ≤ 10000) (w : World) (hT : TabC w) :
    Calls Tryz.prog 38 #[ux0, ux1, ux2] w fun e w' => e = .returned (PV (lerp x0 x1 x2)) ∧ Below w.heap.size w w' := by
  replace hx0 := hx0.up lx0
  have zx0 := hx0.sz (by decide)
  obtain ⟨x0q, hx0q, ex0⟩ := id hx0
  obtain ⟨x00, x01, x02, x03, x04, x05, x06, x07, rfl, ex00, sx01, ex01, sx03, ex02, sx05, ex03, sx07⟩ := id hx0q
  have wx00 : IsZ (.agg #[.bool x00, .string x01]) x0q.a 10000 := ⟨x00, x01, rfl, ex00, sx01⟩
  have zx00 := wx00.sz
  have wx01 : IsZ (.agg #[.bool x02, .string x03]) x0q.b 10000 := ⟨x02, x03, rfl, ex01, sx03⟩
  have zx01 := wx01.sz
  have wx02 : IsZ (.agg #[.bool x04, .string x05]) x0q.c 10000 := ⟨x04, x05, rfl, ex02, sx05⟩
  have zx02 := wx02.sz
  have wx03 : IsZ (.agg #[.bool x06, .string x07]) x0q.d 10000 := ⟨x06, x07, rfl, ex03, sx07⟩
  have zx03 := wx03.sz
  replace hx1 := hx1.up lx1
  have zx1 := hx1.sz (by decide)
  obtain ⟨x1q, hx1q, ex1⟩ := id hx1
  obtain ⟨x10, x11, x12, x13, x14, x15, x16, x17, rfl, ex10, sx11, ex11, sx13, ex12, sx15, ex13, sx17⟩ := id hx1q
  have wx10 : IsZ (.agg #[.bool x10, .string x11]) x1q.a 10000 := ⟨x10, x11, rfl, ex10, sx11⟩
  have zx10 := wx10.sz
  have wx11 : IsZ (.agg #[.bool x12, .string x13]) x1q.b 10000 := ⟨x12, x13, rfl, ex11, sx13⟩
  have zx11 := wx11.sz
  have wx12 : IsZ (.agg #[.bool x14, .string x15]) x1q.c 10000 := ⟨x14, x15, rfl, ex12, sx15⟩
  have zx12 := wx12.sz
  have wx13 : IsZ (.agg #[.bool x16, .string x17]) x1q.d 10000 := ⟨x16, x17, rfl, ex13, sx17⟩
  have zx13 := wx13.sz
  replace hx2 := hx2.up lx2
  have zx2 := hx2.sz (by decide)
  obtain ⟨x20, x21, x22, rfl, ex20, sx21, sx22⟩ := id hx2
  have hden : (0 : Int) < (x2.den : Int) := by have := x2.den_pos; omega
  have f1 : Zk x2.num 10000 := Zk.up (zx2.1) (by decide)
  have f2 : Zk (x2.den : Int) 10000 := Zk.up (zx2.2) (by decide)
  have f3 : Zk ((x2.den : Int) - x2.num) 10001 := Zk.up (Is.sub f2 f1) (by decide)
  exact SX.run (w := w) (List.flatten [[.bool x00, .string x01, .bool x02, .string x03, .bool x04, .string x05, .bool x06, .string x07, .bool x10, .string x11, .bool x12, .string x13, .bool x14, .string x15, .bool x16, .string x17, .bool x20, .string x21, .string x22], zc x2.num, zc (x2.den : Int), zc ((x2.den : Int) - x2.num), pc (lerp x0 x1 x2)]) [] [.ga 0 8, .ga 8 8, .ga 16 3] 19 (.one (.ga 25 8)) [.call 98 [.ga 16 3] (.tup [.ga 19 2, .ga 21 2]) [], .call 85 [.ga 21 2, .ga 19 2] (.one (.ga 23 2)) [], .call 99 [.ga 0 8, .ga 8 8, .ga 23 2, .ga 19 2, .ga 21 2] (.one (.ga 25 8)) []] Tryz.func38 (by kernel_rfl) rfl (by kernel_rfl) rfl (by kernel_rfl)
    ⟨fun γ w' hb _ => qParts hx2 (by decide) w' (hT.later hb),
     fun γ w' _ _ => iSub (IsZ.can f2) (by decide) (IsZ.can f1) (by decide) w',
     fun γ w' hb _ => by have h := pCombine hx0 (by decide) hx1 (by decide) (IsZ.can f3) (by decide) (IsZ.can f1) (by decide) (IsZ.can f2) (by decide) w' (hT.later hb) hden; rw [combP_lerp] at h; exact h⟩
end Go.Proofs.YtodcomijjmobdaaGreatDoor
