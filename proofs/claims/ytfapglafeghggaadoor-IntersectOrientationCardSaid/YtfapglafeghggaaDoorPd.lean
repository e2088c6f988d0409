/- Package point: arithmetic. -/
import Derived.Test.YtfapglafeghggaaDoorPu
set_option linter.unusedVariables false
set_option linter.unusedSimpArgs false
namespace Go.Proofs.YtfapglafeghggaaDoor
open Go.RowKit NM SX
theorem rdz4 {w : World} {g : Nat} {a0 a1 a2 a3 : Bool} {s0 s1 s2 s3 : ByteArray} (h0 : w.cell? ⟨g, 0, none⟩ = some (.bool a0)) (h1 : w.cell? ⟨g, 1, none⟩ = some (.string s0)) (h2 : w.cell? ⟨g, 2, none⟩ = some (.bool a1)) (h3 : w.cell? ⟨g, 3, none⟩ = some (.string s1))
    (h4 : w.cell? ⟨g, 4, none⟩ = some (.bool a2)) (h5 : w.cell? ⟨g, 5, none⟩ = some (.string s2)) (h6 : w.cell? ⟨g, 6, none⟩ = some (.bool a3)) (h7 : w.cell? ⟨g, 7, none⟩ = some (.string s3)) : RdZ w (some ⟨g, 0, none⟩) [(a0, s0), (a1, s1), (a2, s2), (a3, s3)] := by
  have hg : g < w.heap.size := by
    unfold World.cell? at h0
    split at h0
    · rename_i hb; exact (Array.getElem?_eq_some_iff.1 hb).1
    · simp at h0
  intro k hk
  match k, hk with
  | 0, _ => exact ⟨g, rfl, h0, h1, hg⟩
  | 1, _ => exact ⟨g, rfl, h2, h3, hg⟩
  | 2, _ => exact ⟨g, rfl, h4, h5, hg⟩
  | 3, _ => exact ⟨g, rfl, h6, h7, hg⟩
theorem abs_iv (n : Bool) (s : ByteArray) : (iv n s).natAbs = nat s := by
  cases n
  · rw [iv_false]; rfl
  · show (iv (!false) s).natAbs = _
    rw [iv_not, Int.natAbs_neg, iv_false]; rfl
theorem parts_zero (b0 : Bool) (s0 : ByteArray) (b1 : Bool) (s1 : ByteArray) (b2 : Bool) (s2 : ByteArray) (b3 : Bool) (s3 : ByteArray) (w : World) (h0 : s0.size ≤ 1000000) (h1 : s1.size ≤ 1000000) (h2 : s2.size ≤ 1000000) (h3 : s3.size ≤ 1000000) (hd : iv b3 s3 = 0) :
    Calls Tryd.prog 64 #[.agg #[.bool b0, .string s0, .bool b1, .string s1, .bool b2, .string s2, .bool b3, .string s3]] w fun e w' => e = .returned (.tuple #[.agg #[.bool b0, .string s0, .bool b1, .string s1, .bool b2, .string s2], Z 1]) ∧ Below w.heap.size w w' := by
  exact SX.run (w := w) [.bool b0, .string s0, .bool b1, .string s1, .bool b2, .string s2, .bool b3, .string s3, .int .i64 (cmpZ (iv b3 s3) 0), .bool true, .bool (sg (1 : Int)), .string (mg (1 : Int))] [.b true] [.agg [.p (.at 0), .p (.at 1), .p (.at 2), .p (.at 3), .p (.at 4), .p (.at 5), .p (.at 6), .p (.at 7)]] 8 (.tup [.agg [.p (.at 0), .p (.at 1), .p (.at 2), .p (.at 3), .p (.at 4), .p (.at 5)], .agg [.p (.at 10), .p (.at 11)]]) [.call 29 [.agg [.p (.at 6), .p (.at 7)]] (.one (.c (.p (.at 8)))) [], .op2 false .eql (.p (.at 8)) (.p (.lit (.int .i64 0))) 9, .isB 9 true, .call 19 [.c (.p (.lit (.int .i64 1)))] (.one (.agg [.p (.at 10), .p (.at 11)])) []] Tryd.func64 (by kernel_rfl) rfl (by kernel_rfl) rfl (by kernel_rfl)
    ⟨fun γ w' _ _ => Sign2_any b3 s3 w' (by simp [maxLen]; omega),
     congrArg (fun z => some (Value.bool z)) (by rw [cmpZ_eq0]; exact decide_eq_true hd : ((cmpZ (iv b3 s3) 0) == (0 : Int)) = true),
     rfl,
     fun γ w' _ _ => FromInt64_any 1 w' (by decide) (by decide)⟩
theorem parts_minus (b0 : Bool) (s0 : ByteArray) (b1 : Bool) (s1 : ByteArray) (b2 : Bool) (s2 : ByteArray) (b3 : Bool) (s3 : ByteArray) (w : World) (h0 : s0.size ≤ 1000000) (h1 : s1.size ≤ 1000000) (h2 : s2.size ≤ 1000000) (h3 : s3.size ≤ 1000000) (hd : iv b3 s3 < 0) :
    Calls Tryd.prog 64 #[.agg #[.bool b0, .string s0, .bool b1, .string s1, .bool b2, .string s2, .bool b3, .string s3]] w fun e w' => e = .returned (.tuple #[.agg #[.bool (sg (-(iv b0 s0))), .string (mg (-(iv b0 s0))), .bool (sg (-(iv b1 s1))), .string (mg (-(iv b1 s1))), .bool (sg (-(iv b2 s2))), .string (mg (-(iv b2 s2)))], .agg #[.bool (sg (-(iv b3 s3))), .string (mg (-(iv b3 s3)))]]) ∧ Below w.heap.size w w' := by
  exact SX.run (w := w) [.bool b0, .string s0, .bool b1, .string s1, .bool b2, .string s2, .bool b3, .string s3, .int .i64 (cmpZ (iv b3 s3) 0), .bool false, .bool true, .bool (sg (-(iv b3 s3))), .string (mg (-(iv b3 s3))), .bool (sg (-(iv b0 s0))), .string (mg (-(iv b0 s0))), .bool (sg (-(iv b1 s1))), .string (mg (-(iv b1 s1))), .bool (sg (-(iv b2 s2))), .string (mg (-(iv b2 s2)))] [.b false, .b true] [.agg [.p (.at 0), .p (.at 1), .p (.at 2), .p (.at 3), .p (.at 4), .p (.at 5), .p (.at 6), .p (.at 7)]] 8 (.tup [.agg [.p (.at 13), .p (.at 14), .p (.at 15), .p (.at 16), .p (.at 17), .p (.at 18)], .agg [.p (.at 11), .p (.at 12)]]) [.call 29 [.agg [.p (.at 6), .p (.at 7)]] (.one (.c (.p (.at 8)))) [], .op2 false .eql (.p (.at 8)) (.p (.lit (.int .i64 0))) 9, .isB 9 false, .op2 false .eql (.p (.at 8)) (.p (.lit (.int .i64 (-1)))) 10, .isB 10 true, .call 37 [.agg [.p (.at 6), .p (.at 7)]] (.one (.agg [.p (.at 11), .p (.at 12)])) [], .call 37 [.agg [.p (.at 0), .p (.at 1)]] (.one (.agg [.p (.at 13), .p (.at 14)])) [], .call 37 [.agg [.p (.at 2), .p (.at 3)]] (.one (.agg [.p (.at 15), .p (.at 16)])) [], .call 37 [.agg [.p (.at 4), .p (.at 5)]] (.one (.agg [.p (.at 17), .p (.at 18)])) []] Tryd.func64 (by kernel_rfl) rfl (by kernel_rfl) rfl (by kernel_rfl)
    ⟨fun γ w' _ _ => Sign2_any b3 s3 w' (by simp [maxLen]; omega),
     congrArg (fun z => some (Value.bool z)) (by rw [cmpZ_eq0]; exact decide_eq_false (by omega) : ((cmpZ (iv b3 s3) 0) == (0 : Int)) = false),
     rfl,
     congrArg (fun z => some (Value.bool z)) (by rw [cmpZ_eqm]; exact decide_eq_true hd : ((cmpZ (iv b3 s3) 0) == ((-1) : Int)) = true),
     rfl,
     fun γ w' _ _ => Neg2_any b3 s3 w' (by simp [maxLen]; omega),
     fun γ w' _ _ => Neg2_any b0 s0 w' (by simp [maxLen]; omega),
     fun γ w' _ _ => Neg2_any b1 s1 w' (by simp [maxLen]; omega),
     fun γ w' _ _ => Neg2_any b2 s2 w' (by simp [maxLen]; omega)⟩
theorem parts_plus (b0 : Bool) (s0 : ByteArray) (b1 : Bool) (s1 : ByteArray) (b2 : Bool) (s2 : ByteArray) (b3 : Bool) (s3 : ByteArray) (w : World) (h0 : s0.size ≤ 1000000) (h1 : s1.size ≤ 1000000) (h2 : s2.size ≤ 1000000) (h3 : s3.size ≤ 1000000) (hd : 0 < iv b3 s3) :
    Calls Tryd.prog 64 #[.agg #[.bool b0, .string s0, .bool b1, .string s1, .bool b2, .string s2, .bool b3, .string s3]] w fun e w' => e = .returned (.tuple #[.agg #[.bool b0, .string s0, .bool b1, .string s1, .bool b2, .string s2], .agg #[.bool b3, .string s3]]) ∧ Below w.heap.size w w' := by
  exact SX.run (w := w) [.bool b0, .string s0, .bool b1, .string s1, .bool b2, .string s2, .bool b3, .string s3, .int .i64 (cmpZ (iv b3 s3) 0), .bool false, .bool false] [.b false, .b false] [.agg [.p (.at 0), .p (.at 1), .p (.at 2), .p (.at 3), .p (.at 4), .p (.at 5), .p (.at 6), .p (.at 7)]] 8 (.tup [.agg [.p (.at 0), .p (.at 1), .p (.at 2), .p (.at 3), .p (.at 4), .p (.at 5)], .agg [.p (.at 6), .p (.at 7)]]) [.call 29 [.agg [.p (.at 6), .p (.at 7)]] (.one (.c (.p (.at 8)))) [], .op2 false .eql (.p (.at 8)) (.p (.lit (.int .i64 0))) 9, .isB 9 false, .op2 false .eql (.p (.at 8)) (.p (.lit (.int .i64 (-1)))) 10, .isB 10 false] Tryd.func64 (by kernel_rfl) rfl (by kernel_rfl) rfl (by kernel_rfl)
    ⟨fun γ w' _ _ => Sign2_any b3 s3 w' (by simp [maxLen]; omega),
     congrArg (fun z => some (Value.bool z)) (by rw [cmpZ_eq0]; exact decide_eq_false (by omega) : ((cmpZ (iv b3 s3) 0) == (0 : Int)) = false),
     rfl,
     congrArg (fun z => some (Value.bool z)) (by rw [cmpZ_eqm]; exact decide_eq_false (by omega) : ((cmpZ (iv b3 s3) 0) == ((-1) : Int)) = false),
     rfl⟩
theorem parts_ex {v : Value} {q : Z4} {k : Nat} (h : IsF v q k) (hk : k ≤ 1000000) (h1 : 1 ≤ k) : ∃ (a0 : Bool) (a1 : ByteArray) (a2 : Bool) (a3 : ByteArray) (a4 : Bool) (a5 : ByteArray) (a6 : Bool) (a7 : ByteArray),
    (∀ w : World, Calls Tryd.prog 64 #[v] w fun e w' => e = .returned (.tuple #[.agg #[.bool a0, .string a1, .bool a2, .string a3, .bool a4, .string a5], .agg #[.bool a6, .string a7]]) ∧ Below w.heap.size w w') ∧
    IsF (.agg #[.bool a0, .string a1, .bool a2, .string a3, .bool a4, .string a5, .bool a6, .string a7]) (turn q) k := by
  obtain ⟨b0, s0, b1, s1, b2, s2, b3, s3, rfl, e0, z0, e1, z1, e2, z2, e3, z3⟩ := h
  rcases Int.lt_trichotomy q.d 0 with hd | hd | hd
  · rw [turn_minus hd]
    refine ⟨_, _, _, _, _, _, _, _, fun w => parts_minus b0 s0 b1 s1 b2 s2 b3 s3 w (by omega) (by omega) (by omega) (by omega) (by omega), ?_⟩
    rw [e0, e1, e2, e3]
    rw [← e0, ← e1, ← e2, ← e3]
    exact ⟨_, _, _, _, _, _, _, _, rfl, iv_Z _, mg_neg_size (mg_iv_size z0), iv_Z _, mg_neg_size (mg_iv_size z1), iv_Z _, mg_neg_size (mg_iv_size z2), iv_Z _, mg_neg_size (mg_iv_size z3)⟩
  · rw [turn_zero hd]
    exact ⟨_, _, _, _, _, _, _, _, fun w => parts_zero b0 s0 b1 s1 b2 s2 b3 s3 w (by omega) (by omega) (by omega) (by omega) (by omega), ⟨_, _, _, _, _, _, _, _, rfl, e0, z0, e1, z1, e2, z2, iv_Z _, Nat.le_trans (show (mg 1).size ≤ 1 by decide) h1⟩⟩
  · rw [turn_plus hd]
    exact ⟨_, _, _, _, _, _, _, _, fun w => parts_plus b0 s0 b1 s1 b2 s2 b3 s3 w (by omega) (by omega) (by omega) (by omega) (by omega), ⟨_, _, _, _, _, _, _, _, rfl, e0, z0, e1, z1, e2, z2, e3, z3⟩⟩
theorem reduced_raw (b0 : Bool) (s0 : ByteArray) (b1 : Bool) (s1 : ByteArray) (b2 : Bool) (s2 : ByteArray) (b3 : Bool) (s3 : ByteArray) (q : Z4) (k : Nat) (w : World) (h0 : s0.size ≤ k) (h1 : s1.size ≤ k) (h2 : s2.size ≤ k) (h3 : s3.size ≤ k) (hk : k ≤ 1000000) (e0 : iv b0 s0 = q.a) (e1 : iv b1 s1 = q.b) (e2 : iv b2 s2 = q.c) (e3 : iv b3 s3 = q.d) (hT : TabC w) :
    Calls Tryd.prog 65 #[.agg #[.bool b0, .string s0, .bool b1, .string s1, .bool b2, .string s2], .agg #[.bool b3, .string s3]] w fun e w' => e = .returned (FV ⟨divq q.a ((g4 q.a q.b q.c q.d : Nat) : Int), divq q.b ((g4 q.a q.b q.c q.d : Nat) : Int), divq q.c ((g4 q.a q.b q.c q.d : Nat) : Int), divq q.d ((g4 q.a q.b q.c q.d : Nat) : Int)⟩) ∧ Below w.heap.size w w' := by
  have hsz : ∀ x ∈ [(b3, s3), (b0, s0), (b1, s1), (b2, s2)], x.2.size ≤ 134217728 := by
    intro x hx
    simp only [List.mem_cons, List.not_mem_nil, or_false] at hx
    rcases hx with rfl | rfl | rfl | rfl <;> simp <;> omega
  have hg : gcdL [(b3, s3), (b0, s0), (b1, s1), (b2, s2)] = g4 q.a q.b q.c q.d := by
    show Nat.gcd (Nat.gcd (Nat.gcd (Nat.gcd 0 (nat s3)) (nat s0)) (nat s1)) (nat s2) = _
    rw [← gcd_first, ← e0, ← e1, ← e2, ← e3, abs_iv, abs_iv, abs_iv, abs_iv]
  have hz : Fk q k := by
    rw [Fk, ← e0, ← e1, ← e2, ← e3]
    exact ⟨mg_iv_size h0, mg_iv_size h1, mg_iv_size h2, mg_iv_size h3⟩
  have hG := g4_size hz
  unfold Zk at hG
  exact SX.run (w := w) (.bool b0 :: .string s0 :: .bool b1 :: .string s1 :: .bool b2 :: .string s2 :: .bool b3 :: .string s3 :: .bool (sg ((g4 q.a q.b q.c q.d : Nat) : Int)) :: .string (mg ((g4 q.a q.b q.c q.d : Nat) : Int)) :: .bool (sg (divq q.a ((g4 q.a q.b q.c q.d : Nat) : Int))) :: .string (mg (divq q.a ((g4 q.a q.b q.c q.d : Nat) : Int))) :: .bool (sg (divr q.a ((g4 q.a q.b q.c q.d : Nat) : Int))) :: .string (mg (divr q.a ((g4 q.a q.b q.c q.d : Nat) : Int))) :: .bool (decide (((g4 q.a q.b q.c q.d : Nat) : Int) ≠ 0)) :: .bool (sg (divq q.b ((g4 q.a q.b q.c q.d : Nat) : Int))) :: .string (mg (divq q.b ((g4 q.a q.b q.c q.d : Nat) : Int))) :: .bool (sg (divr q.b ((g4 q.a q.b q.c q.d : Nat) : Int))) :: .string (mg (divr q.b ((g4 q.a q.b q.c q.d : Nat) : Int))) :: .bool (decide (((g4 q.a q.b q.c q.d : Nat) : Int) ≠ 0)) :: .bool (sg (divq q.c ((g4 q.a q.b q.c q.d : Nat) : Int))) :: .string (mg (divq q.c ((g4 q.a q.b q.c q.d : Nat) : Int))) :: .bool (sg (divr q.c ((g4 q.a q.b q.c q.d : Nat) : Int))) :: .string (mg (divr q.c ((g4 q.a q.b q.c q.d : Nat) : Int))) :: .bool (decide (((g4 q.a q.b q.c q.d : Nat) : Int) ≠ 0)) :: .bool (sg (divq q.d ((g4 q.a q.b q.c q.d : Nat) : Int))) :: .string (mg (divq q.d ((g4 q.a q.b q.c q.d : Nat) : Int))) :: .bool (sg (divr q.d ((g4 q.a q.b q.c q.d : Nat) : Int))) :: .string (mg (divr q.d ((g4 q.a q.b q.c q.d : Nat) : Int))) :: .bool (decide (((g4 q.a q.b q.c q.d : Nat) : Int) ≠ 0)) :: []) [] [.agg [.p (.at 0), .p (.at 1), .p (.at 2), .p (.at 3), .p (.at 4), .p (.at 5)], .agg [.p (.at 6), .p (.at 7)]] 8 (.one (.agg [.p (.at 10), .p (.at 11), .p (.at 15), .p (.at 16), .p (.at 20), .p (.at 21), .p (.at 25), .p (.at 26)])) [.call 69 [.c (.p (.slc 3 0 4 4))] (.one (.agg [.p (.at 8), .p (.at 9)])) [(3073, .p (.at 6)), (3074, .p (.at 7)), (3075, .p (.at 0)), (3076, .p (.at 1)), (3077, .p (.at 2)), (3078, .p (.at 3)), (3079, .p (.at 4)), (3080, .p (.at 5))], .call 70 [.agg [.p (.at 0), .p (.at 1)], .agg [.p (.at 8), .p (.at 9)]] (.tup [.agg [.p (.at 10), .p (.at 11)], .agg [.p (.at 12), .p (.at 13)], .c (.p (.at 14))]) [], .call 70 [.agg [.p (.at 2), .p (.at 3)], .agg [.p (.at 8), .p (.at 9)]] (.tup [.agg [.p (.at 15), .p (.at 16)], .agg [.p (.at 17), .p (.at 18)], .c (.p (.at 19))]) [], .call 70 [.agg [.p (.at 4), .p (.at 5)], .agg [.p (.at 8), .p (.at 9)]] (.tup [.agg [.p (.at 20), .p (.at 21)], .agg [.p (.at 22), .p (.at 23)], .c (.p (.at 24))]) [], .call 70 [.agg [.p (.at 6), .p (.at 7)], .agg [.p (.at 8), .p (.at 9)]] (.tup [.agg [.p (.at 25), .p (.at 26)], .agg [.p (.at 27), .p (.at 28)], .c (.p (.at 29))]) []] Tryd.func65 (by kernel_rfl) rfl (by kernel_rfl) rfl (by kernel_rfl)
    ⟨fun γ w' hb hm => by have h := GcdZ_any (some ⟨γ 3, 0, none⟩) [(b3, s3), (b0, s0), (b1, s1), (b2, s2)] 4 4 w' rfl (by simp) hsz (rdz4 (hm 3073 _ rfl) (hm 3074 _ rfl) (hm 3075 _ rfl) (hm 3076 _ rfl) (hm 3077 _ rfl) (hm 3078 _ rfl) (hm 3079 _ rfl) (hm 3080 _ rfl)) (hT.later hb); rw [hg] at h; exact h,
     fun γ w' _ _ => by have h := Div2_any b0 (sg ((g4 q.a q.b q.c q.d : Nat) : Int)) s0 (mg ((g4 q.a q.b q.c q.d : Nat) : Int)) w' (by omega) (by omega); rw [iv_Z, e0, divZ_eq] at h; exact h,
     fun γ w' _ _ => by have h := Div2_any b1 (sg ((g4 q.a q.b q.c q.d : Nat) : Int)) s1 (mg ((g4 q.a q.b q.c q.d : Nat) : Int)) w' (by omega) (by omega); rw [iv_Z, e1, divZ_eq] at h; exact h,
     fun γ w' _ _ => by have h := Div2_any b2 (sg ((g4 q.a q.b q.c q.d : Nat) : Int)) s2 (mg ((g4 q.a q.b q.c q.d : Nat) : Int)) w' (by omega) (by omega); rw [iv_Z, e2, divZ_eq] at h; exact h,
     fun γ w' _ _ => by have h := Div2_any b3 (sg ((g4 q.a q.b q.c q.d : Nat) : Int)) s3 (mg ((g4 q.a q.b q.c q.d : Nat) : Int)) w' (by omega) (by omega); rw [iv_Z, e3, divZ_eq] at h; exact h⟩
theorem reduced_any {b0 b1 b2 b3 : Bool} {s0 s1 s2 s3 : ByteArray} {q : Z4} {p : P3} {k : Nat} (h : IsF (.agg #[.bool b0, .string s0, .bool b1, .string s1, .bool b2, .string s2, .bool b3, .string s3]) q k) (hk : k ≤ 1000000) (hp : pt q = p) (hd : 0 < q.d) (w : World) (hT : TabC w) :
    Calls Tryd.prog 65 #[.agg #[.bool b0, .string s0, .bool b1, .string s1, .bool b2, .string s2], .agg #[.bool b3, .string s3]] w fun e w' => e = .returned (PV p) ∧ Below w.heap.size w w' := by
  have hi := h.in
  have h := reduced_raw b0 s0 b1 s1 b2 s2 b3 s3 q k w hi.1.2 hi.2.1.2 hi.2.2.1.2 hi.2.2.2.2 hk hi.1.1 hi.2.1.1 hi.2.2.1.1 hi.2.2.2.1 hT
  rw [← prim_divq (g4_last hd), ← PV_pos hd, hp] at h
  exact h
theorem pNormalize {ux0 : Value} {x0 : P3} {kx0 : Nat} (hx0 : IsP ux0 x0 kx0) (lx0 : kx0 ≤ 50000) (w : World) (hT : TabC w) :
    Calls Tryd.prog 51 #[ux0] w fun e w' => e = .returned (PV x0) ∧ Below w.heap.size w w' := by
  replace hx0 := hx0.up lx0
  have zx0 := hx0.sz (by decide)
  obtain ⟨x0q, hx0q, ex0⟩ := id hx0
  obtain ⟨x00, x01, x02, x03, x04, x05, x06, x07, rfl, ex00, sx01, ex01, sx03, ex02, sx05, ex03, sx07⟩ := id hx0q
  have wx00 : IsZ (.agg #[.bool x00, .string x01]) x0q.a 50000 := ⟨x00, x01, rfl, ex00, sx01⟩
  have zx00 := wx00.sz
  have wx01 : IsZ (.agg #[.bool x02, .string x03]) x0q.b 50000 := ⟨x02, x03, rfl, ex01, sx03⟩
  have zx01 := wx01.sz
  have wx02 : IsZ (.agg #[.bool x04, .string x05]) x0q.c 50000 := ⟨x04, x05, rfl, ex02, sx05⟩
  have zx02 := wx02.sz
  have wx03 : IsZ (.agg #[.bool x06, .string x07]) x0q.d 50000 := ⟨x06, x07, rfl, ex03, sx07⟩
  have zx03 := wx03.sz
  obtain ⟨t0_0, t0_1, t0_2, t0_3, t0_4, t0_5, t0_6, t0_7, t0_c, t0_h⟩ := parts_ex hx0q (by decide) (by decide)
  have t0_z := t0_h.sz
  have e1 : pt (turn x0q) = x0 := (by rw [pt_turn, ex0])
  have f2 : Pk x0 50000 := Pk.up (Pk.red e1 t0_z (by decide)) (by decide)
  exact SX.run (w := w) (List.flatten [[.bool x00, .string x01, .bool x02, .string x03, .bool x04, .string x05, .bool x06, .string x07, .bool t0_0, .string t0_1, .bool t0_2, .string t0_3, .bool t0_4, .string t0_5, .bool t0_6, .string t0_7], pc x0]) [] [.ga 0 8] 8 (.one (.ga 16 8)) [.call 64 [.ga 0 8] (.tup [.ga 8 6, .ga 14 2]) [], .call 65 [.ga 8 6, .ga 14 2] (.one (.ga 16 8)) []] Tryd.func51 (by kernel_rfl) rfl (by kernel_rfl) rfl (by kernel_rfl)
    ⟨fun γ w' _ _ => t0_c w',
     fun γ w' hb _ => reduced_any t0_h (by decide) e1 (turn_pos _) w' (hT.later hb)⟩
end Go.Proofs.YtfapglafeghggaaDoor
