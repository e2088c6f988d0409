/- voussoirref03: the functions without a loop. -/
import Derived.Test.YtdgppfccolhaeaaGreatDoorQ0
import Derived.Test.YtdgppfccolhaeaaGreatDoorFmtZ
import Derived.Test.YtdgppfccolhaeaaGreatDoorTextZ
set_option linter.unusedVariables false
set_option linter.unusedSimpArgs false
namespace Go.Proofs.YtdgppfccolhaeaaGreatDoor
open Go.RowKit NM SX
theorem rone_any  (w : World) :
    Calls Tryz.prog 84 #[] w fun e w' => e = .returned (Z 1) ∧ Below w.heap.size w w' := by
  have f1 : (mg (1 : Int)).size ≤ 8 := mg_size_le (by first | decide | omega)
  exact SX.run (w := w) [.bool (sg (1 : Int)), .string (mg (1 : Int))] [] [] 0 (.one (.agg [.p (.at 0), .p (.at 1)])) [.call 38 [.c (.p (.lit (.int .i64 1)))] (.one (.agg [.p (.at 0), .p (.at 1)])) []] Tryz.func84 (by kernel_rfl) rfl (by kernel_rfl) rfl (by kernel_rfl)
    fun γ w' _ _ => From_any 1 w' (by omega) (by omega)
theorem rabove_any (n : Bool) (s t : ByteArray) (w : World) (hs : s.size ≤ maxLen) :
    Calls Tryz.prog 94 #[.agg #[.bool n, .string s, .string t]] w fun e w' => e = .returned (Z (iv n s)) ∧ Below w.heap.size w w' := by
  exact SX.run (w := w) [.bool n, .string s, .string t, .bool (sg (iv n s)), .string (mg (iv n s))] [] [.agg [.p (.at 0), .p (.at 1), .p (.at 2)]] 3 (.one (.agg [.p (.at 3), .p (.at 4)])) [.call 42 [.agg [.p (.at 0), .p (.at 1)]] (.one (.agg [.p (.at 3), .p (.at 4)])) []] Tryz.func94 (by kernel_rfl) rfl (by kernel_rfl) rfl (by kernel_rfl)
    fun γ w' _ _ => refNorm2_any n s w' hs
theorem rbelow_zero (n : Bool) (s t : ByteArray) (w : World) (ht : t.size ≤ maxLen) (h : nat t = 0) :
    Calls Tryz.prog 95 #[.agg #[.bool n, .string s, .string t]] w fun e w' => e = .returned (Z 1) ∧ Below w.heap.size w w' := by
  have e : iv false t = 0 := by rw [iv_false, h]; rfl
  exact SX.run (w := w) [.bool n, .string s, .string t, .bool (sg (0 : Int)), .string (mg (0 : Int)), .bool true, .bool (sg (1 : Int)), .string (mg (1 : Int))] [.b true] [.agg [.p (.at 0), .p (.at 1), .p (.at 2)]] 3 (.one (.agg [.p (.at 6), .p (.at 7)])) [.call 42 [.agg [.p (.lit (.bool false)), .p (.at 2)]] (.one (.agg [.p (.at 3), .p (.at 4)])) [], .op2 false .eql (.p (.at 4)) (.p (.lit (.string ⟨#[]⟩))) 5, .isB 5 true, .call 84 [] (.one (.agg [.p (.at 6), .p (.at 7)])) []] Tryz.func95 (by kernel_rfl) rfl (by kernel_rfl) rfl (by kernel_rfl)
    ⟨fun γ w' _ _ => by have h := refNorm2_any false t w' ht; rw [e] at h; exact h,
     congrArg (fun z => some (Value.bool z)) (by rw [mg_beq_nil]; rfl : ((mg (0 : Int)).toList == (⟨#[]⟩ : ByteArray).toList) = true),
     rfl,
     fun γ w' _ _ => rone_any w'⟩
theorem rbelow_pos (n : Bool) (s t : ByteArray) (w : World) (ht : t.size ≤ maxLen) (h : nat t ≠ 0) :
    Calls Tryz.prog 95 #[.agg #[.bool n, .string s, .string t]] w fun e w' => e = .returned (Z ((nat t : Nat) : Int)) ∧ Below w.heap.size w w' := by
  exact SX.run (w := w) [.bool n, .string s, .string t, .bool (sg ((nat t : Nat) : Int)), .string (mg ((nat t : Nat) : Int)), .bool false] [.b false] [.agg [.p (.at 0), .p (.at 1), .p (.at 2)]] 3 (.one (.agg [.p (.at 3), .p (.at 4)])) [.call 42 [.agg [.p (.lit (.bool false)), .p (.at 2)]] (.one (.agg [.p (.at 3), .p (.at 4)])) [], .op2 false .eql (.p (.at 4)) (.p (.lit (.string ⟨#[]⟩))) 5, .isB 5 false] Tryz.func95 (by kernel_rfl) rfl (by kernel_rfl) rfl (by kernel_rfl)
    ⟨fun γ w' _ _ => refNorm2_any false t w' ht,
     congrArg (fun z => some (Value.bool z)) (by rw [mg_beq_nil]; exact decide_eq_false (by omega) : ((mg ((nat t : Nat) : Int)).toList == (⟨#[]⟩ : ByteArray).toList) = false),
     rfl⟩
theorem rbelow_any (n : Bool) (s t : ByteArray) (w : World) (ht : t.size ≤ maxLen) :
    Calls Tryz.prog 95 #[.agg #[.bool n, .string s, .string t]] w fun e w' => e = .returned (Z ((dn t : Nat) : Int)) ∧ Below w.heap.size w w' := by
  by_cases h : nat t = 0
  · rw [dn_zero h]; exact rbelow_zero n s t w ht h
  · rw [dn_ne h]; exact rbelow_pos n s t w ht h
theorem rMake_zero (n m : Bool) (s t : ByteArray) (N D : Int) (w : World) (hs : s.size ≤ 1048576) (ht : t.size ≤ 1048576) (hN : iv n s = N) (hD : iv m t = D) (h0 : D = 0) :
    Calls Tryz.prog 47 #[.agg #[.bool n, .string s], .agg #[.bool m, .string t]] w fun e w' => e = .returned (.tuple #[Q3 false ⟨#[]⟩ ⟨#[]⟩, .bool false]) ∧ Below w.heap.size w w' := by
  exact SX.run (w := w) [.bool n, .string s, .bool m, .string t, .bool (sg N), .string (mg N), .bool (sg D), .string (mg D), .bool true] [.b true] [.agg [.p (.at 0), .p (.at 1)], .agg [.p (.at 2), .p (.at 3)]] 4 (.tup [.agg [.p (.lit (.bool false)), .p (.lit (.string ⟨#[]⟩)), .p (.lit (.string ⟨#[]⟩))], .c (.p (.lit (.bool false)))]) [.call 42 [.agg [.p (.at 0), .p (.at 1)]] (.one (.agg [.p (.at 4), .p (.at 5)])) [], .call 42 [.agg [.p (.at 2), .p (.at 3)]] (.one (.agg [.p (.at 6), .p (.at 7)])) [], .op2 false .eql (.p (.at 7)) (.p (.lit (.string ⟨#[]⟩))) 8, .isB 8 true] Tryz.func47 (by kernel_rfl) rfl (by kernel_rfl) rfl (by kernel_rfl)
    ⟨fun γ w' _ _ => by have h := refNorm2_any n s w' (by simp [maxLen]; omega); rw [hN] at h; exact h,
     fun γ w' _ _ => by have h := refNorm2_any m t w' (by simp [maxLen]; omega); rw [hD] at h; exact h,
     congrArg (fun z => some (Value.bool z)) (by rw [mg_beq_nil]; exact decide_eq_true h0 : ((mg D).toList == (⟨#[]⟩ : ByteArray).toList) = true),
     rfl⟩
theorem rMake_tt (n m : Bool) (s t : ByteArray) (N D : Int) (w : World) (hs : s.size ≤ 1048576) (ht : t.size ≤ 1048576) (hN : iv n s = N) (hD : iv m t = D) (h0 : D ≠ 0) (G : Nat) (hg : Nat.gcd N.natAbs D.natAbs = G) (q1 : divZ (iv false (mg N)) (G : Int) = .tuple #[Z ((N.natAbs / G : Nat) : Int), Z 0, .bool true]) (q2 : divZ (iv false (mg D)) (G : Int) = .tuple #[Z ((D.natAbs / G : Nat) : Int), Z 0, .bool true]) (hA :  N.natAbs / G = 0) (hB :  D.natAbs / G = 1) :
    Calls Tryz.prog 47 #[.agg #[.bool n, .string s], .agg #[.bool m, .string t]] w fun e w' => e = .returned (.tuple #[Q3 false (mg ((N.natAbs / G : Nat) : Int)) ⟨#[]⟩, .bool true]) ∧ Below w.heap.size w w' := by
  have p1 : (mg N).size ≤ 1048576 := by rw [← hN]; exact mg_iv_size hs
  have p2 : (mg D).size ≤ 1048576 := by rw [← hD]; exact mg_iv_size ht
  have p3 : (mg ((G : Nat) : Int)).size ≤ 1048576 := by rw [← hg]; exact can_gcd_size p1 p2
  have hsz : ∀ x ∈ [(false, mg N), (false, mg D)], x.2.size ≤ 134217728 := by
    intro x hx
    simp only [List.mem_cons, List.not_mem_nil, or_false] at hx
    rcases hx with rfl | rfl <;> simp <;> omega
  exact SX.run (w := w) [.bool n, .string s, .bool m, .string t, .bool (sg N), .string (mg N), .bool (sg D), .string (mg D), .bool false, .bool (!((sg N) == (sg D))), .bool (sg ((G : Nat) : Int)), .string (mg ((G : Nat) : Int)), .bool (sg ((N.natAbs / G : Nat) : Int)), .string (mg ((N.natAbs / G : Nat) : Int)), .bool (sg (0 : Int)), .string (mg (0 : Int)), .bool true, .bool (sg ((D.natAbs / G : Nat) : Int)), .string (mg ((D.natAbs / G : Nat) : Int)), .bool (sg (0 : Int)), .string (mg (0 : Int)), .bool true, .bool true, .bool (sg (1 : Int)), .string (mg (1 : Int)), .bool true] [.b false, .b true, .b true] [.agg [.p (.at 0), .p (.at 1)], .agg [.p (.at 2), .p (.at 3)]] 4 (.tup [.agg [.p (.lit (.bool false)), .p (.at 13), .p (.lit (.string ⟨#[]⟩))], .c (.p (.lit (.bool true)))]) [.call 42 [.agg [.p (.at 0), .p (.at 1)]] (.one (.agg [.p (.at 4), .p (.at 5)])) [], .call 42 [.agg [.p (.at 2), .p (.at 3)]] (.one (.agg [.p (.at 6), .p (.at 7)])) [], .op2 false .eql (.p (.at 7)) (.p (.lit (.string ⟨#[]⟩))) 8, .isB 8 false, .op2 true .neq (.p (.at 4)) (.p (.at 6)) 9, .call 43 [.c (.p (.slc 3 0 2 2))] (.one (.agg [.p (.at 10), .p (.at 11)])) [(3073, .p (.lit (.bool false))), (3074, .p (.at 5)), (3075, .p (.lit (.bool false))), (3076, .p (.at 7))], .call 45 [.agg [.p (.lit (.bool false)), .p (.at 5)], .agg [.p (.at 10), .p (.at 11)]] (.tup [.agg [.p (.at 12), .p (.at 13)], .agg [.p (.at 14), .p (.at 15)], .c (.p (.at 16))]) [], .call 45 [.agg [.p (.lit (.bool false)), .p (.at 7)], .agg [.p (.at 10), .p (.at 11)]] (.tup [.agg [.p (.at 17), .p (.at 18)], .agg [.p (.at 19), .p (.at 20)], .c (.p (.at 21))]) [], .op2 false .eql (.p (.at 13)) (.p (.lit (.string ⟨#[]⟩))) 22, .isB 22 true, .call 84 [] (.one (.agg [.p (.at 23), .p (.at 24)])) [], .eqs false [.b, .s] [.p (.at 17), .p (.at 18)] [.p (.at 23), .p (.at 24)] 25, .isB 25 true] Tryz.func47 (by kernel_rfl) rfl (by kernel_rfl) rfl (by kernel_rfl)
    ⟨fun γ w' _ _ => by have h := refNorm2_any n s w' (by simp [maxLen]; omega); rw [hN] at h; exact h,
     fun γ w' _ _ => by have h := refNorm2_any m t w' (by simp [maxLen]; omega); rw [hD] at h; exact h,
     congrArg (fun z => some (Value.bool z)) (by rw [mg_beq_nil]; exact decide_eq_false h0 : ((mg D).toList == (⟨#[]⟩ : ByteArray).toList) = false),
     rfl,
     rfl,
     fun γ w' _ hm => by have h := refGcdZ_any (some ⟨γ 3, 0, none⟩) [(false, mg N), (false, mg D)] 2 2 w' rfl (by simp) hsz (rdz2 (hm 3073 _ rfl) (hm 3074 _ rfl) (hm 3075 _ rfl) (hm 3076 _ rfl)); rw [gcd_two, hg] at h; exact h,
     fun γ w' _ _ => by have h := refDiv2_any false (sg ((G : Nat) : Int)) (mg N) (mg ((G : Nat) : Int)) w' (by omega) (by omega); rw [iv_Z, q1] at h; exact h,
     fun γ w' _ _ => by have h := refDiv2_any false (sg ((G : Nat) : Int)) (mg D) (mg ((G : Nat) : Int)) w' (by omega) (by omega); rw [iv_Z, q2] at h; exact h,
     congrArg (fun z => some (Value.bool z)) (by rw [mg_beq_nil]; exact decide_eq_true (by omega) : ((mg ((N.natAbs / G : Nat) : Int)).toList == (⟨#[]⟩ : ByteArray).toList) = true),
     rfl,
     fun γ w' _ _ => rone_any w',
     ⟨rfl, rfl, show Value.bool true = Value.bool (false != eqL [.bool (sg ((D.natAbs / G : Nat) : Int)), .string (mg ((D.natAbs / G : Nat) : Int))] [.bool (sg (1 : Int)), .string (mg (1 : Int))]) from by rw [eqL_Z, decide_eq_true (by omega : ((D.natAbs / G : Nat) : Int) = (1 : Int))]; rfl⟩,
     rfl⟩
theorem rMake_tf (n m : Bool) (s t : ByteArray) (N D : Int) (w : World) (hs : s.size ≤ 1048576) (ht : t.size ≤ 1048576) (hN : iv n s = N) (hD : iv m t = D) (h0 : D ≠ 0) (G : Nat) (hg : Nat.gcd N.natAbs D.natAbs = G) (q1 : divZ (iv false (mg N)) (G : Int) = .tuple #[Z ((N.natAbs / G : Nat) : Int), Z 0, .bool true]) (q2 : divZ (iv false (mg D)) (G : Int) = .tuple #[Z ((D.natAbs / G : Nat) : Int), Z 0, .bool true]) (hA :  N.natAbs / G = 0) (hB : ¬ D.natAbs / G = 1) :
    Calls Tryz.prog 47 #[.agg #[.bool n, .string s], .agg #[.bool m, .string t]] w fun e w' => e = .returned (.tuple #[Q3 false (mg ((N.natAbs / G : Nat) : Int)) (mg ((D.natAbs / G : Nat) : Int)), .bool true]) ∧ Below w.heap.size w w' := by
  have p1 : (mg N).size ≤ 1048576 := by rw [← hN]; exact mg_iv_size hs
  have p2 : (mg D).size ≤ 1048576 := by rw [← hD]; exact mg_iv_size ht
  have p3 : (mg ((G : Nat) : Int)).size ≤ 1048576 := by rw [← hg]; exact can_gcd_size p1 p2
  have hsz : ∀ x ∈ [(false, mg N), (false, mg D)], x.2.size ≤ 134217728 := by
    intro x hx
    simp only [List.mem_cons, List.not_mem_nil, or_false] at hx
    rcases hx with rfl | rfl <;> simp <;> omega
  exact SX.run (w := w) [.bool n, .string s, .bool m, .string t, .bool (sg N), .string (mg N), .bool (sg D), .string (mg D), .bool false, .bool (!((sg N) == (sg D))), .bool (sg ((G : Nat) : Int)), .string (mg ((G : Nat) : Int)), .bool (sg ((N.natAbs / G : Nat) : Int)), .string (mg ((N.natAbs / G : Nat) : Int)), .bool (sg (0 : Int)), .string (mg (0 : Int)), .bool true, .bool (sg ((D.natAbs / G : Nat) : Int)), .string (mg ((D.natAbs / G : Nat) : Int)), .bool (sg (0 : Int)), .string (mg (0 : Int)), .bool true, .bool true, .bool (sg (1 : Int)), .string (mg (1 : Int)), .bool false] [.b false, .b true, .b false] [.agg [.p (.at 0), .p (.at 1)], .agg [.p (.at 2), .p (.at 3)]] 4 (.tup [.agg [.p (.lit (.bool false)), .p (.at 13), .p (.at 18)], .c (.p (.lit (.bool true)))]) [.call 42 [.agg [.p (.at 0), .p (.at 1)]] (.one (.agg [.p (.at 4), .p (.at 5)])) [], .call 42 [.agg [.p (.at 2), .p (.at 3)]] (.one (.agg [.p (.at 6), .p (.at 7)])) [], .op2 false .eql (.p (.at 7)) (.p (.lit (.string ⟨#[]⟩))) 8, .isB 8 false, .op2 true .neq (.p (.at 4)) (.p (.at 6)) 9, .call 43 [.c (.p (.slc 3 0 2 2))] (.one (.agg [.p (.at 10), .p (.at 11)])) [(3073, .p (.lit (.bool false))), (3074, .p (.at 5)), (3075, .p (.lit (.bool false))), (3076, .p (.at 7))], .call 45 [.agg [.p (.lit (.bool false)), .p (.at 5)], .agg [.p (.at 10), .p (.at 11)]] (.tup [.agg [.p (.at 12), .p (.at 13)], .agg [.p (.at 14), .p (.at 15)], .c (.p (.at 16))]) [], .call 45 [.agg [.p (.lit (.bool false)), .p (.at 7)], .agg [.p (.at 10), .p (.at 11)]] (.tup [.agg [.p (.at 17), .p (.at 18)], .agg [.p (.at 19), .p (.at 20)], .c (.p (.at 21))]) [], .op2 false .eql (.p (.at 13)) (.p (.lit (.string ⟨#[]⟩))) 22, .isB 22 true, .call 84 [] (.one (.agg [.p (.at 23), .p (.at 24)])) [], .eqs false [.b, .s] [.p (.at 17), .p (.at 18)] [.p (.at 23), .p (.at 24)] 25, .isB 25 false] Tryz.func47 (by kernel_rfl) rfl (by kernel_rfl) rfl (by kernel_rfl)
    ⟨fun γ w' _ _ => by have h := refNorm2_any n s w' (by simp [maxLen]; omega); rw [hN] at h; exact h,
     fun γ w' _ _ => by have h := refNorm2_any m t w' (by simp [maxLen]; omega); rw [hD] at h; exact h,
     congrArg (fun z => some (Value.bool z)) (by rw [mg_beq_nil]; exact decide_eq_false h0 : ((mg D).toList == (⟨#[]⟩ : ByteArray).toList) = false),
     rfl,
     rfl,
     fun γ w' _ hm => by have h := refGcdZ_any (some ⟨γ 3, 0, none⟩) [(false, mg N), (false, mg D)] 2 2 w' rfl (by simp) hsz (rdz2 (hm 3073 _ rfl) (hm 3074 _ rfl) (hm 3075 _ rfl) (hm 3076 _ rfl)); rw [gcd_two, hg] at h; exact h,
     fun γ w' _ _ => by have h := refDiv2_any false (sg ((G : Nat) : Int)) (mg N) (mg ((G : Nat) : Int)) w' (by omega) (by omega); rw [iv_Z, q1] at h; exact h,
     fun γ w' _ _ => by have h := refDiv2_any false (sg ((G : Nat) : Int)) (mg D) (mg ((G : Nat) : Int)) w' (by omega) (by omega); rw [iv_Z, q2] at h; exact h,
     congrArg (fun z => some (Value.bool z)) (by rw [mg_beq_nil]; exact decide_eq_true (by omega) : ((mg ((N.natAbs / G : Nat) : Int)).toList == (⟨#[]⟩ : ByteArray).toList) = true),
     rfl,
     fun γ w' _ _ => rone_any w',
     ⟨rfl, rfl, show Value.bool false = Value.bool (false != eqL [.bool (sg ((D.natAbs / G : Nat) : Int)), .string (mg ((D.natAbs / G : Nat) : Int))] [.bool (sg (1 : Int)), .string (mg (1 : Int))]) from by rw [eqL_Z, decide_eq_false (by omega : ¬ ((D.natAbs / G : Nat) : Int) = (1 : Int))]; rfl⟩,
     rfl⟩
theorem rMake_ft (n m : Bool) (s t : ByteArray) (N D : Int) (w : World) (hs : s.size ≤ 1048576) (ht : t.size ≤ 1048576) (hN : iv n s = N) (hD : iv m t = D) (h0 : D ≠ 0) (G : Nat) (hg : Nat.gcd N.natAbs D.natAbs = G) (q1 : divZ (iv false (mg N)) (G : Int) = .tuple #[Z ((N.natAbs / G : Nat) : Int), Z 0, .bool true]) (q2 : divZ (iv false (mg D)) (G : Int) = .tuple #[Z ((D.natAbs / G : Nat) : Int), Z 0, .bool true]) (hA : ¬ N.natAbs / G = 0) (hB :  D.natAbs / G = 1) :
    Calls Tryz.prog 47 #[.agg #[.bool n, .string s], .agg #[.bool m, .string t]] w fun e w' => e = .returned (.tuple #[Q3 (!(sg N == sg D)) (mg ((N.natAbs / G : Nat) : Int)) ⟨#[]⟩, .bool true]) ∧ Below w.heap.size w w' := by
  have p1 : (mg N).size ≤ 1048576 := by rw [← hN]; exact mg_iv_size hs
  have p2 : (mg D).size ≤ 1048576 := by rw [← hD]; exact mg_iv_size ht
  have p3 : (mg ((G : Nat) : Int)).size ≤ 1048576 := by rw [← hg]; exact can_gcd_size p1 p2
  have hsz : ∀ x ∈ [(false, mg N), (false, mg D)], x.2.size ≤ 134217728 := by
    intro x hx
    simp only [List.mem_cons, List.not_mem_nil, or_false] at hx
    rcases hx with rfl | rfl <;> simp <;> omega
  exact SX.run (w := w) [.bool n, .string s, .bool m, .string t, .bool (sg N), .string (mg N), .bool (sg D), .string (mg D), .bool false, .bool (!((sg N) == (sg D))), .bool (sg ((G : Nat) : Int)), .string (mg ((G : Nat) : Int)), .bool (sg ((N.natAbs / G : Nat) : Int)), .string (mg ((N.natAbs / G : Nat) : Int)), .bool (sg (0 : Int)), .string (mg (0 : Int)), .bool true, .bool (sg ((D.natAbs / G : Nat) : Int)), .string (mg ((D.natAbs / G : Nat) : Int)), .bool (sg (0 : Int)), .string (mg (0 : Int)), .bool true, .bool false, .bool (sg (1 : Int)), .string (mg (1 : Int)), .bool true] [.b false, .b false, .b true] [.agg [.p (.at 0), .p (.at 1)], .agg [.p (.at 2), .p (.at 3)]] 4 (.tup [.agg [.p (.at 9), .p (.at 13), .p (.lit (.string ⟨#[]⟩))], .c (.p (.lit (.bool true)))]) [.call 42 [.agg [.p (.at 0), .p (.at 1)]] (.one (.agg [.p (.at 4), .p (.at 5)])) [], .call 42 [.agg [.p (.at 2), .p (.at 3)]] (.one (.agg [.p (.at 6), .p (.at 7)])) [], .op2 false .eql (.p (.at 7)) (.p (.lit (.string ⟨#[]⟩))) 8, .isB 8 false, .op2 true .neq (.p (.at 4)) (.p (.at 6)) 9, .call 43 [.c (.p (.slc 3 0 2 2))] (.one (.agg [.p (.at 10), .p (.at 11)])) [(3073, .p (.lit (.bool false))), (3074, .p (.at 5)), (3075, .p (.lit (.bool false))), (3076, .p (.at 7))], .call 45 [.agg [.p (.lit (.bool false)), .p (.at 5)], .agg [.p (.at 10), .p (.at 11)]] (.tup [.agg [.p (.at 12), .p (.at 13)], .agg [.p (.at 14), .p (.at 15)], .c (.p (.at 16))]) [], .call 45 [.agg [.p (.lit (.bool false)), .p (.at 7)], .agg [.p (.at 10), .p (.at 11)]] (.tup [.agg [.p (.at 17), .p (.at 18)], .agg [.p (.at 19), .p (.at 20)], .c (.p (.at 21))]) [], .op2 false .eql (.p (.at 13)) (.p (.lit (.string ⟨#[]⟩))) 22, .isB 22 false, .call 84 [] (.one (.agg [.p (.at 23), .p (.at 24)])) [], .eqs false [.b, .s] [.p (.at 17), .p (.at 18)] [.p (.at 23), .p (.at 24)] 25, .isB 25 true] Tryz.func47 (by kernel_rfl) rfl (by kernel_rfl) rfl (by kernel_rfl)
    ⟨fun γ w' _ _ => by have h := refNorm2_any n s w' (by simp [maxLen]; omega); rw [hN] at h; exact h,
     fun γ w' _ _ => by have h := refNorm2_any m t w' (by simp [maxLen]; omega); rw [hD] at h; exact h,
     congrArg (fun z => some (Value.bool z)) (by rw [mg_beq_nil]; exact decide_eq_false h0 : ((mg D).toList == (⟨#[]⟩ : ByteArray).toList) = false),
     rfl,
     rfl,
     fun γ w' _ hm => by have h := refGcdZ_any (some ⟨γ 3, 0, none⟩) [(false, mg N), (false, mg D)] 2 2 w' rfl (by simp) hsz (rdz2 (hm 3073 _ rfl) (hm 3074 _ rfl) (hm 3075 _ rfl) (hm 3076 _ rfl)); rw [gcd_two, hg] at h; exact h,
     fun γ w' _ _ => by have h := refDiv2_any false (sg ((G : Nat) : Int)) (mg N) (mg ((G : Nat) : Int)) w' (by omega) (by omega); rw [iv_Z, q1] at h; exact h,
     fun γ w' _ _ => by have h := refDiv2_any false (sg ((G : Nat) : Int)) (mg D) (mg ((G : Nat) : Int)) w' (by omega) (by omega); rw [iv_Z, q2] at h; exact h,
     congrArg (fun z => some (Value.bool z)) (by rw [mg_beq_nil]; exact decide_eq_false (by omega) : ((mg ((N.natAbs / G : Nat) : Int)).toList == (⟨#[]⟩ : ByteArray).toList) = false),
     rfl,
     fun γ w' _ _ => rone_any w',
     ⟨rfl, rfl, show Value.bool true = Value.bool (false != eqL [.bool (sg ((D.natAbs / G : Nat) : Int)), .string (mg ((D.natAbs / G : Nat) : Int))] [.bool (sg (1 : Int)), .string (mg (1 : Int))]) from by rw [eqL_Z, decide_eq_true (by omega : ((D.natAbs / G : Nat) : Int) = (1 : Int))]; rfl⟩,
     rfl⟩
theorem rMake_ff (n m : Bool) (s t : ByteArray) (N D : Int) (w : World) (hs : s.size ≤ 1048576) (ht : t.size ≤ 1048576) (hN : iv n s = N) (hD : iv m t = D) (h0 : D ≠ 0) (G : Nat) (hg : Nat.gcd N.natAbs D.natAbs = G) (q1 : divZ (iv false (mg N)) (G : Int) = .tuple #[Z ((N.natAbs / G : Nat) : Int), Z 0, .bool true]) (q2 : divZ (iv false (mg D)) (G : Int) = .tuple #[Z ((D.natAbs / G : Nat) : Int), Z 0, .bool true]) (hA : ¬ N.natAbs / G = 0) (hB : ¬ D.natAbs / G = 1) :
    Calls Tryz.prog 47 #[.agg #[.bool n, .string s], .agg #[.bool m, .string t]] w fun e w' => e = .returned (.tuple #[Q3 (!(sg N == sg D)) (mg ((N.natAbs / G : Nat) : Int)) (mg ((D.natAbs / G : Nat) : Int)), .bool true]) ∧ Below w.heap.size w w' := by
  have p1 : (mg N).size ≤ 1048576 := by rw [← hN]; exact mg_iv_size hs
  have p2 : (mg D).size ≤ 1048576 := by rw [← hD]; exact mg_iv_size ht
  have p3 : (mg ((G : Nat) : Int)).size ≤ 1048576 := by rw [← hg]; exact can_gcd_size p1 p2
  have hsz : ∀ x ∈ [(false, mg N), (false, mg D)], x.2.size ≤ 134217728 := by
    intro x hx
    simp only [List.mem_cons, List.not_mem_nil, or_false] at hx
    rcases hx with rfl | rfl <;> simp <;> omega
  exact SX.run (w := w) [.bool n, .string s, .bool m, .string t, .bool (sg N), .string (mg N), .bool (sg D), .string (mg D), .bool false, .bool (!((sg N) == (sg D))), .bool (sg ((G : Nat) : Int)), .string (mg ((G : Nat) : Int)), .bool (sg ((N.natAbs / G : Nat) : Int)), .string (mg ((N.natAbs / G : Nat) : Int)), .bool (sg (0 : Int)), .string (mg (0 : Int)), .bool true, .bool (sg ((D.natAbs / G : Nat) : Int)), .string (mg ((D.natAbs / G : Nat) : Int)), .bool (sg (0 : Int)), .string (mg (0 : Int)), .bool true, .bool false, .bool (sg (1 : Int)), .string (mg (1 : Int)), .bool false] [.b false, .b false, .b false] [.agg [.p (.at 0), .p (.at 1)], .agg [.p (.at 2), .p (.at 3)]] 4 (.tup [.agg [.p (.at 9), .p (.at 13), .p (.at 18)], .c (.p (.lit (.bool true)))]) [.call 42 [.agg [.p (.at 0), .p (.at 1)]] (.one (.agg [.p (.at 4), .p (.at 5)])) [], .call 42 [.agg [.p (.at 2), .p (.at 3)]] (.one (.agg [.p (.at 6), .p (.at 7)])) [], .op2 false .eql (.p (.at 7)) (.p (.lit (.string ⟨#[]⟩))) 8, .isB 8 false, .op2 true .neq (.p (.at 4)) (.p (.at 6)) 9, .call 43 [.c (.p (.slc 3 0 2 2))] (.one (.agg [.p (.at 10), .p (.at 11)])) [(3073, .p (.lit (.bool false))), (3074, .p (.at 5)), (3075, .p (.lit (.bool false))), (3076, .p (.at 7))], .call 45 [.agg [.p (.lit (.bool false)), .p (.at 5)], .agg [.p (.at 10), .p (.at 11)]] (.tup [.agg [.p (.at 12), .p (.at 13)], .agg [.p (.at 14), .p (.at 15)], .c (.p (.at 16))]) [], .call 45 [.agg [.p (.lit (.bool false)), .p (.at 7)], .agg [.p (.at 10), .p (.at 11)]] (.tup [.agg [.p (.at 17), .p (.at 18)], .agg [.p (.at 19), .p (.at 20)], .c (.p (.at 21))]) [], .op2 false .eql (.p (.at 13)) (.p (.lit (.string ⟨#[]⟩))) 22, .isB 22 false, .call 84 [] (.one (.agg [.p (.at 23), .p (.at 24)])) [], .eqs false [.b, .s] [.p (.at 17), .p (.at 18)] [.p (.at 23), .p (.at 24)] 25, .isB 25 false] Tryz.func47 (by kernel_rfl) rfl (by kernel_rfl) rfl (by kernel_rfl)
    ⟨fun γ w' _ _ => by have h := refNorm2_any n s w' (by simp [maxLen]; omega); rw [hN] at h; exact h,
     fun γ w' _ _ => by have h := refNorm2_any m t w' (by simp [maxLen]; omega); rw [hD] at h; exact h,
     congrArg (fun z => some (Value.bool z)) (by rw [mg_beq_nil]; exact decide_eq_false h0 : ((mg D).toList == (⟨#[]⟩ : ByteArray).toList) = false),
     rfl,
     rfl,
     fun γ w' _ hm => by have h := refGcdZ_any (some ⟨γ 3, 0, none⟩) [(false, mg N), (false, mg D)] 2 2 w' rfl (by simp) hsz (rdz2 (hm 3073 _ rfl) (hm 3074 _ rfl) (hm 3075 _ rfl) (hm 3076 _ rfl)); rw [gcd_two, hg] at h; exact h,
     fun γ w' _ _ => by have h := refDiv2_any false (sg ((G : Nat) : Int)) (mg N) (mg ((G : Nat) : Int)) w' (by omega) (by omega); rw [iv_Z, q1] at h; exact h,
     fun γ w' _ _ => by have h := refDiv2_any false (sg ((G : Nat) : Int)) (mg D) (mg ((G : Nat) : Int)) w' (by omega) (by omega); rw [iv_Z, q2] at h; exact h,
     congrArg (fun z => some (Value.bool z)) (by rw [mg_beq_nil]; exact decide_eq_false (by omega) : ((mg ((N.natAbs / G : Nat) : Int)).toList == (⟨#[]⟩ : ByteArray).toList) = false),
     rfl,
     fun γ w' _ _ => rone_any w',
     ⟨rfl, rfl, show Value.bool false = Value.bool (false != eqL [.bool (sg ((D.natAbs / G : Nat) : Int)), .string (mg ((D.natAbs / G : Nat) : Int))] [.bool (sg (1 : Int)), .string (mg (1 : Int))]) from by rw [eqL_Z, decide_eq_false (by omega : ¬ ((D.natAbs / G : Nat) : Int) = (1 : Int))]; rfl⟩,
     rfl⟩
theorem rMake_any (n m : Bool) (s t : ByteArray) (w : World) (hs : s.size ≤ 1048576) (ht : t.size ≤ 1048576) :
    Calls Tryz.prog 47 #[.agg #[.bool n, .string s], .agg #[.bool m, .string t]] w fun e w' => e = .returned (makeV (iv n s) (iv m t)) ∧ Below w.heap.size w w' := by
  by_cases h0 : iv m t = 0
  · rw [makeV_zero h0]
    exact rMake_zero n m s t _ _ w hs ht rfl rfl h0
  · rw [makeV_pos h0, QV_parts h0]
    have hG0 : Nat.gcd (iv n s).natAbs (iv m t).natAbs ≠ 0 := by
      have := Nat.gcd_pos_of_pos_right (iv n s).natAbs (show 0 < (iv m t).natAbs by omega)
      omega
    have hd1 := Nat.gcd_dvd_left (iv n s).natAbs (iv m t).natAbs
    have hd2 := Nat.gcd_dvd_right (iv n s).natAbs (iv m t).natAbs
    generalize hg : Nat.gcd (iv n s).natAbs (iv m t).natAbs = G at *
    generalize hN : iv n s = N at *
    generalize hD : iv m t = D at *
    have e1 : iv false (mg N) = (N.natAbs : Int) := by rw [iv_false, nat_mg]
    have e2 : iv false (mg D) = (D.natAbs : Int) := by rw [iv_false, nat_mg]
    have q1 : divZ (iv false (mg N)) (G : Int) = .tuple #[Z ((N.natAbs / G : Nat) : Int), Z 0, .bool true] := by rw [e1]; exact quo_nat _ _ hG0 hd1
    have q2 : divZ (iv false (mg D)) (G : Int) = .tuple #[Z ((D.natAbs / G : Nat) : Int), Z 0, .bool true] := by rw [e2]; exact quo_nat _ _ hG0 hd2
    have hz : N = 0 ↔ N.natAbs / G = 0 := by
      constructor
      · intro h; rw [h]; exact Nat.zero_div _
      · intro h
        have := Nat.div_mul_cancel hd1
        rw [h, Nat.zero_mul] at this
        omega
    by_cases hA : N.natAbs / G = 0 <;> by_cases hB : D.natAbs / G = 1
    · rw [decide_eq_true (hz.2 hA), show dm (D.natAbs / G) = ⟨#[]⟩ from if_pos hB, Bool.not_true, Bool.and_false]
      exact rMake_tt n m s t N D w hs ht hN hD h0 G hg q1 q2 hA hB
    · rw [decide_eq_true (hz.2 hA), show dm (D.natAbs / G) = can (D.natAbs / G) from if_neg hB, Bool.not_true, Bool.and_false]
      exact rMake_tf n m s t N D w hs ht hN hD h0 G hg q1 q2 hA hB
    · rw [decide_eq_false (fun h => hA (hz.1 h)), show dm (D.natAbs / G) = ⟨#[]⟩ from if_pos hB, Bool.not_false, Bool.and_true]
      exact rMake_ft n m s t N D w hs ht hN hD h0 G hg q1 q2 hA hB
    · rw [decide_eq_false (fun h => hA (hz.1 h)), show dm (D.natAbs / G) = can (D.natAbs / G) from if_neg hB, Bool.not_false, Bool.and_true]
      exact rMake_ff n m s t N D w hs ht hN hD h0 G hg q1 q2 hA hB
theorem rNorm_any (n : Bool) (s t : ByteArray) (w : World) (hs : s.size ≤ 1048576) (ht : t.size ≤ 1048576) :
    Calls Tryz.prog 93 #[.agg #[.bool n, .string s, .string t]] w fun e w' => e = .returned (QV (rq n s t)) ∧ Below w.heap.size w w' := by
  have HM : makeV (iv n s) ((dn t : Nat) : Int) = .tuple #[QV (rq n s t), .bool true] := by rw [makeV_pos (by have := dn_pos t; omega)]; rfl
  have f1 : (mg (iv n s)).size ≤ 1048576 := mg_iv_size (n := n) hs
  have f2 : (mg ((dn t : Nat) : Int)).size ≤ 1048576 := dn_size ht (by omega)
  exact SX.run (w := w) [.bool n, .string s, .string t, .bool (sg (iv n s)), .string (mg (iv n s)), .bool (sg ((dn t : Nat) : Int)), .string (mg ((dn t : Nat) : Int)), .bool (sg (rq n s t).num), .string (mg (rq n s t).num), .string (dm (rq n s t).den), .bool true] [] [.agg [.p (.at 0), .p (.at 1), .p (.at 2)]] 3 (.one (.agg [.p (.at 7), .p (.at 8), .p (.at 9)])) [.call 94 [.agg [.p (.at 0), .p (.at 1), .p (.at 2)]] (.one (.agg [.p (.at 3), .p (.at 4)])) [], .call 95 [.agg [.p (.at 0), .p (.at 1), .p (.at 2)]] (.one (.agg [.p (.at 5), .p (.at 6)])) [], .call 47 [.agg [.p (.at 3), .p (.at 4)], .agg [.p (.at 5), .p (.at 6)]] (.tup [.agg [.p (.at 7), .p (.at 8), .p (.at 9)], .c (.p (.at 10))]) []] Tryz.func93 (by kernel_rfl) rfl (by kernel_rfl) rfl (by kernel_rfl)
    ⟨fun γ w' _ _ => by have h := rabove_any n s t w' (by simp [maxLen]; omega); (try simp only [iv_Z] at h); exact h,
     fun γ w' _ _ => rbelow_any n s t w' (by simp [maxLen]; omega),
     fun γ w' _ _ => by have h := rMake_any (sg (iv n s)) (sg ((dn t : Nat) : Int)) (mg (iv n s)) (mg ((dn t : Nat) : Int)) w' (by omega) (by omega); simp only [iv_Z] at h; rw [HM] at h; exact h⟩
theorem rParts_any (n : Bool) (s t : ByteArray) (w : World) (hs : s.size ≤ 1048576) (ht : t.size ≤ 1048576) :
    Calls Tryz.prog 54 #[.agg #[.bool n, .string s, .string t]] w fun e w' => e = .returned (.tuple #[Z (rq n s t).num, Z (((rq n s t).den : Nat) : Int)]) ∧ Below w.heap.size w w' := by
  have k0 := Rk.rq (n := n) hs ht (by omega)
  have k1 := k0.1
  have k2 := k0.dm
  have f1 : Rk (rq n s t) 1048576 := Rk.rq (n := n) (by omega) (by omega) (by omega)
  have f2 : (mg (rq n s t).num).size ≤ 1048576 := f1.1
  have f3 : (mg (((rq n s t).den : Nat) : Int)).size ≤ 1048576 := mg_den f1
  exact SX.run (w := w) [.bool n, .string s, .string t, .bool (sg (rq n s t).num), .string (mg (rq n s t).num), .string (dm (rq n s t).den), .bool (sg ((rq n s t).num)), .string (mg ((rq n s t).num)), .bool (sg (((rq n s t).den : Nat) : Int)), .string (mg (((rq n s t).den : Nat) : Int))] [] [.agg [.p (.at 0), .p (.at 1), .p (.at 2)]] 3 (.tup [.agg [.p (.at 6), .p (.at 7)], .agg [.p (.at 8), .p (.at 9)]]) [.call 93 [.agg [.p (.at 0), .p (.at 1), .p (.at 2)]] (.one (.agg [.p (.at 3), .p (.at 4), .p (.at 5)])) [], .call 94 [.agg [.p (.at 3), .p (.at 4), .p (.at 5)]] (.one (.agg [.p (.at 6), .p (.at 7)])) [], .call 95 [.agg [.p (.at 3), .p (.at 4), .p (.at 5)]] (.one (.agg [.p (.at 8), .p (.at 9)])) []] Tryz.func54 (by kernel_rfl) rfl (by kernel_rfl) rfl (by kernel_rfl)
    ⟨fun γ w' _ _ => rNorm_any n s t w' (by omega) (by omega),
     fun γ w' _ _ => by have h := rabove_any (sg (rq n s t).num) (mg (rq n s t).num) (dm (rq n s t).den) w' (by simp [maxLen]; omega); (try simp only [iv_Z] at h); exact h,
     fun γ w' _ _ => by have h := rbelow_any (sg (rq n s t).num) (mg (rq n s t).num) (dm (rq n s t).den) w' (by simp [maxLen]; omega); rw [dn_dm (Rat.den_nz _)] at h; exact h⟩
end Go.Proofs.YtdgppfccolhaeaaGreatDoor
