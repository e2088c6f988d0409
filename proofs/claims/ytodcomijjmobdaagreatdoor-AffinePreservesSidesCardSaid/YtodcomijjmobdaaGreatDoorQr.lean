/- voussoirref03: the functions without a loop. -/
import Derived.Test.YtodcomijjmobdaaGreatDoorQ0
import Derived.Test.YtodcomijjmobdaaGreatDoorDivZ
import Derived.Test.YtodcomijjmobdaaGreatDoorN4
import Derived.Test.YtodcomijjmobdaaGreatDoorShelf
import Derived.Lib.Strings
set_option linter.unusedVariables false
set_option linter.unusedSimpArgs false
namespace Go.Proofs.YtodcomijjmobdaaGreatDoor
open Go.RowKit NM SX
theorem rone_any  (w : World) :
    Calls Tryz.prog 128 #[] w fun e w' => e = .returned (Z 1) ∧ Below w.heap.size w w' := by
  have f1 : (mg (1 : Int)).size ≤ 8 := mg_size_le (by first | decide | omega)
  exact SX.run (w := w) [.bool (sg (1 : Int)), .string (mg (1 : Int))] [] [] 0 (.one (.agg [.p (.at 0), .p (.at 1)])) [.call 43 [.c (.p (.lit (.int .i64 1)))] (.one (.agg [.p (.at 0), .p (.at 1)])) []] Tryz.func128 (by kernel_rfl) rfl (by kernel_rfl) rfl (by kernel_rfl)
    fun γ w' _ _ => From_any 1 w' (by omega) (by omega)
theorem rabove_any (n : Bool) (s t : ByteArray) (w : World) (hs : s.size ≤ maxLen) :
    Calls Tryz.prog 114 #[.agg #[.bool n, .string s, .string t]] w fun e w' => e = .returned (Z (iv n s)) ∧ Below w.heap.size w w' := by
  exact SX.run (w := w) [.bool n, .string s, .string t, .bool (sg (iv n s)), .string (mg (iv n s))] [] [.agg [.p (.at 0), .p (.at 1), .p (.at 2)]] 3 (.one (.agg [.p (.at 3), .p (.at 4)])) [.call 41 [.agg [.p (.at 0), .p (.at 1)]] (.one (.agg [.p (.at 3), .p (.at 4)])) []] Tryz.func114 (by kernel_rfl) rfl (by kernel_rfl) rfl (by kernel_rfl)
    fun γ w' _ _ => refNorm2_any n s w' hs
theorem rbelow_zero (n : Bool) (s t : ByteArray) (w : World) (ht : t.size ≤ maxLen) (h : nat t = 0) :
    Calls Tryz.prog 116 #[.agg #[.bool n, .string s, .string t]] w fun e w' => e = .returned (Z 1) ∧ Below w.heap.size w w' := by
  have e : iv false t = 0 := by rw [iv_false, h]; rfl
  exact SX.run (w := w) [.bool n, .string s, .string t, .bool (sg (0 : Int)), .string (mg (0 : Int)), .bool true, .bool (sg (1 : Int)), .string (mg (1 : Int))] [.b true] [.agg [.p (.at 0), .p (.at 1), .p (.at 2)]] 3 (.one (.agg [.p (.at 6), .p (.at 7)])) [.call 41 [.agg [.p (.lit (.bool false)), .p (.at 2)]] (.one (.agg [.p (.at 3), .p (.at 4)])) [], .op2 false .eql (.p (.at 4)) (.p (.lit (.string ⟨#[]⟩))) 5, .isB 5 true, .call 128 [] (.one (.agg [.p (.at 6), .p (.at 7)])) []] Tryz.func116 (by kernel_rfl) rfl (by kernel_rfl) rfl (by kernel_rfl)
    ⟨fun γ w' _ _ => by have h := refNorm2_any false t w' ht; rw [e] at h; exact h,
     congrArg (fun z => some (Value.bool z)) (by rw [mg_beq_nil]; rfl : ((mg (0 : Int)).toList == (⟨#[]⟩ : ByteArray).toList) = true),
     rfl,
     fun γ w' _ _ => rone_any w'⟩
theorem rbelow_pos (n : Bool) (s t : ByteArray) (w : World) (ht : t.size ≤ maxLen) (h : nat t ≠ 0) :
    Calls Tryz.prog 116 #[.agg #[.bool n, .string s, .string t]] w fun e w' => e = .returned (Z ((nat t : Nat) : Int)) ∧ Below w.heap.size w w' := by
  exact SX.run (w := w) [.bool n, .string s, .string t, .bool (sg ((nat t : Nat) : Int)), .string (mg ((nat t : Nat) : Int)), .bool false] [.b false] [.agg [.p (.at 0), .p (.at 1), .p (.at 2)]] 3 (.one (.agg [.p (.at 3), .p (.at 4)])) [.call 41 [.agg [.p (.lit (.bool false)), .p (.at 2)]] (.one (.agg [.p (.at 3), .p (.at 4)])) [], .op2 false .eql (.p (.at 4)) (.p (.lit (.string ⟨#[]⟩))) 5, .isB 5 false] Tryz.func116 (by kernel_rfl) rfl (by kernel_rfl) rfl (by kernel_rfl)
    ⟨fun γ w' _ _ => refNorm2_any false t w' ht,
     congrArg (fun z => some (Value.bool z)) (by rw [mg_beq_nil]; exact decide_eq_false (by omega) : ((mg ((nat t : Nat) : Int)).toList == (⟨#[]⟩ : ByteArray).toList) = false),
     rfl⟩
theorem rbelow_any (n : Bool) (s t : ByteArray) (w : World) (ht : t.size ≤ maxLen) :
    Calls Tryz.prog 116 #[.agg #[.bool n, .string s, .string t]] w fun e w' => e = .returned (Z ((dn t : Nat) : Int)) ∧ Below w.heap.size w w' := by
  by_cases h : nat t = 0
  · rw [dn_zero h]; exact rbelow_zero n s t w ht h
  · rw [dn_ne h]; exact rbelow_pos n s t w ht h
theorem rMake_zero (n m : Bool) (s t : ByteArray) (N D : Int) (w : World) (hs : s.size ≤ 1048576) (ht : t.size ≤ 1048576) (hN : iv n s = N) (hD : iv m t = D) (h0 : D = 0) :
    Calls Tryz.prog 80 #[.agg #[.bool n, .string s], .agg #[.bool m, .string t]] w fun e w' => e = .returned (.tuple #[Q3 false ⟨#[]⟩ ⟨#[]⟩, .bool false]) ∧ Below w.heap.size w w' := by
  exact SX.run (w := w) [.bool n, .string s, .bool m, .string t, .bool (sg N), .string (mg N), .bool (sg D), .string (mg D), .bool true] [.b true] [.agg [.p (.at 0), .p (.at 1)], .agg [.p (.at 2), .p (.at 3)]] 4 (.tup [.agg [.p (.lit (.bool false)), .p (.lit (.string ⟨#[]⟩)), .p (.lit (.string ⟨#[]⟩))], .c (.p (.lit (.bool false)))]) [.call 41 [.agg [.p (.at 0), .p (.at 1)]] (.one (.agg [.p (.at 4), .p (.at 5)])) [], .call 41 [.agg [.p (.at 2), .p (.at 3)]] (.one (.agg [.p (.at 6), .p (.at 7)])) [], .op2 false .eql (.p (.at 7)) (.p (.lit (.string ⟨#[]⟩))) 8, .isB 8 true] Tryz.func80 (by kernel_rfl) rfl (by kernel_rfl) rfl (by kernel_rfl)
    ⟨fun γ w' _ _ => by have h := refNorm2_any n s w' (by simp [maxLen]; omega); rw [hN] at h; exact h,
     fun γ w' _ _ => by have h := refNorm2_any m t w' (by simp [maxLen]; omega); rw [hD] at h; exact h,
     congrArg (fun z => some (Value.bool z)) (by rw [mg_beq_nil]; exact decide_eq_true h0 : ((mg D).toList == (⟨#[]⟩ : ByteArray).toList) = true),
     rfl⟩
theorem rMake_tt (n m : Bool) (s t : ByteArray) (N D : Int) (w : World) (hs : s.size ≤ 1048576) (ht : t.size ≤ 1048576) (hN : iv n s = N) (hD : iv m t = D) (h0 : D ≠ 0) (G : Nat) (hg : Nat.gcd N.natAbs D.natAbs = G) (q1 : divZ (iv false (mg N)) (G : Int) = .tuple #[Z ((N.natAbs / G : Nat) : Int), Z 0, .bool true]) (q2 : divZ (iv false (mg D)) (G : Int) = .tuple #[Z ((D.natAbs / G : Nat) : Int), Z 0, .bool true]) (hA :  N.natAbs / G = 0) (hB :  D.natAbs / G = 1) :
    Calls Tryz.prog 80 #[.agg #[.bool n, .string s], .agg #[.bool m, .string t]] w fun e w' => e = .returned (.tuple #[Q3 false (mg ((N.natAbs / G : Nat) : Int)) ⟨#[]⟩, .bool true]) ∧ Below w.heap.size w w' := by
  have p1 : (mg N).size ≤ 1048576 := by rw [← hN]; exact mg_iv_size hs
  have p2 : (mg D).size ≤ 1048576 := by rw [← hD]; exact mg_iv_size ht
  have p3 : (mg ((G : Nat) : Int)).size ≤ 1048576 := by rw [← hg]; exact can_gcd_size p1 p2
  have hsz : ∀ x ∈ [(false, mg N), (false, mg D)], x.2.size ≤ 134217728 := by
    intro x hx
    simp only [List.mem_cons, List.not_mem_nil, or_false] at hx
    rcases hx with rfl | rfl <;> simp <;> omega
  exact SX.run (w := w) [.bool n, .string s, .bool m, .string t, .bool (sg N), .string (mg N), .bool (sg D), .string (mg D), .bool false, .bool (!((sg N) == (sg D))), .bool (sg ((G : Nat) : Int)), .string (mg ((G : Nat) : Int)), .bool (sg ((N.natAbs / G : Nat) : Int)), .string (mg ((N.natAbs / G : Nat) : Int)), .bool (sg (0 : Int)), .string (mg (0 : Int)), .bool true, .bool (sg ((D.natAbs / G : Nat) : Int)), .string (mg ((D.natAbs / G : Nat) : Int)), .bool (sg (0 : Int)), .string (mg (0 : Int)), .bool true, .bool true, .bool (sg (1 : Int)), .string (mg (1 : Int)), .bool true] [.b false, .b true, .b true] [.agg [.p (.at 0), .p (.at 1)], .agg [.p (.at 2), .p (.at 3)]] 4 (.tup [.agg [.p (.lit (.bool false)), .p (.at 13), .p (.lit (.string ⟨#[]⟩))], .c (.p (.lit (.bool true)))]) [.call 41 [.agg [.p (.at 0), .p (.at 1)]] (.one (.agg [.p (.at 4), .p (.at 5)])) [], .call 41 [.agg [.p (.at 2), .p (.at 3)]] (.one (.agg [.p (.at 6), .p (.at 7)])) [], .op2 false .eql (.p (.at 7)) (.p (.lit (.string ⟨#[]⟩))) 8, .isB 8 false, .op2 true .neq (.p (.at 4)) (.p (.at 6)) 9, .call 44 [.c (.p (.slc 3 0 2 2))] (.one (.agg [.p (.at 10), .p (.at 11)])) [(3073, .p (.lit (.bool false))), (3074, .p (.at 5)), (3075, .p (.lit (.bool false))), (3076, .p (.at 7))], .call 46 [.agg [.p (.lit (.bool false)), .p (.at 5)], .agg [.p (.at 10), .p (.at 11)]] (.tup [.agg [.p (.at 12), .p (.at 13)], .agg [.p (.at 14), .p (.at 15)], .c (.p (.at 16))]) [], .call 46 [.agg [.p (.lit (.bool false)), .p (.at 7)], .agg [.p (.at 10), .p (.at 11)]] (.tup [.agg [.p (.at 17), .p (.at 18)], .agg [.p (.at 19), .p (.at 20)], .c (.p (.at 21))]) [], .op2 false .eql (.p (.at 13)) (.p (.lit (.string ⟨#[]⟩))) 22, .isB 22 true, .call 128 [] (.one (.agg [.p (.at 23), .p (.at 24)])) [], .eqs false [.b, .s] [.p (.at 17), .p (.at 18)] [.p (.at 23), .p (.at 24)] 25, .isB 25 true] Tryz.func80 (by kernel_rfl) rfl (by kernel_rfl) rfl (by kernel_rfl)
    ⟨fun γ w' _ _ => by have h := refNorm2_any n s w' (by simp [maxLen]; omega); rw [hN] at h; exact h,
     fun γ w' _ _ => by have h := refNorm2_any m t w' (by simp [maxLen]; omega); rw [hD] at h; exact h,
     congrArg (fun z => some (Value.bool z)) (by rw [mg_beq_nil]; exact decide_eq_false h0 : ((mg D).toList == (⟨#[]⟩ : ByteArray).toList) = false),
     rfl,
     rfl,
     fun γ w' _ hm => by have h := refGcdZ_any (some ⟨γ 3, 0, none⟩) [(false, mg N), (false, mg D)] 2 2 w' rfl (by simp) hsz (rdz2 (hm 3073 _ rfl) (hm 3074 _ rfl) (hm 3075 _ rfl) (hm 3076 _ rfl)); rw [gcd_two, hg] at h; exact h,
     fun γ w' _ _ => by have h := refDiv2_any false (sg ((G : Nat) : Int)) (mg N) (mg ((G : Nat) : Int)) w' (by omega) (by omega); rw [iv_Z, q1] at h; exact h,
     fun γ w' _ _ => by have h := refDiv2_any false (sg ((G : Nat) : Int)) (mg D) (mg ((G : Nat) : Int)) w' (by omega) (by omega); rw [iv_Z, q2] at h; exact h,
     congrArg (fun z => some (Value.bool z)) (by rw [mg_beq_nil]; exact decide_eq_true (by omega) : ((mg ((N.natAbs / G : Nat) : Int)).toList == (⟨#[]⟩ : ByteArray).toList) = true),
     rfl,
     fun γ w' _ _ => rone_any w',
     ⟨rfl, rfl, show Value.bool true = Value.bool (false != eqL [.bool (sg ((D.natAbs / G : Nat) : Int)), .string (mg ((D.natAbs / G : Nat) : Int))] [.bool (sg (1 : Int)), .string (mg (1 : Int))]) from by rw [eqL_Z, decide_eq_true (by omega : ((D.natAbs / G : Nat) : Int) = (1 : Int))]; rfl⟩,
     rfl⟩
theorem rMake_tf (n m : Bool) (s t : ByteArray) (N D : Int) (w : World) (hs : s.size ≤ 1048576) (ht : t.size ≤ 1048576) (hN : iv n s = N) (hD : iv m t = D) (h0 : D ≠ 0) (G : Nat) (hg : Nat.gcd N.natAbs D.natAbs = G) (q1 : divZ (iv false (mg N)) (G : Int) = .tuple #[Z ((N.natAbs / G : Nat) : Int), Z 0, .bool true]) (q2 : divZ (iv false (mg D)) (G : Int) = .tuple #[Z ((D.natAbs / G : Nat) : Int), Z 0, .bool true]) (hA :  N.natAbs / G = 0) (hB : ¬ D.natAbs / G = 1) :
    Calls Tryz.prog 80 #[.agg #[.bool n, .string s], .agg #[.bool m, .string t]] w fun e w' => e = .returned (.tuple #[Q3 false (mg ((N.natAbs / G : Nat) : Int)) (mg ((D.natAbs / G : Nat) : Int)), .bool true]) ∧ Below w.heap.size w w' := by
  have p1 : (mg N).size ≤ 1048576 := by rw [← hN]; exact mg_iv_size hs
  have p2 : (mg D).size ≤ 1048576 := by rw [← hD]; exact mg_iv_size ht
  have p3 : (mg ((G : Nat) : Int)).size ≤ 1048576 := by rw [← hg]; exact can_gcd_size p1 p2
  have hsz : ∀ x ∈ [(false, mg N), (false, mg D)], x.2.size ≤ 134217728 := by
    intro x hx
    simp only [List.mem_cons, List.not_mem_nil, or_false] at hx
    rcases hx with rfl | rfl <;> simp <;> omega
  exact SX.run (w := w) [.bool n, .string s, .bool m, .string t, .bool (sg N), .string (mg N), .bool (sg D), .string (mg D), .bool false, .bool (!((sg N) == (sg D))), .bool (sg ((G : Nat) : Int)), .string (mg ((G : Nat) : Int)), .bool (sg ((N.natAbs / G : Nat) : Int)), .string (mg ((N.natAbs / G : Nat) : Int)), .bool (sg (0 : Int)), .string (mg (0 : Int)), .bool true, .bool (sg ((D.natAbs / G : Nat) : Int)), .string (mg ((D.natAbs / G : Nat) : Int)), .bool (sg (0 : Int)), .string (mg (0 : Int)), .bool true, .bool true, .bool (sg (1 : Int)), .string (mg (1 : Int)), .bool false] [.b false, .b true, .b false] [.agg [.p (.at 0), .p (.at 1)], .agg [.p (.at 2), .p (.at 3)]] 4 (.tup [.agg [.p (.lit (.bool false)), .p (.at 13), .p (.at 18)], .c (.p (.lit (.bool true)))]) [.call 41 [.agg [.p (.at 0), .p (.at 1)]] (.one (.agg [.p (.at 4), .p (.at 5)])) [], .call 41 [.agg [.p (.at 2), .p (.at 3)]] (.one (.agg [.p (.at 6), .p (.at 7)])) [], .op2 false .eql (.p (.at 7)) (.p (.lit (.string ⟨#[]⟩))) 8, .isB 8 false, .op2 true .neq (.p (.at 4)) (.p (.at 6)) 9, .call 44 [.c (.p (.slc 3 0 2 2))] (.one (.agg [.p (.at 10), .p (.at 11)])) [(3073, .p (.lit (.bool false))), (3074, .p (.at 5)), (3075, .p (.lit (.bool false))), (3076, .p (.at 7))], .call 46 [.agg [.p (.lit (.bool false)), .p (.at 5)], .agg [.p (.at 10), .p (.at 11)]] (.tup [.agg [.p (.at 12), .p (.at 13)], .agg [.p (.at 14), .p (.at 15)], .c (.p (.at 16))]) [], .call 46 [.agg [.p (.lit (.bool false)), .p (.at 7)], .agg [.p (.at 10), .p (.at 11)]] (.tup [.agg [.p (.at 17), .p (.at 18)], .agg [.p (.at 19), .p (.at 20)], .c (.p (.at 21))]) [], .op2 false .eql (.p (.at 13)) (.p (.lit (.string ⟨#[]⟩))) 22, .isB 22 true, .call 128 [] (.one (.agg [.p (.at 23), .p (.at 24)])) [], .eqs false [.b, .s] [.p (.at 17), .p (.at 18)] [.p (.at 23), .p (.at 24)] 25, .isB 25 false] Tryz.func80 (by kernel_rfl) rfl (by kernel_rfl) rfl (by kernel_rfl)
    ⟨fun γ w' _ _ => by have h := refNorm2_any n s w' (by simp [maxLen]; omega); rw [hN] at h; exact h,
     fun γ w' _ _ => by have h := refNorm2_any m t w' (by simp [maxLen]; omega); rw [hD] at h; exact h,
     congrArg (fun z => some (Value.bool z)) (by rw [mg_beq_nil]; exact decide_eq_false h0 : ((mg D).toList == (⟨#[]⟩ : ByteArray).toList) = false),
     rfl,
     rfl,
     fun γ w' _ hm => by have h := refGcdZ_any (some ⟨γ 3, 0, none⟩) [(false, mg N), (false, mg D)] 2 2 w' rfl (by simp) hsz (rdz2 (hm 3073 _ rfl) (hm 3074 _ rfl) (hm 3075 _ rfl) (hm 3076 _ rfl)); rw [gcd_two, hg] at h; exact h,
     fun γ w' _ _ => by have h := refDiv2_any false (sg ((G : Nat) : Int)) (mg N) (mg ((G : Nat) : Int)) w' (by omega) (by omega); rw [iv_Z, q1] at h; exact h,
     fun γ w' _ _ => by have h := refDiv2_any false (sg ((G : Nat) : Int)) (mg D) (mg ((G : Nat) : Int)) w' (by omega) (by omega); rw [iv_Z, q2] at h; exact h,
     congrArg (fun z => some (Value.bool z)) (by rw [mg_beq_nil]; exact decide_eq_true (by omega) : ((mg ((N.natAbs / G : Nat) : Int)).toList == (⟨#[]⟩ : ByteArray).toList) = true),
     rfl,
     fun γ w' _ _ => rone_any w',
     ⟨rfl, rfl, show Value.bool false = Value.bool (false != eqL [.bool (sg ((D.natAbs / G : Nat) : Int)), .string (mg ((D.natAbs / G : Nat) : Int))] [.bool (sg (1 : Int)), .string (mg (1 : Int))]) from by rw [eqL_Z, decide_eq_false (by omega : ¬ ((D.natAbs / G : Nat) : Int) = (1 : Int))]; rfl⟩,
     rfl⟩
theorem rMake_ft (n m : Bool) (s t : ByteArray) (N D : Int) (w : World) (hs : s.size ≤ 1048576) (ht : t.size ≤ 1048576) (hN : iv n s = N) (hD : iv m t = D) (h0 : D ≠ 0) (G : Nat) (hg : Nat.gcd N.natAbs D.natAbs = G) (q1 : divZ (iv false (mg N)) (G : Int) = .tuple #[Z ((N.natAbs / G : Nat) : Int), Z 0, .bool true]) (q2 : divZ (iv false (mg D)) (G : Int) = .tuple #[Z ((D.natAbs / G : Nat) : Int), Z 0, .bool true]) (hA : ¬ N.natAbs / G = 0) (hB :  D.natAbs / G = 1) :
    Calls Tryz.prog 80 #[.agg #[.bool n, .string s], .agg #[.bool m, .string t]] w fun e w' => e = .returned (.tuple #[Q3 (!(sg N == sg D)) (mg ((N.natAbs / G : Nat) : Int)) ⟨#[]⟩, .bool true]) ∧ Below w.heap.size w w' := by
  have p1 : (mg N).size ≤ 1048576 := by rw [← hN]; exact mg_iv_size hs
  have p2 : (mg D).size ≤ 1048576 := by rw [← hD]; exact mg_iv_size ht
  have p3 : (mg ((G : Nat) : Int)).size ≤ 1048576 := by rw [← hg]; exact can_gcd_size p1 p2
  have hsz : ∀ x ∈ [(false, mg N), (false, mg D)], x.2.size ≤ 134217728 := by
    intro x hx
    simp only [List.mem_cons, List.not_mem_nil, or_false] at hx
    rcases hx with rfl | rfl <;> simp <;> omega
  exact SX.run (w := w) [.bool n, .string s, .bool m, .string t, .bool (sg N), .string (mg N), .bool (sg D), .string (mg D), .bool false, .bool (!((sg N) == (sg D))), .bool (sg ((G : Nat) : Int)), .string (mg ((G : Nat) : Int)), .bool (sg ((N.natAbs / G : Nat) : Int)), .string (mg ((N.natAbs / G : Nat) : Int)), .bool (sg (0 : Int)), .string (mg (0 : Int)), .bool true, .bool (sg ((D.natAbs / G : Nat) : Int)), .string (mg ((D.natAbs / G : Nat) : Int)), .bool (sg (0 : Int)), .string (mg (0 : Int)), .bool true, .bool false, .bool (sg (1 : Int)), .string (mg (1 : Int)), .bool true] [.b false, .b false, .b true] [.agg [.p (.at 0), .p (.at 1)], .agg [.p (.at 2), .p (.at 3)]] 4 (.tup [.agg [.p (.at 9), .p (.at 13), .p (.lit (.string ⟨#[]⟩))], .c (.p (.lit (.bool true)))]) [.call 41 [.agg [.p (.at 0), .p (.at 1)]] (.one (.agg [.p (.at 4), .p (.at 5)])) [], .call 41 [.agg [.p (.at 2), .p (.at 3)]] (.one (.agg [.p (.at 6), .p (.at 7)])) [], .op2 false .eql (.p (.at 7)) (.p (.lit (.string ⟨#[]⟩))) 8, .isB 8 false, .op2 true .neq (.p (.at 4)) (.p (.at 6)) 9, .call 44 [.c (.p (.slc 3 0 2 2))] (.one (.agg [.p (.at 10), .p (.at 11)])) [(3073, .p (.lit (.bool false))), (3074, .p (.at 5)), (3075, .p (.lit (.bool false))), (3076, .p (.at 7))], .call 46 [.agg [.p (.lit (.bool false)), .p (.at 5)], .agg [.p (.at 10), .p (.at 11)]] (.tup [.agg [.p (.at 12), .p (.at 13)], .agg [.p (.at 14), .p (.at 15)], .c (.p (.at 16))]) [], .call 46 [.agg [.p (.lit (.bool false)), .p (.at 7)], .agg [.p (.at 10), .p (.at 11)]] (.tup [.agg [.p (.at 17), .p (.at 18)], .agg [.p (.at 19), .p (.at 20)], .c (.p (.at 21))]) [], .op2 false .eql (.p (.at 13)) (.p (.lit (.string ⟨#[]⟩))) 22, .isB 22 false, .call 128 [] (.one (.agg [.p (.at 23), .p (.at 24)])) [], .eqs false [.b, .s] [.p (.at 17), .p (.at 18)] [.p (.at 23), .p (.at 24)] 25, .isB 25 true] Tryz.func80 (by kernel_rfl) rfl (by kernel_rfl) rfl (by kernel_rfl)
    ⟨fun γ w' _ _ => by have h := refNorm2_any n s w' (by simp [maxLen]; omega); rw [hN] at h; exact h,
     fun γ w' _ _ => by have h := refNorm2_any m t w' (by simp [maxLen]; omega); rw [hD] at h; exact h,
     congrArg (fun z => some (Value.bool z)) (by rw [mg_beq_nil]; exact decide_eq_false h0 : ((mg D).toList == (⟨#[]⟩ : ByteArray).toList) = false),
     rfl,
     rfl,
     fun γ w' _ hm => by have h := refGcdZ_any (some ⟨γ 3, 0, none⟩) [(false, mg N), (false, mg D)] 2 2 w' rfl (by simp) hsz (rdz2 (hm 3073 _ rfl) (hm 3074 _ rfl) (hm 3075 _ rfl) (hm 3076 _ rfl)); rw [gcd_two, hg] at h; exact h,
     fun γ w' _ _ => by have h := refDiv2_any false (sg ((G : Nat) : Int)) (mg N) (mg ((G : Nat) : Int)) w' (by omega) (by omega); rw [iv_Z, q1] at h; exact h,
     fun γ w' _ _ => by have h := refDiv2_any false (sg ((G : Nat) : Int)) (mg D) (mg ((G : Nat) : Int)) w' (by omega) (by omega); rw [iv_Z, q2] at h; exact h,
     congrArg (fun z => some (Value.bool z)) (by rw [mg_beq_nil]; exact decide_eq_false (by omega) : ((mg ((N.natAbs / G : Nat) : Int)).toList == (⟨#[]⟩ : ByteArray).toList) = false),
     rfl,
     fun γ w' _ _ => rone_any w',
     ⟨rfl, rfl, show Value.bool true = Value.bool (false != eqL [.bool (sg ((D.natAbs / G : Nat) : Int)), .string (mg ((D.natAbs / G : Nat) : Int))] [.bool (sg (1 : Int)), .string (mg (1 : Int))]) from by rw [eqL_Z, decide_eq_true (by omega : ((D.natAbs / G : Nat) : Int) = (1 : Int))]; rfl⟩,
     rfl⟩
theorem rMake_ff (n m : Bool) (s t : ByteArray) (N D : Int) (w : World) (hs : s.size ≤ 1048576) (ht : t.size ≤ 1048576) (hN : iv n s = N) (hD : iv m t = D) (h0 : D ≠ 0) (G : Nat) (hg : Nat.gcd N.natAbs D.natAbs = G) (q1 : divZ (iv false (mg N)) (G : Int) = .tuple #[Z ((N.natAbs / G : Nat) : Int), Z 0, .bool true]) (q2 : divZ (iv false (mg D)) (G : Int) = .tuple #[Z ((D.natAbs / G : Nat) : Int), Z 0, .bool true]) (hA : ¬ N.natAbs / G = 0) (hB : ¬ D.natAbs / G = 1) :
    Calls Tryz.prog 80 #[.agg #[.bool n, .string s], .agg #[.bool m, .string t]] w fun e w' => e = .returned (.tuple #[Q3 (!(sg N == sg D)) (mg ((N.natAbs / G : Nat) : Int)) (mg ((D.natAbs / G : Nat) : Int)), .bool true]) ∧ Below w.heap.size w w' := by
  have p1 : (mg N).size ≤ 1048576 := by rw [← hN]; exact mg_iv_size hs
  have p2 : (mg D).size ≤ 1048576 := by rw [← hD]; exact mg_iv_size ht
  have p3 : (mg ((G : Nat) : Int)).size ≤ 1048576 := by rw [← hg]; exact can_gcd_size p1 p2
  have hsz : ∀ x ∈ [(false, mg N), (false, mg D)], x.2.size ≤ 134217728 := by
    intro x hx
    simp only [List.mem_cons, List.not_mem_nil, or_false] at hx
    rcases hx with rfl | rfl <;> simp <;> omega
  exact SX.run (w := w) [.bool n, .string s, .bool m, .string t, .bool (sg N), .string (mg N), .bool (sg D), .string (mg D), .bool false, .bool (!((sg N) == (sg D))), .bool (sg ((G : Nat) : Int)), .string (mg ((G : Nat) : Int)), .bool (sg ((N.natAbs / G : Nat) : Int)), .string (mg ((N.natAbs / G : Nat) : Int)), .bool (sg (0 : Int)), .string (mg (0 : Int)), .bool true, .bool (sg ((D.natAbs / G : Nat) : Int)), .string (mg ((D.natAbs / G : Nat) : Int)), .bool (sg (0 : Int)), .string (mg (0 : Int)), .bool true, .bool false, .bool (sg (1 : Int)), .string (mg (1 : Int)), .bool false] [.b false, .b false, .b false] [.agg [.p (.at 0), .p (.at 1)], .agg [.p (.at 2), .p (.at 3)]] 4 (.tup [.agg [.p (.at 9), .p (.at 13), .p (.at 18)], .c (.p (.lit (.bool true)))]) [.call 41 [.agg [.p (.at 0), .p (.at 1)]] (.one (.agg [.p (.at 4), .p (.at 5)])) [], .call 41 [.agg [.p (.at 2), .p (.at 3)]] (.one (.agg [.p (.at 6), .p (.at 7)])) [], .op2 false .eql (.p (.at 7)) (.p (.lit (.string ⟨#[]⟩))) 8, .isB 8 false, .op2 true .neq (.p (.at 4)) (.p (.at 6)) 9, .call 44 [.c (.p (.slc 3 0 2 2))] (.one (.agg [.p (.at 10), .p (.at 11)])) [(3073, .p (.lit (.bool false))), (3074, .p (.at 5)), (3075, .p (.lit (.bool false))), (3076, .p (.at 7))], .call 46 [.agg [.p (.lit (.bool false)), .p (.at 5)], .agg [.p (.at 10), .p (.at 11)]] (.tup [.agg [.p (.at 12), .p (.at 13)], .agg [.p (.at 14), .p (.at 15)], .c (.p (.at 16))]) [], .call 46 [.agg [.p (.lit (.bool false)), .p (.at 7)], .agg [.p (.at 10), .p (.at 11)]] (.tup [.agg [.p (.at 17), .p (.at 18)], .agg [.p (.at 19), .p (.at 20)], .c (.p (.at 21))]) [], .op2 false .eql (.p (.at 13)) (.p (.lit (.string ⟨#[]⟩))) 22, .isB 22 false, .call 128 [] (.one (.agg [.p (.at 23), .p (.at 24)])) [], .eqs false [.b, .s] [.p (.at 17), .p (.at 18)] [.p (.at 23), .p (.at 24)] 25, .isB 25 false] Tryz.func80 (by kernel_rfl) rfl (by kernel_rfl) rfl (by kernel_rfl)
    ⟨fun γ w' _ _ => by have h := refNorm2_any n s w' (by simp [maxLen]; omega); rw [hN] at h; exact h,
     fun γ w' _ _ => by have h := refNorm2_any m t w' (by simp [maxLen]; omega); rw [hD] at h; exact h,
     congrArg (fun z => some (Value.bool z)) (by rw [mg_beq_nil]; exact decide_eq_false h0 : ((mg D).toList == (⟨#[]⟩ : ByteArray).toList) = false),
     rfl,
     rfl,
     fun γ w' _ hm => by have h := refGcdZ_any (some ⟨γ 3, 0, none⟩) [(false, mg N), (false, mg D)] 2 2 w' rfl (by simp) hsz (rdz2 (hm 3073 _ rfl) (hm 3074 _ rfl) (hm 3075 _ rfl) (hm 3076 _ rfl)); rw [gcd_two, hg] at h; exact h,
     fun γ w' _ _ => by have h := refDiv2_any false (sg ((G : Nat) : Int)) (mg N) (mg ((G : Nat) : Int)) w' (by omega) (by omega); rw [iv_Z, q1] at h; exact h,
     fun γ w' _ _ => by have h := refDiv2_any false (sg ((G : Nat) : Int)) (mg D) (mg ((G : Nat) : Int)) w' (by omega) (by omega); rw [iv_Z, q2] at h; exact h,
     congrArg (fun z => some (Value.bool z)) (by rw [mg_beq_nil]; exact decide_eq_false (by omega) : ((mg ((N.natAbs / G : Nat) : Int)).toList == (⟨#[]⟩ : ByteArray).toList) = false),
     rfl,
     fun γ w' _ _ => rone_any w',
     ⟨rfl, rfl, show Value.bool false = Value.bool (false != eqL [.bool (sg ((D.natAbs / G : Nat) : Int)), .string (mg ((D.natAbs / G : Nat) : Int))] [.bool (sg (1 : Int)), .string (mg (1 : Int))]) from by rw [eqL_Z, decide_eq_false (by omega : ¬ ((D.natAbs / G : Nat) : Int) = (1 : Int))]; rfl⟩,
     rfl⟩
theorem rMake_any (n m : Bool) (s t : ByteArray) (w : World) (hs : s.size ≤ 1048576) (ht : t.size ≤ 1048576) :
    Calls Tryz.prog 80 #[.agg #[.bool n, .string s], .agg #[.bool m, .string t]] w fun e w' => e = .returned (makeV (iv n s) (iv m t)) ∧ Below w.heap.size w w' := by
  by_cases h0 : iv m t = 0
  · rw [makeV_zero h0]
    exact rMake_zero n m s t _ _ w hs ht rfl rfl h0
  · rw [makeV_pos h0, QV_parts h0]
    have hG0 : Nat.gcd (iv n s).natAbs (iv m t).natAbs ≠ 0 := by
      have := Nat.gcd_pos_of_pos_right (iv n s).natAbs (show 0 < (iv m t).natAbs by omega)
      omega
    have hd1 := Nat.gcd_dvd_left (iv n s).natAbs (iv m t).natAbs
    have hd2 := Nat.gcd_dvd_right (iv n s).natAbs (iv m t).natAbs
    generalize hg : Nat.gcd (iv n s).natAbs (iv m t).natAbs = G at *
    generalize hN : iv n s = N at *
    generalize hD : iv m t = D at *
    have e1 : iv false (mg N) = (N.natAbs : Int) := by rw [iv_false, nat_mg]
    have e2 : iv false (mg D) = (D.natAbs : Int) := by rw [iv_false, nat_mg]
    have q1 : divZ (iv false (mg N)) (G : Int) = .tuple #[Z ((N.natAbs / G : Nat) : Int), Z 0, .bool true] := by rw [e1]; exact quo_nat _ _ hG0 hd1
    have q2 : divZ (iv false (mg D)) (G : Int) = .tuple #[Z ((D.natAbs / G : Nat) : Int), Z 0, .bool true] := by rw [e2]; exact quo_nat _ _ hG0 hd2
    have hz : N = 0 ↔ N.natAbs / G = 0 := by
      constructor
      · intro h; rw [h]; exact Nat.zero_div _
      · intro h
        have := Nat.div_mul_cancel hd1
        rw [h, Nat.zero_mul] at this
        omega
    by_cases hA : N.natAbs / G = 0 <;> by_cases hB : D.natAbs / G = 1
    · rw [decide_eq_true (hz.2 hA), show dm (D.natAbs / G) = ⟨#[]⟩ from if_pos hB, Bool.not_true, Bool.and_false]
      exact rMake_tt n m s t N D w hs ht hN hD h0 G hg q1 q2 hA hB
    · rw [decide_eq_true (hz.2 hA), show dm (D.natAbs / G) = can (D.natAbs / G) from if_neg hB, Bool.not_true, Bool.and_false]
      exact rMake_tf n m s t N D w hs ht hN hD h0 G hg q1 q2 hA hB
    · rw [decide_eq_false (fun h => hA (hz.1 h)), show dm (D.natAbs / G) = ⟨#[]⟩ from if_pos hB, Bool.not_false, Bool.and_true]
      exact rMake_ft n m s t N D w hs ht hN hD h0 G hg q1 q2 hA hB
    · rw [decide_eq_false (fun h => hA (hz.1 h)), show dm (D.natAbs / G) = can (D.natAbs / G) from if_neg hB, Bool.not_false, Bool.and_true]
      exact rMake_ff n m s t N D w hs ht hN hD h0 G hg q1 q2 hA hB
theorem rNorm_any (n : Bool) (s t : ByteArray) (w : World) (hs : s.size ≤ 1048576) (ht : t.size ≤ 1048576) :
    Calls Tryz.prog 71 #[.agg #[.bool n, .string s, .string t]] w fun e w' => e = .returned (QV (rq n s t)) ∧ Below w.heap.size w w' := by
  have HM : makeV (iv n s) ((dn t : Nat) : Int) = .tuple #[QV (rq n s t), .bool true] := by rw [makeV_pos (by have := dn_pos t; omega)]; rfl
  have f1 : (mg (iv n s)).size ≤ 1048576 := mg_iv_size (n := n) hs
  have f2 : (mg ((dn t : Nat) : Int)).size ≤ 1048576 := dn_size ht (by omega)
  exact SX.run (w := w) [.bool n, .string s, .string t, .bool (sg (iv n s)), .string (mg (iv n s)), .bool (sg ((dn t : Nat) : Int)), .string (mg ((dn t : Nat) : Int)), .bool (sg (rq n s t).num), .string (mg (rq n s t).num), .string (dm (rq n s t).den), .bool true] [] [.agg [.p (.at 0), .p (.at 1), .p (.at 2)]] 3 (.one (.agg [.p (.at 7), .p (.at 8), .p (.at 9)])) [.call 114 [.agg [.p (.at 0), .p (.at 1), .p (.at 2)]] (.one (.agg [.p (.at 3), .p (.at 4)])) [], .call 116 [.agg [.p (.at 0), .p (.at 1), .p (.at 2)]] (.one (.agg [.p (.at 5), .p (.at 6)])) [], .call 80 [.agg [.p (.at 3), .p (.at 4)], .agg [.p (.at 5), .p (.at 6)]] (.tup [.agg [.p (.at 7), .p (.at 8), .p (.at 9)], .c (.p (.at 10))]) []] Tryz.func71 (by kernel_rfl) rfl (by kernel_rfl) rfl (by kernel_rfl)
    ⟨fun γ w' _ _ => by have h := rabove_any n s t w' (by simp [maxLen]; omega); (try simp only [iv_Z] at h); exact h,
     fun γ w' _ _ => rbelow_any n s t w' (by simp [maxLen]; omega),
     fun γ w' _ _ => by have h := rMake_any (sg (iv n s)) (sg ((dn t : Nat) : Int)) (mg (iv n s)) (mg ((dn t : Nat) : Int)) w' (by omega) (by omega); simp only [iv_Z] at h; rw [HM] at h; exact h⟩
theorem rNeg_any (n : Bool) (s t : ByteArray) (w : World) (hs : s.size ≤ 100000) (ht : t.size ≤ 100000) :
    Calls Tryz.prog 54 #[.agg #[.bool n, .string s, .string t]] w fun e w' => e = .returned (QV (-rq n s t)) ∧ Below w.heap.size w w' := by
  have HM : makeV (-iv n s) ((dn t : Nat) : Int) = .tuple #[QV (-rq n s t), .bool true] := by rw [makeV_pos (by have := dn_pos t; omega), show Rat.divInt (-iv n s) ((dn t : Nat) : Int) = -rq n s t from (Rat.neg_mkRat _ _).symm]
  have f1 : (mg (iv n s)).size ≤ 100000 := mg_iv_size (n := n) hs
  have f2 : (mg (-(iv n s))).size ≤ 100000 := mg_neg_size f1
  have f3 : (mg ((dn t : Nat) : Int)).size ≤ 100000 := dn_size ht (by omega)
  exact SX.run (w := w) [.bool n, .string s, .string t, .bool (sg (iv n s)), .string (mg (iv n s)), .bool (sg (-(iv n s))), .string (mg (-(iv n s))), .bool (sg ((dn t : Nat) : Int)), .string (mg ((dn t : Nat) : Int)), .bool (sg (-rq n s t).num), .string (mg (-rq n s t).num), .string (dm (-rq n s t).den), .bool true] [] [.agg [.p (.at 0), .p (.at 1), .p (.at 2)]] 3 (.one (.agg [.p (.at 9), .p (.at 10), .p (.at 11)])) [.call 114 [.agg [.p (.at 0), .p (.at 1), .p (.at 2)]] (.one (.agg [.p (.at 3), .p (.at 4)])) [], .call 45 [.agg [.p (.at 3), .p (.at 4)]] (.one (.agg [.p (.at 5), .p (.at 6)])) [], .call 116 [.agg [.p (.at 0), .p (.at 1), .p (.at 2)]] (.one (.agg [.p (.at 7), .p (.at 8)])) [], .call 80 [.agg [.p (.at 5), .p (.at 6)], .agg [.p (.at 7), .p (.at 8)]] (.tup [.agg [.p (.at 9), .p (.at 10), .p (.at 11)], .c (.p (.at 12))]) []] Tryz.func54 (by kernel_rfl) rfl (by kernel_rfl) rfl (by kernel_rfl)
    ⟨fun γ w' _ _ => by have h := rabove_any n s t w' (by simp [maxLen]; omega); (try simp only [iv_Z] at h); exact h,
     fun γ w' _ _ => by have h := refNeg2_any (sg (iv n s)) (mg (iv n s)) w' (by simp [maxLen]; omega); (try simp only [iv_Z] at h); exact h,
     fun γ w' _ _ => rbelow_any n s t w' (by simp [maxLen]; omega),
     fun γ w' _ _ => by have h := rMake_any (sg (-(iv n s))) (sg ((dn t : Nat) : Int)) (mg (-(iv n s))) (mg ((dn t : Nat) : Int)) w' (by omega) (by omega); simp only [iv_Z] at h; rw [HM] at h; exact h⟩
theorem rAdd_any (n : Bool) (s t : ByteArray) (m : Bool) (p q : ByteArray) (w : World) (hs : s.size ≤ 100000) (ht : t.size ≤ 100000) (hp : p.size ≤ 100000) (hq : q.size ≤ 100000) :
    Calls Tryz.prog 66 #[.agg #[.bool n, .string s, .string t], .agg #[.bool m, .string p, .string q]] w fun e w' => e = .returned (QV (rq n s t + rq m p q)) ∧ Below w.heap.size w w' := by
  have HM : makeV (iv n s * ((dn q : Nat) : Int) + iv m p * ((dn t : Nat) : Int)) (((dn t : Nat) : Int) * ((dn q : Nat) : Int)) = .tuple #[QV (rq n s t + rq m p q), .bool true] := by rw [makeV_pos (by have h1 := dn_pos t; have h2 := dn_pos q; exact Int.mul_ne_zero (by omega) (by omega)), divInt_add _ _ _ _ (by have := dn_pos t; omega) (by have := dn_pos q; omega)]; rfl
  have f1 : (mg (iv n s)).size ≤ 100000 := mg_iv_size (n := n) hs
  have f2 : (mg ((dn q : Nat) : Int)).size ≤ 100000 := dn_size hq (by omega)
  have f3 : (mg ((iv n s) * ((dn q : Nat) : Int))).size ≤ 200000 := mg_mul_size f1 f2
  have f4 : (mg (iv m p)).size ≤ 100000 := mg_iv_size (n := m) hp
  have f5 : (mg ((dn t : Nat) : Int)).size ≤ 100000 := dn_size ht (by omega)
  have f6 : (mg ((iv m p) * ((dn t : Nat) : Int))).size ≤ 200000 := mg_mul_size f4 f5
  have f7 : (mg (((iv n s) * ((dn q : Nat) : Int)) + ((iv m p) * ((dn t : Nat) : Int)))).size ≤ 200001 := mg_add_size (k := 200000) (by omega) (by omega)
  have f8 : (mg (((dn t : Nat) : Int) * ((dn q : Nat) : Int))).size ≤ 200000 := mg_mul_size f5 f2
  exact SX.run (w := w) [.bool n, .string s, .string t, .bool m, .string p, .string q, .bool (sg (iv n s)), .string (mg (iv n s)), .bool (sg ((dn q : Nat) : Int)), .string (mg ((dn q : Nat) : Int)), .bool (sg ((iv n s) * ((dn q : Nat) : Int))), .string (mg ((iv n s) * ((dn q : Nat) : Int))), .bool (sg (iv m p)), .string (mg (iv m p)), .bool (sg ((dn t : Nat) : Int)), .string (mg ((dn t : Nat) : Int)), .bool (sg ((iv m p) * ((dn t : Nat) : Int))), .string (mg ((iv m p) * ((dn t : Nat) : Int))), .bool (sg (((iv n s) * ((dn q : Nat) : Int)) + ((iv m p) * ((dn t : Nat) : Int)))), .string (mg (((iv n s) * ((dn q : Nat) : Int)) + ((iv m p) * ((dn t : Nat) : Int)))), .bool (sg ((dn t : Nat) : Int)), .string (mg ((dn t : Nat) : Int)), .bool (sg ((dn q : Nat) : Int)), .string (mg ((dn q : Nat) : Int)), .bool (sg (((dn t : Nat) : Int) * ((dn q : Nat) : Int))), .string (mg (((dn t : Nat) : Int) * ((dn q : Nat) : Int))), .bool (sg (rq n s t + rq m p q).num), .string (mg (rq n s t + rq m p q).num), .string (dm (rq n s t + rq m p q).den), .bool true] [] [.agg [.p (.at 0), .p (.at 1), .p (.at 2)], .agg [.p (.at 3), .p (.at 4), .p (.at 5)]] 6 (.one (.agg [.p (.at 26), .p (.at 27), .p (.at 28)])) [.call 114 [.agg [.p (.at 0), .p (.at 1), .p (.at 2)]] (.one (.agg [.p (.at 6), .p (.at 7)])) [], .call 116 [.agg [.p (.at 3), .p (.at 4), .p (.at 5)]] (.one (.agg [.p (.at 8), .p (.at 9)])) [], .call 115 [.agg [.p (.at 6), .p (.at 7)], .agg [.p (.at 8), .p (.at 9)]] (.one (.agg [.p (.at 10), .p (.at 11)])) [], .call 114 [.agg [.p (.at 3), .p (.at 4), .p (.at 5)]] (.one (.agg [.p (.at 12), .p (.at 13)])) [], .call 116 [.agg [.p (.at 0), .p (.at 1), .p (.at 2)]] (.one (.agg [.p (.at 14), .p (.at 15)])) [], .call 115 [.agg [.p (.at 12), .p (.at 13)], .agg [.p (.at 14), .p (.at 15)]] (.one (.agg [.p (.at 16), .p (.at 17)])) [], .call 106 [.agg [.p (.at 10), .p (.at 11)], .agg [.p (.at 16), .p (.at 17)]] (.one (.agg [.p (.at 18), .p (.at 19)])) [], .call 116 [.agg [.p (.at 0), .p (.at 1), .p (.at 2)]] (.one (.agg [.p (.at 20), .p (.at 21)])) [], .call 116 [.agg [.p (.at 3), .p (.at 4), .p (.at 5)]] (.one (.agg [.p (.at 22), .p (.at 23)])) [], .call 115 [.agg [.p (.at 20), .p (.at 21)], .agg [.p (.at 22), .p (.at 23)]] (.one (.agg [.p (.at 24), .p (.at 25)])) [], .call 80 [.agg [.p (.at 18), .p (.at 19)], .agg [.p (.at 24), .p (.at 25)]] (.tup [.agg [.p (.at 26), .p (.at 27), .p (.at 28)], .c (.p (.at 29))]) []] Tryz.func66 (by kernel_rfl) rfl (by kernel_rfl) rfl (by kernel_rfl)
    ⟨fun γ w' _ _ => by have h := rabove_any n s t w' (by simp [maxLen]; omega); (try simp only [iv_Z] at h); exact h,
     fun γ w' _ _ => rbelow_any m p q w' (by simp [maxLen]; omega),
     fun γ w' _ _ => by have h := refMul2_any (sg (iv n s)) (sg ((dn q : Nat) : Int)) (mg (iv n s)) (mg ((dn q : Nat) : Int)) w' (by omega) (by omega); (try simp only [iv_Z] at h); exact h,
     fun γ w' _ _ => by have h := rabove_any m p q w' (by simp [maxLen]; omega); (try simp only [iv_Z] at h); exact h,
     fun γ w' _ _ => rbelow_any n s t w' (by simp [maxLen]; omega),
     fun γ w' _ _ => by have h := refMul2_any (sg (iv m p)) (sg ((dn t : Nat) : Int)) (mg (iv m p)) (mg ((dn t : Nat) : Int)) w' (by omega) (by omega); (try simp only [iv_Z] at h); exact h,
     fun γ w' _ _ => by have h := refAdd2_any (sg ((iv n s) * ((dn q : Nat) : Int))) (sg ((iv m p) * ((dn t : Nat) : Int))) (mg ((iv n s) * ((dn q : Nat) : Int))) (mg ((iv m p) * ((dn t : Nat) : Int))) w' (by omega) (by omega); (try simp only [iv_Z] at h); exact h,
     fun γ w' _ _ => rbelow_any n s t w' (by simp [maxLen]; omega),
     fun γ w' _ _ => rbelow_any m p q w' (by simp [maxLen]; omega),
     fun γ w' _ _ => by have h := refMul2_any (sg ((dn t : Nat) : Int)) (sg ((dn q : Nat) : Int)) (mg ((dn t : Nat) : Int)) (mg ((dn q : Nat) : Int)) w' (by omega) (by omega); (try simp only [iv_Z] at h); exact h,
     fun γ w' _ _ => by have h := rMake_any (sg (((iv n s) * ((dn q : Nat) : Int)) + ((iv m p) * ((dn t : Nat) : Int)))) (sg (((dn t : Nat) : Int) * ((dn q : Nat) : Int))) (mg (((iv n s) * ((dn q : Nat) : Int)) + ((iv m p) * ((dn t : Nat) : Int)))) (mg (((dn t : Nat) : Int) * ((dn q : Nat) : Int))) w' (by omega) (by omega); simp only [iv_Z] at h; rw [HM] at h; exact h⟩
theorem rMul_any (n : Bool) (s t : ByteArray) (m : Bool) (p q : ByteArray) (w : World) (hs : s.size ≤ 100000) (ht : t.size ≤ 100000) (hp : p.size ≤ 100000) (hq : q.size ≤ 100000) :
    Calls Tryz.prog 67 #[.agg #[.bool n, .string s, .string t], .agg #[.bool m, .string p, .string q]] w fun e w' => e = .returned (QV (rq n s t * rq m p q)) ∧ Below w.heap.size w w' := by
  have HM : makeV (iv n s * iv m p) (((dn t : Nat) : Int) * ((dn q : Nat) : Int)) = .tuple #[QV (rq n s t * rq m p q), .bool true] := by rw [makeV_pos (by have h1 := dn_pos t; have h2 := dn_pos q; exact Int.mul_ne_zero (by omega) (by omega)), ← Rat.divInt_mul_divInt]; rfl
  have f1 : (mg (iv n s)).size ≤ 100000 := mg_iv_size (n := n) hs
  have f2 : (mg (iv m p)).size ≤ 100000 := mg_iv_size (n := m) hp
  have f3 : (mg ((iv n s) * (iv m p))).size ≤ 200000 := mg_mul_size f1 f2
  have f4 : (mg ((dn t : Nat) : Int)).size ≤ 100000 := dn_size ht (by omega)
  have f5 : (mg ((dn q : Nat) : Int)).size ≤ 100000 := dn_size hq (by omega)
  have f6 : (mg (((dn t : Nat) : Int) * ((dn q : Nat) : Int))).size ≤ 200000 := mg_mul_size f4 f5
  exact SX.run (w := w) [.bool n, .string s, .string t, .bool m, .string p, .string q, .bool (sg (iv n s)), .string (mg (iv n s)), .bool (sg (iv m p)), .string (mg (iv m p)), .bool (sg ((iv n s) * (iv m p))), .string (mg ((iv n s) * (iv m p))), .bool (sg ((dn t : Nat) : Int)), .string (mg ((dn t : Nat) : Int)), .bool (sg ((dn q : Nat) : Int)), .string (mg ((dn q : Nat) : Int)), .bool (sg (((dn t : Nat) : Int) * ((dn q : Nat) : Int))), .string (mg (((dn t : Nat) : Int) * ((dn q : Nat) : Int))), .bool (sg (rq n s t * rq m p q).num), .string (mg (rq n s t * rq m p q).num), .string (dm (rq n s t * rq m p q).den), .bool true] [] [.agg [.p (.at 0), .p (.at 1), .p (.at 2)], .agg [.p (.at 3), .p (.at 4), .p (.at 5)]] 6 (.one (.agg [.p (.at 18), .p (.at 19), .p (.at 20)])) [.call 114 [.agg [.p (.at 0), .p (.at 1), .p (.at 2)]] (.one (.agg [.p (.at 6), .p (.at 7)])) [], .call 114 [.agg [.p (.at 3), .p (.at 4), .p (.at 5)]] (.one (.agg [.p (.at 8), .p (.at 9)])) [], .call 115 [.agg [.p (.at 6), .p (.at 7)], .agg [.p (.at 8), .p (.at 9)]] (.one (.agg [.p (.at 10), .p (.at 11)])) [], .call 116 [.agg [.p (.at 0), .p (.at 1), .p (.at 2)]] (.one (.agg [.p (.at 12), .p (.at 13)])) [], .call 116 [.agg [.p (.at 3), .p (.at 4), .p (.at 5)]] (.one (.agg [.p (.at 14), .p (.at 15)])) [], .call 115 [.agg [.p (.at 12), .p (.at 13)], .agg [.p (.at 14), .p (.at 15)]] (.one (.agg [.p (.at 16), .p (.at 17)])) [], .call 80 [.agg [.p (.at 10), .p (.at 11)], .agg [.p (.at 16), .p (.at 17)]] (.tup [.agg [.p (.at 18), .p (.at 19), .p (.at 20)], .c (.p (.at 21))]) []] Tryz.func67 (by kernel_rfl) rfl (by kernel_rfl) rfl (by kernel_rfl)
    ⟨fun γ w' _ _ => by have h := rabove_any n s t w' (by simp [maxLen]; omega); (try simp only [iv_Z] at h); exact h,
     fun γ w' _ _ => by have h := rabove_any m p q w' (by simp [maxLen]; omega); (try simp only [iv_Z] at h); exact h,
     fun γ w' _ _ => by have h := refMul2_any (sg (iv n s)) (sg (iv m p)) (mg (iv n s)) (mg (iv m p)) w' (by omega) (by omega); (try simp only [iv_Z] at h); exact h,
     fun γ w' _ _ => rbelow_any n s t w' (by simp [maxLen]; omega),
     fun γ w' _ _ => rbelow_any m p q w' (by simp [maxLen]; omega),
     fun γ w' _ _ => by have h := refMul2_any (sg ((dn t : Nat) : Int)) (sg ((dn q : Nat) : Int)) (mg ((dn t : Nat) : Int)) (mg ((dn q : Nat) : Int)) w' (by omega) (by omega); (try simp only [iv_Z] at h); exact h,
     fun γ w' _ _ => by have h := rMake_any (sg ((iv n s) * (iv m p))) (sg (((dn t : Nat) : Int) * ((dn q : Nat) : Int))) (mg ((iv n s) * (iv m p))) (mg (((dn t : Nat) : Int) * ((dn q : Nat) : Int))) w' (by omega) (by omega); simp only [iv_Z] at h; rw [HM] at h; exact h⟩
theorem rSub_any (n : Bool) (s t : ByteArray) (m : Bool) (p q : ByteArray) (w : World) (hs : s.size ≤ 50000) (ht : t.size ≤ 50000) (hp : p.size ≤ 50000) (hq : q.size ≤ 50000) :
    Calls Tryz.prog 81 #[.agg #[.bool n, .string s, .string t], .agg #[.bool m, .string p, .string q]] w fun e w' => e = .returned (QV (rq n s t - rq m p q)) ∧ Below w.heap.size w w' := by
  rw [Rat.sub_eq_add_neg]
  have f1 : Rk (rq m p q) 50000 := Rk.rq (n := m) (by omega) (by omega) (by omega)
  have f2 : Rk (-(rq m p q)) 50000 := Rk.neg f1
  have f3 : (mg (-(rq m p q)).num).size ≤ 50000 := f2.1
  have f4 : (dm (-(rq m p q)).den).size ≤ 50000 := f2.dm
  have f5 : Rk (rq n s t) 50000 := Rk.rq (n := n) (by omega) (by omega) (by omega)
  have f6 : Rk ((rq n s t) + (-(rq m p q))) 100001 := Rk.add f5 f2
  have f7 : (mg ((rq n s t) + (-(rq m p q))).num).size ≤ 100001 := f6.1
  have f8 : (dm ((rq n s t) + (-(rq m p q))).den).size ≤ 100001 := f6.dm
  exact SX.run (w := w) [.bool n, .string s, .string t, .bool m, .string p, .string q, .bool (sg (-(rq m p q)).num), .string (mg (-(rq m p q)).num), .string (dm (-(rq m p q)).den), .bool (sg ((rq n s t) + (-(rq m p q))).num), .string (mg ((rq n s t) + (-(rq m p q))).num), .string (dm ((rq n s t) + (-(rq m p q))).den)] [] [.agg [.p (.at 0), .p (.at 1), .p (.at 2)], .agg [.p (.at 3), .p (.at 4), .p (.at 5)]] 6 (.one (.agg [.p (.at 9), .p (.at 10), .p (.at 11)])) [.call 54 [.agg [.p (.at 3), .p (.at 4), .p (.at 5)]] (.one (.agg [.p (.at 6), .p (.at 7), .p (.at 8)])) [], .call 66 [.agg [.p (.at 0), .p (.at 1), .p (.at 2)], .agg [.p (.at 6), .p (.at 7), .p (.at 8)]] (.one (.agg [.p (.at 9), .p (.at 10), .p (.at 11)])) []] Tryz.func81 (by kernel_rfl) rfl (by kernel_rfl) rfl (by kernel_rfl)
    ⟨fun γ w' _ _ => rNeg_any m p q w' (by omega) (by omega),
     fun γ w' _ _ => by have h := rAdd_any n s t (sg (-(rq m p q)).num) (mg (-(rq m p q)).num) (dm (-(rq m p q)).den) w' (by omega) (by omega) (by omega) (by omega); (try simp only [rq_QV] at h); exact h⟩
theorem rDiv_pos (n : Bool) (s t : ByteArray) (m : Bool) (p q : ByteArray) (w : World) (hs : s.size ≤ 100000) (ht : t.size ≤ 100000) (hp : p.size ≤ 100000) (hq : q.size ≤ 100000) (h : iv m p ≠ 0) :
    Calls Tryz.prog 51 #[.agg #[.bool n, .string s, .string t], .agg #[.bool m, .string p, .string q]] w fun e w' => e = .returned (.tuple #[QV (rq n s t / rq m p q), .bool true]) ∧ Below w.heap.size w w' := by
  have HM : makeV (iv n s * ((dn q : Nat) : Int)) (((dn t : Nat) : Int) * iv m p) = .tuple #[QV (rq n s t / rq m p q), .bool true] := by rw [makeV_pos (Int.mul_ne_zero (by have := dn_pos t; omega) h), divInt_div]; rfl
  have f1 : (mg (iv n s)).size ≤ 100000 := mg_iv_size (n := n) hs
  have f2 : (mg ((dn q : Nat) : Int)).size ≤ 100000 := dn_size hq (by omega)
  have f3 : (mg ((iv n s) * ((dn q : Nat) : Int))).size ≤ 200000 := mg_mul_size f1 f2
  have f4 : (mg ((dn t : Nat) : Int)).size ≤ 100000 := dn_size ht (by omega)
  have f5 : (mg (iv m p)).size ≤ 100000 := mg_iv_size (n := m) hp
  have f6 : (mg (((dn t : Nat) : Int) * (iv m p))).size ≤ 200000 := mg_mul_size f4 f5
  exact SX.run (w := w) [.bool n, .string s, .string t, .bool m, .string p, .string q, .bool (sg (iv n s)), .string (mg (iv n s)), .bool (sg ((dn q : Nat) : Int)), .string (mg ((dn q : Nat) : Int)), .bool (sg ((iv n s) * ((dn q : Nat) : Int))), .string (mg ((iv n s) * ((dn q : Nat) : Int))), .bool (sg ((dn t : Nat) : Int)), .string (mg ((dn t : Nat) : Int)), .bool (sg (iv m p)), .string (mg (iv m p)), .bool (sg (((dn t : Nat) : Int) * (iv m p))), .string (mg (((dn t : Nat) : Int) * (iv m p))), .bool (sg (rq n s t / rq m p q).num), .string (mg (rq n s t / rq m p q).num), .string (dm (rq n s t / rq m p q).den), .bool true] [] [.agg [.p (.at 0), .p (.at 1), .p (.at 2)], .agg [.p (.at 3), .p (.at 4), .p (.at 5)]] 6 (.tup [.agg [.p (.at 18), .p (.at 19), .p (.at 20)], .c (.p (.at 21))]) [.call 114 [.agg [.p (.at 0), .p (.at 1), .p (.at 2)]] (.one (.agg [.p (.at 6), .p (.at 7)])) [], .call 116 [.agg [.p (.at 3), .p (.at 4), .p (.at 5)]] (.one (.agg [.p (.at 8), .p (.at 9)])) [], .call 115 [.agg [.p (.at 6), .p (.at 7)], .agg [.p (.at 8), .p (.at 9)]] (.one (.agg [.p (.at 10), .p (.at 11)])) [], .call 116 [.agg [.p (.at 0), .p (.at 1), .p (.at 2)]] (.one (.agg [.p (.at 12), .p (.at 13)])) [], .call 114 [.agg [.p (.at 3), .p (.at 4), .p (.at 5)]] (.one (.agg [.p (.at 14), .p (.at 15)])) [], .call 115 [.agg [.p (.at 12), .p (.at 13)], .agg [.p (.at 14), .p (.at 15)]] (.one (.agg [.p (.at 16), .p (.at 17)])) [], .call 80 [.agg [.p (.at 10), .p (.at 11)], .agg [.p (.at 16), .p (.at 17)]] (.tup [.agg [.p (.at 18), .p (.at 19), .p (.at 20)], .c (.p (.at 21))]) []] Tryz.func51 (by kernel_rfl) rfl (by kernel_rfl) rfl (by kernel_rfl)
    ⟨fun γ w' _ _ => by have h := rabove_any n s t w' (by simp [maxLen]; omega); (try simp only [iv_Z] at h); exact h,
     fun γ w' _ _ => rbelow_any m p q w' (by simp [maxLen]; omega),
     fun γ w' _ _ => by have h := refMul2_any (sg (iv n s)) (sg ((dn q : Nat) : Int)) (mg (iv n s)) (mg ((dn q : Nat) : Int)) w' (by omega) (by omega); (try simp only [iv_Z] at h); exact h,
     fun γ w' _ _ => rbelow_any n s t w' (by simp [maxLen]; omega),
     fun γ w' _ _ => by have h := rabove_any m p q w' (by simp [maxLen]; omega); (try simp only [iv_Z] at h); exact h,
     fun γ w' _ _ => by have h := refMul2_any (sg ((dn t : Nat) : Int)) (sg (iv m p)) (mg ((dn t : Nat) : Int)) (mg (iv m p)) w' (by omega) (by omega); (try simp only [iv_Z] at h); exact h,
     fun γ w' _ _ => by have h := rMake_any (sg ((iv n s) * ((dn q : Nat) : Int))) (sg (((dn t : Nat) : Int) * (iv m p))) (mg ((iv n s) * ((dn q : Nat) : Int))) (mg (((dn t : Nat) : Int) * (iv m p))) w' (by omega) (by omega); simp only [iv_Z] at h; rw [HM] at h; exact h⟩
theorem rDiv_zero (n : Bool) (s t : ByteArray) (m : Bool) (p q : ByteArray) (w : World) (hs : s.size ≤ 100000) (ht : t.size ≤ 100000) (hp : p.size ≤ 100000) (hq : q.size ≤ 100000) (h : iv m p = 0) :
    Calls Tryz.prog 51 #[.agg #[.bool n, .string s, .string t], .agg #[.bool m, .string p, .string q]] w fun e w' => e = .returned (.tuple #[Q3 false ⟨#[]⟩ ⟨#[]⟩, .bool false]) ∧ Below w.heap.size w w' := by
  have HM : makeV (iv n s * ((dn q : Nat) : Int)) (((dn t : Nat) : Int) * iv m p) = .tuple #[Q3 false ⟨#[]⟩ ⟨#[]⟩, .bool false] := by rw [makeV_zero (by rw [h, Int.mul_zero])]
  have f1 : (mg (iv n s)).size ≤ 100000 := mg_iv_size (n := n) hs
  have f2 : (mg ((dn q : Nat) : Int)).size ≤ 100000 := dn_size hq (by omega)
  have f3 : (mg ((iv n s) * ((dn q : Nat) : Int))).size ≤ 200000 := mg_mul_size f1 f2
  have f4 : (mg ((dn t : Nat) : Int)).size ≤ 100000 := dn_size ht (by omega)
  have f5 : (mg (iv m p)).size ≤ 100000 := mg_iv_size (n := m) hp
  have f6 : (mg (((dn t : Nat) : Int) * (iv m p))).size ≤ 200000 := mg_mul_size f4 f5
  exact SX.run (w := w) [.bool n, .string s, .string t, .bool m, .string p, .string q, .bool (sg (iv n s)), .string (mg (iv n s)), .bool (sg ((dn q : Nat) : Int)), .string (mg ((dn q : Nat) : Int)), .bool (sg ((iv n s) * ((dn q : Nat) : Int))), .string (mg ((iv n s) * ((dn q : Nat) : Int))), .bool (sg ((dn t : Nat) : Int)), .string (mg ((dn t : Nat) : Int)), .bool (sg (iv m p)), .string (mg (iv m p)), .bool (sg (((dn t : Nat) : Int) * (iv m p))), .string (mg (((dn t : Nat) : Int) * (iv m p))), .bool false, .string ⟨#[]⟩, .string ⟨#[]⟩, .bool false] [] [.agg [.p (.at 0), .p (.at 1), .p (.at 2)], .agg [.p (.at 3), .p (.at 4), .p (.at 5)]] 6 (.tup [.agg [.p (.at 18), .p (.at 19), .p (.at 20)], .c (.p (.at 21))]) [.call 114 [.agg [.p (.at 0), .p (.at 1), .p (.at 2)]] (.one (.agg [.p (.at 6), .p (.at 7)])) [], .call 116 [.agg [.p (.at 3), .p (.at 4), .p (.at 5)]] (.one (.agg [.p (.at 8), .p (.at 9)])) [], .call 115 [.agg [.p (.at 6), .p (.at 7)], .agg [.p (.at 8), .p (.at 9)]] (.one (.agg [.p (.at 10), .p (.at 11)])) [], .call 116 [.agg [.p (.at 0), .p (.at 1), .p (.at 2)]] (.one (.agg [.p (.at 12), .p (.at 13)])) [], .call 114 [.agg [.p (.at 3), .p (.at 4), .p (.at 5)]] (.one (.agg [.p (.at 14), .p (.at 15)])) [], .call 115 [.agg [.p (.at 12), .p (.at 13)], .agg [.p (.at 14), .p (.at 15)]] (.one (.agg [.p (.at 16), .p (.at 17)])) [], .call 80 [.agg [.p (.at 10), .p (.at 11)], .agg [.p (.at 16), .p (.at 17)]] (.tup [.agg [.p (.at 18), .p (.at 19), .p (.at 20)], .c (.p (.at 21))]) []] Tryz.func51 (by kernel_rfl) rfl (by kernel_rfl) rfl (by kernel_rfl)
    ⟨fun γ w' _ _ => by have h := rabove_any n s t w' (by simp [maxLen]; omega); (try simp only [iv_Z] at h); exact h,
     fun γ w' _ _ => rbelow_any m p q w' (by simp [maxLen]; omega),
     fun γ w' _ _ => by have h := refMul2_any (sg (iv n s)) (sg ((dn q : Nat) : Int)) (mg (iv n s)) (mg ((dn q : Nat) : Int)) w' (by omega) (by omega); (try simp only [iv_Z] at h); exact h,
     fun γ w' _ _ => rbelow_any n s t w' (by simp [maxLen]; omega),
     fun γ w' _ _ => by have h := rabove_any m p q w' (by simp [maxLen]; omega); (try simp only [iv_Z] at h); exact h,
     fun γ w' _ _ => by have h := refMul2_any (sg ((dn t : Nat) : Int)) (sg (iv m p)) (mg ((dn t : Nat) : Int)) (mg (iv m p)) w' (by omega) (by omega); (try simp only [iv_Z] at h); exact h,
     fun γ w' _ _ => by have h := rMake_any (sg ((iv n s) * ((dn q : Nat) : Int))) (sg (((dn t : Nat) : Int) * (iv m p))) (mg ((iv n s) * ((dn q : Nat) : Int))) (mg (((dn t : Nat) : Int) * (iv m p))) w' (by omega) (by omega); simp only [iv_Z] at h; rw [HM] at h; exact h⟩
theorem rDiv_any (n : Bool) (s t : ByteArray) (m : Bool) (p q : ByteArray) (w : World) (hs : s.size ≤ 100000) (ht : t.size ≤ 100000) (hp : p.size ≤ 100000) (hq : q.size ≤ 100000) :
    Calls Tryz.prog 51 #[.agg #[.bool n, .string s, .string t], .agg #[.bool m, .string p, .string q]] w fun e w' => e = .returned (quoQ (rq n s t) (rq m p q)) ∧ Below w.heap.size w w' := by
  by_cases h : iv m p = 0
  · rw [quoQ_zero (rq_zero.2 h)]; exact rDiv_zero n s t m p q w hs ht hp hq h
  · rw [quoQ_pos (fun e => h (rq_zero.1 e))]; exact rDiv_pos n s t m p q w hs ht hp hq h
theorem rSign_any (n : Bool) (s t : ByteArray) (w : World) (hs : s.size ≤ 1000000) :
    Calls Tryz.prog 50 #[.agg #[.bool n, .string s, .string t]] w fun e w' => e = .returned (.int .i64 (sgQ (rq n s t))) ∧ Below w.heap.size w w' := by
  have e : cmpZ (iv n s) 0 = sgQ (rq n s t) := sgQ_mk _ (dn_pos t)
  have f1 : (mg (iv n s)).size ≤ 1000000 := mg_iv_size (n := n) hs
  exact SX.run (w := w) [.bool n, .string s, .string t, .bool (sg (iv n s)), .string (mg (iv n s)), .int .i64 (sgQ (rq n s t))] [] [.agg [.p (.at 0), .p (.at 1), .p (.at 2)]] 3 (.one (.c (.p (.at 5)))) [.call 114 [.agg [.p (.at 0), .p (.at 1), .p (.at 2)]] (.one (.agg [.p (.at 3), .p (.at 4)])) [], .call 42 [.agg [.p (.at 3), .p (.at 4)]] (.one (.c (.p (.at 5)))) []] Tryz.func50 (by kernel_rfl) rfl (by kernel_rfl) rfl (by kernel_rfl)
    ⟨fun γ w' _ _ => by have h := rabove_any n s t w' (by simp [maxLen]; omega); (try simp only [iv_Z] at h); exact h,
     fun γ w' _ _ => by have h := refSign2_any (sg (iv n s)) (mg (iv n s)) w' (by simp [maxLen]; omega); rw [iv_Z, e] at h; exact h⟩
theorem rParts_any (n : Bool) (s t : ByteArray) (w : World) (hs : s.size ≤ 1048576) (ht : t.size ≤ 1048576) :
    Calls Tryz.prog 121 #[.agg #[.bool n, .string s, .string t]] w fun e w' => e = .returned (.tuple #[Z (rq n s t).num, Z (((rq n s t).den : Nat) : Int)]) ∧ Below w.heap.size w w' := by
  have k0 := Rk.rq (n := n) hs ht (by omega)
  have k1 := k0.1
  have k2 := k0.dm
  have f1 : Rk (rq n s t) 1048576 := Rk.rq (n := n) (by omega) (by omega) (by omega)
  have f2 : (mg (rq n s t).num).size ≤ 1048576 := f1.1
  have f3 : (mg (((rq n s t).den : Nat) : Int)).size ≤ 1048576 := mg_den f1
  exact SX.run (w := w) [.bool n, .string s, .string t, .bool (sg (rq n s t).num), .string (mg (rq n s t).num), .string (dm (rq n s t).den), .bool (sg ((rq n s t).num)), .string (mg ((rq n s t).num)), .bool (sg (((rq n s t).den : Nat) : Int)), .string (mg (((rq n s t).den : Nat) : Int))] [] [.agg [.p (.at 0), .p (.at 1), .p (.at 2)]] 3 (.tup [.agg [.p (.at 6), .p (.at 7)], .agg [.p (.at 8), .p (.at 9)]]) [.call 71 [.agg [.p (.at 0), .p (.at 1), .p (.at 2)]] (.one (.agg [.p (.at 3), .p (.at 4), .p (.at 5)])) [], .call 114 [.agg [.p (.at 3), .p (.at 4), .p (.at 5)]] (.one (.agg [.p (.at 6), .p (.at 7)])) [], .call 116 [.agg [.p (.at 3), .p (.at 4), .p (.at 5)]] (.one (.agg [.p (.at 8), .p (.at 9)])) []] Tryz.func121 (by kernel_rfl) rfl (by kernel_rfl) rfl (by kernel_rfl)
    ⟨fun γ w' _ _ => rNorm_any n s t w' (by omega) (by omega),
     fun γ w' _ _ => by have h := rabove_any (sg (rq n s t).num) (mg (rq n s t).num) (dm (rq n s t).den) w' (by simp [maxLen]; omega); (try simp only [iv_Z] at h); exact h,
     fun γ w' _ _ => by have h := rbelow_any (sg (rq n s t).num) (mg (rq n s t).num) (dm (rq n s t).den) w' (by simp [maxLen]; omega); rw [dn_dm (Rat.den_nz _)] at h; exact h⟩
end Go.Proofs.YtodcomijjmobdaaGreatDoor
