/- Laws Canonical, Through, Offsets of layer 5. -/
import Derived.Test.YtpmfaommooneiaaGreatDoorVe
import Derived.Test.YtpmfaommooneiaaGreatDoorVg
import Derived.Test.YtpmfaommooneiaaGreatDoorVr
set_option linter.unusedVariables false
set_option linter.unusedSimpArgs false
namespace Go.Proofs.YtpmfaommooneiaaGreatDoor
open Go.RowKit NM SX
set_option maxRecDepth 100000 in
theorem Canonical_p (p_0 : Bool) (p_1 : ByteArray) (p_2 : Bool) (p_3 : ByteArray) (p_4 : Bool) (p_5 : ByteArray) (p_6 : Bool) (p_7 : ByteArray) (n_0 : Bool) (n_1 : ByteArray) (n_2 : ByteArray) (n_3 : Bool) (n_4 : ByteArray) (n_5 : ByteArray) (n_6 : Bool) (n_7 : ByteArray) (n_8 : ByteArray) (d_0 : Bool) (d_1 : ByteArray) (d_2 : ByteArray) (w : World) (hT : TabC w) (h : ¬ (p_1.size ≤ 6 ∧ p_3.size ≤ 6 ∧ p_5.size ≤ 6 ∧ p_7.size ≤ 6)) :
    Calls Tryz.prog 3 #[.agg #[.bool p_0, .string p_1, .bool p_2, .string p_3, .bool p_4, .string p_5, .bool p_6, .string p_7], .agg #[.bool n_0, .string n_1, .string n_2, .bool n_3, .string n_4, .string n_5, .bool n_6, .string n_7, .string n_8], .agg #[.bool d_0, .string d_1, .string d_2]] w fun e w' => e = .returned (.bool true) ∧ Below w.heap.size w w' := by
  exact SX.run (w := w) [.bool p_0, .string p_1, .bool p_2, .string p_3, .bool p_4, .string p_5, .bool p_6, .string p_7, .bool n_0, .string n_1, .string n_2, .bool n_3, .string n_4, .string n_5, .bool n_6, .string n_7, .string n_8, .bool d_0, .string d_1, .string d_2, .bool true, .bool false, .bool true] [.b false, .b true] [.ga 0 8, .ga 8 9, .ga 17 3] 20 (.one (.c (.p (.lit (.bool true))))) [.call 10 [] (.one (.ca 20)) [], .op1 .not (.pa 20) 21, .isB 21 false, .call 11 [.ga 0 8, .c (.p (.lit (.slice none 0 0)))] (.one (.ca 22)) [], .isB 22 true] Tryz.func3 (by kernel_rfl) rfl (by kernel_rfl) rfl (by kernel_rfl)
    ⟨fun γ w' bw _ => alive5_any w' (hT.later bw),
     congrArg (fun z => some (Value.bool z)) (by first | rfl | assumption | decide | simp [*] : (!true) = false),
     rfl,
     fun γ w' _ hm => great5_0_p p_0 p_1 p_2 p_3 p_4 p_5 p_6 p_7 w'  h,
     rfl⟩
set_option maxRecDepth 100000 in
theorem Canonical_l1 (p_0 : Bool) (p_1 : ByteArray) (p_2 : Bool) (p_3 : ByteArray) (p_4 : Bool) (p_5 : ByteArray) (p_6 : Bool) (p_7 : ByteArray) (n_0 : Bool) (n_1 : ByteArray) (n_2 : ByteArray) (n_3 : Bool) (n_4 : ByteArray) (n_5 : ByteArray) (n_6 : Bool) (n_7 : ByteArray) (n_8 : ByteArray) (d_0 : Bool) (d_1 : ByteArray) (d_2 : ByteArray) (w : World) (hT : TabC w) (hp_1 : p_1.size ≤ 6) (hp_3 : p_3.size ≤ 6) (hp_5 : p_5.size ≤ 6) (hp_7 : p_7.size ≤ 6) (h : ¬ (n_1.size ≤ 6 ∧ n_2.size ≤ 6)) :
    Calls Tryz.prog 3 #[.agg #[.bool p_0, .string p_1, .bool p_2, .string p_3, .bool p_4, .string p_5, .bool p_6, .string p_7], .agg #[.bool n_0, .string n_1, .string n_2, .bool n_3, .string n_4, .string n_5, .bool n_6, .string n_7, .string n_8], .agg #[.bool d_0, .string d_1, .string d_2]] w fun e w' => e = .returned (.bool true) ∧ Below w.heap.size w w' := by
  exact SX.run (w := w) [.bool p_0, .string p_1, .bool p_2, .string p_3, .bool p_4, .string p_5, .bool p_6, .string p_7, .bool n_0, .string n_1, .string n_2, .bool n_3, .string n_4, .string n_5, .bool n_6, .string n_7, .string n_8, .bool d_0, .string d_1, .string d_2, .bool true, .bool false, .bool false, .bool true] [.b false, .b false, .b true] [.ga 0 8, .ga 8 9, .ga 17 3] 20 (.one (.c (.p (.lit (.bool true))))) [.call 10 [] (.one (.ca 20)) [], .op1 .not (.pa 20) 21, .isB 21 false, .call 11 [.ga 0 8, .c (.p (.lit (.slice none 0 0)))] (.one (.ca 22)) [], .isB 22 false, .call 12 [.ga 8 3] (.one (.ca 23)) [], .isB 23 true] Tryz.func3 (by kernel_rfl) rfl (by kernel_rfl) rfl (by kernel_rfl)
    ⟨fun γ w' bw _ => alive5_any w' (hT.later bw),
     congrArg (fun z => some (Value.bool z)) (by first | rfl | assumption | decide | simp [*] : (!true) = false),
     rfl,
     fun γ w' _ hm => great5_0_no p_0 p_1 p_2 p_3 p_4 p_5 p_6 p_7 w'  hp_1 hp_3 hp_5 hp_7,
     rfl,
     fun γ w' _ _ => long5_yes n_0 n_1 n_2 w' h,
     rfl⟩
set_option maxRecDepth 100000 in
theorem Canonical_l2 (p_0 : Bool) (p_1 : ByteArray) (p_2 : Bool) (p_3 : ByteArray) (p_4 : Bool) (p_5 : ByteArray) (p_6 : Bool) (p_7 : ByteArray) (n_0 : Bool) (n_1 : ByteArray) (n_2 : ByteArray) (n_3 : Bool) (n_4 : ByteArray) (n_5 : ByteArray) (n_6 : Bool) (n_7 : ByteArray) (n_8 : ByteArray) (d_0 : Bool) (d_1 : ByteArray) (d_2 : ByteArray) (w : World) (hT : TabC w) (hp_1 : p_1.size ≤ 6) (hp_3 : p_3.size ≤ 6) (hp_5 : p_5.size ≤ 6) (hp_7 : p_7.size ≤ 6) (hn_1 : n_1.size ≤ 6) (hn_2 : n_2.size ≤ 6) (h : ¬ (n_4.size ≤ 6 ∧ n_5.size ≤ 6)) :
    Calls Tryz.prog 3 #[.agg #[.bool p_0, .string p_1, .bool p_2, .string p_3, .bool p_4, .string p_5, .bool p_6, .string p_7], .agg #[.bool n_0, .string n_1, .string n_2, .bool n_3, .string n_4, .string n_5, .bool n_6, .string n_7, .string n_8], .agg #[.bool d_0, .string d_1, .string d_2]] w fun e w' => e = .returned (.bool true) ∧ Below w.heap.size w w' := by
  exact SX.run (w := w) [.bool p_0, .string p_1, .bool p_2, .string p_3, .bool p_4, .string p_5, .bool p_6, .string p_7, .bool n_0, .string n_1, .string n_2, .bool n_3, .string n_4, .string n_5, .bool n_6, .string n_7, .string n_8, .bool d_0, .string d_1, .string d_2, .bool true, .bool false, .bool false, .bool false, .bool true] [.b false, .b false, .b false, .b true] [.ga 0 8, .ga 8 9, .ga 17 3] 20 (.one (.c (.p (.lit (.bool true))))) [.call 10 [] (.one (.ca 20)) [], .op1 .not (.pa 20) 21, .isB 21 false, .call 11 [.ga 0 8, .c (.p (.lit (.slice none 0 0)))] (.one (.ca 22)) [], .isB 22 false, .call 12 [.ga 8 3] (.one (.ca 23)) [], .isB 23 false, .call 12 [.ga 11 3] (.one (.ca 24)) [], .isB 24 true] Tryz.func3 (by kernel_rfl) rfl (by kernel_rfl) rfl (by kernel_rfl)
    ⟨fun γ w' bw _ => alive5_any w' (hT.later bw),
     congrArg (fun z => some (Value.bool z)) (by first | rfl | assumption | decide | simp [*] : (!true) = false),
     rfl,
     fun γ w' _ hm => great5_0_no p_0 p_1 p_2 p_3 p_4 p_5 p_6 p_7 w'  hp_1 hp_3 hp_5 hp_7,
     rfl,
     fun γ w' _ _ => long5_no n_0 n_1 n_2 w' hn_1 hn_2,
     rfl,
     fun γ w' _ _ => long5_yes n_3 n_4 n_5 w' h,
     rfl⟩
set_option maxRecDepth 100000 in
theorem Canonical_l3 (p_0 : Bool) (p_1 : ByteArray) (p_2 : Bool) (p_3 : ByteArray) (p_4 : Bool) (p_5 : ByteArray) (p_6 : Bool) (p_7 : ByteArray) (n_0 : Bool) (n_1 : ByteArray) (n_2 : ByteArray) (n_3 : Bool) (n_4 : ByteArray) (n_5 : ByteArray) (n_6 : Bool) (n_7 : ByteArray) (n_8 : ByteArray) (d_0 : Bool) (d_1 : ByteArray) (d_2 : ByteArray) (w : World) (hT : TabC w) (hp_1 : p_1.size ≤ 6) (hp_3 : p_3.size ≤ 6) (hp_5 : p_5.size ≤ 6) (hp_7 : p_7.size ≤ 6) (hn_1 : n_1.size ≤ 6) (hn_2 : n_2.size ≤ 6) (hn_4 : n_4.size ≤ 6) (hn_5 : n_5.size ≤ 6) (h : ¬ (n_7.size ≤ 6 ∧ n_8.size ≤ 6)) :
    Calls Tryz.prog 3 #[.agg #[.bool p_0, .string p_1, .bool p_2, .string p_3, .bool p_4, .string p_5, .bool p_6, .string p_7], .agg #[.bool n_0, .string n_1, .string n_2, .bool n_3, .string n_4, .string n_5, .bool n_6, .string n_7, .string n_8], .agg #[.bool d_0, .string d_1, .string d_2]] w fun e w' => e = .returned (.bool true) ∧ Below w.heap.size w w' := by
  exact SX.run (w := w) [.bool p_0, .string p_1, .bool p_2, .string p_3, .bool p_4, .string p_5, .bool p_6, .string p_7, .bool n_0, .string n_1, .string n_2, .bool n_3, .string n_4, .string n_5, .bool n_6, .string n_7, .string n_8, .bool d_0, .string d_1, .string d_2, .bool true, .bool false, .bool false, .bool false, .bool false, .bool true] [.b false, .b false, .b false, .b false, .b true] [.ga 0 8, .ga 8 9, .ga 17 3] 20 (.one (.c (.p (.lit (.bool true))))) [.call 10 [] (.one (.ca 20)) [], .op1 .not (.pa 20) 21, .isB 21 false, .call 11 [.ga 0 8, .c (.p (.lit (.slice none 0 0)))] (.one (.ca 22)) [], .isB 22 false, .call 12 [.ga 8 3] (.one (.ca 23)) [], .isB 23 false, .call 12 [.ga 11 3] (.one (.ca 24)) [], .isB 24 false, .call 12 [.ga 14 3] (.one (.ca 25)) [], .isB 25 true] Tryz.func3 (by kernel_rfl) rfl (by kernel_rfl) rfl (by kernel_rfl)
    ⟨fun γ w' bw _ => alive5_any w' (hT.later bw),
     congrArg (fun z => some (Value.bool z)) (by first | rfl | assumption | decide | simp [*] : (!true) = false),
     rfl,
     fun γ w' _ hm => great5_0_no p_0 p_1 p_2 p_3 p_4 p_5 p_6 p_7 w'  hp_1 hp_3 hp_5 hp_7,
     rfl,
     fun γ w' _ _ => long5_no n_0 n_1 n_2 w' hn_1 hn_2,
     rfl,
     fun γ w' _ _ => long5_no n_3 n_4 n_5 w' hn_4 hn_5,
     rfl,
     fun γ w' _ _ => long5_yes n_6 n_7 n_8 w' h,
     rfl⟩
set_option maxRecDepth 100000 in
theorem Canonical_l4 (p_0 : Bool) (p_1 : ByteArray) (p_2 : Bool) (p_3 : ByteArray) (p_4 : Bool) (p_5 : ByteArray) (p_6 : Bool) (p_7 : ByteArray) (n_0 : Bool) (n_1 : ByteArray) (n_2 : ByteArray) (n_3 : Bool) (n_4 : ByteArray) (n_5 : ByteArray) (n_6 : Bool) (n_7 : ByteArray) (n_8 : ByteArray) (d_0 : Bool) (d_1 : ByteArray) (d_2 : ByteArray) (w : World) (hT : TabC w) (hp_1 : p_1.size ≤ 6) (hp_3 : p_3.size ≤ 6) (hp_5 : p_5.size ≤ 6) (hp_7 : p_7.size ≤ 6) (hn_1 : n_1.size ≤ 6) (hn_2 : n_2.size ≤ 6) (hn_4 : n_4.size ≤ 6) (hn_5 : n_5.size ≤ 6) (hn_7 : n_7.size ≤ 6) (hn_8 : n_8.size ≤ 6) (h : ¬ (d_1.size ≤ 6 ∧ d_2.size ≤ 6)) :
    Calls Tryz.prog 3 #[.agg #[.bool p_0, .string p_1, .bool p_2, .string p_3, .bool p_4, .string p_5, .bool p_6, .string p_7], .agg #[.bool n_0, .string n_1, .string n_2, .bool n_3, .string n_4, .string n_5, .bool n_6, .string n_7, .string n_8], .agg #[.bool d_0, .string d_1, .string d_2]] w fun e w' => e = .returned (.bool true) ∧ Below w.heap.size w w' := by
  exact SX.run (w := w) [.bool p_0, .string p_1, .bool p_2, .string p_3, .bool p_4, .string p_5, .bool p_6, .string p_7, .bool n_0, .string n_1, .string n_2, .bool n_3, .string n_4, .string n_5, .bool n_6, .string n_7, .string n_8, .bool d_0, .string d_1, .string d_2, .bool true, .bool false, .bool false, .bool false, .bool false, .bool false, .bool true] [.b false, .b false, .b false, .b false, .b false, .b true] [.ga 0 8, .ga 8 9, .ga 17 3] 20 (.one (.c (.p (.lit (.bool true))))) [.call 10 [] (.one (.ca 20)) [], .op1 .not (.pa 20) 21, .isB 21 false, .call 11 [.ga 0 8, .c (.p (.lit (.slice none 0 0)))] (.one (.ca 22)) [], .isB 22 false, .call 12 [.ga 8 3] (.one (.ca 23)) [], .isB 23 false, .call 12 [.ga 11 3] (.one (.ca 24)) [], .isB 24 false, .call 12 [.ga 14 3] (.one (.ca 25)) [], .isB 25 false, .call 12 [.ga 17 3] (.one (.ca 26)) [], .isB 26 true] Tryz.func3 (by kernel_rfl) rfl (by kernel_rfl) rfl (by kernel_rfl)
    ⟨fun γ w' bw _ => alive5_any w' (hT.later bw),
     congrArg (fun z => some (Value.bool z)) (by first | rfl | assumption | decide | simp [*] : (!true) = false),
     rfl,
     fun γ w' _ hm => great5_0_no p_0 p_1 p_2 p_3 p_4 p_5 p_6 p_7 w'  hp_1 hp_3 hp_5 hp_7,
     rfl,
     fun γ w' _ _ => long5_no n_0 n_1 n_2 w' hn_1 hn_2,
     rfl,
     fun γ w' _ _ => long5_no n_3 n_4 n_5 w' hn_4 hn_5,
     rfl,
     fun γ w' _ _ => long5_no n_6 n_7 n_8 w' hn_7 hn_8,
     rfl,
     fun γ w' _ _ => long5_yes d_0 d_1 d_2 w' h,
     rfl⟩
set_option maxRecDepth 100000 in
theorem Canonical_ff (p_0 : Bool) (p_1 : ByteArray) (p_2 : Bool) (p_3 : ByteArray) (p_4 : Bool) (p_5 : ByteArray) (p_6 : Bool) (p_7 : ByteArray) (n_0 : Bool) (n_1 : ByteArray) (n_2 : ByteArray) (n_3 : Bool) (n_4 : ByteArray) (n_5 : ByteArray) (n_6 : Bool) (n_7 : ByteArray) (n_8 : ByteArray) (d_0 : Bool) (d_1 : ByteArray) (d_2 : ByteArray) (w : World) (hT : TabC w) (hp_1 : p_1.size ≤ 6) (hp_3 : p_3.size ≤ 6) (hp_5 : p_5.size ≤ 6) (hp_7 : p_7.size ≤ 6) (hn_1 : n_1.size ≤ 6) (hn_2 : n_2.size ≤ 6) (hn_4 : n_4.size ≤ 6) (hn_5 : n_5.size ≤ 6) (hn_7 : n_7.size ≤ 6) (hn_8 : n_8.size ≤ 6) (hd_1 : d_1.size ≤ 6) (hd_2 : d_2.size ≤ 6) (gf : flatF (Z4.mk (iv p_0 p_1) (iv p_2 p_3) (iv p_4 p_5) (iv p_6 p_7))) (gq : flatQ (Q4.mk (rq n_0 n_1 n_2) (rq n_3 n_4 n_5) (rq n_6 n_7 n_8) (rq d_0 d_1 d_2))) :
    Calls Tryz.prog 3 #[.agg #[.bool p_0, .string p_1, .bool p_2, .string p_3, .bool p_4, .string p_5, .bool p_6, .string p_7], .agg #[.bool n_0, .string n_1, .string n_2, .bool n_3, .string n_4, .string n_5, .bool n_6, .string n_7, .string n_8], .agg #[.bool d_0, .string d_1, .string d_2]] w fun e w' => e = .returned (.bool true) ∧ Below w.heap.size w w' := by
  obtain ⟨p, hp, rp⟩ : ∃ q, IsF (.agg #[.bool p_0, .string p_1, .bool p_2, .string p_3, .bool p_4, .string p_5, .bool p_6, .string p_7]) q 6 ∧ q = ⟨iv p_0 p_1, iv p_2 p_3, iv p_4 p_5, iv p_6 p_7⟩ := ⟨⟨_, _, _, _⟩, ⟨_, _, _, _, _, _, _, _, rfl, rfl, hp_1, rfl, hp_3, rfl, hp_5, rfl, hp_7⟩, rfl⟩
  have zp := hp.sz
  obtain ⟨n, hn, rn⟩ : ∃ q, IsV (.agg #[.bool n_0, .string n_1, .string n_2, .bool n_3, .string n_4, .string n_5, .bool n_6, .string n_7, .string n_8]) q 6 ∧ q = ⟨rq n_0 n_1 n_2, rq n_3 n_4 n_5, rq n_6 n_7 n_8⟩ := ⟨⟨_, _, _⟩, ⟨_, _, _, _, _, _, _, _, _, rfl, rfl, hn_1, hn_2, rfl, hn_4, hn_5, rfl, hn_7, hn_8⟩, rfl⟩
  have zn := hn.sz (by decide)
  obtain ⟨d, hd, rd⟩ : ∃ q, IsQ (.agg #[.bool d_0, .string d_1, .string d_2]) q 6 ∧ q = rq d_0 d_1 d_2 := ⟨_, ⟨_, _, _, rfl, rfl, hd_1, hd_2⟩, rfl⟩
  have zd := hd.sz (by decide)
  rw [← rp] at gf
  have gv : flatQ (Q4.mk n.x n.y n.z d) := by rw [rn, rd]; exact gq
  exact SX.run (w := w) (.bool p_0 :: .string p_1 :: .bool p_2 :: .string p_3 :: .bool p_4 :: .string p_5 :: .bool p_6 :: .string p_7 :: .bool n_0 :: .string n_1 :: .string n_2 :: .bool n_3 :: .string n_4 :: .string n_5 :: .bool n_6 :: .string n_7 :: .string n_8 :: .bool d_0 :: .string d_1 :: .string d_2 :: .bool true :: .bool false :: .bool false :: .bool false :: .bool false :: .bool false :: .bool false :: .bool false :: .string ⟨#[]⟩ :: .bool false :: .string ⟨#[]⟩ :: .bool false :: .string ⟨#[]⟩ :: .bool false :: .string ⟨#[]⟩ :: .bool false :: .bool false :: .string ⟨#[]⟩ :: .bool false :: .string ⟨#[]⟩ :: .bool false :: .string ⟨#[]⟩ :: .bool false :: .string ⟨#[]⟩ :: .bool false :: .bool false :: .string ⟨#[]⟩ :: .bool false :: .string ⟨#[]⟩ :: .bool false :: .string ⟨#[]⟩ :: .bool false :: .string ⟨#[]⟩ :: .bool false :: .bool false :: .string ⟨#[]⟩ :: .bool false :: .string ⟨#[]⟩ :: .bool false :: .string ⟨#[]⟩ :: .bool false :: .string ⟨#[]⟩ :: .bool false :: .bool false :: .bool false :: .bool false :: .bool false :: .bool true :: .bool true :: []) [.b false, .b false, .b false, .b false, .b false, .b false, .b false, .b false, .b false, .b false, .b true] [.ga 0 8, .ga 8 9, .ga 17 3] 20 (.one (.ca 68)) (.call 10 [] (.one (.ca 20)) [] :: .op1 .not (.pa 20) 21 :: .isB 21 false :: .call 11 [.ga 0 8, .c (.p (.lit (.slice none 0 0)))] (.one (.ca 22)) [] :: .isB 22 false :: .call 12 [.ga 8 3] (.one (.ca 23)) [] :: .isB 23 false :: .call 12 [.ga 11 3] (.one (.ca 24)) [] :: .isB 24 false :: .call 12 [.ga 14 3] (.one (.ca 25)) [] :: .isB 25 false :: .call 12 [.ga 17 3] (.one (.ca 26)) [] :: .isB 26 false :: .call 13 [.ga 0 8] (.tup [.ga 27 8, .ca 35]) [] :: .call 14 [.ga 0 8] (.tup [.ga 36 8, .ca 44]) [] :: .call 15 [.ga 8 9, .ga 17 3] (.tup [.ga 45 8, .ca 53]) [] :: .call 16 [.ga 8 9, .ga 17 3] (.tup [.ga 54 8, .ca 62]) [] :: .eqs true [.b, .s, .b, .s, .b, .s, .b, .s] [.pa 27, .pa 28, .pa 29, .pa 30, .pa 31, .pa 32, .pa 33, .pa 34] [.pa 36, .pa 37, .pa 38, .pa 39, .pa 40, .pa 41, .pa 42, .pa 43] 63 :: .isB 63 false :: .op2 true .neq (.pa 35) (.pa 44) 64 :: .isB 64 false :: .eqs true [.b, .s, .b, .s, .b, .s, .b, .s] [.pa 45, .pa 46, .pa 47, .pa 48, .pa 49, .pa 50, .pa 51, .pa 52] [.pa 54, .pa 55, .pa 56, .pa 57, .pa 58, .pa 59, .pa 60, .pa 61] 65 :: .isB 65 false :: .op2 true .neq (.pa 53) (.pa 62) 66 :: .isB 66 false :: .op1 .not (.pa 35) 67 :: .isB 67 true :: .eqs false [.b, .s, .b, .s, .b, .s, .b, .s] [.pa 27, .pa 28, .pa 29, .pa 30, .pa 31, .pa 32, .pa 33, .pa 34] [.p (.lit (.bool false)), .p (.lit (.string ⟨#[]⟩)), .p (.lit (.bool false)), .p (.lit (.string ⟨#[]⟩)), .p (.lit (.bool false)), .p (.lit (.string ⟨#[]⟩)), .p (.lit (.bool false)), .p (.lit (.string ⟨#[]⟩))] 68 :: []) Tryz.func3 (by kernel_rfl) rfl (by kernel_rfl) rfl (by kernel_rfl)
    ⟨fun γ w' bw _ => alive5_any w' (hT.later bw),
     congrArg (fun z => some (Value.bool z)) (by first | rfl | assumption | decide | simp [*] : (!true) = false),
     rfl,
     fun γ w' _ hm => great5_0_no p_0 p_1 p_2 p_3 p_4 p_5 p_6 p_7 w'  hp_1 hp_3 hp_5 hp_7,
     rfl,
     fun γ w' _ _ => long5_no n_0 n_1 n_2 w' hn_1 hn_2,
     rfl,
     fun γ w' _ _ => long5_no n_3 n_4 n_5 w' hn_4 hn_5,
     rfl,
     fun γ w' _ _ => long5_no n_6 n_7 n_8 w' hn_7 hn_8,
     rfl,
     fun γ w' _ _ => long5_no d_0 d_1 d_2 w' hd_1 hd_2,
     rfl,
     fun γ w' bw _ => by have h := plNormalize_any hp (by decide) w' (hT.later bw); rw [normV, if_pos gf] at h; exact h,
     fun γ w' _ _ => by have h := v5Norm_any hp (by decide) w'; rw [normV, if_pos gf] at h; exact h,
     fun γ w' bw _ => by have h := plFrom_any hn (by decide) hd (by decide) w' (hT.later bw); rw [planeV, if_pos gv] at h; exact h,
     fun γ w' bw _ => by have h := v5Make_any hn (by decide) hd (by decide) w'; rw [planeV, if_pos gv] at h; exact h,
     ⟨rfl, rfl, eqv_yes (eqL_F (Z4.mk (0 : Int) (0 : Int) (0 : Int) (0 : Int)) (Z4.mk (0 : Int) (0 : Int) (0 : Int) (0 : Int))) (rfl) rfl⟩,
     rfl,
     congrArg (fun z => some (Value.bool z)) (by first | rfl | assumption | decide | simp [*] : (!(false == false)) = false),
     rfl,
     ⟨rfl, rfl, eqv_yes (eqL_F (Z4.mk (0 : Int) (0 : Int) (0 : Int) (0 : Int)) (Z4.mk (0 : Int) (0 : Int) (0 : Int) (0 : Int))) (rfl) rfl⟩,
     rfl,
     congrArg (fun z => some (Value.bool z)) (by first | rfl | assumption | decide | simp [*] : (!(false == false)) = false),
     rfl,
     congrArg (fun z => some (Value.bool z)) (by first | rfl | assumption | decide | simp [*] : (!false) = true),
     rfl,
     ⟨rfl, rfl, eqv_yes (eqL_F (Z4.mk (0 : Int) (0 : Int) (0 : Int) (0 : Int)) (Z4.mk (0 : Int) (0 : Int) (0 : Int) (0 : Int))) (rfl) rfl⟩⟩
set_option maxRecDepth 100000 in
theorem Canonical_fn (p_0 : Bool) (p_1 : ByteArray) (p_2 : Bool) (p_3 : ByteArray) (p_4 : Bool) (p_5 : ByteArray) (p_6 : Bool) (p_7 : ByteArray) (n_0 : Bool) (n_1 : ByteArray) (n_2 : ByteArray) (n_3 : Bool) (n_4 : ByteArray) (n_5 : ByteArray) (n_6 : Bool) (n_7 : ByteArray) (n_8 : ByteArray) (d_0 : Bool) (d_1 : ByteArray) (d_2 : ByteArray) (w : World) (hT : TabC w) (hp_1 : p_1.size ≤ 6) (hp_3 : p_3.size ≤ 6) (hp_5 : p_5.size ≤ 6) (hp_7 : p_7.size ≤ 6) (hn_1 : n_1.size ≤ 6) (hn_2 : n_2.size ≤ 6) (hn_4 : n_4.size ≤ 6) (hn_5 : n_5.size ≤ 6) (hn_7 : n_7.size ≤ 6) (hn_8 : n_8.size ≤ 6) (hd_1 : d_1.size ≤ 6) (hd_2 : d_2.size ≤ 6) (gf : flatF (Z4.mk (iv p_0 p_1) (iv p_2 p_3) (iv p_4 p_5) (iv p_6 p_7))) (gq : ¬ flatQ (Q4.mk (rq n_0 n_1 n_2) (rq n_3 n_4 n_5) (rq n_6 n_7 n_8) (rq d_0 d_1 d_2))) :
    Calls Tryz.prog 3 #[.agg #[.bool p_0, .string p_1, .bool p_2, .string p_3, .bool p_4, .string p_5, .bool p_6, .string p_7], .agg #[.bool n_0, .string n_1, .string n_2, .bool n_3, .string n_4, .string n_5, .bool n_6, .string n_7, .string n_8], .agg #[.bool d_0, .string d_1, .string d_2]] w fun e w' => e = .returned (.bool true) ∧ Below w.heap.size w w' := by
  obtain ⟨p, hp, rp⟩ : ∃ q, IsF (.agg #[.bool p_0, .string p_1, .bool p_2, .string p_3, .bool p_4, .string p_5, .bool p_6, .string p_7]) q 6 ∧ q = ⟨iv p_0 p_1, iv p_2 p_3, iv p_4 p_5, iv p_6 p_7⟩ := ⟨⟨_, _, _, _⟩, ⟨_, _, _, _, _, _, _, _, rfl, rfl, hp_1, rfl, hp_3, rfl, hp_5, rfl, hp_7⟩, rfl⟩
  have zp := hp.sz
  obtain ⟨n, hn, rn⟩ : ∃ q, IsV (.agg #[.bool n_0, .string n_1, .string n_2, .bool n_3, .string n_4, .string n_5, .bool n_6, .string n_7, .string n_8]) q 6 ∧ q = ⟨rq n_0 n_1 n_2, rq n_3 n_4 n_5, rq n_6 n_7 n_8⟩ := ⟨⟨_, _, _⟩, ⟨_, _, _, _, _, _, _, _, _, rfl, rfl, hn_1, hn_2, rfl, hn_4, hn_5, rfl, hn_7, hn_8⟩, rfl⟩
  have zn := hn.sz (by decide)
  obtain ⟨d, hd, rd⟩ : ∃ q, IsQ (.agg #[.bool d_0, .string d_1, .string d_2]) q 6 ∧ q = rq d_0 d_1 d_2 := ⟨_, ⟨_, _, _, rfl, rfl, hd_1, hd_2⟩, rfl⟩
  have zd := hd.sz (by decide)
  rw [← rp] at gf
  have gv : ¬ flatQ (Q4.mk n.x n.y n.z d) := by rw [rn, rd]; exact gq
  have f1 : Fk (canQ (Q4.mk n.x n.y n.z d)) 24 := Fk.up ((Fk.canQ (k := 6) (Rk.mono zn.1 (by decide)) (Rk.mono zn.2.1 (by decide)) (Rk.mono zn.2.2 (by decide)) (Rk.mono zd (by decide)))) (by decide)
  exact SX.run (w := w) (List.flatten [(.bool p_0 :: .string p_1 :: .bool p_2 :: .string p_3 :: .bool p_4 :: .string p_5 :: .bool p_6 :: .string p_7 :: .bool n_0 :: .string n_1 :: .string n_2 :: .bool n_3 :: .string n_4 :: .string n_5 :: .bool n_6 :: .string n_7 :: .string n_8 :: .bool d_0 :: .string d_1 :: .string d_2 :: .bool true :: .bool false :: .bool false :: .bool false :: .bool false :: .bool false :: .bool false :: .bool false :: .string ⟨#[]⟩ :: .bool false :: .string ⟨#[]⟩ :: .bool false :: .string ⟨#[]⟩ :: .bool false :: .string ⟨#[]⟩ :: .bool false :: .bool false :: .string ⟨#[]⟩ :: .bool false :: .string ⟨#[]⟩ :: .bool false :: .string ⟨#[]⟩ :: .bool false :: .string ⟨#[]⟩ :: .bool false :: []), fc (canQ (Q4.mk n.x n.y n.z d)), [.bool true], fc (canQ (Q4.mk n.x n.y n.z d)), [.bool true, .bool false, .bool false, .bool false, .bool false, .bool true, .bool true]]) [.b false, .b false, .b false, .b false, .b false, .b false, .b false, .b false, .b false, .b false, .b true] [.ga 0 8, .ga 8 9, .ga 17 3] 20 (.one (.ca 68)) (.call 10 [] (.one (.ca 20)) [] :: .op1 .not (.pa 20) 21 :: .isB 21 false :: .call 11 [.ga 0 8, .c (.p (.lit (.slice none 0 0)))] (.one (.ca 22)) [] :: .isB 22 false :: .call 12 [.ga 8 3] (.one (.ca 23)) [] :: .isB 23 false :: .call 12 [.ga 11 3] (.one (.ca 24)) [] :: .isB 24 false :: .call 12 [.ga 14 3] (.one (.ca 25)) [] :: .isB 25 false :: .call 12 [.ga 17 3] (.one (.ca 26)) [] :: .isB 26 false :: .call 13 [.ga 0 8] (.tup [.ga 27 8, .ca 35]) [] :: .call 14 [.ga 0 8] (.tup [.ga 36 8, .ca 44]) [] :: .call 15 [.ga 8 9, .ga 17 3] (.tup [.ga 45 8, .ca 53]) [] :: .call 16 [.ga 8 9, .ga 17 3] (.tup [.ga 54 8, .ca 62]) [] :: .eqs true [.b, .s, .b, .s, .b, .s, .b, .s] [.pa 27, .pa 28, .pa 29, .pa 30, .pa 31, .pa 32, .pa 33, .pa 34] [.pa 36, .pa 37, .pa 38, .pa 39, .pa 40, .pa 41, .pa 42, .pa 43] 63 :: .isB 63 false :: .op2 true .neq (.pa 35) (.pa 44) 64 :: .isB 64 false :: .eqs true [.b, .s, .b, .s, .b, .s, .b, .s] [.pa 45, .pa 46, .pa 47, .pa 48, .pa 49, .pa 50, .pa 51, .pa 52] [.pa 54, .pa 55, .pa 56, .pa 57, .pa 58, .pa 59, .pa 60, .pa 61] 65 :: .isB 65 false :: .op2 true .neq (.pa 53) (.pa 62) 66 :: .isB 66 false :: .op1 .not (.pa 35) 67 :: .isB 67 true :: .eqs false [.b, .s, .b, .s, .b, .s, .b, .s] [.pa 27, .pa 28, .pa 29, .pa 30, .pa 31, .pa 32, .pa 33, .pa 34] [.p (.lit (.bool false)), .p (.lit (.string ⟨#[]⟩)), .p (.lit (.bool false)), .p (.lit (.string ⟨#[]⟩)), .p (.lit (.bool false)), .p (.lit (.string ⟨#[]⟩)), .p (.lit (.bool false)), .p (.lit (.string ⟨#[]⟩))] 68 :: []) Tryz.func3 (by kernel_rfl) rfl (by kernel_rfl) rfl (by kernel_rfl)
    ⟨fun γ w' bw _ => alive5_any w' (hT.later bw),
     congrArg (fun z => some (Value.bool z)) (by first | rfl | assumption | decide | simp [*] : (!true) = false),
     rfl,
     fun γ w' _ hm => great5_0_no p_0 p_1 p_2 p_3 p_4 p_5 p_6 p_7 w'  hp_1 hp_3 hp_5 hp_7,
     rfl,
     fun γ w' _ _ => long5_no n_0 n_1 n_2 w' hn_1 hn_2,
     rfl,
     fun γ w' _ _ => long5_no n_3 n_4 n_5 w' hn_4 hn_5,
     rfl,
     fun γ w' _ _ => long5_no n_6 n_7 n_8 w' hn_7 hn_8,
     rfl,
     fun γ w' _ _ => long5_no d_0 d_1 d_2 w' hd_1 hd_2,
     rfl,
     fun γ w' bw _ => by have h := plNormalize_any hp (by decide) w' (hT.later bw); rw [normV, if_pos gf] at h; exact h,
     fun γ w' _ _ => by have h := v5Norm_any hp (by decide) w'; rw [normV, if_pos gf] at h; exact h,
     fun γ w' bw _ => by have h := plFrom_any hn (by decide) hd (by decide) w' (hT.later bw); rw [planeV, if_neg gv] at h; exact h,
     fun γ w' bw _ => by have h := v5Make_any hn (by decide) hd (by decide) w'; rw [planeV, if_neg gv] at h; exact h,
     ⟨rfl, rfl, eqv_yes (eqL_F (Z4.mk (0 : Int) (0 : Int) (0 : Int) (0 : Int)) (Z4.mk (0 : Int) (0 : Int) (0 : Int) (0 : Int))) (rfl) rfl⟩,
     rfl,
     congrArg (fun z => some (Value.bool z)) (by first | rfl | assumption | decide | simp [*] : (!(false == false)) = false),
     rfl,
     ⟨rfl, rfl, eqv_yes (eqL_F (canQ (Q4.mk n.x n.y n.z d)) (canQ (Q4.mk n.x n.y n.z d))) (rfl) rfl⟩,
     rfl,
     congrArg (fun z => some (Value.bool z)) (by first | rfl | assumption | decide | simp [*] : (!(true == true)) = false),
     rfl,
     congrArg (fun z => some (Value.bool z)) (by first | rfl | assumption | decide | simp [*] : (!false) = true),
     rfl,
     ⟨rfl, rfl, eqv_yes (eqL_F (Z4.mk (0 : Int) (0 : Int) (0 : Int) (0 : Int)) (Z4.mk (0 : Int) (0 : Int) (0 : Int) (0 : Int))) (rfl) rfl⟩⟩
set_option maxRecDepth 100000 in
theorem Canonical_nf (p_0 : Bool) (p_1 : ByteArray) (p_2 : Bool) (p_3 : ByteArray) (p_4 : Bool) (p_5 : ByteArray) (p_6 : Bool) (p_7 : ByteArray) (n_0 : Bool) (n_1 : ByteArray) (n_2 : ByteArray) (n_3 : Bool) (n_4 : ByteArray) (n_5 : ByteArray) (n_6 : Bool) (n_7 : ByteArray) (n_8 : ByteArray) (d_0 : Bool) (d_1 : ByteArray) (d_2 : ByteArray) (w : World) (hT : TabC w) (hp_1 : p_1.size ≤ 6) (hp_3 : p_3.size ≤ 6) (hp_5 : p_5.size ≤ 6) (hp_7 : p_7.size ≤ 6) (hn_1 : n_1.size ≤ 6) (hn_2 : n_2.size ≤ 6) (hn_4 : n_4.size ≤ 6) (hn_5 : n_5.size ≤ 6) (hn_7 : n_7.size ≤ 6) (hn_8 : n_8.size ≤ 6) (hd_1 : d_1.size ≤ 6) (hd_2 : d_2.size ≤ 6) (gf : ¬ flatF (Z4.mk (iv p_0 p_1) (iv p_2 p_3) (iv p_4 p_5) (iv p_6 p_7))) (gq : flatQ (Q4.mk (rq n_0 n_1 n_2) (rq n_3 n_4 n_5) (rq n_6 n_7 n_8) (rq d_0 d_1 d_2))) :
    Calls Tryz.prog 3 #[.agg #[.bool p_0, .string p_1, .bool p_2, .string p_3, .bool p_4, .string p_5, .bool p_6, .string p_7], .agg #[.bool n_0, .string n_1, .string n_2, .bool n_3, .string n_4, .string n_5, .bool n_6, .string n_7, .string n_8], .agg #[.bool d_0, .string d_1, .string d_2]] w fun e w' => e = .returned (.bool true) ∧ Below w.heap.size w w' := by
  obtain ⟨p, hp, rp⟩ : ∃ q, IsF (.agg #[.bool p_0, .string p_1, .bool p_2, .string p_3, .bool p_4, .string p_5, .bool p_6, .string p_7]) q 6 ∧ q = ⟨iv p_0 p_1, iv p_2 p_3, iv p_4 p_5, iv p_6 p_7⟩ := ⟨⟨_, _, _, _⟩, ⟨_, _, _, _, _, _, _, _, rfl, rfl, hp_1, rfl, hp_3, rfl, hp_5, rfl, hp_7⟩, rfl⟩
  have zp := hp.sz
  obtain ⟨n, hn, rn⟩ : ∃ q, IsV (.agg #[.bool n_0, .string n_1, .string n_2, .bool n_3, .string n_4, .string n_5, .bool n_6, .string n_7, .string n_8]) q 6 ∧ q = ⟨rq n_0 n_1 n_2, rq n_3 n_4 n_5, rq n_6 n_7 n_8⟩ := ⟨⟨_, _, _⟩, ⟨_, _, _, _, _, _, _, _, _, rfl, rfl, hn_1, hn_2, rfl, hn_4, hn_5, rfl, hn_7, hn_8⟩, rfl⟩
  have zn := hn.sz (by decide)
  obtain ⟨d, hd, rd⟩ : ∃ q, IsQ (.agg #[.bool d_0, .string d_1, .string d_2]) q 6 ∧ q = rq d_0 d_1 d_2 := ⟨_, ⟨_, _, _, rfl, rfl, hd_1, hd_2⟩, rfl⟩
  have zd := hd.sz (by decide)
  rw [← rp] at gf
  have gv : flatQ (Q4.mk n.x n.y n.z d) := by rw [rn, rd]; exact gq
  have f1 : Fk (prim p) 6 := Fk.up ((Fk.prim zp)) (by decide)
  exact SX.run (w := w) (List.flatten [[.bool p_0, .string p_1, .bool p_2, .string p_3, .bool p_4, .string p_5, .bool p_6, .string p_7, .bool n_0, .string n_1, .string n_2, .bool n_3, .string n_4, .string n_5, .bool n_6, .string n_7, .string n_8, .bool d_0, .string d_1, .string d_2, .bool true, .bool false, .bool false, .bool false, .bool false, .bool false, .bool false], fc (prim p), [.bool true], fc (prim p), [.bool true, .bool false, .string ⟨#[]⟩, .bool false, .string ⟨#[]⟩, .bool false, .string ⟨#[]⟩, .bool false, .string ⟨#[]⟩, .bool false, .bool false, .string ⟨#[]⟩, .bool false, .string ⟨#[]⟩, .bool false, .string ⟨#[]⟩, .bool false, .string ⟨#[]⟩, .bool false, .bool false, .bool false, .bool false, .bool false, .bool false], fc (prim p), [.bool true, .bool true]]) [.b false, .b false, .b false, .b false, .b false, .b false, .b false, .b false, .b false, .b false, .b false, .b true] [.ga 0 8, .ga 8 9, .ga 17 3] 20 (.one (.ca 77)) (.call 10 [] (.one (.ca 20)) [] :: .op1 .not (.pa 20) 21 :: .isB 21 false :: .call 11 [.ga 0 8, .c (.p (.lit (.slice none 0 0)))] (.one (.ca 22)) [] :: .isB 22 false :: .call 12 [.ga 8 3] (.one (.ca 23)) [] :: .isB 23 false :: .call 12 [.ga 11 3] (.one (.ca 24)) [] :: .isB 24 false :: .call 12 [.ga 14 3] (.one (.ca 25)) [] :: .isB 25 false :: .call 12 [.ga 17 3] (.one (.ca 26)) [] :: .isB 26 false :: .call 13 [.ga 0 8] (.tup [.ga 27 8, .ca 35]) [] :: .call 14 [.ga 0 8] (.tup [.ga 36 8, .ca 44]) [] :: .call 15 [.ga 8 9, .ga 17 3] (.tup [.ga 45 8, .ca 53]) [] :: .call 16 [.ga 8 9, .ga 17 3] (.tup [.ga 54 8, .ca 62]) [] :: .eqs true [.b, .s, .b, .s, .b, .s, .b, .s] [.pa 27, .pa 28, .pa 29, .pa 30, .pa 31, .pa 32, .pa 33, .pa 34] [.pa 36, .pa 37, .pa 38, .pa 39, .pa 40, .pa 41, .pa 42, .pa 43] 63 :: .isB 63 false :: .op2 true .neq (.pa 35) (.pa 44) 64 :: .isB 64 false :: .eqs true [.b, .s, .b, .s, .b, .s, .b, .s] [.pa 45, .pa 46, .pa 47, .pa 48, .pa 49, .pa 50, .pa 51, .pa 52] [.pa 54, .pa 55, .pa 56, .pa 57, .pa 58, .pa 59, .pa 60, .pa 61] 65 :: .isB 65 false :: .op2 true .neq (.pa 53) (.pa 62) 66 :: .isB 66 false :: .op1 .not (.pa 35) 67 :: .isB 67 false :: .call 13 [.ga 27 8] (.tup [.ga 68 8, .ca 76]) [] :: .isB 76 true :: .eqs false [.b, .s, .b, .s, .b, .s, .b, .s] [.pa 68, .pa 69, .pa 70, .pa 71, .pa 72, .pa 73, .pa 74, .pa 75] [.pa 27, .pa 28, .pa 29, .pa 30, .pa 31, .pa 32, .pa 33, .pa 34] 77 :: []) Tryz.func3 (by kernel_rfl) rfl (by kernel_rfl) rfl (by kernel_rfl)
    ⟨fun γ w' bw _ => alive5_any w' (hT.later bw),
     congrArg (fun z => some (Value.bool z)) (by first | rfl | assumption | decide | simp [*] : (!true) = false),
     rfl,
     fun γ w' _ hm => great5_0_no p_0 p_1 p_2 p_3 p_4 p_5 p_6 p_7 w'  hp_1 hp_3 hp_5 hp_7,
     rfl,
     fun γ w' _ _ => long5_no n_0 n_1 n_2 w' hn_1 hn_2,
     rfl,
     fun γ w' _ _ => long5_no n_3 n_4 n_5 w' hn_4 hn_5,
     rfl,
     fun γ w' _ _ => long5_no n_6 n_7 n_8 w' hn_7 hn_8,
     rfl,
     fun γ w' _ _ => long5_no d_0 d_1 d_2 w' hd_1 hd_2,
     rfl,
     fun γ w' bw _ => by have h := plNormalize_any hp (by decide) w' (hT.later bw); rw [normV, if_neg gf] at h; exact h,
     fun γ w' _ _ => by have h := v5Norm_any hp (by decide) w'; rw [normV, if_neg gf] at h; exact h,
     fun γ w' bw _ => by have h := plFrom_any hn (by decide) hd (by decide) w' (hT.later bw); rw [planeV, if_pos gv] at h; exact h,
     fun γ w' bw _ => by have h := v5Make_any hn (by decide) hd (by decide) w'; rw [planeV, if_pos gv] at h; exact h,
     ⟨rfl, rfl, eqv_yes (eqL_F (prim p) (prim p)) (rfl) rfl⟩,
     rfl,
     congrArg (fun z => some (Value.bool z)) (by first | rfl | assumption | decide | simp [*] : (!(true == true)) = false),
     rfl,
     ⟨rfl, rfl, eqv_yes (eqL_F (Z4.mk (0 : Int) (0 : Int) (0 : Int) (0 : Int)) (Z4.mk (0 : Int) (0 : Int) (0 : Int) (0 : Int))) (rfl) rfl⟩,
     rfl,
     congrArg (fun z => some (Value.bool z)) (by first | rfl | assumption | decide | simp [*] : (!(false == false)) = false),
     rfl,
     congrArg (fun z => some (Value.bool z)) (by first | rfl | assumption | decide | simp [*] : (!true) = false),
     rfl,
     fun γ w' bw _ => by have h := plNormalize_any (IsF.can f1) (by decide) w' (hT.later bw); rw [normV, if_neg (prim_flat gf), prim_prim (g4_flat gf)] at h; exact h,
     rfl,
     ⟨rfl, rfl, eqv_yes (eqL_F (prim p) (prim p)) (rfl) rfl⟩⟩
set_option maxRecDepth 100000 in
theorem Canonical_nn (p_0 : Bool) (p_1 : ByteArray) (p_2 : Bool) (p_3 : ByteArray) (p_4 : Bool) (p_5 : ByteArray) (p_6 : Bool) (p_7 : ByteArray) (n_0 : Bool) (n_1 : ByteArray) (n_2 : ByteArray) (n_3 : Bool) (n_4 : ByteArray) (n_5 : ByteArray) (n_6 : Bool) (n_7 : ByteArray) (n_8 : ByteArray) (d_0 : Bool) (d_1 : ByteArray) (d_2 : ByteArray) (w : World) (hT : TabC w) (hp_1 : p_1.size ≤ 6) (hp_3 : p_3.size ≤ 6) (hp_5 : p_5.size ≤ 6) (hp_7 : p_7.size ≤ 6) (hn_1 : n_1.size ≤ 6) (hn_2 : n_2.size ≤ 6) (hn_4 : n_4.size ≤ 6) (hn_5 : n_5.size ≤ 6) (hn_7 : n_7.size ≤ 6) (hn_8 : n_8.size ≤ 6) (hd_1 : d_1.size ≤ 6) (hd_2 : d_2.size ≤ 6) (gf : ¬ flatF (Z4.mk (iv p_0 p_1) (iv p_2 p_3) (iv p_4 p_5) (iv p_6 p_7))) (gq : ¬ flatQ (Q4.mk (rq n_0 n_1 n_2) (rq n_3 n_4 n_5) (rq n_6 n_7 n_8) (rq d_0 d_1 d_2))) :
    Calls Tryz.prog 3 #[.agg #[.bool p_0, .string p_1, .bool p_2, .string p_3, .bool p_4, .string p_5, .bool p_6, .string p_7], .agg #[.bool n_0, .string n_1, .string n_2, .bool n_3, .string n_4, .string n_5, .bool n_6, .string n_7, .string n_8], .agg #[.bool d_0, .string d_1, .string d_2]] w fun e w' => e = .returned (.bool true) ∧ Below w.heap.size w w' := by
  obtain ⟨p, hp, rp⟩ : ∃ q, IsF (.agg #[.bool p_0, .string p_1, .bool p_2, .string p_3, .bool p_4, .string p_5, .bool p_6, .string p_7]) q 6 ∧ q = ⟨iv p_0 p_1, iv p_2 p_3, iv p_4 p_5, iv p_6 p_7⟩ := ⟨⟨_, _, _, _⟩, ⟨_, _, _, _, _, _, _, _, rfl, rfl, hp_1, rfl, hp_3, rfl, hp_5, rfl, hp_7⟩, rfl⟩
  have zp := hp.sz
  obtain ⟨n, hn, rn⟩ : ∃ q, IsV (.agg #[.bool n_0, .string n_1, .string n_2, .bool n_3, .string n_4, .string n_5, .bool n_6, .string n_7, .string n_8]) q 6 ∧ q = ⟨rq n_0 n_1 n_2, rq n_3 n_4 n_5, rq n_6 n_7 n_8⟩ := ⟨⟨_, _, _⟩, ⟨_, _, _, _, _, _, _, _, _, rfl, rfl, hn_1, hn_2, rfl, hn_4, hn_5, rfl, hn_7, hn_8⟩, rfl⟩
  have zn := hn.sz (by decide)
  obtain ⟨d, hd, rd⟩ : ∃ q, IsQ (.agg #[.bool d_0, .string d_1, .string d_2]) q 6 ∧ q = rq d_0 d_1 d_2 := ⟨_, ⟨_, _, _, rfl, rfl, hd_1, hd_2⟩, rfl⟩
  have zd := hd.sz (by decide)
  rw [← rp] at gf
  have gv : ¬ flatQ (Q4.mk n.x n.y n.z d) := by rw [rn, rd]; exact gq
  have f1 : Fk (prim p) 6 := Fk.up ((Fk.prim zp)) (by decide)
  have f2 : Fk (canQ (Q4.mk n.x n.y n.z d)) 24 := Fk.up ((Fk.canQ (k := 6) (Rk.mono zn.1 (by decide)) (Rk.mono zn.2.1 (by decide)) (Rk.mono zn.2.2 (by decide)) (Rk.mono zd (by decide)))) (by decide)
  exact SX.run (w := w) (List.flatten [[.bool p_0, .string p_1, .bool p_2, .string p_3, .bool p_4, .string p_5, .bool p_6, .string p_7, .bool n_0, .string n_1, .string n_2, .bool n_3, .string n_4, .string n_5, .bool n_6, .string n_7, .string n_8, .bool d_0, .string d_1, .string d_2, .bool true, .bool false, .bool false, .bool false, .bool false, .bool false, .bool false], fc (prim p), [.bool true], fc (prim p), [.bool true], fc (canQ (Q4.mk n.x n.y n.z d)), [.bool true], fc (canQ (Q4.mk n.x n.y n.z d)), [.bool true, .bool false, .bool false, .bool false, .bool false, .bool false], fc (prim p), [.bool true, .bool true]]) [.b false, .b false, .b false, .b false, .b false, .b false, .b false, .b false, .b false, .b false, .b false, .b true] [.ga 0 8, .ga 8 9, .ga 17 3] 20 (.one (.ca 77)) (.call 10 [] (.one (.ca 20)) [] :: .op1 .not (.pa 20) 21 :: .isB 21 false :: .call 11 [.ga 0 8, .c (.p (.lit (.slice none 0 0)))] (.one (.ca 22)) [] :: .isB 22 false :: .call 12 [.ga 8 3] (.one (.ca 23)) [] :: .isB 23 false :: .call 12 [.ga 11 3] (.one (.ca 24)) [] :: .isB 24 false :: .call 12 [.ga 14 3] (.one (.ca 25)) [] :: .isB 25 false :: .call 12 [.ga 17 3] (.one (.ca 26)) [] :: .isB 26 false :: .call 13 [.ga 0 8] (.tup [.ga 27 8, .ca 35]) [] :: .call 14 [.ga 0 8] (.tup [.ga 36 8, .ca 44]) [] :: .call 15 [.ga 8 9, .ga 17 3] (.tup [.ga 45 8, .ca 53]) [] :: .call 16 [.ga 8 9, .ga 17 3] (.tup [.ga 54 8, .ca 62]) [] :: .eqs true [.b, .s, .b, .s, .b, .s, .b, .s] [.pa 27, .pa 28, .pa 29, .pa 30, .pa 31, .pa 32, .pa 33, .pa 34] [.pa 36, .pa 37, .pa 38, .pa 39, .pa 40, .pa 41, .pa 42, .pa 43] 63 :: .isB 63 false :: .op2 true .neq (.pa 35) (.pa 44) 64 :: .isB 64 false :: .eqs true [.b, .s, .b, .s, .b, .s, .b, .s] [.pa 45, .pa 46, .pa 47, .pa 48, .pa 49, .pa 50, .pa 51, .pa 52] [.pa 54, .pa 55, .pa 56, .pa 57, .pa 58, .pa 59, .pa 60, .pa 61] 65 :: .isB 65 false :: .op2 true .neq (.pa 53) (.pa 62) 66 :: .isB 66 false :: .op1 .not (.pa 35) 67 :: .isB 67 false :: .call 13 [.ga 27 8] (.tup [.ga 68 8, .ca 76]) [] :: .isB 76 true :: .eqs false [.b, .s, .b, .s, .b, .s, .b, .s] [.pa 68, .pa 69, .pa 70, .pa 71, .pa 72, .pa 73, .pa 74, .pa 75] [.pa 27, .pa 28, .pa 29, .pa 30, .pa 31, .pa 32, .pa 33, .pa 34] 77 :: []) Tryz.func3 (by kernel_rfl) rfl (by kernel_rfl) rfl (by kernel_rfl)
    ⟨fun γ w' bw _ => alive5_any w' (hT.later bw),
     congrArg (fun z => some (Value.bool z)) (by first | rfl | assumption | decide | simp [*] : (!true) = false),
     rfl,
     fun γ w' _ hm => great5_0_no p_0 p_1 p_2 p_3 p_4 p_5 p_6 p_7 w'  hp_1 hp_3 hp_5 hp_7,
     rfl,
     fun γ w' _ _ => long5_no n_0 n_1 n_2 w' hn_1 hn_2,
     rfl,
     fun γ w' _ _ => long5_no n_3 n_4 n_5 w' hn_4 hn_5,
     rfl,
     fun γ w' _ _ => long5_no n_6 n_7 n_8 w' hn_7 hn_8,
     rfl,
     fun γ w' _ _ => long5_no d_0 d_1 d_2 w' hd_1 hd_2,
     rfl,
     fun γ w' bw _ => by have h := plNormalize_any hp (by decide) w' (hT.later bw); rw [normV, if_neg gf] at h; exact h,
     fun γ w' _ _ => by have h := v5Norm_any hp (by decide) w'; rw [normV, if_neg gf] at h; exact h,
     fun γ w' bw _ => by have h := plFrom_any hn (by decide) hd (by decide) w' (hT.later bw); rw [planeV, if_neg gv] at h; exact h,
     fun γ w' bw _ => by have h := v5Make_any hn (by decide) hd (by decide) w'; rw [planeV, if_neg gv] at h; exact h,
     ⟨rfl, rfl, eqv_yes (eqL_F (prim p) (prim p)) (rfl) rfl⟩,
     rfl,
     congrArg (fun z => some (Value.bool z)) (by first | rfl | assumption | decide | simp [*] : (!(true == true)) = false),
     rfl,
     ⟨rfl, rfl, eqv_yes (eqL_F (canQ (Q4.mk n.x n.y n.z d)) (canQ (Q4.mk n.x n.y n.z d))) (rfl) rfl⟩,
     rfl,
     congrArg (fun z => some (Value.bool z)) (by first | rfl | assumption | decide | simp [*] : (!(true == true)) = false),
     rfl,
     congrArg (fun z => some (Value.bool z)) (by first | rfl | assumption | decide | simp [*] : (!true) = false),
     rfl,
     fun γ w' bw _ => by have h := plNormalize_any (IsF.can f1) (by decide) w' (hT.later bw); rw [normV, if_neg (prim_flat gf), prim_prim (g4_flat gf)] at h; exact h,
     rfl,
     ⟨rfl, rfl, eqv_yes (eqL_F (prim p) (prim p)) (rfl) rfl⟩⟩
theorem PlaneCanonical_any (p_0 : Bool) (p_1 : ByteArray) (p_2 : Bool) (p_3 : ByteArray) (p_4 : Bool) (p_5 : ByteArray) (p_6 : Bool) (p_7 : ByteArray) (n_0 : Bool) (n_1 : ByteArray) (n_2 : ByteArray) (n_3 : Bool) (n_4 : ByteArray) (n_5 : ByteArray) (n_6 : Bool) (n_7 : ByteArray) (n_8 : ByteArray) (d_0 : Bool) (d_1 : ByteArray) (d_2 : ByteArray) (w : World) (hT : TabC w) :
    Calls Tryz.prog 3 #[.agg #[.bool p_0, .string p_1, .bool p_2, .string p_3, .bool p_4, .string p_5, .bool p_6, .string p_7], .agg #[.bool n_0, .string n_1, .string n_2, .bool n_3, .string n_4, .string n_5, .bool n_6, .string n_7, .string n_8], .agg #[.bool d_0, .string d_1, .string d_2]] w fun e w' => e = .returned (.bool true) ∧ Below w.heap.size w w' := by
  by_cases g : p_1.size ≤ 6 ∧ p_3.size ≤ 6 ∧ p_5.size ≤ 6 ∧ p_7.size ≤ 6
  rotate_left
  · exact Canonical_p p_0 p_1 p_2 p_3 p_4 p_5 p_6 p_7 n_0 n_1 n_2 n_3 n_4 n_5 n_6 n_7 n_8 d_0 d_1 d_2 w hT  g
  obtain ⟨hp_1, hp_3, hp_5, hp_7⟩ := g
  by_cases g : n_1.size ≤ 6 ∧ n_2.size ≤ 6
  rotate_left
  · exact Canonical_l1 p_0 p_1 p_2 p_3 p_4 p_5 p_6 p_7 n_0 n_1 n_2 n_3 n_4 n_5 n_6 n_7 n_8 d_0 d_1 d_2 w hT hp_1 hp_3 hp_5 hp_7 g
  obtain ⟨hn_1, hn_2⟩ := g
  by_cases g : n_4.size ≤ 6 ∧ n_5.size ≤ 6
  rotate_left
  · exact Canonical_l2 p_0 p_1 p_2 p_3 p_4 p_5 p_6 p_7 n_0 n_1 n_2 n_3 n_4 n_5 n_6 n_7 n_8 d_0 d_1 d_2 w hT hp_1 hp_3 hp_5 hp_7 hn_1 hn_2 g
  obtain ⟨hn_4, hn_5⟩ := g
  by_cases g : n_7.size ≤ 6 ∧ n_8.size ≤ 6
  rotate_left
  · exact Canonical_l3 p_0 p_1 p_2 p_3 p_4 p_5 p_6 p_7 n_0 n_1 n_2 n_3 n_4 n_5 n_6 n_7 n_8 d_0 d_1 d_2 w hT hp_1 hp_3 hp_5 hp_7 hn_1 hn_2 hn_4 hn_5 g
  obtain ⟨hn_7, hn_8⟩ := g
  by_cases g : d_1.size ≤ 6 ∧ d_2.size ≤ 6
  rotate_left
  · exact Canonical_l4 p_0 p_1 p_2 p_3 p_4 p_5 p_6 p_7 n_0 n_1 n_2 n_3 n_4 n_5 n_6 n_7 n_8 d_0 d_1 d_2 w hT hp_1 hp_3 hp_5 hp_7 hn_1 hn_2 hn_4 hn_5 hn_7 hn_8 g
  obtain ⟨hd_1, hd_2⟩ := g
  by_cases gf : flatF (Z4.mk (iv p_0 p_1) (iv p_2 p_3) (iv p_4 p_5) (iv p_6 p_7))
  · by_cases gq : flatQ (Q4.mk (rq n_0 n_1 n_2) (rq n_3 n_4 n_5) (rq n_6 n_7 n_8) (rq d_0 d_1 d_2))
    · exact Canonical_ff p_0 p_1 p_2 p_3 p_4 p_5 p_6 p_7 n_0 n_1 n_2 n_3 n_4 n_5 n_6 n_7 n_8 d_0 d_1 d_2 w hT hp_1 hp_3 hp_5 hp_7 hn_1 hn_2 hn_4 hn_5 hn_7 hn_8 hd_1 hd_2 gf gq
    · exact Canonical_fn p_0 p_1 p_2 p_3 p_4 p_5 p_6 p_7 n_0 n_1 n_2 n_3 n_4 n_5 n_6 n_7 n_8 d_0 d_1 d_2 w hT hp_1 hp_3 hp_5 hp_7 hn_1 hn_2 hn_4 hn_5 hn_7 hn_8 hd_1 hd_2 gf gq
  · by_cases gq : flatQ (Q4.mk (rq n_0 n_1 n_2) (rq n_3 n_4 n_5) (rq n_6 n_7 n_8) (rq d_0 d_1 d_2))
    · exact Canonical_nf p_0 p_1 p_2 p_3 p_4 p_5 p_6 p_7 n_0 n_1 n_2 n_3 n_4 n_5 n_6 n_7 n_8 d_0 d_1 d_2 w hT hp_1 hp_3 hp_5 hp_7 hn_1 hn_2 hn_4 hn_5 hn_7 hn_8 hd_1 hd_2 gf gq
    · exact Canonical_nn p_0 p_1 p_2 p_3 p_4 p_5 p_6 p_7 n_0 n_1 n_2 n_3 n_4 n_5 n_6 n_7 n_8 d_0 d_1 d_2 w hT hp_1 hp_3 hp_5 hp_7 hn_1 hn_2 hn_4 hn_5 hn_7 hn_8 hd_1 hd_2 gf gq
theorem Fk.thr {a b c : P3} {k : Nat} (ha : Pk a k) (hb : Pk b k) (hc : Pk c k) (hk : 1 ≤ k) : Fk (Go.Proofs.YtpmfaommooneiaaGreatDoor.canQ (thrQ a b c)) (4 * (27 * k + 19)) := by
  have va := Vk.ofP ha hk
  have vb := Vk.ofP hb hk
  have vc := Vk.ofP hc hk
  have vu : Vk (P3.mk (b.x - a.x) (b.y - a.y) (b.z - a.z)) (k + k + 1) := ⟨Rk.sub vb.1 va.1, Rk.sub vb.2.1 va.2.1, Rk.sub vb.2.2 va.2.2⟩
  have vv : Vk (P3.mk (c.x - a.x) (c.y - a.y) (c.z - a.z)) (k + k + 1) := ⟨Rk.sub vc.1 va.1, Rk.sub vc.2.1 va.2.1, Rk.sub vc.2.2 va.2.2⟩
  have vn := Vk.cross vu vv
  have vd := Rk.dot vn va
  exact Fk.canQ (vn.1.mono (by omega)) (vn.2.1.mono (by omega)) (vn.2.2.mono (by omega)) (vd.mono (by omega))
set_option maxRecDepth 100000 in
theorem Through_a (a_0 : Bool) (a_1 : ByteArray) (a_2 : Bool) (a_3 : ByteArray) (a_4 : Bool) (a_5 : ByteArray) (a_6 : Bool) (a_7 : ByteArray) (b_0 : Bool) (b_1 : ByteArray) (b_2 : Bool) (b_3 : ByteArray) (b_4 : Bool) (b_5 : ByteArray) (b_6 : Bool) (b_7 : ByteArray) (c_0 : Bool) (c_1 : ByteArray) (c_2 : Bool) (c_3 : ByteArray) (c_4 : Bool) (c_5 : ByteArray) (c_6 : Bool) (c_7 : ByteArray) (w : World) (hT : TabC w)  (h : ¬ (a_1.size ≤ 6 ∧ a_3.size ≤ 6 ∧ a_5.size ≤ 6 ∧ a_7.size ≤ 6)) :
    Calls Tryz.prog 4 #[.agg #[.bool a_0, .string a_1, .bool a_2, .string a_3, .bool a_4, .string a_5, .bool a_6, .string a_7], .agg #[.bool b_0, .string b_1, .bool b_2, .string b_3, .bool b_4, .string b_5, .bool b_6, .string b_7], .agg #[.bool c_0, .string c_1, .bool c_2, .string c_3, .bool c_4, .string c_5, .bool c_6, .string c_7]] w fun e w' => e = .returned (.bool true) ∧ Below w.heap.size w w' := by
  exact SX.run (w := w) [.bool a_0, .string a_1, .bool a_2, .string a_3, .bool a_4, .string a_5, .bool a_6, .string a_7, .bool b_0, .string b_1, .bool b_2, .string b_3, .bool b_4, .string b_5, .bool b_6, .string b_7, .bool c_0, .string c_1, .bool c_2, .string c_3, .bool c_4, .string c_5, .bool c_6, .string c_7, .bool true, .bool false, .bool true] [.b false, .b true] [.ga 0 8, .ga 8 8, .ga 16 8] 24 (.one (.c (.p (.lit (.bool true))))) [.call 10 [] (.one (.ca 24)) [], .op1 .not (.pa 24) 25, .isB 25 false, .call 11 [.agg [.p (.lit (.bool false)), .p (.lit (.string ⟨#[]⟩)), .p (.lit (.bool false)), .p (.lit (.string ⟨#[]⟩)), .p (.lit (.bool false)), .p (.lit (.string ⟨#[]⟩)), .p (.lit (.bool false)), .p (.lit (.string ⟨#[]⟩))], .c (.p (.slc 3 0 3 3))] (.one (.ca 26)) [(3073, .pa 0), (3074, .pa 1), (3075, .pa 2), (3076, .pa 3), (3077, .pa 4), (3078, .pa 5), (3079, .pa 6), (3080, .pa 7), (3081, .pa 8), (3082, .pa 9), (3083, .pa 10), (3084, .pa 11), (3085, .pa 12), (3086, .pa 13), (3087, .pa 14), (3088, .pa 15), (3089, .pa 16), (3090, .pa 17), (3091, .pa 18), (3092, .pa 19), (3093, .pa 20), (3094, .pa 21), (3095, .pa 22), (3096, .pa 23)], .isB 26 true] Tryz.func4 (by kernel_rfl) rfl (by kernel_rfl) rfl (by kernel_rfl)
    ⟨fun γ w' bw _ => alive5_any w' (hT.later bw),
     congrArg (fun z => some (Value.bool z)) (by first | rfl | assumption | decide | simp [*] : (!true) = false),
     rfl,
     fun γ w' _ hm => great5_3_y0 false ⟨#[]⟩ false ⟨#[]⟩ false ⟨#[]⟩ false ⟨#[]⟩ a_0 a_1 a_2 a_3 a_4 a_5 a_6 a_7 b_0 b_1 b_2 b_3 b_4 b_5 b_6 b_7 c_0 c_1 c_2 c_3 c_4 c_5 c_6 c_7 w' (γ 3) (SX.mem_at (b := 3) (l := [.pa 0, .pa 1, .pa 2, .pa 3, .pa 4, .pa 5, .pa 6, .pa 7, .pa 8, .pa 9, .pa 10, .pa 11, .pa 12, .pa 13, .pa 14, .pa 15, .pa 16, .pa 17, .pa 18, .pa 19, .pa 20, .pa 21, .pa 22, .pa 23]) hm rfl)  h,
     rfl⟩
set_option maxRecDepth 100000 in
theorem Through_b (a_0 : Bool) (a_1 : ByteArray) (a_2 : Bool) (a_3 : ByteArray) (a_4 : Bool) (a_5 : ByteArray) (a_6 : Bool) (a_7 : ByteArray) (b_0 : Bool) (b_1 : ByteArray) (b_2 : Bool) (b_3 : ByteArray) (b_4 : Bool) (b_5 : ByteArray) (b_6 : Bool) (b_7 : ByteArray) (c_0 : Bool) (c_1 : ByteArray) (c_2 : Bool) (c_3 : ByteArray) (c_4 : Bool) (c_5 : ByteArray) (c_6 : Bool) (c_7 : ByteArray) (w : World) (hT : TabC w) (ha_1 : a_1.size ≤ 6) (ha_3 : a_3.size ≤ 6) (ha_5 : a_5.size ≤ 6) (ha_7 : a_7.size ≤ 6) (h : ¬ (b_1.size ≤ 6 ∧ b_3.size ≤ 6 ∧ b_5.size ≤ 6 ∧ b_7.size ≤ 6)) :
    Calls Tryz.prog 4 #[.agg #[.bool a_0, .string a_1, .bool a_2, .string a_3, .bool a_4, .string a_5, .bool a_6, .string a_7], .agg #[.bool b_0, .string b_1, .bool b_2, .string b_3, .bool b_4, .string b_5, .bool b_6, .string b_7], .agg #[.bool c_0, .string c_1, .bool c_2, .string c_3, .bool c_4, .string c_5, .bool c_6, .string c_7]] w fun e w' => e = .returned (.bool true) ∧ Below w.heap.size w w' := by
  exact SX.run (w := w) [.bool a_0, .string a_1, .bool a_2, .string a_3, .bool a_4, .string a_5, .bool a_6, .string a_7, .bool b_0, .string b_1, .bool b_2, .string b_3, .bool b_4, .string b_5, .bool b_6, .string b_7, .bool c_0, .string c_1, .bool c_2, .string c_3, .bool c_4, .string c_5, .bool c_6, .string c_7, .bool true, .bool false, .bool true] [.b false, .b true] [.ga 0 8, .ga 8 8, .ga 16 8] 24 (.one (.c (.p (.lit (.bool true))))) [.call 10 [] (.one (.ca 24)) [], .op1 .not (.pa 24) 25, .isB 25 false, .call 11 [.agg [.p (.lit (.bool false)), .p (.lit (.string ⟨#[]⟩)), .p (.lit (.bool false)), .p (.lit (.string ⟨#[]⟩)), .p (.lit (.bool false)), .p (.lit (.string ⟨#[]⟩)), .p (.lit (.bool false)), .p (.lit (.string ⟨#[]⟩))], .c (.p (.slc 3 0 3 3))] (.one (.ca 26)) [(3073, .pa 0), (3074, .pa 1), (3075, .pa 2), (3076, .pa 3), (3077, .pa 4), (3078, .pa 5), (3079, .pa 6), (3080, .pa 7), (3081, .pa 8), (3082, .pa 9), (3083, .pa 10), (3084, .pa 11), (3085, .pa 12), (3086, .pa 13), (3087, .pa 14), (3088, .pa 15), (3089, .pa 16), (3090, .pa 17), (3091, .pa 18), (3092, .pa 19), (3093, .pa 20), (3094, .pa 21), (3095, .pa 22), (3096, .pa 23)], .isB 26 true] Tryz.func4 (by kernel_rfl) rfl (by kernel_rfl) rfl (by kernel_rfl)
    ⟨fun γ w' bw _ => alive5_any w' (hT.later bw),
     congrArg (fun z => some (Value.bool z)) (by first | rfl | assumption | decide | simp [*] : (!true) = false),
     rfl,
     fun γ w' _ hm => great5_3_y1 false ⟨#[]⟩ false ⟨#[]⟩ false ⟨#[]⟩ false ⟨#[]⟩ a_0 a_1 a_2 a_3 a_4 a_5 a_6 a_7 b_0 b_1 b_2 b_3 b_4 b_5 b_6 b_7 c_0 c_1 c_2 c_3 c_4 c_5 c_6 c_7 w' (γ 3) (SX.mem_at (b := 3) (l := [.pa 0, .pa 1, .pa 2, .pa 3, .pa 4, .pa 5, .pa 6, .pa 7, .pa 8, .pa 9, .pa 10, .pa 11, .pa 12, .pa 13, .pa 14, .pa 15, .pa 16, .pa 17, .pa 18, .pa 19, .pa 20, .pa 21, .pa 22, .pa 23]) hm rfl) ha_1 ha_3 ha_5 ha_7 h,
     rfl⟩
set_option maxRecDepth 100000 in
theorem Through_c (a_0 : Bool) (a_1 : ByteArray) (a_2 : Bool) (a_3 : ByteArray) (a_4 : Bool) (a_5 : ByteArray) (a_6 : Bool) (a_7 : ByteArray) (b_0 : Bool) (b_1 : ByteArray) (b_2 : Bool) (b_3 : ByteArray) (b_4 : Bool) (b_5 : ByteArray) (b_6 : Bool) (b_7 : ByteArray) (c_0 : Bool) (c_1 : ByteArray) (c_2 : Bool) (c_3 : ByteArray) (c_4 : Bool) (c_5 : ByteArray) (c_6 : Bool) (c_7 : ByteArray) (w : World) (hT : TabC w) (ha_1 : a_1.size ≤ 6) (ha_3 : a_3.size ≤ 6) (ha_5 : a_5.size ≤ 6) (ha_7 : a_7.size ≤ 6) (hb_1 : b_1.size ≤ 6) (hb_3 : b_3.size ≤ 6) (hb_5 : b_5.size ≤ 6) (hb_7 : b_7.size ≤ 6) (h : ¬ (c_1.size ≤ 6 ∧ c_3.size ≤ 6 ∧ c_5.size ≤ 6 ∧ c_7.size ≤ 6)) :
    Calls Tryz.prog 4 #[.agg #[.bool a_0, .string a_1, .bool a_2, .string a_3, .bool a_4, .string a_5, .bool a_6, .string a_7], .agg #[.bool b_0, .string b_1, .bool b_2, .string b_3, .bool b_4, .string b_5, .bool b_6, .string b_7], .agg #[.bool c_0, .string c_1, .bool c_2, .string c_3, .bool c_4, .string c_5, .bool c_6, .string c_7]] w fun e w' => e = .returned (.bool true) ∧ Below w.heap.size w w' := by
  exact SX.run (w := w) [.bool a_0, .string a_1, .bool a_2, .string a_3, .bool a_4, .string a_5, .bool a_6, .string a_7, .bool b_0, .string b_1, .bool b_2, .string b_3, .bool b_4, .string b_5, .bool b_6, .string b_7, .bool c_0, .string c_1, .bool c_2, .string c_3, .bool c_4, .string c_5, .bool c_6, .string c_7, .bool true, .bool false, .bool true] [.b false, .b true] [.ga 0 8, .ga 8 8, .ga 16 8] 24 (.one (.c (.p (.lit (.bool true))))) [.call 10 [] (.one (.ca 24)) [], .op1 .not (.pa 24) 25, .isB 25 false, .call 11 [.agg [.p (.lit (.bool false)), .p (.lit (.string ⟨#[]⟩)), .p (.lit (.bool false)), .p (.lit (.string ⟨#[]⟩)), .p (.lit (.bool false)), .p (.lit (.string ⟨#[]⟩)), .p (.lit (.bool false)), .p (.lit (.string ⟨#[]⟩))], .c (.p (.slc 3 0 3 3))] (.one (.ca 26)) [(3073, .pa 0), (3074, .pa 1), (3075, .pa 2), (3076, .pa 3), (3077, .pa 4), (3078, .pa 5), (3079, .pa 6), (3080, .pa 7), (3081, .pa 8), (3082, .pa 9), (3083, .pa 10), (3084, .pa 11), (3085, .pa 12), (3086, .pa 13), (3087, .pa 14), (3088, .pa 15), (3089, .pa 16), (3090, .pa 17), (3091, .pa 18), (3092, .pa 19), (3093, .pa 20), (3094, .pa 21), (3095, .pa 22), (3096, .pa 23)], .isB 26 true] Tryz.func4 (by kernel_rfl) rfl (by kernel_rfl) rfl (by kernel_rfl)
    ⟨fun γ w' bw _ => alive5_any w' (hT.later bw),
     congrArg (fun z => some (Value.bool z)) (by first | rfl | assumption | decide | simp [*] : (!true) = false),
     rfl,
     fun γ w' _ hm => great5_3_y2 false ⟨#[]⟩ false ⟨#[]⟩ false ⟨#[]⟩ false ⟨#[]⟩ a_0 a_1 a_2 a_3 a_4 a_5 a_6 a_7 b_0 b_1 b_2 b_3 b_4 b_5 b_6 b_7 c_0 c_1 c_2 c_3 c_4 c_5 c_6 c_7 w' (γ 3) (SX.mem_at (b := 3) (l := [.pa 0, .pa 1, .pa 2, .pa 3, .pa 4, .pa 5, .pa 6, .pa 7, .pa 8, .pa 9, .pa 10, .pa 11, .pa 12, .pa 13, .pa 14, .pa 15, .pa 16, .pa 17, .pa 18, .pa 19, .pa 20, .pa 21, .pa 22, .pa 23]) hm rfl) ha_1 ha_3 ha_5 ha_7 hb_1 hb_3 hb_5 hb_7 h,
     rfl⟩
set_option maxRecDepth 100000 in
theorem Through_f (a_0 : Bool) (a_1 : ByteArray) (a_2 : Bool) (a_3 : ByteArray) (a_4 : Bool) (a_5 : ByteArray) (a_6 : Bool) (a_7 : ByteArray) (b_0 : Bool) (b_1 : ByteArray) (b_2 : Bool) (b_3 : ByteArray) (b_4 : Bool) (b_5 : ByteArray) (b_6 : Bool) (b_7 : ByteArray) (c_0 : Bool) (c_1 : ByteArray) (c_2 : Bool) (c_3 : ByteArray) (c_4 : Bool) (c_5 : ByteArray) (c_6 : Bool) (c_7 : ByteArray) (w : World) (hT : TabC w) (ha_1 : a_1.size ≤ 6) (ha_3 : a_3.size ≤ 6) (ha_5 : a_5.size ≤ 6) (ha_7 : a_7.size ≤ 6) (hb_1 : b_1.size ≤ 6) (hb_3 : b_3.size ≤ 6) (hb_5 : b_5.size ≤ 6) (hb_7 : b_7.size ≤ 6) (hc_1 : c_1.size ≤ 6) (hc_3 : c_3.size ≤ 6) (hc_5 : c_5.size ≤ 6) (hc_7 : c_7.size ≤ 6) (hf : flatQ (thrQ (pt ⟨iv a_0 a_1, iv a_2 a_3, iv a_4 a_5, iv a_6 a_7⟩) (pt ⟨iv b_0 b_1, iv b_2 b_3, iv b_4 b_5, iv b_6 b_7⟩) (pt ⟨iv c_0 c_1, iv c_2 c_3, iv c_4 c_5, iv c_6 c_7⟩))) :
    Calls Tryz.prog 4 #[.agg #[.bool a_0, .string a_1, .bool a_2, .string a_3, .bool a_4, .string a_5, .bool a_6, .string a_7], .agg #[.bool b_0, .string b_1, .bool b_2, .string b_3, .bool b_4, .string b_5, .bool b_6, .string b_7], .agg #[.bool c_0, .string c_1, .bool c_2, .string c_3, .bool c_4, .string c_5, .bool c_6, .string c_7]] w fun e w' => e = .returned (.bool true) ∧ Below w.heap.size w w' := by
  obtain ⟨aq, haq, raq⟩ : ∃ q, IsF (.agg #[.bool a_0, .string a_1, .bool a_2, .string a_3, .bool a_4, .string a_5, .bool a_6, .string a_7]) q 6 ∧ q = ⟨iv a_0 a_1, iv a_2 a_3, iv a_4 a_5, iv a_6 a_7⟩ := ⟨⟨_, _, _, _⟩, ⟨_, _, _, _, _, _, _, _, rfl, rfl, ha_1, rfl, ha_3, rfl, ha_5, rfl, ha_7⟩, rfl⟩
  have zaq := haq.sz
  obtain ⟨a, ea⟩ : ∃ p, p = pt aq := ⟨_, rfl⟩
  have ha : IsP (.agg #[.bool a_0, .string a_1, .bool a_2, .string a_3, .bool a_4, .string a_5, .bool a_6, .string a_7]) a 6 := by rw [ea]; exact haq.pt
  have za := ha.sz (by decide)
  have ra : a = pt ⟨iv a_0 a_1, iv a_2 a_3, iv a_4 a_5, iv a_6 a_7⟩ := by rw [ea, raq]
  obtain ⟨bq, hbq, rbq⟩ : ∃ q, IsF (.agg #[.bool b_0, .string b_1, .bool b_2, .string b_3, .bool b_4, .string b_5, .bool b_6, .string b_7]) q 6 ∧ q = ⟨iv b_0 b_1, iv b_2 b_3, iv b_4 b_5, iv b_6 b_7⟩ := ⟨⟨_, _, _, _⟩, ⟨_, _, _, _, _, _, _, _, rfl, rfl, hb_1, rfl, hb_3, rfl, hb_5, rfl, hb_7⟩, rfl⟩
  have zbq := hbq.sz
  obtain ⟨b, eb⟩ : ∃ p, p = pt bq := ⟨_, rfl⟩
  have hb : IsP (.agg #[.bool b_0, .string b_1, .bool b_2, .string b_3, .bool b_4, .string b_5, .bool b_6, .string b_7]) b 6 := by rw [eb]; exact hbq.pt
  have zb := hb.sz (by decide)
  have rb : b = pt ⟨iv b_0 b_1, iv b_2 b_3, iv b_4 b_5, iv b_6 b_7⟩ := by rw [eb, rbq]
  obtain ⟨cq, hcq, rcq⟩ : ∃ q, IsF (.agg #[.bool c_0, .string c_1, .bool c_2, .string c_3, .bool c_4, .string c_5, .bool c_6, .string c_7]) q 6 ∧ q = ⟨iv c_0 c_1, iv c_2 c_3, iv c_4 c_5, iv c_6 c_7⟩ := ⟨⟨_, _, _, _⟩, ⟨_, _, _, _, _, _, _, _, rfl, rfl, hc_1, rfl, hc_3, rfl, hc_5, rfl, hc_7⟩, rfl⟩
  have zcq := hcq.sz
  obtain ⟨c, ec⟩ : ∃ p, p = pt cq := ⟨_, rfl⟩
  have hc : IsP (.agg #[.bool c_0, .string c_1, .bool c_2, .string c_3, .bool c_4, .string c_5, .bool c_6, .string c_7]) c 6 := by rw [ec]; exact hcq.pt
  have zc := hc.sz (by decide)
  have rc : c = pt ⟨iv c_0 c_1, iv c_2 c_3, iv c_4 c_5, iv c_6 c_7⟩ := by rw [ec, rcq]
  rw [← ra, ← rb, ← rc] at hf
  have f1 : Pk a 6 := Pk.up (za) (by decide)
  have f2 : Pk b 6 := Pk.up (zb) (by decide)
  have f3 : Pk c 6 := Pk.up (zc) (by decide)
  exact SX.run (w := w) (List.flatten [[.bool a_0, .string a_1, .bool a_2, .string a_3, .bool a_4, .string a_5, .bool a_6, .string a_7, .bool b_0, .string b_1, .bool b_2, .string b_3, .bool b_4, .string b_5, .bool b_6, .string b_7, .bool c_0, .string c_1, .bool c_2, .string c_3, .bool c_4, .string c_5, .bool c_6, .string c_7, .bool true, .bool false, .bool false], pc a, pc b, pc c, (.bool false :: .string ⟨#[]⟩ :: .bool false :: .string ⟨#[]⟩ :: .bool false :: .string ⟨#[]⟩ :: .bool false :: .string ⟨#[]⟩ :: .bool false :: .bool false :: .string ⟨#[]⟩ :: .bool false :: .string ⟨#[]⟩ :: .bool false :: .string ⟨#[]⟩ :: .bool false :: .string ⟨#[]⟩ :: .bool false :: .bool false :: .bool false :: .bool false :: .string ⟨#[]⟩ :: .bool false :: .string ⟨#[]⟩ :: .bool false :: .string ⟨#[]⟩ :: .bool false :: .string ⟨#[]⟩ :: .bool false :: .bool false :: .string ⟨#[]⟩ :: .bool false :: .string ⟨#[]⟩ :: .bool false :: .string ⟨#[]⟩ :: .bool false :: .string ⟨#[]⟩ :: .bool false :: .bool true :: .bool true :: .bool true :: .bool true :: [])]) [.b false, .b false, .b false, .b false, .b true, .b true, .b true] [.ga 0 8, .ga 8 8, .ga 16 8] 24 (.one (.ca 92)) [.call 10 [] (.one (.ca 24)) [], .op1 .not (.pa 24) 25, .isB 25 false, .call 11 [.agg [.p (.lit (.bool false)), .p (.lit (.string ⟨#[]⟩)), .p (.lit (.bool false)), .p (.lit (.string ⟨#[]⟩)), .p (.lit (.bool false)), .p (.lit (.string ⟨#[]⟩)), .p (.lit (.bool false)), .p (.lit (.string ⟨#[]⟩))], .c (.p (.slc 3 0 3 3))] (.one (.ca 26)) [(3073, .pa 0), (3074, .pa 1), (3075, .pa 2), (3076, .pa 3), (3077, .pa 4), (3078, .pa 5), (3079, .pa 6), (3080, .pa 7), (3081, .pa 8), (3082, .pa 9), (3083, .pa 10), (3084, .pa 11), (3085, .pa 12), (3086, .pa 13), (3087, .pa 14), (3088, .pa 15), (3089, .pa 16), (3090, .pa 17), (3091, .pa 18), (3092, .pa 19), (3093, .pa 20), (3094, .pa 21), (3095, .pa 22), (3096, .pa 23)], .isB 26 false, .call 17 [.ga 0 8] (.one (.ga 27 8)) [], .call 17 [.ga 8 8] (.one (.ga 35 8)) [], .call 17 [.ga 16 8] (.one (.ga 43 8)) [], .call 18 [.ga 27 8, .ga 35 8, .ga 43 8] (.tup [.ga 51 8, .ca 59]) [], .call 19 [.ga 27 8, .ga 35 8, .ga 43 8] (.tup [.ga 60 8, .ca 68]) [], .eqs true [.b, .s, .b, .s, .b, .s, .b, .s] [.pa 51, .pa 52, .pa 53, .pa 54, .pa 55, .pa 56, .pa 57, .pa 58] [.pa 60, .pa 61, .pa 62, .pa 63, .pa 64, .pa 65, .pa 66, .pa 67] 69, .isB 69 false, .op2 true .neq (.pa 59) (.pa 68) 70, .isB 70 false, .call 18 [.ga 35 8, .ga 43 8, .ga 27 8] (.tup [.ga 71 8, .ca 79]) [], .call 18 [.ga 43 8, .ga 35 8, .ga 27 8] (.tup [.ga 80 8, .ca 88]) [], .op1 .not (.pa 59) 89, .isB 89 true, .eqs false [.b, .s, .b, .s, .b, .s, .b, .s] [.pa 51, .pa 52, .pa 53, .pa 54, .pa 55, .pa 56, .pa 57, .pa 58] [.p (.lit (.bool false)), .p (.lit (.string ⟨#[]⟩)), .p (.lit (.bool false)), .p (.lit (.string ⟨#[]⟩)), .p (.lit (.bool false)), .p (.lit (.string ⟨#[]⟩)), .p (.lit (.bool false)), .p (.lit (.string ⟨#[]⟩))] 90, .isB 90 true, .op1 .not (.pa 79) 91, .isB 91 true, .op1 .not (.pa 88) 92] Tryz.func4 (by kernel_rfl) rfl (by kernel_rfl) rfl (by kernel_rfl)
    ⟨fun γ w' bw _ => alive5_any w' (hT.later bw),
     congrArg (fun z => some (Value.bool z)) (by first | rfl | assumption | decide | simp [*] : (!true) = false),
     rfl,
     fun γ w' _ hm => great5_3_no false ⟨#[]⟩ false ⟨#[]⟩ false ⟨#[]⟩ false ⟨#[]⟩ a_0 a_1 a_2 a_3 a_4 a_5 a_6 a_7 b_0 b_1 b_2 b_3 b_4 b_5 b_6 b_7 c_0 c_1 c_2 c_3 c_4 c_5 c_6 c_7 w' (γ 3) (SX.mem_at (b := 3) (l := [.pa 0, .pa 1, .pa 2, .pa 3, .pa 4, .pa 5, .pa 6, .pa 7, .pa 8, .pa 9, .pa 10, .pa 11, .pa 12, .pa 13, .pa 14, .pa 15, .pa 16, .pa 17, .pa 18, .pa 19, .pa 20, .pa 21, .pa 22, .pa 23]) hm rfl) ha_1 ha_3 ha_5 ha_7 hb_1 hb_3 hb_5 hb_7 hc_1 hc_3 hc_5 hc_7 (by decide) (by decide) (by decide) (by decide),
     rfl,
     fun γ w' _ _ => p4Norm ha (by decide) w',
     fun γ w' _ _ => p4Norm hb (by decide) w',
     fun γ w' _ _ => p4Norm hc (by decide) w',
     fun γ w' bw _ => by have h := plThrough_any f1 (by decide) f2 (by decide) f3 (by decide) w' (hT.later bw); rw [planeV, if_pos hf] at h; exact h,
     fun γ w' bw _ => by have h := v5Through_any (IsP.can f1) (by decide) (IsP.can f2) (by decide) (IsP.can f3) (by decide) w'; rw [planeV, if_pos hf] at h; exact h,
     ⟨rfl, rfl, eqv_yes (eqL_F (Z4.mk (0 : Int) (0 : Int) (0 : Int) (0 : Int)) (Z4.mk (0 : Int) (0 : Int) (0 : Int) (0 : Int))) (rfl) rfl⟩,
     rfl,
     congrArg (fun z => some (Value.bool z)) (by first | rfl | assumption | decide | simp [*] : (!(false == false)) = false),
     rfl,
     fun γ w' bw _ => by have h := plThrough_any f2 (by decide) f3 (by decide) f1 (by decide) w' (hT.later bw); rw [thr_turn a b c, planeV, if_pos hf] at h; exact h,
     fun γ w' bw _ => by have h := plThrough_any f3 (by decide) f2 (by decide) f1 (by decide) w' (hT.later bw); rw [thr_back a b c, planeV, if_pos ((flat_negQ _).2 hf)] at h; exact h,
     congrArg (fun z => some (Value.bool z)) (by first | rfl | assumption | decide | simp [*] : (!false) = true),
     rfl,
     ⟨rfl, rfl, eqv_yes (eqL_F (Z4.mk (0 : Int) (0 : Int) (0 : Int) (0 : Int)) (Z4.mk (0 : Int) (0 : Int) (0 : Int) (0 : Int))) (rfl) rfl⟩,
     rfl,
     congrArg (fun z => some (Value.bool z)) (by first | rfl | assumption | decide | simp [*] : (!false) = true),
     rfl,
     congrArg (fun z => some (Value.bool z)) (by first | rfl | assumption | decide | simp [*] : (!false) = true)⟩
set_option maxRecDepth 100000 in
theorem Through_n (a_0 : Bool) (a_1 : ByteArray) (a_2 : Bool) (a_3 : ByteArray) (a_4 : Bool) (a_5 : ByteArray) (a_6 : Bool) (a_7 : ByteArray) (b_0 : Bool) (b_1 : ByteArray) (b_2 : Bool) (b_3 : ByteArray) (b_4 : Bool) (b_5 : ByteArray) (b_6 : Bool) (b_7 : ByteArray) (c_0 : Bool) (c_1 : ByteArray) (c_2 : Bool) (c_3 : ByteArray) (c_4 : Bool) (c_5 : ByteArray) (c_6 : Bool) (c_7 : ByteArray) (w : World) (hT : TabC w) (ha_1 : a_1.size ≤ 6) (ha_3 : a_3.size ≤ 6) (ha_5 : a_5.size ≤ 6) (ha_7 : a_7.size ≤ 6) (hb_1 : b_1.size ≤ 6) (hb_3 : b_3.size ≤ 6) (hb_5 : b_5.size ≤ 6) (hb_7 : b_7.size ≤ 6) (hc_1 : c_1.size ≤ 6) (hc_3 : c_3.size ≤ 6) (hc_5 : c_5.size ≤ 6) (hc_7 : c_7.size ≤ 6) (hf : ¬ flatQ (thrQ (pt ⟨iv a_0 a_1, iv a_2 a_3, iv a_4 a_5, iv a_6 a_7⟩) (pt ⟨iv b_0 b_1, iv b_2 b_3, iv b_4 b_5, iv b_6 b_7⟩) (pt ⟨iv c_0 c_1, iv c_2 c_3, iv c_4 c_5, iv c_6 c_7⟩))) :
    Calls Tryz.prog 4 #[.agg #[.bool a_0, .string a_1, .bool a_2, .string a_3, .bool a_4, .string a_5, .bool a_6, .string a_7], .agg #[.bool b_0, .string b_1, .bool b_2, .string b_3, .bool b_4, .string b_5, .bool b_6, .string b_7], .agg #[.bool c_0, .string c_1, .bool c_2, .string c_3, .bool c_4, .string c_5, .bool c_6, .string c_7]] w fun e w' => e = .returned (.bool true) ∧ Below w.heap.size w w' := by
  obtain ⟨aq, haq, raq⟩ : ∃ q, IsF (.agg #[.bool a_0, .string a_1, .bool a_2, .string a_3, .bool a_4, .string a_5, .bool a_6, .string a_7]) q 6 ∧ q = ⟨iv a_0 a_1, iv a_2 a_3, iv a_4 a_5, iv a_6 a_7⟩ := ⟨⟨_, _, _, _⟩, ⟨_, _, _, _, _, _, _, _, rfl, rfl, ha_1, rfl, ha_3, rfl, ha_5, rfl, ha_7⟩, rfl⟩
  have zaq := haq.sz
  obtain ⟨a, ea⟩ : ∃ p, p = pt aq := ⟨_, rfl⟩
  have ha : IsP (.agg #[.bool a_0, .string a_1, .bool a_2, .string a_3, .bool a_4, .string a_5, .bool a_6, .string a_7]) a 6 := by rw [ea]; exact haq.pt
  have za := ha.sz (by decide)
  have ra : a = pt ⟨iv a_0 a_1, iv a_2 a_3, iv a_4 a_5, iv a_6 a_7⟩ := by rw [ea, raq]
  obtain ⟨bq, hbq, rbq⟩ : ∃ q, IsF (.agg #[.bool b_0, .string b_1, .bool b_2, .string b_3, .bool b_4, .string b_5, .bool b_6, .string b_7]) q 6 ∧ q = ⟨iv b_0 b_1, iv b_2 b_3, iv b_4 b_5, iv b_6 b_7⟩ := ⟨⟨_, _, _, _⟩, ⟨_, _, _, _, _, _, _, _, rfl, rfl, hb_1, rfl, hb_3, rfl, hb_5, rfl, hb_7⟩, rfl⟩
  have zbq := hbq.sz
  obtain ⟨b, eb⟩ : ∃ p, p = pt bq := ⟨_, rfl⟩
  have hb : IsP (.agg #[.bool b_0, .string b_1, .bool b_2, .string b_3, .bool b_4, .string b_5, .bool b_6, .string b_7]) b 6 := by rw [eb]; exact hbq.pt
  have zb := hb.sz (by decide)
  have rb : b = pt ⟨iv b_0 b_1, iv b_2 b_3, iv b_4 b_5, iv b_6 b_7⟩ := by rw [eb, rbq]
  obtain ⟨cq, hcq, rcq⟩ : ∃ q, IsF (.agg #[.bool c_0, .string c_1, .bool c_2, .string c_3, .bool c_4, .string c_5, .bool c_6, .string c_7]) q 6 ∧ q = ⟨iv c_0 c_1, iv c_2 c_3, iv c_4 c_5, iv c_6 c_7⟩ := ⟨⟨_, _, _, _⟩, ⟨_, _, _, _, _, _, _, _, rfl, rfl, hc_1, rfl, hc_3, rfl, hc_5, rfl, hc_7⟩, rfl⟩
  have zcq := hcq.sz
  obtain ⟨c, ec⟩ : ∃ p, p = pt cq := ⟨_, rfl⟩
  have hc : IsP (.agg #[.bool c_0, .string c_1, .bool c_2, .string c_3, .bool c_4, .string c_5, .bool c_6, .string c_7]) c 6 := by rw [ec]; exact hcq.pt
  have zc := hc.sz (by decide)
  have rc : c = pt ⟨iv c_0 c_1, iv c_2 c_3, iv c_4 c_5, iv c_6 c_7⟩ := by rw [ec, rcq]
  rw [← ra, ← rb, ← rc] at hf
  obtain ⟨on1, on2, on3⟩ := thr_on hf
  have f1 : Pk a 6 := Pk.up (za) (by decide)
  have f2 : Pk b 6 := Pk.up (zb) (by decide)
  have f3 : Pk c 6 := Pk.up (zc) (by decide)
  have f4 : Fk (canQ (thrQ a b c)) 724 := Fk.up ((Fk.thr za zb zc (by decide))) (by decide)
  have f5 : Fk (negF (canQ (thrQ a b c))) 724 := Fk.up ((Fk.neg f4)) (by decide)
  exact SX.run (w := w) (List.flatten [[.bool a_0, .string a_1, .bool a_2, .string a_3, .bool a_4, .string a_5, .bool a_6, .string a_7, .bool b_0, .string b_1, .bool b_2, .string b_3, .bool b_4, .string b_5, .bool b_6, .string b_7, .bool c_0, .string c_1, .bool c_2, .string c_3, .bool c_4, .string c_5, .bool c_6, .string c_7, .bool true, .bool false, .bool false], pc a, pc b, pc c, fc (canQ (thrQ a b c)), [.bool true], fc (canQ (thrQ a b c)), [.bool true, .bool false, .bool false], fc (canQ (thrQ a b c)), [.bool true], fc (negF (canQ (thrQ a b c))), [.bool true, .bool false, .bool true], fc (negF (canQ (thrQ a b c))), [.bool true, .int .i64 (sideF (canQ (thrQ a b c)) a), .bool true, .int .i64 (sideF (canQ (thrQ a b c)) b), .bool true, .int .i64 (sideF (canQ (thrQ a b c)) c), .bool true]]) [.b false, .b false, .b false, .b false, .b false, .b true, .b true, .b true, .b true, .b true, .b true, .b true] [.ga 0 8, .ga 8 8, .ga 16 8] 24 (.one (.ca 105)) (.call 10 [] (.one (.ca 24)) [] :: .op1 .not (.pa 24) 25 :: .isB 25 false :: .call 11 [.agg [.p (.lit (.bool false)), .p (.lit (.string ⟨#[]⟩)), .p (.lit (.bool false)), .p (.lit (.string ⟨#[]⟩)), .p (.lit (.bool false)), .p (.lit (.string ⟨#[]⟩)), .p (.lit (.bool false)), .p (.lit (.string ⟨#[]⟩))], .c (.p (.slc 3 0 3 3))] (.one (.ca 26)) [(3073, .pa 0), (3074, .pa 1), (3075, .pa 2), (3076, .pa 3), (3077, .pa 4), (3078, .pa 5), (3079, .pa 6), (3080, .pa 7), (3081, .pa 8), (3082, .pa 9), (3083, .pa 10), (3084, .pa 11), (3085, .pa 12), (3086, .pa 13), (3087, .pa 14), (3088, .pa 15), (3089, .pa 16), (3090, .pa 17), (3091, .pa 18), (3092, .pa 19), (3093, .pa 20), (3094, .pa 21), (3095, .pa 22), (3096, .pa 23)] :: .isB 26 false :: .call 17 [.ga 0 8] (.one (.ga 27 8)) [] :: .call 17 [.ga 8 8] (.one (.ga 35 8)) [] :: .call 17 [.ga 16 8] (.one (.ga 43 8)) [] :: .call 18 [.ga 27 8, .ga 35 8, .ga 43 8] (.tup [.ga 51 8, .ca 59]) [] :: .call 19 [.ga 27 8, .ga 35 8, .ga 43 8] (.tup [.ga 60 8, .ca 68]) [] :: .eqs true [.b, .s, .b, .s, .b, .s, .b, .s] [.pa 51, .pa 52, .pa 53, .pa 54, .pa 55, .pa 56, .pa 57, .pa 58] [.pa 60, .pa 61, .pa 62, .pa 63, .pa 64, .pa 65, .pa 66, .pa 67] 69 :: .isB 69 false :: .op2 true .neq (.pa 59) (.pa 68) 70 :: .isB 70 false :: .call 18 [.ga 35 8, .ga 43 8, .ga 27 8] (.tup [.ga 71 8, .ca 79]) [] :: .call 18 [.ga 43 8, .ga 35 8, .ga 27 8] (.tup [.ga 80 8, .ca 88]) [] :: .op1 .not (.pa 59) 89 :: .isB 89 false :: .isB 79 true :: .isB 88 true :: .eqs false [.b, .s, .b, .s, .b, .s, .b, .s] [.pa 71, .pa 72, .pa 73, .pa 74, .pa 75, .pa 76, .pa 77, .pa 78] [.pa 51, .pa 52, .pa 53, .pa 54, .pa 55, .pa 56, .pa 57, .pa 58] 90 :: .isB 90 true :: .call 20 [.ga 51 8] (.one (.ga 91 8)) [] :: .eqs false [.b, .s, .b, .s, .b, .s, .b, .s] [.pa 80, .pa 81, .pa 82, .pa 83, .pa 84, .pa 85, .pa 86, .pa 87] [.pa 91, .pa 92, .pa 93, .pa 94, .pa 95, .pa 96, .pa 97, .pa 98] 99 :: .isB 99 true :: .call 21 [.ga 51 8, .ga 27 8] (.one (.ca 100)) [] :: .op2 false .eql (.pa 100) (.p (.lit (.int .i64 0))) 101 :: .isB 101 true :: .call 21 [.ga 51 8, .ga 35 8] (.one (.ca 102)) [] :: .op2 false .eql (.pa 102) (.p (.lit (.int .i64 0))) 103 :: .isB 103 true :: .call 21 [.ga 51 8, .ga 43 8] (.one (.ca 104)) [] :: .op2 false .eql (.pa 104) (.p (.lit (.int .i64 0))) 105 :: []) Tryz.func4 (by kernel_rfl) rfl (by kernel_rfl) rfl (by kernel_rfl)
    ⟨fun γ w' bw _ => alive5_any w' (hT.later bw),
     congrArg (fun z => some (Value.bool z)) (by first | rfl | assumption | decide | simp [*] : (!true) = false),
     rfl,
     fun γ w' _ hm => great5_3_no false ⟨#[]⟩ false ⟨#[]⟩ false ⟨#[]⟩ false ⟨#[]⟩ a_0 a_1 a_2 a_3 a_4 a_5 a_6 a_7 b_0 b_1 b_2 b_3 b_4 b_5 b_6 b_7 c_0 c_1 c_2 c_3 c_4 c_5 c_6 c_7 w' (γ 3) (SX.mem_at (b := 3) (l := [.pa 0, .pa 1, .pa 2, .pa 3, .pa 4, .pa 5, .pa 6, .pa 7, .pa 8, .pa 9, .pa 10, .pa 11, .pa 12, .pa 13, .pa 14, .pa 15, .pa 16, .pa 17, .pa 18, .pa 19, .pa 20, .pa 21, .pa 22, .pa 23]) hm rfl) ha_1 ha_3 ha_5 ha_7 hb_1 hb_3 hb_5 hb_7 hc_1 hc_3 hc_5 hc_7 (by decide) (by decide) (by decide) (by decide),
     rfl,
     fun γ w' _ _ => p4Norm ha (by decide) w',
     fun γ w' _ _ => p4Norm hb (by decide) w',
     fun γ w' _ _ => p4Norm hc (by decide) w',
     fun γ w' bw _ => by have h := plThrough_any f1 (by decide) f2 (by decide) f3 (by decide) w' (hT.later bw); rw [planeV, if_neg hf] at h; exact h,
     fun γ w' bw _ => by have h := v5Through_any (IsP.can f1) (by decide) (IsP.can f2) (by decide) (IsP.can f3) (by decide) w'; rw [planeV, if_neg hf] at h; exact h,
     ⟨rfl, rfl, eqv_yes (eqL_F (canQ (thrQ a b c)) (canQ (thrQ a b c))) (rfl) rfl⟩,
     rfl,
     congrArg (fun z => some (Value.bool z)) (by first | rfl | assumption | decide | simp [*] : (!(true == true)) = false),
     rfl,
     fun γ w' bw _ => by have h := plThrough_any f2 (by decide) f3 (by decide) f1 (by decide) w' (hT.later bw); rw [thr_turn a b c, planeV, if_neg hf] at h; exact h,
     fun γ w' bw _ => by have h := plThrough_any f3 (by decide) f2 (by decide) f1 (by decide) w' (hT.later bw); rw [thr_back a b c, planeV, if_neg (fun e => hf ((flat_negQ _).1 e)), canQ_neg] at h; exact h,
     congrArg (fun z => some (Value.bool z)) (by first | rfl | assumption | decide | simp [*] : (!true) = false),
     rfl,
     rfl,
     rfl,
     ⟨rfl, rfl, eqv_yes (eqL_F (canQ (thrQ a b c)) (canQ (thrQ a b c))) (by first | rfl | (rw [on1]; rfl) | (rw [on2]; rfl) | (rw [on3]; rfl)) rfl⟩,
     rfl,
     fun γ w' _ _ => plFlip f4 (by decide) w',
     ⟨rfl, rfl, eqv_yes (eqL_F (negF (canQ (thrQ a b c))) (negF (canQ (thrQ a b c)))) (by first | rfl | (rw [on1]; rfl) | (rw [on2]; rfl) | (rw [on3]; rfl)) rfl⟩,
     rfl,
     fun γ w' _ _ => plSide f4 (by decide) f1 (by decide) w',
     congrArg (fun z => some (Value.bool z)) (by first | rfl | (rw [on1]; rfl) | (rw [on2]; rfl) | (rw [on3]; rfl) : ((sideF (canQ (thrQ a b c)) a) == (0 : Int)) = true),
     rfl,
     fun γ w' _ _ => plSide f4 (by decide) f2 (by decide) w',
     congrArg (fun z => some (Value.bool z)) (by first | rfl | (rw [on1]; rfl) | (rw [on2]; rfl) | (rw [on3]; rfl) : ((sideF (canQ (thrQ a b c)) b) == (0 : Int)) = true),
     rfl,
     fun γ w' _ _ => plSide f4 (by decide) f3 (by decide) w',
     congrArg (fun z => some (Value.bool z)) (by first | rfl | (rw [on1]; rfl) | (rw [on2]; rfl) | (rw [on3]; rfl) : ((sideF (canQ (thrQ a b c)) c) == (0 : Int)) = true)⟩
theorem PlaneThrough_any (a_0 : Bool) (a_1 : ByteArray) (a_2 : Bool) (a_3 : ByteArray) (a_4 : Bool) (a_5 : ByteArray) (a_6 : Bool) (a_7 : ByteArray) (b_0 : Bool) (b_1 : ByteArray) (b_2 : Bool) (b_3 : ByteArray) (b_4 : Bool) (b_5 : ByteArray) (b_6 : Bool) (b_7 : ByteArray) (c_0 : Bool) (c_1 : ByteArray) (c_2 : Bool) (c_3 : ByteArray) (c_4 : Bool) (c_5 : ByteArray) (c_6 : Bool) (c_7 : ByteArray) (w : World) (hT : TabC w) :
    Calls Tryz.prog 4 #[.agg #[.bool a_0, .string a_1, .bool a_2, .string a_3, .bool a_4, .string a_5, .bool a_6, .string a_7], .agg #[.bool b_0, .string b_1, .bool b_2, .string b_3, .bool b_4, .string b_5, .bool b_6, .string b_7], .agg #[.bool c_0, .string c_1, .bool c_2, .string c_3, .bool c_4, .string c_5, .bool c_6, .string c_7]] w fun e w' => e = .returned (.bool true) ∧ Below w.heap.size w w' := by
  by_cases g : a_1.size ≤ 6 ∧ a_3.size ≤ 6 ∧ a_5.size ≤ 6 ∧ a_7.size ≤ 6
  rotate_left
  · exact Through_a a_0 a_1 a_2 a_3 a_4 a_5 a_6 a_7 b_0 b_1 b_2 b_3 b_4 b_5 b_6 b_7 c_0 c_1 c_2 c_3 c_4 c_5 c_6 c_7 w hT  g
  obtain ⟨ha_1, ha_3, ha_5, ha_7⟩ := g
  by_cases g : b_1.size ≤ 6 ∧ b_3.size ≤ 6 ∧ b_5.size ≤ 6 ∧ b_7.size ≤ 6
  rotate_left
  · exact Through_b a_0 a_1 a_2 a_3 a_4 a_5 a_6 a_7 b_0 b_1 b_2 b_3 b_4 b_5 b_6 b_7 c_0 c_1 c_2 c_3 c_4 c_5 c_6 c_7 w hT ha_1 ha_3 ha_5 ha_7 g
  obtain ⟨hb_1, hb_3, hb_5, hb_7⟩ := g
  by_cases g : c_1.size ≤ 6 ∧ c_3.size ≤ 6 ∧ c_5.size ≤ 6 ∧ c_7.size ≤ 6
  rotate_left
  · exact Through_c a_0 a_1 a_2 a_3 a_4 a_5 a_6 a_7 b_0 b_1 b_2 b_3 b_4 b_5 b_6 b_7 c_0 c_1 c_2 c_3 c_4 c_5 c_6 c_7 w hT ha_1 ha_3 ha_5 ha_7 hb_1 hb_3 hb_5 hb_7 g
  obtain ⟨hc_1, hc_3, hc_5, hc_7⟩ := g
  by_cases hf : flatQ (thrQ (pt ⟨iv a_0 a_1, iv a_2 a_3, iv a_4 a_5, iv a_6 a_7⟩) (pt ⟨iv b_0 b_1, iv b_2 b_3, iv b_4 b_5, iv b_6 b_7⟩) (pt ⟨iv c_0 c_1, iv c_2 c_3, iv c_4 c_5, iv c_6 c_7⟩))
  · exact Through_f a_0 a_1 a_2 a_3 a_4 a_5 a_6 a_7 b_0 b_1 b_2 b_3 b_4 b_5 b_6 b_7 c_0 c_1 c_2 c_3 c_4 c_5 c_6 c_7 w hT ha_1 ha_3 ha_5 ha_7 hb_1 hb_3 hb_5 hb_7 hc_1 hc_3 hc_5 hc_7 hf
  · exact Through_n a_0 a_1 a_2 a_3 a_4 a_5 a_6 a_7 b_0 b_1 b_2 b_3 b_4 b_5 b_6 b_7 c_0 c_1 c_2 c_3 c_4 c_5 c_6 c_7 w hT ha_1 ha_3 ha_5 ha_7 hb_1 hb_3 hb_5 hb_7 hc_1 hc_3 hc_5 hc_7 hf
theorem neg_sgQ (t : Rat) : IntKind.wrap .i64 (0 - sgQ t) = -sgQ t := by
  have h := sgQ_bd t
  generalize sgQ t = c at *
  rw [IntKind.wrap_i64]
  omega
theorem moved_at {q : Z4} (h : ¬ flatF q) (t : Rat) (p : P3) {i : Nat} (ha : axisF q = i) {v : P3} (hv : alongP i (liftF q p) (if 0 < coefF q i then t else -t) = v) : sideF (shiftF q t) v = 0 := by
  have k := side_moved h t (val_lift h p)
  rw [ha, hv] at k
  exact k
set_option maxRecDepth 100000 in
theorem Offsets_x (p_0 : Bool) (p_1 : ByteArray) (p_2 : Bool) (p_3 : ByteArray) (p_4 : Bool) (p_5 : ByteArray) (p_6 : Bool) (p_7 : ByteArray) (x_0 : Bool) (x_1 : ByteArray) (x_2 : Bool) (x_3 : ByteArray) (x_4 : Bool) (x_5 : ByteArray) (x_6 : Bool) (x_7 : ByteArray) (t_0 : Bool) (t_1 : ByteArray) (t_2 : ByteArray) (w : World) (hT : TabC w)  (h : ¬ (x_1.size ≤ 6 ∧ x_3.size ≤ 6 ∧ x_5.size ≤ 6 ∧ x_7.size ≤ 6)) :
    Calls Tryz.prog 7 #[.agg #[.bool p_0, .string p_1, .bool p_2, .string p_3, .bool p_4, .string p_5, .bool p_6, .string p_7], .agg #[.bool x_0, .string x_1, .bool x_2, .string x_3, .bool x_4, .string x_5, .bool x_6, .string x_7], .agg #[.bool t_0, .string t_1, .string t_2]] w fun e w' => e = .returned (.bool true) ∧ Below w.heap.size w w' := by
  exact SX.run (w := w) [.bool p_0, .string p_1, .bool p_2, .string p_3, .bool p_4, .string p_5, .bool p_6, .string p_7, .bool x_0, .string x_1, .bool x_2, .string x_3, .bool x_4, .string x_5, .bool x_6, .string x_7, .bool t_0, .string t_1, .string t_2, .bool true, .bool false, .bool true] [.b false, .b true] [.ga 0 8, .ga 8 8, .ga 16 3] 19 (.one (.c (.p (.lit (.bool true))))) [.call 10 [] (.one (.ca 19)) [], .op1 .not (.pa 19) 20, .isB 20 false, .call 11 [.ga 0 8, .c (.p (.slc 3 0 1 1))] (.one (.ca 21)) [(3073, .pa 8), (3074, .pa 9), (3075, .pa 10), (3076, .pa 11), (3077, .pa 12), (3078, .pa 13), (3079, .pa 14), (3080, .pa 15)], .isB 21 true] Tryz.func7 (by kernel_rfl) rfl (by kernel_rfl) rfl (by kernel_rfl)
    ⟨fun γ w' bw _ => alive5_any w' (hT.later bw),
     congrArg (fun z => some (Value.bool z)) (by first | rfl | assumption | decide | simp [*] : (!true) = false),
     rfl,
     fun γ w' _ hm => great5_1_y0 p_0 p_1 p_2 p_3 p_4 p_5 p_6 p_7 x_0 x_1 x_2 x_3 x_4 x_5 x_6 x_7 w' (γ 3) (SX.mem_at (b := 3) (l := [.pa 8, .pa 9, .pa 10, .pa 11, .pa 12, .pa 13, .pa 14, .pa 15]) hm rfl)  h,
     rfl⟩
set_option maxRecDepth 100000 in
theorem Offsets_p (p_0 : Bool) (p_1 : ByteArray) (p_2 : Bool) (p_3 : ByteArray) (p_4 : Bool) (p_5 : ByteArray) (p_6 : Bool) (p_7 : ByteArray) (x_0 : Bool) (x_1 : ByteArray) (x_2 : Bool) (x_3 : ByteArray) (x_4 : Bool) (x_5 : ByteArray) (x_6 : Bool) (x_7 : ByteArray) (t_0 : Bool) (t_1 : ByteArray) (t_2 : ByteArray) (w : World) (hT : TabC w) (hx_1 : x_1.size ≤ 6) (hx_3 : x_3.size ≤ 6) (hx_5 : x_5.size ≤ 6) (hx_7 : x_7.size ≤ 6) (h : ¬ (p_1.size ≤ 6 ∧ p_3.size ≤ 6 ∧ p_5.size ≤ 6 ∧ p_7.size ≤ 6)) :
    Calls Tryz.prog 7 #[.agg #[.bool p_0, .string p_1, .bool p_2, .string p_3, .bool p_4, .string p_5, .bool p_6, .string p_7], .agg #[.bool x_0, .string x_1, .bool x_2, .string x_3, .bool x_4, .string x_5, .bool x_6, .string x_7], .agg #[.bool t_0, .string t_1, .string t_2]] w fun e w' => e = .returned (.bool true) ∧ Below w.heap.size w w' := by
  exact SX.run (w := w) [.bool p_0, .string p_1, .bool p_2, .string p_3, .bool p_4, .string p_5, .bool p_6, .string p_7, .bool x_0, .string x_1, .bool x_2, .string x_3, .bool x_4, .string x_5, .bool x_6, .string x_7, .bool t_0, .string t_1, .string t_2, .bool true, .bool false, .bool true] [.b false, .b true] [.ga 0 8, .ga 8 8, .ga 16 3] 19 (.one (.c (.p (.lit (.bool true))))) [.call 10 [] (.one (.ca 19)) [], .op1 .not (.pa 19) 20, .isB 20 false, .call 11 [.ga 0 8, .c (.p (.slc 3 0 1 1))] (.one (.ca 21)) [(3073, .pa 8), (3074, .pa 9), (3075, .pa 10), (3076, .pa 11), (3077, .pa 12), (3078, .pa 13), (3079, .pa 14), (3080, .pa 15)], .isB 21 true] Tryz.func7 (by kernel_rfl) rfl (by kernel_rfl) rfl (by kernel_rfl)
    ⟨fun γ w' bw _ => alive5_any w' (hT.later bw),
     congrArg (fun z => some (Value.bool z)) (by first | rfl | assumption | decide | simp [*] : (!true) = false),
     rfl,
     fun γ w' _ hm => great5_1_p p_0 p_1 p_2 p_3 p_4 p_5 p_6 p_7 x_0 x_1 x_2 x_3 x_4 x_5 x_6 x_7 w' (γ 3) (SX.mem_at (b := 3) (l := [.pa 8, .pa 9, .pa 10, .pa 11, .pa 12, .pa 13, .pa 14, .pa 15]) hm rfl) hx_1 hx_3 hx_5 hx_7 h,
     rfl⟩
set_option maxRecDepth 100000 in
theorem Offsets_t (p_0 : Bool) (p_1 : ByteArray) (p_2 : Bool) (p_3 : ByteArray) (p_4 : Bool) (p_5 : ByteArray) (p_6 : Bool) (p_7 : ByteArray) (x_0 : Bool) (x_1 : ByteArray) (x_2 : Bool) (x_3 : ByteArray) (x_4 : Bool) (x_5 : ByteArray) (x_6 : Bool) (x_7 : ByteArray) (t_0 : Bool) (t_1 : ByteArray) (t_2 : ByteArray) (w : World) (hT : TabC w) (hx_1 : x_1.size ≤ 6) (hx_3 : x_3.size ≤ 6) (hx_5 : x_5.size ≤ 6) (hx_7 : x_7.size ≤ 6) (hp_1 : p_1.size ≤ 6) (hp_3 : p_3.size ≤ 6) (hp_5 : p_5.size ≤ 6) (hp_7 : p_7.size ≤ 6) (h : ¬ (t_1.size ≤ 6 ∧ t_2.size ≤ 6)) :
    Calls Tryz.prog 7 #[.agg #[.bool p_0, .string p_1, .bool p_2, .string p_3, .bool p_4, .string p_5, .bool p_6, .string p_7], .agg #[.bool x_0, .string x_1, .bool x_2, .string x_3, .bool x_4, .string x_5, .bool x_6, .string x_7], .agg #[.bool t_0, .string t_1, .string t_2]] w fun e w' => e = .returned (.bool true) ∧ Below w.heap.size w w' := by
  exact SX.run (w := w) [.bool p_0, .string p_1, .bool p_2, .string p_3, .bool p_4, .string p_5, .bool p_6, .string p_7, .bool x_0, .string x_1, .bool x_2, .string x_3, .bool x_4, .string x_5, .bool x_6, .string x_7, .bool t_0, .string t_1, .string t_2, .bool true, .bool false, .bool false, .bool true] [.b false, .b false, .b true] [.ga 0 8, .ga 8 8, .ga 16 3] 19 (.one (.c (.p (.lit (.bool true))))) [.call 10 [] (.one (.ca 19)) [], .op1 .not (.pa 19) 20, .isB 20 false, .call 11 [.ga 0 8, .c (.p (.slc 3 0 1 1))] (.one (.ca 21)) [(3073, .pa 8), (3074, .pa 9), (3075, .pa 10), (3076, .pa 11), (3077, .pa 12), (3078, .pa 13), (3079, .pa 14), (3080, .pa 15)], .isB 21 false, .call 12 [.ga 16 3] (.one (.ca 22)) [], .isB 22 true] Tryz.func7 (by kernel_rfl) rfl (by kernel_rfl) rfl (by kernel_rfl)
    ⟨fun γ w' bw _ => alive5_any w' (hT.later bw),
     congrArg (fun z => some (Value.bool z)) (by first | rfl | assumption | decide | simp [*] : (!true) = false),
     rfl,
     fun γ w' _ hm => great5_1_no p_0 p_1 p_2 p_3 p_4 p_5 p_6 p_7 x_0 x_1 x_2 x_3 x_4 x_5 x_6 x_7 w' (γ 3) (SX.mem_at (b := 3) (l := [.pa 8, .pa 9, .pa 10, .pa 11, .pa 12, .pa 13, .pa 14, .pa 15]) hm rfl) hx_1 hx_3 hx_5 hx_7 hp_1 hp_3 hp_5 hp_7,
     rfl,
     fun γ w' _ _ => long5_yes t_0 t_1 t_2 w' h,
     rfl⟩
set_option maxRecDepth 100000 in
theorem Offsets_f (p_0 : Bool) (p_1 : ByteArray) (p_2 : Bool) (p_3 : ByteArray) (p_4 : Bool) (p_5 : ByteArray) (p_6 : Bool) (p_7 : ByteArray) (x_0 : Bool) (x_1 : ByteArray) (x_2 : Bool) (x_3 : ByteArray) (x_4 : Bool) (x_5 : ByteArray) (x_6 : Bool) (x_7 : ByteArray) (t_0 : Bool) (t_1 : ByteArray) (t_2 : ByteArray) (w : World) (hT : TabC w) (hx_1 : x_1.size ≤ 6) (hx_3 : x_3.size ≤ 6) (hx_5 : x_5.size ≤ 6) (hx_7 : x_7.size ≤ 6) (hp_1 : p_1.size ≤ 6) (hp_3 : p_3.size ≤ 6) (hp_5 : p_5.size ≤ 6) (hp_7 : p_7.size ≤ 6) (ht_1 : t_1.size ≤ 6) (ht_2 : t_2.size ≤ 6) (gf : flatF (Z4.mk (iv p_0 p_1) (iv p_2 p_3) (iv p_4 p_5) (iv p_6 p_7))) :
    Calls Tryz.prog 7 #[.agg #[.bool p_0, .string p_1, .bool p_2, .string p_3, .bool p_4, .string p_5, .bool p_6, .string p_7], .agg #[.bool x_0, .string x_1, .bool x_2, .string x_3, .bool x_4, .string x_5, .bool x_6, .string x_7], .agg #[.bool t_0, .string t_1, .string t_2]] w fun e w' => e = .returned (.bool true) ∧ Below w.heap.size w w' := by
  obtain ⟨p, hp, rp⟩ : ∃ q, IsF (.agg #[.bool p_0, .string p_1, .bool p_2, .string p_3, .bool p_4, .string p_5, .bool p_6, .string p_7]) q 6 ∧ q = ⟨iv p_0 p_1, iv p_2 p_3, iv p_4 p_5, iv p_6 p_7⟩ := ⟨⟨_, _, _, _⟩, ⟨_, _, _, _, _, _, _, _, rfl, rfl, hp_1, rfl, hp_3, rfl, hp_5, rfl, hp_7⟩, rfl⟩
  have zp := hp.sz
  obtain ⟨xq, hxq, rxq⟩ : ∃ q, IsF (.agg #[.bool x_0, .string x_1, .bool x_2, .string x_3, .bool x_4, .string x_5, .bool x_6, .string x_7]) q 6 ∧ q = ⟨iv x_0 x_1, iv x_2 x_3, iv x_4 x_5, iv x_6 x_7⟩ := ⟨⟨_, _, _, _⟩, ⟨_, _, _, _, _, _, _, _, rfl, rfl, hx_1, rfl, hx_3, rfl, hx_5, rfl, hx_7⟩, rfl⟩
  have zxq := hxq.sz
  obtain ⟨x, ex⟩ : ∃ p, p = pt xq := ⟨_, rfl⟩
  have hx : IsP (.agg #[.bool x_0, .string x_1, .bool x_2, .string x_3, .bool x_4, .string x_5, .bool x_6, .string x_7]) x 6 := by rw [ex]; exact hxq.pt
  have zx := hx.sz (by decide)
  have rx : x = pt ⟨iv x_0 x_1, iv x_2 x_3, iv x_4 x_5, iv x_6 x_7⟩ := by rw [ex, rxq]
  obtain ⟨t, ht, rt⟩ : ∃ q, IsQ (.agg #[.bool t_0, .string t_1, .string t_2]) q 6 ∧ q = rq t_0 t_1 t_2 := ⟨_, ⟨_, _, _, rfl, rfl, ht_1, ht_2⟩, rfl⟩
  have zt := ht.sz (by decide)
  rw [← rp] at gf
  exact SX.run (w := w) (.bool p_0 :: .string p_1 :: .bool p_2 :: .string p_3 :: .bool p_4 :: .string p_5 :: .bool p_6 :: .string p_7 :: .bool x_0 :: .string x_1 :: .bool x_2 :: .string x_3 :: .bool x_4 :: .string x_5 :: .bool x_6 :: .string x_7 :: .bool t_0 :: .string t_1 :: .string t_2 :: .bool true :: .bool false :: .bool false :: .bool false :: .bool false :: .string ⟨#[]⟩ :: .bool false :: .string ⟨#[]⟩ :: .bool false :: .string ⟨#[]⟩ :: .bool false :: .string ⟨#[]⟩ :: .bool false :: .bool true :: []) [.b false, .b false, .b false, .b true] [.ga 0 8, .ga 8 8, .ga 16 3] 19 (.one (.c (.p (.lit (.bool true))))) [.call 10 [] (.one (.ca 19)) [], .op1 .not (.pa 19) 20, .isB 20 false, .call 11 [.ga 0 8, .c (.p (.slc 3 0 1 1))] (.one (.ca 21)) [(3073, .pa 8), (3074, .pa 9), (3075, .pa 10), (3076, .pa 11), (3077, .pa 12), (3078, .pa 13), (3079, .pa 14), (3080, .pa 15)], .isB 21 false, .call 12 [.ga 16 3] (.one (.ca 22)) [], .isB 22 false, .call 14 [.ga 0 8] (.tup [.ga 23 8, .ca 31]) [], .op1 .not (.pa 31) 32, .isB 32 true] Tryz.func7 (by kernel_rfl) rfl (by kernel_rfl) rfl (by kernel_rfl)
    ⟨fun γ w' bw _ => alive5_any w' (hT.later bw),
     congrArg (fun z => some (Value.bool z)) (by first | rfl | assumption | decide | simp [*] : (!true) = false),
     rfl,
     fun γ w' _ hm => great5_1_no p_0 p_1 p_2 p_3 p_4 p_5 p_6 p_7 x_0 x_1 x_2 x_3 x_4 x_5 x_6 x_7 w' (γ 3) (SX.mem_at (b := 3) (l := [.pa 8, .pa 9, .pa 10, .pa 11, .pa 12, .pa 13, .pa 14, .pa 15]) hm rfl) hx_1 hx_3 hx_5 hx_7 hp_1 hp_3 hp_5 hp_7,
     rfl,
     fun γ w' _ _ => long5_no t_0 t_1 t_2 w' ht_1 ht_2,
     rfl,
     fun γ w' _ _ => by have h := v5Norm_any hp (by decide) w'; rw [normV, if_pos gf] at h; exact h,
     congrArg (fun z => some (Value.bool z)) (by first | rfl | assumption | decide | simp [*] : (!false) = true),
     rfl⟩
set_option maxHeartbeats 1000000 in
set_option maxRecDepth 100000 in
theorem Offsets_0u (p_0 : Bool) (p_1 : ByteArray) (p_2 : Bool) (p_3 : ByteArray) (p_4 : Bool) (p_5 : ByteArray) (p_6 : Bool) (p_7 : ByteArray) (x_0 : Bool) (x_1 : ByteArray) (x_2 : Bool) (x_3 : ByteArray) (x_4 : Bool) (x_5 : ByteArray) (x_6 : Bool) (x_7 : ByteArray) (t_0 : Bool) (t_1 : ByteArray) (t_2 : ByteArray) (w : World) (hT : TabC w) (hx_1 : x_1.size ≤ 6) (hx_3 : x_3.size ≤ 6) (hx_5 : x_5.size ≤ 6) (hx_7 : x_7.size ≤ 6) (hp_1 : p_1.size ≤ 6) (hp_3 : p_3.size ≤ 6) (hp_5 : p_5.size ≤ 6) (hp_7 : p_7.size ≤ 6) (ht_1 : t_1.size ≤ 6) (ht_2 : t_2.size ≤ 6) (gf : ¬ flatF (Z4.mk (iv p_0 p_1) (iv p_2 p_3) (iv p_4 p_5) (iv p_6 p_7))) (ha : axisF (prim (Z4.mk (iv p_0 p_1) (iv p_2 p_3) (iv p_4 p_5) (iv p_6 p_7))) = 0) (hu : 0 < coefF (prim (Z4.mk (iv p_0 p_1) (iv p_2 p_3) (iv p_4 p_5) (iv p_6 p_7))) 0) :
    Calls Tryz.prog 7 #[.agg #[.bool p_0, .string p_1, .bool p_2, .string p_3, .bool p_4, .string p_5, .bool p_6, .string p_7], .agg #[.bool x_0, .string x_1, .bool x_2, .string x_3, .bool x_4, .string x_5, .bool x_6, .string x_7], .agg #[.bool t_0, .string t_1, .string t_2]] w fun e w' => e = .returned (.bool true) ∧ Below w.heap.size w w' := by
  obtain ⟨p, hp, rp⟩ : ∃ q, IsF (.agg #[.bool p_0, .string p_1, .bool p_2, .string p_3, .bool p_4, .string p_5, .bool p_6, .string p_7]) q 6 ∧ q = ⟨iv p_0 p_1, iv p_2 p_3, iv p_4 p_5, iv p_6 p_7⟩ := ⟨⟨_, _, _, _⟩, ⟨_, _, _, _, _, _, _, _, rfl, rfl, hp_1, rfl, hp_3, rfl, hp_5, rfl, hp_7⟩, rfl⟩
  have zp := hp.sz
  obtain ⟨xq, hxq, rxq⟩ : ∃ q, IsF (.agg #[.bool x_0, .string x_1, .bool x_2, .string x_3, .bool x_4, .string x_5, .bool x_6, .string x_7]) q 6 ∧ q = ⟨iv x_0 x_1, iv x_2 x_3, iv x_4 x_5, iv x_6 x_7⟩ := ⟨⟨_, _, _, _⟩, ⟨_, _, _, _, _, _, _, _, rfl, rfl, hx_1, rfl, hx_3, rfl, hx_5, rfl, hx_7⟩, rfl⟩
  have zxq := hxq.sz
  obtain ⟨x, ex⟩ : ∃ p, p = pt xq := ⟨_, rfl⟩
  have hx : IsP (.agg #[.bool x_0, .string x_1, .bool x_2, .string x_3, .bool x_4, .string x_5, .bool x_6, .string x_7]) x 6 := by rw [ex]; exact hxq.pt
  have zx := hx.sz (by decide)
  have rx : x = pt ⟨iv x_0 x_1, iv x_2 x_3, iv x_4 x_5, iv x_6 x_7⟩ := by rw [ex, rxq]
  obtain ⟨t, ht, rt⟩ : ∃ q, IsQ (.agg #[.bool t_0, .string t_1, .string t_2]) q 6 ∧ q = rq t_0 t_1 t_2 := ⟨_, ⟨_, _, _, rfl, rfl, ht_1, ht_2⟩, rfl⟩
  have zt := ht.sz (by decide)
  rw [← rp] at gf ha hu
  have gq : True ∧ ¬ flatF (prim p) := ⟨trivial, prim_flat gf⟩
  have gpp : prim (prim p) = prim p := prim_prim (g4_flat gf)
  have gfar := shift_none gq.2 t
  have gneg : ¬ flatF (negF (prim p)) := fun e => gq.2 ((flat_neg _).1 e)
  have f1 : Fk (prim p) 6 := Fk.up ((Fk.prim zp)) (by decide)
  have f2 : Rk t 6 := Rk.up (zt) (by decide)
  have f3 : Pk x 6 := Pk.up (zx) (by decide)
  have f4 : Pk (liftF (prim p) x) 117 := Pk.up ((Pk.lift f1 f3)) (by decide)
  have f5 : Fk (shiftF (prim p) t) 76 := Fk.up ((Fk.shift f1 f2)) (by decide)
  have f6 : Vk (liftF (prim p) x) 117 := Vk.up ((Vk.ofP1 f4)) (by decide)
  have f7 : Rk (liftF (prim p) x).x 117 := Rk.up (f6.1) (by decide)
  have f8 : Rk ((liftF (prim p) x).x + t) 124 := Rk.up (Rk.add f7 f2) (by decide)
  have f9 : Rk (-t) 6 := Rk.up (Rk.neg f2) (by decide)
  have f10 : Fk (shiftF (shiftF (prim p) t) (-t)) 636 := Fk.up ((Fk.shift f5 f9)) (by decide)
  have f11 : Rk (liftF (prim p) x).y 117 := Rk.up (f6.2.1) (by decide)
  have f12 : Rk (liftF (prim p) x).z 117 := Rk.up (f6.2.2) (by decide)
  have f13 : Pk (P3.mk ((liftF (prim p) x).x + t) (liftF (prim p) x).y (liftF (prim p) x).z) 372 := Pk.up ((Pk.ofV (Vk.mk f8 f11 f12))) (by decide)
  have f14 : Fk (negF (prim p)) 6 := Fk.up ((Fk.neg f1)) (by decide)
  have f15 : Fk (shiftF (negF (prim p)) (-t)) 76 := Fk.up ((Fk.shift f14 f9)) (by decide)
  have f16 : Fk (negF (shiftF (prim p) t)) 76 := Fk.up ((Fk.neg f5)) (by decide)
  exact SX.run (w := w) (List.flatten [[.bool p_0, .string p_1, .bool p_2, .string p_3, .bool p_4, .string p_5, .bool p_6, .string p_7, .bool x_0, .string x_1, .bool x_2, .string x_3, .bool x_4, .string x_5, .bool x_6, .string x_7, .bool t_0, .string t_1, .string t_2, .bool true, .bool false, .bool false, .bool false], fc (prim p), [.bool true, .bool false], qc t, pc x, pc (liftF (prim p) x), fc (shiftF (prim p) t), [.int .i64 0, .bool true], vc (liftF (prim p) x), qc ((liftF (prim p) x).x + t), qc (-t), fc (shiftF (shiftF (prim p) t) (-t)), [.bool true], pc (P3.mk ((liftF (prim p) x).x + t) (liftF (prim p) x).y (liftF (prim p) x).z), [.int .i64 (sideF (shiftF (prim p) t) (P3.mk ((liftF (prim p) x).x + t) (liftF (prim p) x).y (liftF (prim p) x).z)), .bool true, .int .i64 (sideF (shiftF (prim p) t) (liftF (prim p) x)), .int .i64 (sgQ t), .int .i64 (-sgQ t), .bool true], fc (negF (prim p)), qc (-t), fc (shiftF (negF (prim p)) (-t)), fc (negF (shiftF (prim p) t)), [.bool true]]) [.b false, .b false, .b false, .b false, .b true, .ix 0, .ix 0, .b true, .b true, .b true] [.ga 0 8, .ga 8 8, .ga 16 3] 19 (.one (.ca 127)) (.call 10 [] (.one (.ca 19)) [] :: .op1 .not (.pa 19) 20 :: .isB 20 false :: .call 11 [.ga 0 8, .c (.p (.slc 3 0 1 1))] (.one (.ca 21)) [(3073, .pa 8), (3074, .pa 9), (3075, .pa 10), (3076, .pa 11), (3077, .pa 12), (3078, .pa 13), (3079, .pa 14), (3080, .pa 15)] :: .isB 21 false :: .call 12 [.ga 16 3] (.one (.ca 22)) [] :: .isB 22 false :: .call 14 [.ga 0 8] (.tup [.ga 23 8, .ca 31]) [] :: .op1 .not (.pa 31) 32 :: .isB 32 false :: .call 24 [.ga 16 3] (.one (.ga 33 3)) [] :: .call 17 [.ga 8 8] (.one (.ga 36 8)) [] :: .call 27 [.ga 23 8, .ga 36 8] (.one (.ga 44 8)) [] :: .call 29 [.ga 23 8, .ga 33 3] (.one (.ga 52 8)) [] :: .call 25 [.ga 23 8] (.tup [.ca 60, .ca 61]) [] :: .call 31 [.ga 44 8] (.one (.ga 62 9)) [] :: .isB 61 true :: .isI 60 0 :: .call 32 [.ga 62 3, .ga 33 3] (.one (.ga 71 3)) [] :: .isI 60 0 :: .call 34 [.ga 33 3] (.one (.ga 74 3)) [] :: .call 29 [.ga 52 8, .ga 74 3] (.one (.ga 77 8)) [] :: .eqs false [.b, .s, .b, .s, .b, .s, .b, .s] [.pa 77, .pa 78, .pa 79, .pa 80, .pa 81, .pa 82, .pa 83, .pa 84] [.pa 23, .pa 24, .pa 25, .pa 26, .pa 27, .pa 28, .pa 29, .pa 30] 85 :: .isB 85 true :: .call 35 [.agg [.pa 71, .pa 72, .pa 73, .pa 65, .pa 66, .pa 67, .pa 68, .pa 69, .pa 70]] (.one (.ga 86 8)) [] :: .call 21 [.ga 52 8, .ga 86 8] (.one (.ca 94)) [] :: .op2 false .eql (.pa 94) (.p (.lit (.int .i64 0))) 95 :: .isB 95 true :: .call 21 [.ga 52 8, .ga 44 8] (.one (.ca 96)) [] :: .call 36 [.ga 33 3] (.one (.ca 97)) [] :: .op1 .neg (.pa 97) 98 :: .op2 false .eql (.pa 96) (.pa 98) 99 :: .isB 99 true :: .call 20 [.ga 23 8] (.one (.ga 100 8)) [] :: .call 34 [.ga 33 3] (.one (.ga 108 3)) [] :: .call 29 [.ga 100 8, .ga 108 3] (.one (.ga 111 8)) [] :: .call 20 [.ga 52 8] (.one (.ga 119 8)) [] :: .eqs false [.b, .s, .b, .s, .b, .s, .b, .s] [.pa 111, .pa 112, .pa 113, .pa 114, .pa 115, .pa 116, .pa 117, .pa 118] [.pa 119, .pa 120, .pa 121, .pa 122, .pa 123, .pa 124, .pa 125, .pa 126] 127 :: []) Tryz.func7 (by kernel_rfl) rfl (by kernel_rfl) rfl (by kernel_rfl)
    ⟨fun γ w' bw _ => alive5_any w' (hT.later bw),
     congrArg (fun z => some (Value.bool z)) (by first | rfl | assumption | decide | simp [*] : (!true) = false),
     rfl,
     fun γ w' _ hm => great5_1_no p_0 p_1 p_2 p_3 p_4 p_5 p_6 p_7 x_0 x_1 x_2 x_3 x_4 x_5 x_6 x_7 w' (γ 3) (SX.mem_at (b := 3) (l := [.pa 8, .pa 9, .pa 10, .pa 11, .pa 12, .pa 13, .pa 14, .pa 15]) hm rfl) hx_1 hx_3 hx_5 hx_7 hp_1 hp_3 hp_5 hp_7,
     rfl,
     fun γ w' _ _ => long5_no t_0 t_1 t_2 w' ht_1 ht_2,
     rfl,
     fun γ w' _ _ => by have h := v5Norm_any hp (by decide) w'; rw [normV, if_neg gf] at h; exact h,
     congrArg (fun z => some (Value.bool z)) (by first | rfl | assumption | decide | simp [*] : (!true) = false),
     rfl,
     fun γ w' _ _ => rNorm ht (by decide) w',
     fun γ w' _ _ => p4Norm hx (by decide) w',
     fun γ w' bw _ => plProject f1 (by decide) f3 (by decide) w' (hT.later bw) gq.2,
     fun γ w' bw _ => plOffset f1 (by decide) f2 (by decide) w' (hT.later bw) gq.2,
     fun γ w' _ _ => by have h := plAxis_any f1 (by decide) w'; rw [axisV, ha, decide_eq_true hu] at h; exact h,
     fun γ w' _ _ => p4Coords (IsP.can f4) (by decide) w',
     rfl,
     rfl,
     fun γ w' _ _ => rAdd (IsQ.can f7) (by decide) (IsQ.can f2) (by decide) w',
     rfl,
     fun γ w' _ _ => rNeg (IsQ.can f2) (by decide) w',
     fun γ w' bw _ => plOffset f5 (by decide) f9 (by decide) w' (hT.later bw) (And.intro trivial gfar).2,
     ⟨rfl, rfl, eqv_yes (eqL_F (shiftF (shiftF (prim p) t) (-t)) (prim p)) (shift_back gq.2 gpp t) rfl⟩,
     rfl,
     fun γ w' _ _ => p4Make (IsV.mk (IsQ.can f8) (IsQ.can f11) (IsQ.can f12)) (by decide) w',
     fun γ w' _ _ => plSide f5 (by decide) f13 (by decide) w',
     congrArg (fun z => some (Value.bool z)) (by rw [(moved_at gq.2 t x ha (by rw [if_pos hu]; rfl))]; rfl : ((sideF (shiftF (prim p) t) (P3.mk ((liftF (prim p) x).x + t) (liftF (prim p) x).y (liftF (prim p) x).z)) == (0 : Int)) = true),
     rfl,
     fun γ w' _ _ => plSide f5 (by decide) f4 (by decide) w',
     fun γ w' _ _ => rSign (IsQ.can f2) (by decide) w',
     congrArg (fun z => some (Value.int .i64 z)) (neg_sgQ t : IntKind.wrap .i64 (0 - (sgQ t)) = (-sgQ t)),
     congrArg (fun z => some (Value.bool z)) (by rw [side_far gq.2 t (val_lift gq.2 x)]; exact beq_self_eq_true _ : ((sideF (shiftF (prim p) t) (liftF (prim p) x)) == (-sgQ t)) = true),
     rfl,
     fun γ w' _ _ => plFlip f1 (by decide) w',
     fun γ w' _ _ => rNeg (IsQ.can f2) (by decide) w',
     fun γ w' bw _ => plOffset f14 (by decide) f9 (by decide) w' (hT.later bw) (And.intro trivial gneg).2,
     fun γ w' _ _ => plFlip f5 (by decide) w',
     ⟨rfl, rfl, eqv_yes (eqL_F (shiftF (negF (prim p)) (-t)) (negF (shiftF (prim p) t))) (shift_neg t) rfl⟩⟩
set_option maxHeartbeats 1000000 in
set_option maxRecDepth 100000 in
theorem Offsets_0d (p_0 : Bool) (p_1 : ByteArray) (p_2 : Bool) (p_3 : ByteArray) (p_4 : Bool) (p_5 : ByteArray) (p_6 : Bool) (p_7 : ByteArray) (x_0 : Bool) (x_1 : ByteArray) (x_2 : Bool) (x_3 : ByteArray) (x_4 : Bool) (x_5 : ByteArray) (x_6 : Bool) (x_7 : ByteArray) (t_0 : Bool) (t_1 : ByteArray) (t_2 : ByteArray) (w : World) (hT : TabC w) (hx_1 : x_1.size ≤ 6) (hx_3 : x_3.size ≤ 6) (hx_5 : x_5.size ≤ 6) (hx_7 : x_7.size ≤ 6) (hp_1 : p_1.size ≤ 6) (hp_3 : p_3.size ≤ 6) (hp_5 : p_5.size ≤ 6) (hp_7 : p_7.size ≤ 6) (ht_1 : t_1.size ≤ 6) (ht_2 : t_2.size ≤ 6) (gf : ¬ flatF (Z4.mk (iv p_0 p_1) (iv p_2 p_3) (iv p_4 p_5) (iv p_6 p_7))) (ha : axisF (prim (Z4.mk (iv p_0 p_1) (iv p_2 p_3) (iv p_4 p_5) (iv p_6 p_7))) = 0) (hu : ¬ 0 < coefF (prim (Z4.mk (iv p_0 p_1) (iv p_2 p_3) (iv p_4 p_5) (iv p_6 p_7))) 0) :
    Calls Tryz.prog 7 #[.agg #[.bool p_0, .string p_1, .bool p_2, .string p_3, .bool p_4, .string p_5, .bool p_6, .string p_7], .agg #[.bool x_0, .string x_1, .bool x_2, .string x_3, .bool x_4, .string x_5, .bool x_6, .string x_7], .agg #[.bool t_0, .string t_1, .string t_2]] w fun e w' => e = .returned (.bool true) ∧ Below w.heap.size w w' := by
  obtain ⟨p, hp, rp⟩ : ∃ q, IsF (.agg #[.bool p_0, .string p_1, .bool p_2, .string p_3, .bool p_4, .string p_5, .bool p_6, .string p_7]) q 6 ∧ q = ⟨iv p_0 p_1, iv p_2 p_3, iv p_4 p_5, iv p_6 p_7⟩ := ⟨⟨_, _, _, _⟩, ⟨_, _, _, _, _, _, _, _, rfl, rfl, hp_1, rfl, hp_3, rfl, hp_5, rfl, hp_7⟩, rfl⟩
  have zp := hp.sz
  obtain ⟨xq, hxq, rxq⟩ : ∃ q, IsF (.agg #[.bool x_0, .string x_1, .bool x_2, .string x_3, .bool x_4, .string x_5, .bool x_6, .string x_7]) q 6 ∧ q = ⟨iv x_0 x_1, iv x_2 x_3, iv x_4 x_5, iv x_6 x_7⟩ := ⟨⟨_, _, _, _⟩, ⟨_, _, _, _, _, _, _, _, rfl, rfl, hx_1, rfl, hx_3, rfl, hx_5, rfl, hx_7⟩, rfl⟩
  have zxq := hxq.sz
  obtain ⟨x, ex⟩ : ∃ p, p = pt xq := ⟨_, rfl⟩
  have hx : IsP (.agg #[.bool x_0, .string x_1, .bool x_2, .string x_3, .bool x_4, .string x_5, .bool x_6, .string x_7]) x 6 := by rw [ex]; exact hxq.pt
  have zx := hx.sz (by decide)
  have rx : x = pt ⟨iv x_0 x_1, iv x_2 x_3, iv x_4 x_5, iv x_6 x_7⟩ := by rw [ex, rxq]
  obtain ⟨t, ht, rt⟩ : ∃ q, IsQ (.agg #[.bool t_0, .string t_1, .string t_2]) q 6 ∧ q = rq t_0 t_1 t_2 := ⟨_, ⟨_, _, _, rfl, rfl, ht_1, ht_2⟩, rfl⟩
  have zt := ht.sz (by decide)
  rw [← rp] at gf ha hu
  have gq : True ∧ ¬ flatF (prim p) := ⟨trivial, prim_flat gf⟩
  have gpp : prim (prim p) = prim p := prim_prim (g4_flat gf)
  have gfar := shift_none gq.2 t
  have gneg : ¬ flatF (negF (prim p)) := fun e => gq.2 ((flat_neg _).1 e)
  have f1 : Fk (prim p) 6 := Fk.up ((Fk.prim zp)) (by decide)
  have f2 : Rk t 6 := Rk.up (zt) (by decide)
  have f3 : Pk x 6 := Pk.up (zx) (by decide)
  have f4 : Pk (liftF (prim p) x) 117 := Pk.up ((Pk.lift f1 f3)) (by decide)
  have f5 : Fk (shiftF (prim p) t) 76 := Fk.up ((Fk.shift f1 f2)) (by decide)
  have f6 : Vk (liftF (prim p) x) 117 := Vk.up ((Vk.ofP1 f4)) (by decide)
  have f7 : Rk (liftF (prim p) x).x 117 := Rk.up (f6.1) (by decide)
  have f8 : Rk ((liftF (prim p) x).x - t) 124 := Rk.up (Rk.sub f7 f2) (by decide)
  have f9 : Rk (-t) 6 := Rk.up (Rk.neg f2) (by decide)
  have f10 : Fk (shiftF (shiftF (prim p) t) (-t)) 636 := Fk.up ((Fk.shift f5 f9)) (by decide)
  have f11 : Rk (liftF (prim p) x).y 117 := Rk.up (f6.2.1) (by decide)
  have f12 : Rk (liftF (prim p) x).z 117 := Rk.up (f6.2.2) (by decide)
  have f13 : Pk (P3.mk ((liftF (prim p) x).x - t) (liftF (prim p) x).y (liftF (prim p) x).z) 372 := Pk.up ((Pk.ofV (Vk.mk f8 f11 f12))) (by decide)
  have f14 : Fk (negF (prim p)) 6 := Fk.up ((Fk.neg f1)) (by decide)
  have f15 : Fk (shiftF (negF (prim p)) (-t)) 76 := Fk.up ((Fk.shift f14 f9)) (by decide)
  have f16 : Fk (negF (shiftF (prim p) t)) 76 := Fk.up ((Fk.neg f5)) (by decide)
  exact SX.run (w := w) (List.flatten [[.bool p_0, .string p_1, .bool p_2, .string p_3, .bool p_4, .string p_5, .bool p_6, .string p_7, .bool x_0, .string x_1, .bool x_2, .string x_3, .bool x_4, .string x_5, .bool x_6, .string x_7, .bool t_0, .string t_1, .string t_2, .bool true, .bool false, .bool false, .bool false], fc (prim p), [.bool true, .bool false], qc t, pc x, pc (liftF (prim p) x), fc (shiftF (prim p) t), [.int .i64 0, .bool false], vc (liftF (prim p) x), qc ((liftF (prim p) x).x - t), qc (-t), fc (shiftF (shiftF (prim p) t) (-t)), [.bool true], pc (P3.mk ((liftF (prim p) x).x - t) (liftF (prim p) x).y (liftF (prim p) x).z), [.int .i64 (sideF (shiftF (prim p) t) (P3.mk ((liftF (prim p) x).x - t) (liftF (prim p) x).y (liftF (prim p) x).z)), .bool true, .int .i64 (sideF (shiftF (prim p) t) (liftF (prim p) x)), .int .i64 (sgQ t), .int .i64 (-sgQ t), .bool true], fc (negF (prim p)), qc (-t), fc (shiftF (negF (prim p)) (-t)), fc (negF (shiftF (prim p) t)), [.bool true]]) [.b false, .b false, .b false, .b false, .b false, .ix 0, .ix 0, .b true, .b true, .b true] [.ga 0 8, .ga 8 8, .ga 16 3] 19 (.one (.ca 127)) (.call 10 [] (.one (.ca 19)) [] :: .op1 .not (.pa 19) 20 :: .isB 20 false :: .call 11 [.ga 0 8, .c (.p (.slc 3 0 1 1))] (.one (.ca 21)) [(3073, .pa 8), (3074, .pa 9), (3075, .pa 10), (3076, .pa 11), (3077, .pa 12), (3078, .pa 13), (3079, .pa 14), (3080, .pa 15)] :: .isB 21 false :: .call 12 [.ga 16 3] (.one (.ca 22)) [] :: .isB 22 false :: .call 14 [.ga 0 8] (.tup [.ga 23 8, .ca 31]) [] :: .op1 .not (.pa 31) 32 :: .isB 32 false :: .call 24 [.ga 16 3] (.one (.ga 33 3)) [] :: .call 17 [.ga 8 8] (.one (.ga 36 8)) [] :: .call 27 [.ga 23 8, .ga 36 8] (.one (.ga 44 8)) [] :: .call 29 [.ga 23 8, .ga 33 3] (.one (.ga 52 8)) [] :: .call 25 [.ga 23 8] (.tup [.ca 60, .ca 61]) [] :: .call 31 [.ga 44 8] (.one (.ga 62 9)) [] :: .isB 61 false :: .isI 60 0 :: .call 33 [.ga 62 3, .ga 33 3] (.one (.ga 71 3)) [] :: .isI 60 0 :: .call 34 [.ga 33 3] (.one (.ga 74 3)) [] :: .call 29 [.ga 52 8, .ga 74 3] (.one (.ga 77 8)) [] :: .eqs false [.b, .s, .b, .s, .b, .s, .b, .s] [.pa 77, .pa 78, .pa 79, .pa 80, .pa 81, .pa 82, .pa 83, .pa 84] [.pa 23, .pa 24, .pa 25, .pa 26, .pa 27, .pa 28, .pa 29, .pa 30] 85 :: .isB 85 true :: .call 35 [.agg [.pa 71, .pa 72, .pa 73, .pa 65, .pa 66, .pa 67, .pa 68, .pa 69, .pa 70]] (.one (.ga 86 8)) [] :: .call 21 [.ga 52 8, .ga 86 8] (.one (.ca 94)) [] :: .op2 false .eql (.pa 94) (.p (.lit (.int .i64 0))) 95 :: .isB 95 true :: .call 21 [.ga 52 8, .ga 44 8] (.one (.ca 96)) [] :: .call 36 [.ga 33 3] (.one (.ca 97)) [] :: .op1 .neg (.pa 97) 98 :: .op2 false .eql (.pa 96) (.pa 98) 99 :: .isB 99 true :: .call 20 [.ga 23 8] (.one (.ga 100 8)) [] :: .call 34 [.ga 33 3] (.one (.ga 108 3)) [] :: .call 29 [.ga 100 8, .ga 108 3] (.one (.ga 111 8)) [] :: .call 20 [.ga 52 8] (.one (.ga 119 8)) [] :: .eqs false [.b, .s, .b, .s, .b, .s, .b, .s] [.pa 111, .pa 112, .pa 113, .pa 114, .pa 115, .pa 116, .pa 117, .pa 118] [.pa 119, .pa 120, .pa 121, .pa 122, .pa 123, .pa 124, .pa 125, .pa 126] 127 :: []) Tryz.func7 (by kernel_rfl) rfl (by kernel_rfl) rfl (by kernel_rfl)
    ⟨fun γ w' bw _ => alive5_any w' (hT.later bw),
     congrArg (fun z => some (Value.bool z)) (by first | rfl | assumption | decide | simp [*] : (!true) = false),
     rfl,
     fun γ w' _ hm => great5_1_no p_0 p_1 p_2 p_3 p_4 p_5 p_6 p_7 x_0 x_1 x_2 x_3 x_4 x_5 x_6 x_7 w' (γ 3) (SX.mem_at (b := 3) (l := [.pa 8, .pa 9, .pa 10, .pa 11, .pa 12, .pa 13, .pa 14, .pa 15]) hm rfl) hx_1 hx_3 hx_5 hx_7 hp_1 hp_3 hp_5 hp_7,
     rfl,
     fun γ w' _ _ => long5_no t_0 t_1 t_2 w' ht_1 ht_2,
     rfl,
     fun γ w' _ _ => by have h := v5Norm_any hp (by decide) w'; rw [normV, if_neg gf] at h; exact h,
     congrArg (fun z => some (Value.bool z)) (by first | rfl | assumption | decide | simp [*] : (!true) = false),
     rfl,
     fun γ w' _ _ => rNorm ht (by decide) w',
     fun γ w' _ _ => p4Norm hx (by decide) w',
     fun γ w' bw _ => plProject f1 (by decide) f3 (by decide) w' (hT.later bw) gq.2,
     fun γ w' bw _ => plOffset f1 (by decide) f2 (by decide) w' (hT.later bw) gq.2,
     fun γ w' _ _ => by have h := plAxis_any f1 (by decide) w'; rw [axisV, ha, decide_eq_false hu] at h; exact h,
     fun γ w' _ _ => p4Coords (IsP.can f4) (by decide) w',
     rfl,
     rfl,
     fun γ w' _ _ => rSub (IsQ.can f7) (by decide) (IsQ.can f2) (by decide) w',
     rfl,
     fun γ w' _ _ => rNeg (IsQ.can f2) (by decide) w',
     fun γ w' bw _ => plOffset f5 (by decide) f9 (by decide) w' (hT.later bw) (And.intro trivial gfar).2,
     ⟨rfl, rfl, eqv_yes (eqL_F (shiftF (shiftF (prim p) t) (-t)) (prim p)) (shift_back gq.2 gpp t) rfl⟩,
     rfl,
     fun γ w' _ _ => p4Make (IsV.mk (IsQ.can f8) (IsQ.can f11) (IsQ.can f12)) (by decide) w',
     fun γ w' _ _ => plSide f5 (by decide) f13 (by decide) w',
     congrArg (fun z => some (Value.bool z)) (by rw [(moved_at gq.2 t x ha (by rw [if_neg hu]; unfold alongP; simp [Rat.sub_eq_add_neg]))]; rfl : ((sideF (shiftF (prim p) t) (P3.mk ((liftF (prim p) x).x - t) (liftF (prim p) x).y (liftF (prim p) x).z)) == (0 : Int)) = true),
     rfl,
     fun γ w' _ _ => plSide f5 (by decide) f4 (by decide) w',
     fun γ w' _ _ => rSign (IsQ.can f2) (by decide) w',
     congrArg (fun z => some (Value.int .i64 z)) (neg_sgQ t : IntKind.wrap .i64 (0 - (sgQ t)) = (-sgQ t)),
     congrArg (fun z => some (Value.bool z)) (by rw [side_far gq.2 t (val_lift gq.2 x)]; exact beq_self_eq_true _ : ((sideF (shiftF (prim p) t) (liftF (prim p) x)) == (-sgQ t)) = true),
     rfl,
     fun γ w' _ _ => plFlip f1 (by decide) w',
     fun γ w' _ _ => rNeg (IsQ.can f2) (by decide) w',
     fun γ w' bw _ => plOffset f14 (by decide) f9 (by decide) w' (hT.later bw) (And.intro trivial gneg).2,
     fun γ w' _ _ => plFlip f5 (by decide) w',
     ⟨rfl, rfl, eqv_yes (eqL_F (shiftF (negF (prim p)) (-t)) (negF (shiftF (prim p) t))) (shift_neg t) rfl⟩⟩
set_option maxHeartbeats 1000000 in
set_option maxRecDepth 100000 in
theorem Offsets_1u (p_0 : Bool) (p_1 : ByteArray) (p_2 : Bool) (p_3 : ByteArray) (p_4 : Bool) (p_5 : ByteArray) (p_6 : Bool) (p_7 : ByteArray) (x_0 : Bool) (x_1 : ByteArray) (x_2 : Bool) (x_3 : ByteArray) (x_4 : Bool) (x_5 : ByteArray) (x_6 : Bool) (x_7 : ByteArray) (t_0 : Bool) (t_1 : ByteArray) (t_2 : ByteArray) (w : World) (hT : TabC w) (hx_1 : x_1.size ≤ 6) (hx_3 : x_3.size ≤ 6) (hx_5 : x_5.size ≤ 6) (hx_7 : x_7.size ≤ 6) (hp_1 : p_1.size ≤ 6) (hp_3 : p_3.size ≤ 6) (hp_5 : p_5.size ≤ 6) (hp_7 : p_7.size ≤ 6) (ht_1 : t_1.size ≤ 6) (ht_2 : t_2.size ≤ 6) (gf : ¬ flatF (Z4.mk (iv p_0 p_1) (iv p_2 p_3) (iv p_4 p_5) (iv p_6 p_7))) (ha : axisF (prim (Z4.mk (iv p_0 p_1) (iv p_2 p_3) (iv p_4 p_5) (iv p_6 p_7))) = 1) (hu : 0 < coefF (prim (Z4.mk (iv p_0 p_1) (iv p_2 p_3) (iv p_4 p_5) (iv p_6 p_7))) 1) :
    Calls Tryz.prog 7 #[.agg #[.bool p_0, .string p_1, .bool p_2, .string p_3, .bool p_4, .string p_5, .bool p_6, .string p_7], .agg #[.bool x_0, .string x_1, .bool x_2, .string x_3, .bool x_4, .string x_5, .bool x_6, .string x_7], .agg #[.bool t_0, .string t_1, .string t_2]] w fun e w' => e = .returned (.bool true) ∧ Below w.heap.size w w' := by
  obtain ⟨p, hp, rp⟩ : ∃ q, IsF (.agg #[.bool p_0, .string p_1, .bool p_2, .string p_3, .bool p_4, .string p_5, .bool p_6, .string p_7]) q 6 ∧ q = ⟨iv p_0 p_1, iv p_2 p_3, iv p_4 p_5, iv p_6 p_7⟩ := ⟨⟨_, _, _, _⟩, ⟨_, _, _, _, _, _, _, _, rfl, rfl, hp_1, rfl, hp_3, rfl, hp_5, rfl, hp_7⟩, rfl⟩
  have zp := hp.sz
  obtain ⟨xq, hxq, rxq⟩ : ∃ q, IsF (.agg #[.bool x_0, .string x_1, .bool x_2, .string x_3, .bool x_4, .string x_5, .bool x_6, .string x_7]) q 6 ∧ q = ⟨iv x_0 x_1, iv x_2 x_3, iv x_4 x_5, iv x_6 x_7⟩ := ⟨⟨_, _, _, _⟩, ⟨_, _, _, _, _, _, _, _, rfl, rfl, hx_1, rfl, hx_3, rfl, hx_5, rfl, hx_7⟩, rfl⟩
  have zxq := hxq.sz
  obtain ⟨x, ex⟩ : ∃ p, p = pt xq := ⟨_, rfl⟩
  have hx : IsP (.agg #[.bool x_0, .string x_1, .bool x_2, .string x_3, .bool x_4, .string x_5, .bool x_6, .string x_7]) x 6 := by rw [ex]; exact hxq.pt
  have zx := hx.sz (by decide)
  have rx : x = pt ⟨iv x_0 x_1, iv x_2 x_3, iv x_4 x_5, iv x_6 x_7⟩ := by rw [ex, rxq]
  obtain ⟨t, ht, rt⟩ : ∃ q, IsQ (.agg #[.bool t_0, .string t_1, .string t_2]) q 6 ∧ q = rq t_0 t_1 t_2 := ⟨_, ⟨_, _, _, rfl, rfl, ht_1, ht_2⟩, rfl⟩
  have zt := ht.sz (by decide)
  rw [← rp] at gf ha hu
  have gq : True ∧ ¬ flatF (prim p) := ⟨trivial, prim_flat gf⟩
  have gpp : prim (prim p) = prim p := prim_prim (g4_flat gf)
  have gfar := shift_none gq.2 t
  have gneg : ¬ flatF (negF (prim p)) := fun e => gq.2 ((flat_neg _).1 e)
  have f1 : Fk (prim p) 6 := Fk.up ((Fk.prim zp)) (by decide)
  have f2 : Rk t 6 := Rk.up (zt) (by decide)
  have f3 : Pk x 6 := Pk.up (zx) (by decide)
  have f4 : Pk (liftF (prim p) x) 117 := Pk.up ((Pk.lift f1 f3)) (by decide)
  have f5 : Fk (shiftF (prim p) t) 76 := Fk.up ((Fk.shift f1 f2)) (by decide)
  have f6 : Vk (liftF (prim p) x) 117 := Vk.up ((Vk.ofP1 f4)) (by decide)
  have f7 : Rk (liftF (prim p) x).y 117 := Rk.up (f6.2.1) (by decide)
  have f8 : Rk ((liftF (prim p) x).y + t) 124 := Rk.up (Rk.add f7 f2) (by decide)
  have f9 : Rk (-t) 6 := Rk.up (Rk.neg f2) (by decide)
  have f10 : Fk (shiftF (shiftF (prim p) t) (-t)) 636 := Fk.up ((Fk.shift f5 f9)) (by decide)
  have f11 : Rk (liftF (prim p) x).x 117 := Rk.up (f6.1) (by decide)
  have f12 : Rk (liftF (prim p) x).z 117 := Rk.up (f6.2.2) (by decide)
  have f13 : Pk (P3.mk (liftF (prim p) x).x ((liftF (prim p) x).y + t) (liftF (prim p) x).z) 372 := Pk.up ((Pk.ofV (Vk.mk f11 f8 f12))) (by decide)
  have f14 : Fk (negF (prim p)) 6 := Fk.up ((Fk.neg f1)) (by decide)
  have f15 : Fk (shiftF (negF (prim p)) (-t)) 76 := Fk.up ((Fk.shift f14 f9)) (by decide)
  have f16 : Fk (negF (shiftF (prim p) t)) 76 := Fk.up ((Fk.neg f5)) (by decide)
  exact SX.run (w := w) (List.flatten [[.bool p_0, .string p_1, .bool p_2, .string p_3, .bool p_4, .string p_5, .bool p_6, .string p_7, .bool x_0, .string x_1, .bool x_2, .string x_3, .bool x_4, .string x_5, .bool x_6, .string x_7, .bool t_0, .string t_1, .string t_2, .bool true, .bool false, .bool false, .bool false], fc (prim p), [.bool true, .bool false], qc t, pc x, pc (liftF (prim p) x), fc (shiftF (prim p) t), [.int .i64 1, .bool true], vc (liftF (prim p) x), qc ((liftF (prim p) x).y + t), qc (-t), fc (shiftF (shiftF (prim p) t) (-t)), [.bool true], pc (P3.mk (liftF (prim p) x).x ((liftF (prim p) x).y + t) (liftF (prim p) x).z), [.int .i64 (sideF (shiftF (prim p) t) (P3.mk (liftF (prim p) x).x ((liftF (prim p) x).y + t) (liftF (prim p) x).z)), .bool true, .int .i64 (sideF (shiftF (prim p) t) (liftF (prim p) x)), .int .i64 (sgQ t), .int .i64 (-sgQ t), .bool true], fc (negF (prim p)), qc (-t), fc (shiftF (negF (prim p)) (-t)), fc (negF (shiftF (prim p) t)), [.bool true]]) [.b false, .b false, .b false, .b false, .b true, .ix 1, .ix 1, .b true, .b true, .b true] [.ga 0 8, .ga 8 8, .ga 16 3] 19 (.one (.ca 127)) (.call 10 [] (.one (.ca 19)) [] :: .op1 .not (.pa 19) 20 :: .isB 20 false :: .call 11 [.ga 0 8, .c (.p (.slc 3 0 1 1))] (.one (.ca 21)) [(3073, .pa 8), (3074, .pa 9), (3075, .pa 10), (3076, .pa 11), (3077, .pa 12), (3078, .pa 13), (3079, .pa 14), (3080, .pa 15)] :: .isB 21 false :: .call 12 [.ga 16 3] (.one (.ca 22)) [] :: .isB 22 false :: .call 14 [.ga 0 8] (.tup [.ga 23 8, .ca 31]) [] :: .op1 .not (.pa 31) 32 :: .isB 32 false :: .call 24 [.ga 16 3] (.one (.ga 33 3)) [] :: .call 17 [.ga 8 8] (.one (.ga 36 8)) [] :: .call 27 [.ga 23 8, .ga 36 8] (.one (.ga 44 8)) [] :: .call 29 [.ga 23 8, .ga 33 3] (.one (.ga 52 8)) [] :: .call 25 [.ga 23 8] (.tup [.ca 60, .ca 61]) [] :: .call 31 [.ga 44 8] (.one (.ga 62 9)) [] :: .isB 61 true :: .isI 60 1 :: .call 32 [.ga 65 3, .ga 33 3] (.one (.ga 71 3)) [] :: .isI 60 1 :: .call 34 [.ga 33 3] (.one (.ga 74 3)) [] :: .call 29 [.ga 52 8, .ga 74 3] (.one (.ga 77 8)) [] :: .eqs false [.b, .s, .b, .s, .b, .s, .b, .s] [.pa 77, .pa 78, .pa 79, .pa 80, .pa 81, .pa 82, .pa 83, .pa 84] [.pa 23, .pa 24, .pa 25, .pa 26, .pa 27, .pa 28, .pa 29, .pa 30] 85 :: .isB 85 true :: .call 35 [.agg [.pa 62, .pa 63, .pa 64, .pa 71, .pa 72, .pa 73, .pa 68, .pa 69, .pa 70]] (.one (.ga 86 8)) [] :: .call 21 [.ga 52 8, .ga 86 8] (.one (.ca 94)) [] :: .op2 false .eql (.pa 94) (.p (.lit (.int .i64 0))) 95 :: .isB 95 true :: .call 21 [.ga 52 8, .ga 44 8] (.one (.ca 96)) [] :: .call 36 [.ga 33 3] (.one (.ca 97)) [] :: .op1 .neg (.pa 97) 98 :: .op2 false .eql (.pa 96) (.pa 98) 99 :: .isB 99 true :: .call 20 [.ga 23 8] (.one (.ga 100 8)) [] :: .call 34 [.ga 33 3] (.one (.ga 108 3)) [] :: .call 29 [.ga 100 8, .ga 108 3] (.one (.ga 111 8)) [] :: .call 20 [.ga 52 8] (.one (.ga 119 8)) [] :: .eqs false [.b, .s, .b, .s, .b, .s, .b, .s] [.pa 111, .pa 112, .pa 113, .pa 114, .pa 115, .pa 116, .pa 117, .pa 118] [.pa 119, .pa 120, .pa 121, .pa 122, .pa 123, .pa 124, .pa 125, .pa 126] 127 :: []) Tryz.func7 (by kernel_rfl) rfl (by kernel_rfl) rfl (by kernel_rfl)
    ⟨fun γ w' bw _ => alive5_any w' (hT.later bw),
     congrArg (fun z => some (Value.bool z)) (by first | rfl | assumption | decide | simp [*] : (!true) = false),
     rfl,
     fun γ w' _ hm => great5_1_no p_0 p_1 p_2 p_3 p_4 p_5 p_6 p_7 x_0 x_1 x_2 x_3 x_4 x_5 x_6 x_7 w' (γ 3) (SX.mem_at (b := 3) (l := [.pa 8, .pa 9, .pa 10, .pa 11, .pa 12, .pa 13, .pa 14, .pa 15]) hm rfl) hx_1 hx_3 hx_5 hx_7 hp_1 hp_3 hp_5 hp_7,
     rfl,
     fun γ w' _ _ => long5_no t_0 t_1 t_2 w' ht_1 ht_2,
     rfl,
     fun γ w' _ _ => by have h := v5Norm_any hp (by decide) w'; rw [normV, if_neg gf] at h; exact h,
     congrArg (fun z => some (Value.bool z)) (by first | rfl | assumption | decide | simp [*] : (!true) = false),
     rfl,
     fun γ w' _ _ => rNorm ht (by decide) w',
     fun γ w' _ _ => p4Norm hx (by decide) w',
     fun γ w' bw _ => plProject f1 (by decide) f3 (by decide) w' (hT.later bw) gq.2,
     fun γ w' bw _ => plOffset f1 (by decide) f2 (by decide) w' (hT.later bw) gq.2,
     fun γ w' _ _ => by have h := plAxis_any f1 (by decide) w'; rw [axisV, ha, decide_eq_true hu] at h; exact h,
     fun γ w' _ _ => p4Coords (IsP.can f4) (by decide) w',
     rfl,
     rfl,
     fun γ w' _ _ => rAdd (IsQ.can f7) (by decide) (IsQ.can f2) (by decide) w',
     rfl,
     fun γ w' _ _ => rNeg (IsQ.can f2) (by decide) w',
     fun γ w' bw _ => plOffset f5 (by decide) f9 (by decide) w' (hT.later bw) (And.intro trivial gfar).2,
     ⟨rfl, rfl, eqv_yes (eqL_F (shiftF (shiftF (prim p) t) (-t)) (prim p)) (shift_back gq.2 gpp t) rfl⟩,
     rfl,
     fun γ w' _ _ => p4Make (IsV.mk (IsQ.can f11) (IsQ.can f8) (IsQ.can f12)) (by decide) w',
     fun γ w' _ _ => plSide f5 (by decide) f13 (by decide) w',
     congrArg (fun z => some (Value.bool z)) (by rw [(moved_at gq.2 t x ha (by rw [if_pos hu]; rfl))]; rfl : ((sideF (shiftF (prim p) t) (P3.mk (liftF (prim p) x).x ((liftF (prim p) x).y + t) (liftF (prim p) x).z)) == (0 : Int)) = true),
     rfl,
     fun γ w' _ _ => plSide f5 (by decide) f4 (by decide) w',
     fun γ w' _ _ => rSign (IsQ.can f2) (by decide) w',
     congrArg (fun z => some (Value.int .i64 z)) (neg_sgQ t : IntKind.wrap .i64 (0 - (sgQ t)) = (-sgQ t)),
     congrArg (fun z => some (Value.bool z)) (by rw [side_far gq.2 t (val_lift gq.2 x)]; exact beq_self_eq_true _ : ((sideF (shiftF (prim p) t) (liftF (prim p) x)) == (-sgQ t)) = true),
     rfl,
     fun γ w' _ _ => plFlip f1 (by decide) w',
     fun γ w' _ _ => rNeg (IsQ.can f2) (by decide) w',
     fun γ w' bw _ => plOffset f14 (by decide) f9 (by decide) w' (hT.later bw) (And.intro trivial gneg).2,
     fun γ w' _ _ => plFlip f5 (by decide) w',
     ⟨rfl, rfl, eqv_yes (eqL_F (shiftF (negF (prim p)) (-t)) (negF (shiftF (prim p) t))) (shift_neg t) rfl⟩⟩
set_option maxHeartbeats 1000000 in
set_option maxRecDepth 100000 in
theorem Offsets_1d (p_0 : Bool) (p_1 : ByteArray) (p_2 : Bool) (p_3 : ByteArray) (p_4 : Bool) (p_5 : ByteArray) (p_6 : Bool) (p_7 : ByteArray) (x_0 : Bool) (x_1 : ByteArray) (x_2 : Bool) (x_3 : ByteArray) (x_4 : Bool) (x_5 : ByteArray) (x_6 : Bool) (x_7 : ByteArray) (t_0 : Bool) (t_1 : ByteArray) (t_2 : ByteArray) (w : World) (hT : TabC w) (hx_1 : x_1.size ≤ 6) (hx_3 : x_3.size ≤ 6) (hx_5 : x_5.size ≤ 6) (hx_7 : x_7.size ≤ 6) (hp_1 : p_1.size ≤ 6) (hp_3 : p_3.size ≤ 6) (hp_5 : p_5.size ≤ 6) (hp_7 : p_7.size ≤ 6) (ht_1 : t_1.size ≤ 6) (ht_2 : t_2.size ≤ 6) (gf : ¬ flatF (Z4.mk (iv p_0 p_1) (iv p_2 p_3) (iv p_4 p_5) (iv p_6 p_7))) (ha : axisF (prim (Z4.mk (iv p_0 p_1) (iv p_2 p_3) (iv p_4 p_5) (iv p_6 p_7))) = 1) (hu : ¬ 0 < coefF (prim (Z4.mk (iv p_0 p_1) (iv p_2 p_3) (iv p_4 p_5) (iv p_6 p_7))) 1) :
    Calls Tryz.prog 7 #[.agg #[.bool p_0, .string p_1, .bool p_2, .string p_3, .bool p_4, .string p_5, .bool p_6, .string p_7], .agg #[.bool x_0, .string x_1, .bool x_2, .string x_3, .bool x_4, .string x_5, .bool x_6, .string x_7], .agg #[.bool t_0, .string t_1, .string t_2]] w fun e w' => e = .returned (.bool true) ∧ Below w.heap.size w w' := by
  obtain ⟨p, hp, rp⟩ : ∃ q, IsF (.agg #[.bool p_0, .string p_1, .bool p_2, .string p_3, .bool p_4, .string p_5, .bool p_6, .string p_7]) q 6 ∧ q = ⟨iv p_0 p_1, iv p_2 p_3, iv p_4 p_5, iv p_6 p_7⟩ := ⟨⟨_, _, _, _⟩, ⟨_, _, _, _, _, _, _, _, rfl, rfl, hp_1, rfl, hp_3, rfl, hp_5, rfl, hp_7⟩, rfl⟩
  have zp := hp.sz
  obtain ⟨xq, hxq, rxq⟩ : ∃ q, IsF (.agg #[.bool x_0, .string x_1, .bool x_2, .string x_3, .bool x_4, .string x_5, .bool x_6, .string x_7]) q 6 ∧ q = ⟨iv x_0 x_1, iv x_2 x_3, iv x_4 x_5, iv x_6 x_7⟩ := ⟨⟨_, _, _, _⟩, ⟨_, _, _, _, _, _, _, _, rfl, rfl, hx_1, rfl, hx_3, rfl, hx_5, rfl, hx_7⟩, rfl⟩
  have zxq := hxq.sz
  obtain ⟨x, ex⟩ : ∃ p, p = pt xq := ⟨_, rfl⟩
  have hx : IsP (.agg #[.bool x_0, .string x_1, .bool x_2, .string x_3, .bool x_4, .string x_5, .bool x_6, .string x_7]) x 6 := by rw [ex]; exact hxq.pt
  have zx := hx.sz (by decide)
  have rx : x = pt ⟨iv x_0 x_1, iv x_2 x_3, iv x_4 x_5, iv x_6 x_7⟩ := by rw [ex, rxq]
  obtain ⟨t, ht, rt⟩ : ∃ q, IsQ (.agg #[.bool t_0, .string t_1, .string t_2]) q 6 ∧ q = rq t_0 t_1 t_2 := ⟨_, ⟨_, _, _, rfl, rfl, ht_1, ht_2⟩, rfl⟩
  have zt := ht.sz (by decide)
  rw [← rp] at gf ha hu
  have gq : True ∧ ¬ flatF (prim p) := ⟨trivial, prim_flat gf⟩
  have gpp : prim (prim p) = prim p := prim_prim (g4_flat gf)
  have gfar := shift_none gq.2 t
  have gneg : ¬ flatF (negF (prim p)) := fun e => gq.2 ((flat_neg _).1 e)
  have f1 : Fk (prim p) 6 := Fk.up ((Fk.prim zp)) (by decide)
  have f2 : Rk t 6 := Rk.up (zt) (by decide)
  have f3 : Pk x 6 := Pk.up (zx) (by decide)
  have f4 : Pk (liftF (prim p) x) 117 := Pk.up ((Pk.lift f1 f3)) (by decide)
  have f5 : Fk (shiftF (prim p) t) 76 := Fk.up ((Fk.shift f1 f2)) (by decide)
  have f6 : Vk (liftF (prim p) x) 117 := Vk.up ((Vk.ofP1 f4)) (by decide)
  have f7 : Rk (liftF (prim p) x).y 117 := Rk.up (f6.2.1) (by decide)
  have f8 : Rk ((liftF (prim p) x).y - t) 124 := Rk.up (Rk.sub f7 f2) (by decide)
  have f9 : Rk (-t) 6 := Rk.up (Rk.neg f2) (by decide)
  have f10 : Fk (shiftF (shiftF (prim p) t) (-t)) 636 := Fk.up ((Fk.shift f5 f9)) (by decide)
  have f11 : Rk (liftF (prim p) x).x 117 := Rk.up (f6.1) (by decide)
  have f12 : Rk (liftF (prim p) x).z 117 := Rk.up (f6.2.2) (by decide)
  have f13 : Pk (P3.mk (liftF (prim p) x).x ((liftF (prim p) x).y - t) (liftF (prim p) x).z) 372 := Pk.up ((Pk.ofV (Vk.mk f11 f8 f12))) (by decide)
  have f14 : Fk (negF (prim p)) 6 := Fk.up ((Fk.neg f1)) (by decide)
  have f15 : Fk (shiftF (negF (prim p)) (-t)) 76 := Fk.up ((Fk.shift f14 f9)) (by decide)
  have f16 : Fk (negF (shiftF (prim p) t)) 76 := Fk.up ((Fk.neg f5)) (by decide)
  exact SX.run (w := w) (List.flatten [[.bool p_0, .string p_1, .bool p_2, .string p_3, .bool p_4, .string p_5, .bool p_6, .string p_7, .bool x_0, .string x_1, .bool x_2, .string x_3, .bool x_4, .string x_5, .bool x_6, .string x_7, .bool t_0, .string t_1, .string t_2, .bool true, .bool false, .bool false, .bool false], fc (prim p), [.bool true, .bool false], qc t, pc x, pc (liftF (prim p) x), fc (shiftF (prim p) t), [.int .i64 1, .bool false], vc (liftF (prim p) x), qc ((liftF (prim p) x).y - t), qc (-t), fc (shiftF (shiftF (prim p) t) (-t)), [.bool true], pc (P3.mk (liftF (prim p) x).x ((liftF (prim p) x).y - t) (liftF (prim p) x).z), [.int .i64 (sideF (shiftF (prim p) t) (P3.mk (liftF (prim p) x).x ((liftF (prim p) x).y - t) (liftF (prim p) x).z)), .bool true, .int .i64 (sideF (shiftF (prim p) t) (liftF (prim p) x)), .int .i64 (sgQ t), .int .i64 (-sgQ t), .bool true], fc (negF (prim p)), qc (-t), fc (shiftF (negF (prim p)) (-t)), fc (negF (shiftF (prim p) t)), [.bool true]]) [.b false, .b false, .b false, .b false, .b false, .ix 1, .ix 1, .b true, .b true, .b true] [.ga 0 8, .ga 8 8, .ga 16 3] 19 (.one (.ca 127)) (.call 10 [] (.one (.ca 19)) [] :: .op1 .not (.pa 19) 20 :: .isB 20 false :: .call 11 [.ga 0 8, .c (.p (.slc 3 0 1 1))] (.one (.ca 21)) [(3073, .pa 8), (3074, .pa 9), (3075, .pa 10), (3076, .pa 11), (3077, .pa 12), (3078, .pa 13), (3079, .pa 14), (3080, .pa 15)] :: .isB 21 false :: .call 12 [.ga 16 3] (.one (.ca 22)) [] :: .isB 22 false :: .call 14 [.ga 0 8] (.tup [.ga 23 8, .ca 31]) [] :: .op1 .not (.pa 31) 32 :: .isB 32 false :: .call 24 [.ga 16 3] (.one (.ga 33 3)) [] :: .call 17 [.ga 8 8] (.one (.ga 36 8)) [] :: .call 27 [.ga 23 8, .ga 36 8] (.one (.ga 44 8)) [] :: .call 29 [.ga 23 8, .ga 33 3] (.one (.ga 52 8)) [] :: .call 25 [.ga 23 8] (.tup [.ca 60, .ca 61]) [] :: .call 31 [.ga 44 8] (.one (.ga 62 9)) [] :: .isB 61 false :: .isI 60 1 :: .call 33 [.ga 65 3, .ga 33 3] (.one (.ga 71 3)) [] :: .isI 60 1 :: .call 34 [.ga 33 3] (.one (.ga 74 3)) [] :: .call 29 [.ga 52 8, .ga 74 3] (.one (.ga 77 8)) [] :: .eqs false [.b, .s, .b, .s, .b, .s, .b, .s] [.pa 77, .pa 78, .pa 79, .pa 80, .pa 81, .pa 82, .pa 83, .pa 84] [.pa 23, .pa 24, .pa 25, .pa 26, .pa 27, .pa 28, .pa 29, .pa 30] 85 :: .isB 85 true :: .call 35 [.agg [.pa 62, .pa 63, .pa 64, .pa 71, .pa 72, .pa 73, .pa 68, .pa 69, .pa 70]] (.one (.ga 86 8)) [] :: .call 21 [.ga 52 8, .ga 86 8] (.one (.ca 94)) [] :: .op2 false .eql (.pa 94) (.p (.lit (.int .i64 0))) 95 :: .isB 95 true :: .call 21 [.ga 52 8, .ga 44 8] (.one (.ca 96)) [] :: .call 36 [.ga 33 3] (.one (.ca 97)) [] :: .op1 .neg (.pa 97) 98 :: .op2 false .eql (.pa 96) (.pa 98) 99 :: .isB 99 true :: .call 20 [.ga 23 8] (.one (.ga 100 8)) [] :: .call 34 [.ga 33 3] (.one (.ga 108 3)) [] :: .call 29 [.ga 100 8, .ga 108 3] (.one (.ga 111 8)) [] :: .call 20 [.ga 52 8] (.one (.ga 119 8)) [] :: .eqs false [.b, .s, .b, .s, .b, .s, .b, .s] [.pa 111, .pa 112, .pa 113, .pa 114, .pa 115, .pa 116, .pa 117, .pa 118] [.pa 119, .pa 120, .pa 121, .pa 122, .pa 123, .pa 124, .pa 125, .pa 126] 127 :: []) Tryz.func7 (by kernel_rfl) rfl (by kernel_rfl) rfl (by kernel_rfl)
    ⟨fun γ w' bw _ => alive5_any w' (hT.later bw),
     congrArg (fun z => some (Value.bool z)) (by first | rfl | assumption | decide | simp [*] : (!true) = false),
     rfl,
     fun γ w' _ hm => great5_1_no p_0 p_1 p_2 p_3 p_4 p_5 p_6 p_7 x_0 x_1 x_2 x_3 x_4 x_5 x_6 x_7 w' (γ 3) (SX.mem_at (b := 3) (l := [.pa 8, .pa 9, .pa 10, .pa 11, .pa 12, .pa 13, .pa 14, .pa 15]) hm rfl) hx_1 hx_3 hx_5 hx_7 hp_1 hp_3 hp_5 hp_7,
     rfl,
     fun γ w' _ _ => long5_no t_0 t_1 t_2 w' ht_1 ht_2,
     rfl,
     fun γ w' _ _ => by have h := v5Norm_any hp (by decide) w'; rw [normV, if_neg gf] at h; exact h,
     congrArg (fun z => some (Value.bool z)) (by first | rfl | assumption | decide | simp [*] : (!true) = false),
     rfl,
     fun γ w' _ _ => rNorm ht (by decide) w',
     fun γ w' _ _ => p4Norm hx (by decide) w',
     fun γ w' bw _ => plProject f1 (by decide) f3 (by decide) w' (hT.later bw) gq.2,
     fun γ w' bw _ => plOffset f1 (by decide) f2 (by decide) w' (hT.later bw) gq.2,
     fun γ w' _ _ => by have h := plAxis_any f1 (by decide) w'; rw [axisV, ha, decide_eq_false hu] at h; exact h,
     fun γ w' _ _ => p4Coords (IsP.can f4) (by decide) w',
     rfl,
     rfl,
     fun γ w' _ _ => rSub (IsQ.can f7) (by decide) (IsQ.can f2) (by decide) w',
     rfl,
     fun γ w' _ _ => rNeg (IsQ.can f2) (by decide) w',
     fun γ w' bw _ => plOffset f5 (by decide) f9 (by decide) w' (hT.later bw) (And.intro trivial gfar).2,
     ⟨rfl, rfl, eqv_yes (eqL_F (shiftF (shiftF (prim p) t) (-t)) (prim p)) (shift_back gq.2 gpp t) rfl⟩,
     rfl,
     fun γ w' _ _ => p4Make (IsV.mk (IsQ.can f11) (IsQ.can f8) (IsQ.can f12)) (by decide) w',
     fun γ w' _ _ => plSide f5 (by decide) f13 (by decide) w',
     congrArg (fun z => some (Value.bool z)) (by rw [(moved_at gq.2 t x ha (by rw [if_neg hu]; unfold alongP; simp [Rat.sub_eq_add_neg]))]; rfl : ((sideF (shiftF (prim p) t) (P3.mk (liftF (prim p) x).x ((liftF (prim p) x).y - t) (liftF (prim p) x).z)) == (0 : Int)) = true),
     rfl,
     fun γ w' _ _ => plSide f5 (by decide) f4 (by decide) w',
     fun γ w' _ _ => rSign (IsQ.can f2) (by decide) w',
     congrArg (fun z => some (Value.int .i64 z)) (neg_sgQ t : IntKind.wrap .i64 (0 - (sgQ t)) = (-sgQ t)),
     congrArg (fun z => some (Value.bool z)) (by rw [side_far gq.2 t (val_lift gq.2 x)]; exact beq_self_eq_true _ : ((sideF (shiftF (prim p) t) (liftF (prim p) x)) == (-sgQ t)) = true),
     rfl,
     fun γ w' _ _ => plFlip f1 (by decide) w',
     fun γ w' _ _ => rNeg (IsQ.can f2) (by decide) w',
     fun γ w' bw _ => plOffset f14 (by decide) f9 (by decide) w' (hT.later bw) (And.intro trivial gneg).2,
     fun γ w' _ _ => plFlip f5 (by decide) w',
     ⟨rfl, rfl, eqv_yes (eqL_F (shiftF (negF (prim p)) (-t)) (negF (shiftF (prim p) t))) (shift_neg t) rfl⟩⟩
set_option maxHeartbeats 1000000 in
set_option maxRecDepth 100000 in
theorem Offsets_2u (p_0 : Bool) (p_1 : ByteArray) (p_2 : Bool) (p_3 : ByteArray) (p_4 : Bool) (p_5 : ByteArray) (p_6 : Bool) (p_7 : ByteArray) (x_0 : Bool) (x_1 : ByteArray) (x_2 : Bool) (x_3 : ByteArray) (x_4 : Bool) (x_5 : ByteArray) (x_6 : Bool) (x_7 : ByteArray) (t_0 : Bool) (t_1 : ByteArray) (t_2 : ByteArray) (w : World) (hT : TabC w) (hx_1 : x_1.size ≤ 6) (hx_3 : x_3.size ≤ 6) (hx_5 : x_5.size ≤ 6) (hx_7 : x_7.size ≤ 6) (hp_1 : p_1.size ≤ 6) (hp_3 : p_3.size ≤ 6) (hp_5 : p_5.size ≤ 6) (hp_7 : p_7.size ≤ 6) (ht_1 : t_1.size ≤ 6) (ht_2 : t_2.size ≤ 6) (gf : ¬ flatF (Z4.mk (iv p_0 p_1) (iv p_2 p_3) (iv p_4 p_5) (iv p_6 p_7))) (ha : axisF (prim (Z4.mk (iv p_0 p_1) (iv p_2 p_3) (iv p_4 p_5) (iv p_6 p_7))) = 2) (hu : 0 < coefF (prim (Z4.mk (iv p_0 p_1) (iv p_2 p_3) (iv p_4 p_5) (iv p_6 p_7))) 2) :
    Calls Tryz.prog 7 #[.agg #[.bool p_0, .string p_1, .bool p_2, .string p_3, .bool p_4, .string p_5, .bool p_6, .string p_7], .agg #[.bool x_0, .string x_1, .bool x_2, .string x_3, .bool x_4, .string x_5, .bool x_6, .string x_7], .agg #[.bool t_0, .string t_1, .string t_2]] w fun e w' => e = .returned (.bool true) ∧ Below w.heap.size w w' := by
  obtain ⟨p, hp, rp⟩ : ∃ q, IsF (.agg #[.bool p_0, .string p_1, .bool p_2, .string p_3, .bool p_4, .string p_5, .bool p_6, .string p_7]) q 6 ∧ q = ⟨iv p_0 p_1, iv p_2 p_3, iv p_4 p_5, iv p_6 p_7⟩ := ⟨⟨_, _, _, _⟩, ⟨_, _, _, _, _, _, _, _, rfl, rfl, hp_1, rfl, hp_3, rfl, hp_5, rfl, hp_7⟩, rfl⟩
  have zp := hp.sz
  obtain ⟨xq, hxq, rxq⟩ : ∃ q, IsF (.agg #[.bool x_0, .string x_1, .bool x_2, .string x_3, .bool x_4, .string x_5, .bool x_6, .string x_7]) q 6 ∧ q = ⟨iv x_0 x_1, iv x_2 x_3, iv x_4 x_5, iv x_6 x_7⟩ := ⟨⟨_, _, _, _⟩, ⟨_, _, _, _, _, _, _, _, rfl, rfl, hx_1, rfl, hx_3, rfl, hx_5, rfl, hx_7⟩, rfl⟩
  have zxq := hxq.sz
  obtain ⟨x, ex⟩ : ∃ p, p = pt xq := ⟨_, rfl⟩
  have hx : IsP (.agg #[.bool x_0, .string x_1, .bool x_2, .string x_3, .bool x_4, .string x_5, .bool x_6, .string x_7]) x 6 := by rw [ex]; exact hxq.pt
  have zx := hx.sz (by decide)
  have rx : x = pt ⟨iv x_0 x_1, iv x_2 x_3, iv x_4 x_5, iv x_6 x_7⟩ := by rw [ex, rxq]
  obtain ⟨t, ht, rt⟩ : ∃ q, IsQ (.agg #[.bool t_0, .string t_1, .string t_2]) q 6 ∧ q = rq t_0 t_1 t_2 := ⟨_, ⟨_, _, _, rfl, rfl, ht_1, ht_2⟩, rfl⟩
  have zt := ht.sz (by decide)
  rw [← rp] at gf ha hu
  have gq : True ∧ ¬ flatF (prim p) := ⟨trivial, prim_flat gf⟩
  have gpp : prim (prim p) = prim p := prim_prim (g4_flat gf)
  have gfar := shift_none gq.2 t
  have gneg : ¬ flatF (negF (prim p)) := fun e => gq.2 ((flat_neg _).1 e)
  have f1 : Fk (prim p) 6 := Fk.up ((Fk.prim zp)) (by decide)
  have f2 : Rk t 6 := Rk.up (zt) (by decide)
  have f3 : Pk x 6 := Pk.up (zx) (by decide)
  have f4 : Pk (liftF (prim p) x) 117 := Pk.up ((Pk.lift f1 f3)) (by decide)
  have f5 : Fk (shiftF (prim p) t) 76 := Fk.up ((Fk.shift f1 f2)) (by decide)
  have f6 : Vk (liftF (prim p) x) 117 := Vk.up ((Vk.ofP1 f4)) (by decide)
  have f7 : Rk (liftF (prim p) x).z 117 := Rk.up (f6.2.2) (by decide)
  have f8 : Rk ((liftF (prim p) x).z + t) 124 := Rk.up (Rk.add f7 f2) (by decide)
  have f9 : Rk (-t) 6 := Rk.up (Rk.neg f2) (by decide)
  have f10 : Fk (shiftF (shiftF (prim p) t) (-t)) 636 := Fk.up ((Fk.shift f5 f9)) (by decide)
  have f11 : Rk (liftF (prim p) x).x 117 := Rk.up (f6.1) (by decide)
  have f12 : Rk (liftF (prim p) x).y 117 := Rk.up (f6.2.1) (by decide)
  have f13 : Pk (P3.mk (liftF (prim p) x).x (liftF (prim p) x).y ((liftF (prim p) x).z + t)) 372 := Pk.up ((Pk.ofV (Vk.mk f11 f12 f8))) (by decide)
  have f14 : Fk (negF (prim p)) 6 := Fk.up ((Fk.neg f1)) (by decide)
  have f15 : Fk (shiftF (negF (prim p)) (-t)) 76 := Fk.up ((Fk.shift f14 f9)) (by decide)
  have f16 : Fk (negF (shiftF (prim p) t)) 76 := Fk.up ((Fk.neg f5)) (by decide)
  exact SX.run (w := w) (List.flatten [[.bool p_0, .string p_1, .bool p_2, .string p_3, .bool p_4, .string p_5, .bool p_6, .string p_7, .bool x_0, .string x_1, .bool x_2, .string x_3, .bool x_4, .string x_5, .bool x_6, .string x_7, .bool t_0, .string t_1, .string t_2, .bool true, .bool false, .bool false, .bool false], fc (prim p), [.bool true, .bool false], qc t, pc x, pc (liftF (prim p) x), fc (shiftF (prim p) t), [.int .i64 2, .bool true], vc (liftF (prim p) x), qc ((liftF (prim p) x).z + t), qc (-t), fc (shiftF (shiftF (prim p) t) (-t)), [.bool true], pc (P3.mk (liftF (prim p) x).x (liftF (prim p) x).y ((liftF (prim p) x).z + t)), [.int .i64 (sideF (shiftF (prim p) t) (P3.mk (liftF (prim p) x).x (liftF (prim p) x).y ((liftF (prim p) x).z + t))), .bool true, .int .i64 (sideF (shiftF (prim p) t) (liftF (prim p) x)), .int .i64 (sgQ t), .int .i64 (-sgQ t), .bool true], fc (negF (prim p)), qc (-t), fc (shiftF (negF (prim p)) (-t)), fc (negF (shiftF (prim p) t)), [.bool true]]) [.b false, .b false, .b false, .b false, .b true, .ix 2, .ix 2, .b true, .b true, .b true] [.ga 0 8, .ga 8 8, .ga 16 3] 19 (.one (.ca 127)) (.call 10 [] (.one (.ca 19)) [] :: .op1 .not (.pa 19) 20 :: .isB 20 false :: .call 11 [.ga 0 8, .c (.p (.slc 3 0 1 1))] (.one (.ca 21)) [(3073, .pa 8), (3074, .pa 9), (3075, .pa 10), (3076, .pa 11), (3077, .pa 12), (3078, .pa 13), (3079, .pa 14), (3080, .pa 15)] :: .isB 21 false :: .call 12 [.ga 16 3] (.one (.ca 22)) [] :: .isB 22 false :: .call 14 [.ga 0 8] (.tup [.ga 23 8, .ca 31]) [] :: .op1 .not (.pa 31) 32 :: .isB 32 false :: .call 24 [.ga 16 3] (.one (.ga 33 3)) [] :: .call 17 [.ga 8 8] (.one (.ga 36 8)) [] :: .call 27 [.ga 23 8, .ga 36 8] (.one (.ga 44 8)) [] :: .call 29 [.ga 23 8, .ga 33 3] (.one (.ga 52 8)) [] :: .call 25 [.ga 23 8] (.tup [.ca 60, .ca 61]) [] :: .call 31 [.ga 44 8] (.one (.ga 62 9)) [] :: .isB 61 true :: .isI 60 2 :: .call 32 [.ga 68 3, .ga 33 3] (.one (.ga 71 3)) [] :: .isI 60 2 :: .call 34 [.ga 33 3] (.one (.ga 74 3)) [] :: .call 29 [.ga 52 8, .ga 74 3] (.one (.ga 77 8)) [] :: .eqs false [.b, .s, .b, .s, .b, .s, .b, .s] [.pa 77, .pa 78, .pa 79, .pa 80, .pa 81, .pa 82, .pa 83, .pa 84] [.pa 23, .pa 24, .pa 25, .pa 26, .pa 27, .pa 28, .pa 29, .pa 30] 85 :: .isB 85 true :: .call 35 [.agg [.pa 62, .pa 63, .pa 64, .pa 65, .pa 66, .pa 67, .pa 71, .pa 72, .pa 73]] (.one (.ga 86 8)) [] :: .call 21 [.ga 52 8, .ga 86 8] (.one (.ca 94)) [] :: .op2 false .eql (.pa 94) (.p (.lit (.int .i64 0))) 95 :: .isB 95 true :: .call 21 [.ga 52 8, .ga 44 8] (.one (.ca 96)) [] :: .call 36 [.ga 33 3] (.one (.ca 97)) [] :: .op1 .neg (.pa 97) 98 :: .op2 false .eql (.pa 96) (.pa 98) 99 :: .isB 99 true :: .call 20 [.ga 23 8] (.one (.ga 100 8)) [] :: .call 34 [.ga 33 3] (.one (.ga 108 3)) [] :: .call 29 [.ga 100 8, .ga 108 3] (.one (.ga 111 8)) [] :: .call 20 [.ga 52 8] (.one (.ga 119 8)) [] :: .eqs false [.b, .s, .b, .s, .b, .s, .b, .s] [.pa 111, .pa 112, .pa 113, .pa 114, .pa 115, .pa 116, .pa 117, .pa 118] [.pa 119, .pa 120, .pa 121, .pa 122, .pa 123, .pa 124, .pa 125, .pa 126] 127 :: []) Tryz.func7 (by kernel_rfl) rfl (by kernel_rfl) rfl (by kernel_rfl)
    ⟨fun γ w' bw _ => alive5_any w' (hT.later bw),
     congrArg (fun z => some (Value.bool z)) (by first | rfl | assumption | decide | simp [*] : (!true) = false),
     rfl,
     fun γ w' _ hm => great5_1_no p_0 p_1 p_2 p_3 p_4 p_5 p_6 p_7 x_0 x_1 x_2 x_3 x_4 x_5 x_6 x_7 w' (γ 3) (SX.mem_at (b := 3) (l := [.pa 8, .pa 9, .pa 10, .pa 11, .pa 12, .pa 13, .pa 14, .pa 15]) hm rfl) hx_1 hx_3 hx_5 hx_7 hp_1 hp_3 hp_5 hp_7,
     rfl,
     fun γ w' _ _ => long5_no t_0 t_1 t_2 w' ht_1 ht_2,
     rfl,
     fun γ w' _ _ => by have h := v5Norm_any hp (by decide) w'; rw [normV, if_neg gf] at h; exact h,
     congrArg (fun z => some (Value.bool z)) (by first | rfl | assumption | decide | simp [*] : (!true) = false),
     rfl,
     fun γ w' _ _ => rNorm ht (by decide) w',
     fun γ w' _ _ => p4Norm hx (by decide) w',
     fun γ w' bw _ => plProject f1 (by decide) f3 (by decide) w' (hT.later bw) gq.2,
     fun γ w' bw _ => plOffset f1 (by decide) f2 (by decide) w' (hT.later bw) gq.2,
     fun γ w' _ _ => by have h := plAxis_any f1 (by decide) w'; rw [axisV, ha, decide_eq_true hu] at h; exact h,
     fun γ w' _ _ => p4Coords (IsP.can f4) (by decide) w',
     rfl,
     rfl,
     fun γ w' _ _ => rAdd (IsQ.can f7) (by decide) (IsQ.can f2) (by decide) w',
     rfl,
     fun γ w' _ _ => rNeg (IsQ.can f2) (by decide) w',
     fun γ w' bw _ => plOffset f5 (by decide) f9 (by decide) w' (hT.later bw) (And.intro trivial gfar).2,
     ⟨rfl, rfl, eqv_yes (eqL_F (shiftF (shiftF (prim p) t) (-t)) (prim p)) (shift_back gq.2 gpp t) rfl⟩,
     rfl,
     fun γ w' _ _ => p4Make (IsV.mk (IsQ.can f11) (IsQ.can f12) (IsQ.can f8)) (by decide) w',
     fun γ w' _ _ => plSide f5 (by decide) f13 (by decide) w',
     congrArg (fun z => some (Value.bool z)) (by rw [(moved_at gq.2 t x ha (by rw [if_pos hu]; rfl))]; rfl : ((sideF (shiftF (prim p) t) (P3.mk (liftF (prim p) x).x (liftF (prim p) x).y ((liftF (prim p) x).z + t))) == (0 : Int)) = true),
     rfl,
     fun γ w' _ _ => plSide f5 (by decide) f4 (by decide) w',
     fun γ w' _ _ => rSign (IsQ.can f2) (by decide) w',
     congrArg (fun z => some (Value.int .i64 z)) (neg_sgQ t : IntKind.wrap .i64 (0 - (sgQ t)) = (-sgQ t)),
     congrArg (fun z => some (Value.bool z)) (by rw [side_far gq.2 t (val_lift gq.2 x)]; exact beq_self_eq_true _ : ((sideF (shiftF (prim p) t) (liftF (prim p) x)) == (-sgQ t)) = true),
     rfl,
     fun γ w' _ _ => plFlip f1 (by decide) w',
     fun γ w' _ _ => rNeg (IsQ.can f2) (by decide) w',
     fun γ w' bw _ => plOffset f14 (by decide) f9 (by decide) w' (hT.later bw) (And.intro trivial gneg).2,
     fun γ w' _ _ => plFlip f5 (by decide) w',
     ⟨rfl, rfl, eqv_yes (eqL_F (shiftF (negF (prim p)) (-t)) (negF (shiftF (prim p) t))) (shift_neg t) rfl⟩⟩
set_option maxHeartbeats 1000000 in
set_option maxRecDepth 100000 in
theorem Offsets_2d (p_0 : Bool) (p_1 : ByteArray) (p_2 : Bool) (p_3 : ByteArray) (p_4 : Bool) (p_5 : ByteArray) (p_6 : Bool) (p_7 : ByteArray) (x_0 : Bool) (x_1 : ByteArray) (x_2 : Bool) (x_3 : ByteArray) (x_4 : Bool) (x_5 : ByteArray) (x_6 : Bool) (x_7 : ByteArray) (t_0 : Bool) (t_1 : ByteArray) (t_2 : ByteArray) (w : World) (hT : TabC w) (hx_1 : x_1.size ≤ 6) (hx_3 : x_3.size ≤ 6) (hx_5 : x_5.size ≤ 6) (hx_7 : x_7.size ≤ 6) (hp_1 : p_1.size ≤ 6) (hp_3 : p_3.size ≤ 6) (hp_5 : p_5.size ≤ 6) (hp_7 : p_7.size ≤ 6) (ht_1 : t_1.size ≤ 6) (ht_2 : t_2.size ≤ 6) (gf : ¬ flatF (Z4.mk (iv p_0 p_1) (iv p_2 p_3) (iv p_4 p_5) (iv p_6 p_7))) (ha : axisF (prim (Z4.mk (iv p_0 p_1) (iv p_2 p_3) (iv p_4 p_5) (iv p_6 p_7))) = 2) (hu : ¬ 0 < coefF (prim (Z4.mk (iv p_0 p_1) (iv p_2 p_3) (iv p_4 p_5) (iv p_6 p_7))) 2) :
    Calls Tryz.prog 7 #[.agg #[.bool p_0, .string p_1, .bool p_2, .string p_3, .bool p_4, .string p_5, .bool p_6, .string p_7], .agg #[.bool x_0, .string x_1, .bool x_2, .string x_3, .bool x_4, .string x_5, .bool x_6, .string x_7], .agg #[.bool t_0, .string t_1, .string t_2]] w fun e w' => e = .returned (.bool true) ∧ Below w.heap.size w w' := by
  obtain ⟨p, hp, rp⟩ : ∃ q, IsF (.agg #[.bool p_0, .string p_1, .bool p_2, .string p_3, .bool p_4, .string p_5, .bool p_6, .string p_7]) q 6 ∧ q = ⟨iv p_0 p_1, iv p_2 p_3, iv p_4 p_5, iv p_6 p_7⟩ := ⟨⟨_, _, _, _⟩, ⟨_, _, _, _, _, _, _, _, rfl, rfl, hp_1, rfl, hp_3, rfl, hp_5, rfl, hp_7⟩, rfl⟩
  have zp := hp.sz
  obtain ⟨xq, hxq, rxq⟩ : ∃ q, IsF (.agg #[.bool x_0, .string x_1, .bool x_2, .string x_3, .bool x_4, .string x_5, .bool x_6, .string x_7]) q 6 ∧ q = ⟨iv x_0 x_1, iv x_2 x_3, iv x_4 x_5, iv x_6 x_7⟩ := ⟨⟨_, _, _, _⟩, ⟨_, _, _, _, _, _, _, _, rfl, rfl, hx_1, rfl, hx_3, rfl, hx_5, rfl, hx_7⟩, rfl⟩
  have zxq := hxq.sz
  obtain ⟨x, ex⟩ : ∃ p, p = pt xq := ⟨_, rfl⟩
  have hx : IsP (.agg #[.bool x_0, .string x_1, .bool x_2, .string x_3, .bool x_4, .string x_5, .bool x_6, .string x_7]) x 6 := by rw [ex]; exact hxq.pt
  have zx := hx.sz (by decide)
  have rx : x = pt ⟨iv x_0 x_1, iv x_2 x_3, iv x_4 x_5, iv x_6 x_7⟩ := by rw [ex, rxq]
  obtain ⟨t, ht, rt⟩ : ∃ q, IsQ (.agg #[.bool t_0, .string t_1, .string t_2]) q 6 ∧ q = rq t_0 t_1 t_2 := ⟨_, ⟨_, _, _, rfl, rfl, ht_1, ht_2⟩, rfl⟩
  have zt := ht.sz (by decide)
  rw [← rp] at gf ha hu
  have gq : True ∧ ¬ flatF (prim p) := ⟨trivial, prim_flat gf⟩
  have gpp : prim (prim p) = prim p := prim_prim (g4_flat gf)
  have gfar := shift_none gq.2 t
  have gneg : ¬ flatF (negF (prim p)) := fun e => gq.2 ((flat_neg _).1 e)
  have f1 : Fk (prim p) 6 := Fk.up ((Fk.prim zp)) (by decide)
  have f2 : Rk t 6 := Rk.up (zt) (by decide)
  have f3 : Pk x 6 := Pk.up (zx) (by decide)
  have f4 : Pk (liftF (prim p) x) 117 := Pk.up ((Pk.lift f1 f3)) (by decide)
  have f5 : Fk (shiftF (prim p) t) 76 := Fk.up ((Fk.shift f1 f2)) (by decide)
  have f6 : Vk (liftF (prim p) x) 117 := Vk.up ((Vk.ofP1 f4)) (by decide)
  have f7 : Rk (liftF (prim p) x).z 117 := Rk.up (f6.2.2) (by decide)
  have f8 : Rk ((liftF (prim p) x).z - t) 124 := Rk.up (Rk.sub f7 f2) (by decide)
  have f9 : Rk (-t) 6 := Rk.up (Rk.neg f2) (by decide)
  have f10 : Fk (shiftF (shiftF (prim p) t) (-t)) 636 := Fk.up ((Fk.shift f5 f9)) (by decide)
  have f11 : Rk (liftF (prim p) x).x 117 := Rk.up (f6.1) (by decide)
  have f12 : Rk (liftF (prim p) x).y 117 := Rk.up (f6.2.1) (by decide)
  have f13 : Pk (P3.mk (liftF (prim p) x).x (liftF (prim p) x).y ((liftF (prim p) x).z - t)) 372 := Pk.up ((Pk.ofV (Vk.mk f11 f12 f8))) (by decide)
  have f14 : Fk (negF (prim p)) 6 := Fk.up ((Fk.neg f1)) (by decide)
  have f15 : Fk (shiftF (negF (prim p)) (-t)) 76 := Fk.up ((Fk.shift f14 f9)) (by decide)
  have f16 : Fk (negF (shiftF (prim p) t)) 76 := Fk.up ((Fk.neg f5)) (by decide)
  exact SX.run (w := w) (List.flatten [[.bool p_0, .string p_1, .bool p_2, .string p_3, .bool p_4, .string p_5, .bool p_6, .string p_7, .bool x_0, .string x_1, .bool x_2, .string x_3, .bool x_4, .string x_5, .bool x_6, .string x_7, .bool t_0, .string t_1, .string t_2, .bool true, .bool false, .bool false, .bool false], fc (prim p), [.bool true, .bool false], qc t, pc x, pc (liftF (prim p) x), fc (shiftF (prim p) t), [.int .i64 2, .bool false], vc (liftF (prim p) x), qc ((liftF (prim p) x).z - t), qc (-t), fc (shiftF (shiftF (prim p) t) (-t)), [.bool true], pc (P3.mk (liftF (prim p) x).x (liftF (prim p) x).y ((liftF (prim p) x).z - t)), [.int .i64 (sideF (shiftF (prim p) t) (P3.mk (liftF (prim p) x).x (liftF (prim p) x).y ((liftF (prim p) x).z - t))), .bool true, .int .i64 (sideF (shiftF (prim p) t) (liftF (prim p) x)), .int .i64 (sgQ t), .int .i64 (-sgQ t), .bool true], fc (negF (prim p)), qc (-t), fc (shiftF (negF (prim p)) (-t)), fc (negF (shiftF (prim p) t)), [.bool true]]) [.b false, .b false, .b false, .b false, .b false, .ix 2, .ix 2, .b true, .b true, .b true] [.ga 0 8, .ga 8 8, .ga 16 3] 19 (.one (.ca 127)) (.call 10 [] (.one (.ca 19)) [] :: .op1 .not (.pa 19) 20 :: .isB 20 false :: .call 11 [.ga 0 8, .c (.p (.slc 3 0 1 1))] (.one (.ca 21)) [(3073, .pa 8), (3074, .pa 9), (3075, .pa 10), (3076, .pa 11), (3077, .pa 12), (3078, .pa 13), (3079, .pa 14), (3080, .pa 15)] :: .isB 21 false :: .call 12 [.ga 16 3] (.one (.ca 22)) [] :: .isB 22 false :: .call 14 [.ga 0 8] (.tup [.ga 23 8, .ca 31]) [] :: .op1 .not (.pa 31) 32 :: .isB 32 false :: .call 24 [.ga 16 3] (.one (.ga 33 3)) [] :: .call 17 [.ga 8 8] (.one (.ga 36 8)) [] :: .call 27 [.ga 23 8, .ga 36 8] (.one (.ga 44 8)) [] :: .call 29 [.ga 23 8, .ga 33 3] (.one (.ga 52 8)) [] :: .call 25 [.ga 23 8] (.tup [.ca 60, .ca 61]) [] :: .call 31 [.ga 44 8] (.one (.ga 62 9)) [] :: .isB 61 false :: .isI 60 2 :: .call 33 [.ga 68 3, .ga 33 3] (.one (.ga 71 3)) [] :: .isI 60 2 :: .call 34 [.ga 33 3] (.one (.ga 74 3)) [] :: .call 29 [.ga 52 8, .ga 74 3] (.one (.ga 77 8)) [] :: .eqs false [.b, .s, .b, .s, .b, .s, .b, .s] [.pa 77, .pa 78, .pa 79, .pa 80, .pa 81, .pa 82, .pa 83, .pa 84] [.pa 23, .pa 24, .pa 25, .pa 26, .pa 27, .pa 28, .pa 29, .pa 30] 85 :: .isB 85 true :: .call 35 [.agg [.pa 62, .pa 63, .pa 64, .pa 65, .pa 66, .pa 67, .pa 71, .pa 72, .pa 73]] (.one (.ga 86 8)) [] :: .call 21 [.ga 52 8, .ga 86 8] (.one (.ca 94)) [] :: .op2 false .eql (.pa 94) (.p (.lit (.int .i64 0))) 95 :: .isB 95 true :: .call 21 [.ga 52 8, .ga 44 8] (.one (.ca 96)) [] :: .call 36 [.ga 33 3] (.one (.ca 97)) [] :: .op1 .neg (.pa 97) 98 :: .op2 false .eql (.pa 96) (.pa 98) 99 :: .isB 99 true :: .call 20 [.ga 23 8] (.one (.ga 100 8)) [] :: .call 34 [.ga 33 3] (.one (.ga 108 3)) [] :: .call 29 [.ga 100 8, .ga 108 3] (.one (.ga 111 8)) [] :: .call 20 [.ga 52 8] (.one (.ga 119 8)) [] :: .eqs false [.b, .s, .b, .s, .b, .s, .b, .s] [.pa 111, .pa 112, .pa 113, .pa 114, .pa 115, .pa 116, .pa 117, .pa 118] [.pa 119, .pa 120, .pa 121, .pa 122, .pa 123, .pa 124, .pa 125, .pa 126] 127 :: []) Tryz.func7 (by kernel_rfl) rfl (by kernel_rfl) rfl (by kernel_rfl)
    ⟨fun γ w' bw _ => alive5_any w' (hT.later bw),
     congrArg (fun z => some (Value.bool z)) (by first | rfl | assumption | decide | simp [*] : (!true) = false),
     rfl,
     fun γ w' _ hm => great5_1_no p_0 p_1 p_2 p_3 p_4 p_5 p_6 p_7 x_0 x_1 x_2 x_3 x_4 x_5 x_6 x_7 w' (γ 3) (SX.mem_at (b := 3) (l := [.pa 8, .pa 9, .pa 10, .pa 11, .pa 12, .pa 13, .pa 14, .pa 15]) hm rfl) hx_1 hx_3 hx_5 hx_7 hp_1 hp_3 hp_5 hp_7,
     rfl,
     fun γ w' _ _ => long5_no t_0 t_1 t_2 w' ht_1 ht_2,
     rfl,
     fun γ w' _ _ => by have h := v5Norm_any hp (by decide) w'; rw [normV, if_neg gf] at h; exact h,
     congrArg (fun z => some (Value.bool z)) (by first | rfl | assumption | decide | simp [*] : (!true) = false),
     rfl,
     fun γ w' _ _ => rNorm ht (by decide) w',
     fun γ w' _ _ => p4Norm hx (by decide) w',
     fun γ w' bw _ => plProject f1 (by decide) f3 (by decide) w' (hT.later bw) gq.2,
     fun γ w' bw _ => plOffset f1 (by decide) f2 (by decide) w' (hT.later bw) gq.2,
     fun γ w' _ _ => by have h := plAxis_any f1 (by decide) w'; rw [axisV, ha, decide_eq_false hu] at h; exact h,
     fun γ w' _ _ => p4Coords (IsP.can f4) (by decide) w',
     rfl,
     rfl,
     fun γ w' _ _ => rSub (IsQ.can f7) (by decide) (IsQ.can f2) (by decide) w',
     rfl,
     fun γ w' _ _ => rNeg (IsQ.can f2) (by decide) w',
     fun γ w' bw _ => plOffset f5 (by decide) f9 (by decide) w' (hT.later bw) (And.intro trivial gfar).2,
     ⟨rfl, rfl, eqv_yes (eqL_F (shiftF (shiftF (prim p) t) (-t)) (prim p)) (shift_back gq.2 gpp t) rfl⟩,
     rfl,
     fun γ w' _ _ => p4Make (IsV.mk (IsQ.can f11) (IsQ.can f12) (IsQ.can f8)) (by decide) w',
     fun γ w' _ _ => plSide f5 (by decide) f13 (by decide) w',
     congrArg (fun z => some (Value.bool z)) (by rw [(moved_at gq.2 t x ha (by rw [if_neg hu]; unfold alongP; simp [Rat.sub_eq_add_neg]))]; rfl : ((sideF (shiftF (prim p) t) (P3.mk (liftF (prim p) x).x (liftF (prim p) x).y ((liftF (prim p) x).z - t))) == (0 : Int)) = true),
     rfl,
     fun γ w' _ _ => plSide f5 (by decide) f4 (by decide) w',
     fun γ w' _ _ => rSign (IsQ.can f2) (by decide) w',
     congrArg (fun z => some (Value.int .i64 z)) (neg_sgQ t : IntKind.wrap .i64 (0 - (sgQ t)) = (-sgQ t)),
     congrArg (fun z => some (Value.bool z)) (by rw [side_far gq.2 t (val_lift gq.2 x)]; exact beq_self_eq_true _ : ((sideF (shiftF (prim p) t) (liftF (prim p) x)) == (-sgQ t)) = true),
     rfl,
     fun γ w' _ _ => plFlip f1 (by decide) w',
     fun γ w' _ _ => rNeg (IsQ.can f2) (by decide) w',
     fun γ w' bw _ => plOffset f14 (by decide) f9 (by decide) w' (hT.later bw) (And.intro trivial gneg).2,
     fun γ w' _ _ => plFlip f5 (by decide) w',
     ⟨rfl, rfl, eqv_yes (eqL_F (shiftF (negF (prim p)) (-t)) (negF (shiftF (prim p) t))) (shift_neg t) rfl⟩⟩
theorem PlaneOffsets_any (p_0 : Bool) (p_1 : ByteArray) (p_2 : Bool) (p_3 : ByteArray) (p_4 : Bool) (p_5 : ByteArray) (p_6 : Bool) (p_7 : ByteArray) (x_0 : Bool) (x_1 : ByteArray) (x_2 : Bool) (x_3 : ByteArray) (x_4 : Bool) (x_5 : ByteArray) (x_6 : Bool) (x_7 : ByteArray) (t_0 : Bool) (t_1 : ByteArray) (t_2 : ByteArray) (w : World) (hT : TabC w) :
    Calls Tryz.prog 7 #[.agg #[.bool p_0, .string p_1, .bool p_2, .string p_3, .bool p_4, .string p_5, .bool p_6, .string p_7], .agg #[.bool x_0, .string x_1, .bool x_2, .string x_3, .bool x_4, .string x_5, .bool x_6, .string x_7], .agg #[.bool t_0, .string t_1, .string t_2]] w fun e w' => e = .returned (.bool true) ∧ Below w.heap.size w w' := by
  by_cases g : x_1.size ≤ 6 ∧ x_3.size ≤ 6 ∧ x_5.size ≤ 6 ∧ x_7.size ≤ 6
  rotate_left
  · exact Offsets_x p_0 p_1 p_2 p_3 p_4 p_5 p_6 p_7 x_0 x_1 x_2 x_3 x_4 x_5 x_6 x_7 t_0 t_1 t_2 w hT  g
  obtain ⟨hx_1, hx_3, hx_5, hx_7⟩ := g
  by_cases g : p_1.size ≤ 6 ∧ p_3.size ≤ 6 ∧ p_5.size ≤ 6 ∧ p_7.size ≤ 6
  rotate_left
  · exact Offsets_p p_0 p_1 p_2 p_3 p_4 p_5 p_6 p_7 x_0 x_1 x_2 x_3 x_4 x_5 x_6 x_7 t_0 t_1 t_2 w hT hx_1 hx_3 hx_5 hx_7 g
  obtain ⟨hp_1, hp_3, hp_5, hp_7⟩ := g
  by_cases g : t_1.size ≤ 6 ∧ t_2.size ≤ 6
  rotate_left
  · exact Offsets_t p_0 p_1 p_2 p_3 p_4 p_5 p_6 p_7 x_0 x_1 x_2 x_3 x_4 x_5 x_6 x_7 t_0 t_1 t_2 w hT hx_1 hx_3 hx_5 hx_7 hp_1 hp_3 hp_5 hp_7 g
  obtain ⟨ht_1, ht_2⟩ := g
  by_cases gf : flatF (Z4.mk (iv p_0 p_1) (iv p_2 p_3) (iv p_4 p_5) (iv p_6 p_7))
  · exact Offsets_f p_0 p_1 p_2 p_3 p_4 p_5 p_6 p_7 x_0 x_1 x_2 x_3 x_4 x_5 x_6 x_7 t_0 t_1 t_2 w hT hx_1 hx_3 hx_5 hx_7 hp_1 hp_3 hp_5 hp_7 ht_1 ht_2 gf
  have hl := axisF_lt (prim (Z4.mk (iv p_0 p_1) (iv p_2 p_3) (iv p_4 p_5) (iv p_6 p_7)))
  by_cases h0 : axisF (prim (Z4.mk (iv p_0 p_1) (iv p_2 p_3) (iv p_4 p_5) (iv p_6 p_7))) = 0
  · by_cases hu : 0 < coefF (prim (Z4.mk (iv p_0 p_1) (iv p_2 p_3) (iv p_4 p_5) (iv p_6 p_7))) 0
    · exact Offsets_0u p_0 p_1 p_2 p_3 p_4 p_5 p_6 p_7 x_0 x_1 x_2 x_3 x_4 x_5 x_6 x_7 t_0 t_1 t_2 w hT hx_1 hx_3 hx_5 hx_7 hp_1 hp_3 hp_5 hp_7 ht_1 ht_2 gf h0 hu
    · exact Offsets_0d p_0 p_1 p_2 p_3 p_4 p_5 p_6 p_7 x_0 x_1 x_2 x_3 x_4 x_5 x_6 x_7 t_0 t_1 t_2 w hT hx_1 hx_3 hx_5 hx_7 hp_1 hp_3 hp_5 hp_7 ht_1 ht_2 gf h0 hu
  by_cases h1 : axisF (prim (Z4.mk (iv p_0 p_1) (iv p_2 p_3) (iv p_4 p_5) (iv p_6 p_7))) = 1
  · by_cases hu : 0 < coefF (prim (Z4.mk (iv p_0 p_1) (iv p_2 p_3) (iv p_4 p_5) (iv p_6 p_7))) 1
    · exact Offsets_1u p_0 p_1 p_2 p_3 p_4 p_5 p_6 p_7 x_0 x_1 x_2 x_3 x_4 x_5 x_6 x_7 t_0 t_1 t_2 w hT hx_1 hx_3 hx_5 hx_7 hp_1 hp_3 hp_5 hp_7 ht_1 ht_2 gf h1 hu
    · exact Offsets_1d p_0 p_1 p_2 p_3 p_4 p_5 p_6 p_7 x_0 x_1 x_2 x_3 x_4 x_5 x_6 x_7 t_0 t_1 t_2 w hT hx_1 hx_3 hx_5 hx_7 hp_1 hp_3 hp_5 hp_7 ht_1 ht_2 gf h1 hu
  by_cases h2 : axisF (prim (Z4.mk (iv p_0 p_1) (iv p_2 p_3) (iv p_4 p_5) (iv p_6 p_7))) = 2
  · by_cases hu : 0 < coefF (prim (Z4.mk (iv p_0 p_1) (iv p_2 p_3) (iv p_4 p_5) (iv p_6 p_7))) 2
    · exact Offsets_2u p_0 p_1 p_2 p_3 p_4 p_5 p_6 p_7 x_0 x_1 x_2 x_3 x_4 x_5 x_6 x_7 t_0 t_1 t_2 w hT hx_1 hx_3 hx_5 hx_7 hp_1 hp_3 hp_5 hp_7 ht_1 ht_2 gf h2 hu
    · exact Offsets_2d p_0 p_1 p_2 p_3 p_4 p_5 p_6 p_7 x_0 x_1 x_2 x_3 x_4 x_5 x_6 x_7 t_0 t_1 t_2 w hT hx_1 hx_3 hx_5 hx_7 hp_1 hp_3 hp_5 hp_7 ht_1 ht_2 gf h2 hu
  omega
end Go.Proofs.YtpmfaommooneiaaGreatDoor
