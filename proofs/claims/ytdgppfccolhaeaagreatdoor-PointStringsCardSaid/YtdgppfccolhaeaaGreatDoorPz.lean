/- The law PointStrings. -/
import Derived.Test.YtdgppfccolhaeaaGreatDoorPp
import Derived.Test.YtdgppfccolhaeaaGreatDoorPl
set_option linter.unusedVariables false
set_option linter.unusedSimpArgs false
namespace Go.Proofs.YtdgppfccolhaeaaGreatDoor
open Go.RowKit NM SX
set_option maxRecDepth 100000 in
theorem Strings_l (s : ByteArray) (p_0 : Bool) (p_1 : ByteArray) (p_2 : Bool) (p_3 : ByteArray) (p_4 : Bool) (p_5 : ByteArray) (p_6 : Bool) (p_7 : ByteArray) (w : World) (hT : TabC w) (h : ¬ s.size ≤ 100) :
    Calls Tryz.prog 5 #[.string s, .agg #[.bool p_0, .string p_1, .bool p_2, .string p_3, .bool p_4, .string p_5, .bool p_6, .string p_7]] w fun e w' => e = .returned (.bool true) ∧ Below w.heap.size w w' := by
  exact SX.run (w := w) [.string s, .bool p_0, .string p_1, .bool p_2, .string p_3, .bool p_4, .string p_5, .bool p_6, .string p_7, .bool true, .bool false, .int .i64 (s.size : Int), .bool true] [.b false, .b true] [.ca 0, .ga 1 8] 9 (.one (.c (.p (.lit (.bool true))))) [.call 10 [] (.one (.ca 9)) [], .op1 .not (.pa 9) 10, .isB 10 false, .len (.pa 0) 11, .op2 false .gtr (.pa 11) (.p (.lit (.int .i64 100))) 12, .isB 12 true] Tryz.func5 (by kernel_rfl) rfl (by kernel_rfl) rfl (by kernel_rfl)
    ⟨fun γ w' bw _ => alive_any w' (hT.later bw),
     congrArg (fun z => some (Value.bool z)) (by first | rfl | assumption | decide | simp [*] : (!true) = false),
     rfl,
     ⟨_, rfl, rfl⟩,
     congrArg (fun z => some (Value.bool z)) (decide_eq_true (by omega) : decide ((s.size : Int) > (100 : Int)) = true),
     rfl⟩
set_option maxRecDepth 100000 in
theorem Strings_g (s : ByteArray) (p_0 : Bool) (p_1 : ByteArray) (p_2 : Bool) (p_3 : ByteArray) (p_4 : Bool) (p_5 : ByteArray) (p_6 : Bool) (p_7 : ByteArray) (w : World) (hT : TabC w) (h0 : s.size ≤ 100) (h : ¬ (p_1.size ≤ 6 ∧ p_3.size ≤ 6 ∧ p_5.size ≤ 6 ∧ p_7.size ≤ 6)) :
    Calls Tryz.prog 5 #[.string s, .agg #[.bool p_0, .string p_1, .bool p_2, .string p_3, .bool p_4, .string p_5, .bool p_6, .string p_7]] w fun e w' => e = .returned (.bool true) ∧ Below w.heap.size w w' := by
  exact SX.run (w := w) [.string s, .bool p_0, .string p_1, .bool p_2, .string p_3, .bool p_4, .string p_5, .bool p_6, .string p_7, .bool true, .bool false, .int .i64 (s.size : Int), .bool false, .bool true] [.b false, .b false, .b true] [.ca 0, .ga 1 8] 9 (.one (.c (.p (.lit (.bool true))))) [.call 10 [] (.one (.ca 9)) [], .op1 .not (.pa 9) 10, .isB 10 false, .len (.pa 0) 11, .op2 false .gtr (.pa 11) (.p (.lit (.int .i64 100))) 12, .isB 12 false, .call 11 [.c (.p (.slc 1 0 1 1))] (.one (.ca 13)) [(1025, .pa 1), (1026, .pa 2), (1027, .pa 3), (1028, .pa 4), (1029, .pa 5), (1030, .pa 6), (1031, .pa 7), (1032, .pa 8)], .isB 13 true] Tryz.func5 (by kernel_rfl) rfl (by kernel_rfl) rfl (by kernel_rfl)
    ⟨fun γ w' bw _ => alive_any w' (hT.later bw),
     congrArg (fun z => some (Value.bool z)) (by first | rfl | assumption | decide | simp [*] : (!true) = false),
     rfl,
     ⟨_, rfl, rfl⟩,
     congrArg (fun z => some (Value.bool z)) (decide_eq_false (by omega) : decide ((s.size : Int) > (100 : Int)) = false),
     rfl,
     fun γ w' _ hm => great1_yes p_0 p_1 p_2 p_3 p_4 p_5 p_6 p_7 w' (γ 1) (SX.mem_at (b := 1) (l := [.pa 1, .pa 2, .pa 3, .pa 4, .pa 5, .pa 6, .pa 7, .pa 8]) hm rfl) h,
     rfl⟩
set_option maxRecDepth 100000 in
theorem Strings_n (s : ByteArray) (p_0 : Bool) (p_1 : ByteArray) (p_2 : Bool) (p_3 : ByteArray) (p_4 : Bool) (p_5 : ByteArray) (p_6 : Bool) (p_7 : ByteArray) (w : World) (hT : TabC w) (m : Int) (hM : MaxL m w) (h0 : s.size ≤ 100) (hp_1 : p_1.size ≤ 6) (hp_3 : p_3.size ≤ 6) (hp_5 : p_5.size ≤ 6) (hp_7 : p_7.size ≤ 6) (hn : ¬ ∃ p, textP p = s) :
    Calls Tryz.prog 5 #[.string s, .agg #[.bool p_0, .string p_1, .bool p_2, .string p_3, .bool p_4, .string p_5, .bool p_6, .string p_7]] w fun e w' => e = .returned (.bool true) ∧ Below w.heap.size w w' := by
  obtain ⟨pq, hpq⟩ : ∃ q, IsF (.agg #[.bool p_0, .string p_1, .bool p_2, .string p_3, .bool p_4, .string p_5, .bool p_6, .string p_7]) q 6 := ⟨⟨_, _, _, _⟩, _, _, _, _, _, _, _, _, rfl, rfl, hp_1, rfl, hp_3, rfl, hp_5, rfl, hp_7⟩
  have zpq := hpq.sz
  obtain ⟨p, ep⟩ : ∃ p, p = pt pq := ⟨_, rfl⟩
  have hp : IsP (.agg #[.bool p_0, .string p_1, .bool p_2, .string p_3, .bool p_4, .string p_5, .bool p_6, .string p_7]) p 6 := by rw [ep]; exact hpq.pt
  have zp := hp.sz (by decide)
  have hpt := textP_small zp (by decide)
  have f1 : Pk p 6 := Pk.up (zp) (by decide)
  exact SX.run (w := w) (List.flatten [(.string s :: .bool p_0 :: .string p_1 :: .bool p_2 :: .string p_3 :: .bool p_4 :: .string p_5 :: .bool p_6 :: .string p_7 :: .bool true :: .bool false :: .int .i64 (s.size : Int) :: .bool false :: .bool false :: .bool false :: .string ⟨#[]⟩ :: .bool false :: .string ⟨#[]⟩ :: .bool false :: .string ⟨#[]⟩ :: .bool false :: .string ⟨#[]⟩ :: .bool false :: .bool false :: .string ⟨#[]⟩ :: .bool false :: .string ⟨#[]⟩ :: .bool false :: .string ⟨#[]⟩ :: .bool false :: .string ⟨#[]⟩ :: .bool false :: .string (textP p) :: []), pc p, [.bool true, .bool true, .bool true, .bool true], pc p, [.bool true]]) [.b false, .b false, .b false, .b true, .b true, .b true, .b true] [.ca 0, .ga 1 8] 9 (.one (.ca 53)) [.call 10 [] (.one (.ca 9)) [], .op1 .not (.pa 9) 10, .isB 10 false, .len (.pa 0) 11, .op2 false .gtr (.pa 11) (.p (.lit (.int .i64 100))) 12, .isB 12 false, .call 11 [.c (.p (.slc 1 0 1 1))] (.one (.ca 13)) [(1025, .pa 1), (1026, .pa 2), (1027, .pa 3), (1028, .pa 4), (1029, .pa 5), (1030, .pa 6), (1031, .pa 7), (1032, .pa 8)], .isB 13 false, .call 27 [.ca 0] (.tup [.ga 14 8, .ca 22]) [], .call 28 [.ca 0] (.tup [.ga 23 8, .ca 31]) [], .call 17 [.ga 1 8] (.one (.ca 32)) [], .call 27 [.ca 32] (.tup [.ga 33 8, .ca 41]) [], .eqs false [.b, .s, .b, .s, .b, .s, .b, .s] [.pa 14, .pa 15, .pa 16, .pa 17, .pa 18, .pa 19, .pa 20, .pa 21] [.pa 23, .pa 24, .pa 25, .pa 26, .pa 27, .pa 28, .pa 29, .pa 30] 42, .isB 42 true, .op2 true .eql (.pa 22) (.pa 31) 43, .isB 43 true, .op1 .not (.pa 22) 44, .isB 44 true, .isB 41 true, .call 13 [.ga 1 8] (.one (.ga 45 8)) [], .eqs false [.b, .s, .b, .s, .b, .s, .b, .s] [.pa 33, .pa 34, .pa 35, .pa 36, .pa 37, .pa 38, .pa 39, .pa 40] [.pa 45, .pa 46, .pa 47, .pa 48, .pa 49, .pa 50, .pa 51, .pa 52] 53] Tryz.func5 (by kernel_rfl) rfl (by kernel_rfl) rfl (by kernel_rfl)
    ⟨fun γ w' bw _ => alive_any w' (hT.later bw),
     congrArg (fun z => some (Value.bool z)) (by first | rfl | assumption | decide | simp [*] : (!true) = false),
     rfl,
     ⟨_, rfl, rfl⟩,
     congrArg (fun z => some (Value.bool z)) (decide_eq_false (by omega) : decide ((s.size : Int) > (100 : Int)) = false),
     rfl,
     fun γ w' _ hm => great1_no p_0 p_1 p_2 p_3 p_4 p_5 p_6 p_7 w' (γ 1) (SX.mem_at (b := 1) (l := [.pa 1, .pa 2, .pa 3, .pa 4, .pa 5, .pa 6, .pa 7, .pa 8]) hm rfl) hp_1 hp_3 hp_5 hp_7,
     rfl,
     fun γ w' bw _ => by have h := pParse_any s m w' (by omega) (hT.later bw) (hM.later bw); rw [pointV_no hn] at h; exact h,
     fun γ w' bw _ => by have h := rParse4_any s w' (by omega); rw [pointV_no hn] at h; exact h,
     fun γ w' bw _ => pFormat hp (by decide) w' (hT.later bw),
     fun γ w' bw _ => by have h := pParse_any (textP p) m w' (by omega) (hT.later bw) (hM.later bw); rw [pointV_yes rfl] at h; exact h,
     ⟨rfl, rfl, eqv_yes (eqL_F (Z4.mk (0 : Int) (0 : Int) (0 : Int) (0 : Int)) (Z4.mk (0 : Int) (0 : Int) (0 : Int) (0 : Int))) (rfl) rfl⟩,
     rfl,
     congrArg (fun z => some (Value.bool z)) (rfl : (false == false) = true),
     rfl,
     congrArg (fun z => some (Value.bool z)) (rfl : (!false) = true),
     rfl,
     rfl,
     fun γ w' bw _ => pNormalize hp (by decide) w' (hT.later bw),
     ⟨rfl, rfl, eqv_yes (eqL_P p p) (rfl) rfl⟩⟩
set_option maxRecDepth 100000 in
theorem Strings_y (s : ByteArray) (p_0 : Bool) (p_1 : ByteArray) (p_2 : Bool) (p_3 : ByteArray) (p_4 : Bool) (p_5 : ByteArray) (p_6 : Bool) (p_7 : ByteArray) (w : World) (hT : TabC w) (m : Int) (hM : MaxL m w) (h0 : s.size ≤ 100) (hp_1 : p_1.size ≤ 6) (hp_3 : p_3.size ≤ 6) (hp_5 : p_5.size ≤ 6) (hp_7 : p_7.size ≤ 6) (x : P3) (hx : textP x = s) :
    Calls Tryz.prog 5 #[.string s, .agg #[.bool p_0, .string p_1, .bool p_2, .string p_3, .bool p_4, .string p_5, .bool p_6, .string p_7]] w fun e w' => e = .returned (.bool true) ∧ Below w.heap.size w w' := by
  obtain ⟨pq, hpq⟩ : ∃ q, IsF (.agg #[.bool p_0, .string p_1, .bool p_2, .string p_3, .bool p_4, .string p_5, .bool p_6, .string p_7]) q 6 := ⟨⟨_, _, _, _⟩, _, _, _, _, _, _, _, _, rfl, rfl, hp_1, rfl, hp_3, rfl, hp_5, rfl, hp_7⟩
  have zpq := hpq.sz
  obtain ⟨p, ep⟩ : ∃ p, p = pt pq := ⟨_, rfl⟩
  have hp : IsP (.agg #[.bool p_0, .string p_1, .bool p_2, .string p_3, .bool p_4, .string p_5, .bool p_6, .string p_7]) p 6 := by rw [ep]; exact hpq.pt
  have zp := hp.sz (by decide)
  have hpt := textP_small zp (by decide)
  have f1 : Pk x 303 := Pk.up ((textP_Pk (k := 100) (by rw [hx]; omega))) (by decide)
  have f2 : Pk p 6 := Pk.up (zp) (by decide)
  exact SX.run (w := w) (List.flatten [[.string s, .bool p_0, .string p_1, .bool p_2, .string p_3, .bool p_4, .string p_5, .bool p_6, .string p_7, .bool true, .bool false, .int .i64 (s.size : Int), .bool false, .bool false], pc x, [.bool true], pc x, [.bool true, .string (textP p)], pc p, [.bool true, .bool true, .bool true, .bool false, .string (textP x), .bool true], pc p, [.bool true]]) [.b false, .b false, .b false, .b true, .b true, .b false, .b true, .b true] [.ca 0, .ga 1 8] 9 (.one (.ca 55)) [.call 10 [] (.one (.ca 9)) [], .op1 .not (.pa 9) 10, .isB 10 false, .len (.pa 0) 11, .op2 false .gtr (.pa 11) (.p (.lit (.int .i64 100))) 12, .isB 12 false, .call 11 [.c (.p (.slc 1 0 1 1))] (.one (.ca 13)) [(1025, .pa 1), (1026, .pa 2), (1027, .pa 3), (1028, .pa 4), (1029, .pa 5), (1030, .pa 6), (1031, .pa 7), (1032, .pa 8)], .isB 13 false, .call 27 [.ca 0] (.tup [.ga 14 8, .ca 22]) [], .call 28 [.ca 0] (.tup [.ga 23 8, .ca 31]) [], .call 17 [.ga 1 8] (.one (.ca 32)) [], .call 27 [.ca 32] (.tup [.ga 33 8, .ca 41]) [], .eqs false [.b, .s, .b, .s, .b, .s, .b, .s] [.pa 14, .pa 15, .pa 16, .pa 17, .pa 18, .pa 19, .pa 20, .pa 21] [.pa 23, .pa 24, .pa 25, .pa 26, .pa 27, .pa 28, .pa 29, .pa 30] 42, .isB 42 true, .op2 true .eql (.pa 22) (.pa 31) 43, .isB 43 true, .op1 .not (.pa 22) 44, .isB 44 false, .call 17 [.ga 14 8] (.one (.ca 45)) [], .op2 false .eql (.pa 45) (.pa 0) 46, .isB 46 true, .isB 41 true, .call 13 [.ga 1 8] (.one (.ga 47 8)) [], .eqs false [.b, .s, .b, .s, .b, .s, .b, .s] [.pa 33, .pa 34, .pa 35, .pa 36, .pa 37, .pa 38, .pa 39, .pa 40] [.pa 47, .pa 48, .pa 49, .pa 50, .pa 51, .pa 52, .pa 53, .pa 54] 55] Tryz.func5 (by kernel_rfl) rfl (by kernel_rfl) rfl (by kernel_rfl)
    ⟨fun γ w' bw _ => alive_any w' (hT.later bw),
     congrArg (fun z => some (Value.bool z)) (by first | rfl | assumption | decide | simp [*] : (!true) = false),
     rfl,
     ⟨_, rfl, rfl⟩,
     congrArg (fun z => some (Value.bool z)) (decide_eq_false (by omega) : decide ((s.size : Int) > (100 : Int)) = false),
     rfl,
     fun γ w' _ hm => great1_no p_0 p_1 p_2 p_3 p_4 p_5 p_6 p_7 w' (γ 1) (SX.mem_at (b := 1) (l := [.pa 1, .pa 2, .pa 3, .pa 4, .pa 5, .pa 6, .pa 7, .pa 8]) hm rfl) hp_1 hp_3 hp_5 hp_7,
     rfl,
     fun γ w' bw _ => by have h := pParse_any s m w' (by omega) (hT.later bw) (hM.later bw); rw [pointV_yes hx] at h; exact h,
     fun γ w' bw _ => by have h := rParse4_any s w' (by omega); rw [pointV_yes hx] at h; exact h,
     fun γ w' bw _ => pFormat hp (by decide) w' (hT.later bw),
     fun γ w' bw _ => by have h := pParse_any (textP p) m w' (by omega) (hT.later bw) (hM.later bw); rw [pointV_yes rfl] at h; exact h,
     ⟨rfl, rfl, eqv_yes (eqL_P x x) (rfl) rfl⟩,
     rfl,
     congrArg (fun z => some (Value.bool z)) (rfl : (true == true) = true),
     rfl,
     congrArg (fun z => some (Value.bool z)) (rfl : (!true) = false),
     rfl,
     fun γ w' bw _ => pFormat (IsP.can f1) (by decide) w' (hT.later bw),
     congrArg (fun z => some (Value.bool z)) (by rw [hx]; exact beq_self_eq_true _ : ((textP x).toList == s.toList) = true),
     rfl,
     rfl,
     fun γ w' bw _ => pNormalize hp (by decide) w' (hT.later bw),
     ⟨rfl, rfl, eqv_yes (eqL_P p p) (rfl) rfl⟩⟩
theorem Strings_any (s : ByteArray) (p_0 : Bool) (p_1 : ByteArray) (p_2 : Bool) (p_3 : ByteArray) (p_4 : Bool) (p_5 : ByteArray) (p_6 : Bool) (p_7 : ByteArray) (w : World) (hT : TabC w) (m : Int) (hM : MaxL m w) :
    Calls Tryz.prog 5 #[.string s, .agg #[.bool p_0, .string p_1, .bool p_2, .string p_3, .bool p_4, .string p_5, .bool p_6, .string p_7]] w fun e w' => e = .returned (.bool true) ∧ Below w.heap.size w w' := by
  by_cases h0 : s.size ≤ 100
  rotate_left
  · exact Strings_l s p_0 p_1 p_2 p_3 p_4 p_5 p_6 p_7 w hT h0
  by_cases g0 : (p_1.size ≤ 6 ∧ p_3.size ≤ 6 ∧ p_5.size ≤ 6 ∧ p_7.size ≤ 6)
  rotate_left
  · exact Strings_g s p_0 p_1 p_2 p_3 p_4 p_5 p_6 p_7 w hT h0 g0
  obtain ⟨hp_1, hp_3, hp_5, hp_7⟩ := g0
  by_cases hn : ∃ p, textP p = s
  · obtain ⟨x, hx⟩ := hn
    exact Strings_y s p_0 p_1 p_2 p_3 p_4 p_5 p_6 p_7 w hT m hM h0 hp_1 hp_3 hp_5 hp_7 x hx
  · exact Strings_n s p_0 p_1 p_2 p_3 p_4 p_5 p_6 p_7 w hT m hM h0 hp_1 hp_3 hp_5 hp_7 hn
end Go.Proofs.YtdgppfccolhaeaaGreatDoor
