/- The law PlaneFormat. -/
import Derived.Test.YtpmfaommooneiaaGreatDoorVp
import Derived.Test.YtpmfaommooneiaaGreatDoorVq
import Derived.Test.YtpmfaommooneiaaGreatDoorVe
import Derived.Test.YtpmfaommooneiaaGreatDoorVg
set_option linter.unusedVariables false
set_option linter.unusedSimpArgs false
namespace Go.Proofs.YtpmfaommooneiaaGreatDoor
open Go.RowKit NM SX
set_option maxRecDepth 100000 in
theorem Format_p (p_0 : Bool) (p_1 : ByteArray) (p_2 : Bool) (p_3 : ByteArray) (p_4 : Bool) (p_5 : ByteArray) (p_6 : Bool) (p_7 : ByteArray) (s : ByteArray) (w : World) (hT : TabC w) (h : ¬ (p_1.size ≤ 6 ∧ p_3.size ≤ 6 ∧ p_5.size ≤ 6 ∧ p_7.size ≤ 6)) :
    Calls Tryz.prog 8 #[.agg #[.bool p_0, .string p_1, .bool p_2, .string p_3, .bool p_4, .string p_5, .bool p_6, .string p_7], .string s] w fun e w' => e = .returned (.bool true) ∧ Below w.heap.size w w' := by
  exact SX.run (w := w) [.bool p_0, .string p_1, .bool p_2, .string p_3, .bool p_4, .string p_5, .bool p_6, .string p_7, .string s, .bool true, .bool false, .bool true] [.b false, .b true] [.ga 0 8, .ca 8] 9 (.one (.c (.p (.lit (.bool true))))) [.call 10 [] (.one (.ca 9)) [], .op1 .not (.pa 9) 10, .isB 10 false, .call 11 [.ga 0 8, .c (.p (.lit (.slice none 0 0)))] (.one (.ca 11)) [], .isB 11 true] Tryz.func8 (by kernel_rfl) rfl (by kernel_rfl) rfl (by kernel_rfl)
    ⟨fun γ w' bw _ => alive5_any w' (hT.later bw),
     congrArg (fun z => some (Value.bool z)) (by first | rfl | assumption | decide | simp [*] : (!true) = false),
     rfl,
     fun γ w' _ hm => great5_0_p p_0 p_1 p_2 p_3 p_4 p_5 p_6 p_7 w'  h,
     rfl⟩
set_option maxRecDepth 100000 in
theorem Format_l (p_0 : Bool) (p_1 : ByteArray) (p_2 : Bool) (p_3 : ByteArray) (p_4 : Bool) (p_5 : ByteArray) (p_6 : Bool) (p_7 : ByteArray) (s : ByteArray) (w : World) (hT : TabC w) (hp_1 : p_1.size ≤ 6) (hp_3 : p_3.size ≤ 6) (hp_5 : p_5.size ≤ 6) (hp_7 : p_7.size ≤ 6) (h : ¬ s.size ≤ 200) :
    Calls Tryz.prog 8 #[.agg #[.bool p_0, .string p_1, .bool p_2, .string p_3, .bool p_4, .string p_5, .bool p_6, .string p_7], .string s] w fun e w' => e = .returned (.bool true) ∧ Below w.heap.size w w' := by
  exact SX.run (w := w) [.bool p_0, .string p_1, .bool p_2, .string p_3, .bool p_4, .string p_5, .bool p_6, .string p_7, .string s, .bool true, .bool false, .bool false, .int .i64 (s.size : Int), .bool true] [.b false, .b false, .b true] [.ga 0 8, .ca 8] 9 (.one (.c (.p (.lit (.bool true))))) [.call 10 [] (.one (.ca 9)) [], .op1 .not (.pa 9) 10, .isB 10 false, .call 11 [.ga 0 8, .c (.p (.lit (.slice none 0 0)))] (.one (.ca 11)) [], .isB 11 false, .len (.pa 8) 12, .op2 false .gtr (.pa 12) (.p (.lit (.int .i64 200))) 13, .isB 13 true] Tryz.func8 (by kernel_rfl) rfl (by kernel_rfl) rfl (by kernel_rfl)
    ⟨fun γ w' bw _ => alive5_any w' (hT.later bw),
     congrArg (fun z => some (Value.bool z)) (by first | rfl | assumption | decide | simp [*] : (!true) = false),
     rfl,
     fun γ w' _ hm => great5_0_no p_0 p_1 p_2 p_3 p_4 p_5 p_6 p_7 w'  hp_1 hp_3 hp_5 hp_7,
     rfl,
     ⟨_, rfl, rfl⟩,
     congrArg (fun z => some (Value.bool z)) (decide_eq_true (by omega) : decide ((s.size : Int) > (200 : Int)) = true),
     rfl⟩
set_option maxRecDepth 100000 in
theorem Format_nf (p_0 : Bool) (p_1 : ByteArray) (p_2 : Bool) (p_3 : ByteArray) (p_4 : Bool) (p_5 : ByteArray) (p_6 : Bool) (p_7 : ByteArray) (s : ByteArray) (w : World) (hT : TabC w) (m : Int) (hM : MaxL m w) (hp_1 : p_1.size ≤ 6) (hp_3 : p_3.size ≤ 6) (hp_5 : p_5.size ≤ 6) (hp_7 : p_7.size ≤ 6) (h0 : s.size ≤ 200) (hn : ¬ Has5 s) (gf : flatF (Z4.mk (iv p_0 p_1) (iv p_2 p_3) (iv p_4 p_5) (iv p_6 p_7))) :
    Calls Tryz.prog 8 #[.agg #[.bool p_0, .string p_1, .bool p_2, .string p_3, .bool p_4, .string p_5, .bool p_6, .string p_7], .string s] w fun e w' => e = .returned (.bool true) ∧ Below w.heap.size w w' := by
  obtain ⟨p, hp, rp⟩ : ∃ q, IsF (.agg #[.bool p_0, .string p_1, .bool p_2, .string p_3, .bool p_4, .string p_5, .bool p_6, .string p_7]) q 6 ∧ q = ⟨iv p_0 p_1, iv p_2 p_3, iv p_4 p_5, iv p_6 p_7⟩ := ⟨⟨_, _, _, _⟩, ⟨_, _, _, _, _, _, _, _, rfl, rfl, hp_1, rfl, hp_3, rfl, hp_5, rfl, hp_7⟩, rfl⟩
  have zp := hp.sz
  rw [← rp] at gf
  have hpt := textF_size (Fk.prim zp)
  exact SX.run (w := w) (.bool p_0 :: .string p_1 :: .bool p_2 :: .string p_3 :: .bool p_4 :: .string p_5 :: .bool p_6 :: .string p_7 :: .string s :: .bool true :: .bool false :: .bool false :: .int .i64 (s.size : Int) :: .bool false :: .bool false :: .string ⟨#[]⟩ :: .bool false :: .string ⟨#[]⟩ :: .bool false :: .string ⟨#[]⟩ :: .bool false :: .string ⟨#[]⟩ :: .bool false :: .bool false :: .string ⟨#[]⟩ :: .bool false :: .string ⟨#[]⟩ :: .bool false :: .string ⟨#[]⟩ :: .bool false :: .string ⟨#[]⟩ :: .bool false :: .bool false :: .bool false :: .bool false :: .string ⟨#[]⟩ :: .bool false :: .string ⟨#[]⟩ :: .bool false :: .string ⟨#[]⟩ :: .bool false :: .string ⟨#[]⟩ :: .bool false :: .bool true :: []) [.b false, .b false, .b false, .b false, .b false, .b false, .b true] [.ga 0 8, .ca 8] 9 (.one (.c (.p (.lit (.bool true))))) [.call 10 [] (.one (.ca 9)) [], .op1 .not (.pa 9) 10, .isB 10 false, .call 11 [.ga 0 8, .c (.p (.lit (.slice none 0 0)))] (.one (.ca 11)) [], .isB 11 false, .len (.pa 8) 12, .op2 false .gtr (.pa 12) (.p (.lit (.int .i64 200))) 13, .isB 13 false, .call 37 [.ca 8] (.tup [.ga 14 8, .ca 22]) [], .call 38 [.ca 8] (.tup [.ga 23 8, .ca 31]) [], .eqs true [.b, .s, .b, .s, .b, .s, .b, .s] [.pa 14, .pa 15, .pa 16, .pa 17, .pa 18, .pa 19, .pa 20, .pa 21] [.pa 23, .pa 24, .pa 25, .pa 26, .pa 27, .pa 28, .pa 29, .pa 30] 32, .isB 32 false, .op2 true .neq (.pa 22) (.pa 31) 33, .isB 33 false, .isB 22 false, .call 14 [.ga 0 8] (.tup [.ga 34 8, .ca 42]) [], .op1 .not (.pa 42) 43, .isB 43 true] Tryz.func8 (by kernel_rfl) rfl (by kernel_rfl) rfl (by kernel_rfl)
    ⟨fun γ w' bw _ => alive5_any w' (hT.later bw),
     congrArg (fun z => some (Value.bool z)) (by first | rfl | assumption | decide | simp [*] : (!true) = false),
     rfl,
     fun γ w' _ hm => great5_0_no p_0 p_1 p_2 p_3 p_4 p_5 p_6 p_7 w'  hp_1 hp_3 hp_5 hp_7,
     rfl,
     ⟨_, rfl, rfl⟩,
     congrArg (fun z => some (Value.bool z)) (decide_eq_false (by omega) : decide ((s.size : Int) > (200 : Int)) = false),
     rfl,
     fun γ w' bw _ => by have h := plParse_any s m w' (by omega) (hT.later bw) (hM.later bw); rw [planeT_no hn] at h; exact h,
     fun γ w' bw _ => by have h := rParse5_any s w' (by omega); rw [planeT_no hn] at h; exact h,
     ⟨rfl, rfl, eqv_yes (eqL_F (Z4.mk (0 : Int) (0 : Int) (0 : Int) (0 : Int)) (Z4.mk (0 : Int) (0 : Int) (0 : Int) (0 : Int))) (rfl) rfl⟩,
     rfl,
     congrArg (fun z => some (Value.bool z)) (by first | rfl | assumption | decide | simp [*] : (!(false == false)) = false),
     rfl,
     rfl,
     fun γ w' _ _ => by have h := v5Norm_any hp (by decide) w'; rw [normV, if_pos gf] at h; exact h,
     congrArg (fun z => some (Value.bool z)) (by first | rfl | assumption | decide | simp [*] : (!false) = true),
     rfl⟩
set_option maxRecDepth 100000 in
theorem Format_nv (p_0 : Bool) (p_1 : ByteArray) (p_2 : Bool) (p_3 : ByteArray) (p_4 : Bool) (p_5 : ByteArray) (p_6 : Bool) (p_7 : ByteArray) (s : ByteArray) (w : World) (hT : TabC w) (m : Int) (hM : MaxL m w) (hp_1 : p_1.size ≤ 6) (hp_3 : p_3.size ≤ 6) (hp_5 : p_5.size ≤ 6) (hp_7 : p_7.size ≤ 6) (h0 : s.size ≤ 200) (hn : ¬ Has5 s) (gf : ¬ flatF (Z4.mk (iv p_0 p_1) (iv p_2 p_3) (iv p_4 p_5) (iv p_6 p_7))) :
    Calls Tryz.prog 8 #[.agg #[.bool p_0, .string p_1, .bool p_2, .string p_3, .bool p_4, .string p_5, .bool p_6, .string p_7], .string s] w fun e w' => e = .returned (.bool true) ∧ Below w.heap.size w w' := by
  obtain ⟨p, hp, rp⟩ : ∃ q, IsF (.agg #[.bool p_0, .string p_1, .bool p_2, .string p_3, .bool p_4, .string p_5, .bool p_6, .string p_7]) q 6 ∧ q = ⟨iv p_0 p_1, iv p_2 p_3, iv p_4 p_5, iv p_6 p_7⟩ := ⟨⟨_, _, _, _⟩, ⟨_, _, _, _, _, _, _, _, rfl, rfl, hp_1, rfl, hp_3, rfl, hp_5, rfl, hp_7⟩, rfl⟩
  have zp := hp.sz
  rw [← rp] at gf
  have hpt := textF_size (Fk.prim zp)
  have hcp : Can5 (prim p) := ⟨prim_prim (g4_flat gf), prim_flat gf⟩
  have f1 : Fk (prim p) 6 := Fk.up ((Fk.prim zp)) (by decide)
  exact SX.run (w := w) (List.flatten [(.bool p_0 :: .string p_1 :: .bool p_2 :: .string p_3 :: .bool p_4 :: .string p_5 :: .bool p_6 :: .string p_7 :: .string s :: .bool true :: .bool false :: .bool false :: .int .i64 (s.size : Int) :: .bool false :: .bool false :: .string ⟨#[]⟩ :: .bool false :: .string ⟨#[]⟩ :: .bool false :: .string ⟨#[]⟩ :: .bool false :: .string ⟨#[]⟩ :: .bool false :: .bool false :: .string ⟨#[]⟩ :: .bool false :: .string ⟨#[]⟩ :: .bool false :: .string ⟨#[]⟩ :: .bool false :: .string ⟨#[]⟩ :: .bool false :: .bool false :: .bool false :: []), fc (prim p), [.bool true, .bool false, .string (textF (prim p))], fc (prim p), [.bool true, .string (textF (prim p)), .string (textF (prim p)), .bool true, .bool true]]) [.b false, .b false, .b false, .b false, .b false, .b false, .b false, .b true, .b true] [.ga 0 8, .ca 8] 9 (.one (.ca 57)) [.call 10 [] (.one (.ca 9)) [], .op1 .not (.pa 9) 10, .isB 10 false, .call 11 [.ga 0 8, .c (.p (.lit (.slice none 0 0)))] (.one (.ca 11)) [], .isB 11 false, .len (.pa 8) 12, .op2 false .gtr (.pa 12) (.p (.lit (.int .i64 200))) 13, .isB 13 false, .call 37 [.ca 8] (.tup [.ga 14 8, .ca 22]) [], .call 38 [.ca 8] (.tup [.ga 23 8, .ca 31]) [], .eqs true [.b, .s, .b, .s, .b, .s, .b, .s] [.pa 14, .pa 15, .pa 16, .pa 17, .pa 18, .pa 19, .pa 20, .pa 21] [.pa 23, .pa 24, .pa 25, .pa 26, .pa 27, .pa 28, .pa 29, .pa 30] 32, .isB 32 false, .op2 true .neq (.pa 22) (.pa 31) 33, .isB 33 false, .isB 22 false, .call 14 [.ga 0 8] (.tup [.ga 34 8, .ca 42]) [], .op1 .not (.pa 42) 43, .isB 43 false, .call 39 [.ga 34 8] (.one (.ca 44)) [], .call 37 [.ca 44] (.tup [.ga 45 8, .ca 53]) [], .call 39 [.ga 34 8] (.one (.ca 54)) [], .call 40 [.ga 34 8] (.one (.ca 55)) [], .op2 false .eql (.pa 54) (.pa 55) 56, .isB 56 true, .isB 53 true, .eqs false [.b, .s, .b, .s, .b, .s, .b, .s] [.pa 45, .pa 46, .pa 47, .pa 48, .pa 49, .pa 50, .pa 51, .pa 52] [.pa 34, .pa 35, .pa 36, .pa 37, .pa 38, .pa 39, .pa 40, .pa 41] 57] Tryz.func8 (by kernel_rfl) rfl (by kernel_rfl) rfl (by kernel_rfl)
    ⟨fun γ w' bw _ => alive5_any w' (hT.later bw),
     congrArg (fun z => some (Value.bool z)) (by first | rfl | assumption | decide | simp [*] : (!true) = false),
     rfl,
     fun γ w' _ hm => great5_0_no p_0 p_1 p_2 p_3 p_4 p_5 p_6 p_7 w'  hp_1 hp_3 hp_5 hp_7,
     rfl,
     ⟨_, rfl, rfl⟩,
     congrArg (fun z => some (Value.bool z)) (decide_eq_false (by omega) : decide ((s.size : Int) > (200 : Int)) = false),
     rfl,
     fun γ w' bw _ => by have h := plParse_any s m w' (by omega) (hT.later bw) (hM.later bw); rw [planeT_no hn] at h; exact h,
     fun γ w' bw _ => by have h := rParse5_any s w' (by omega); rw [planeT_no hn] at h; exact h,
     ⟨rfl, rfl, eqv_yes (eqL_F (Z4.mk (0 : Int) (0 : Int) (0 : Int) (0 : Int)) (Z4.mk (0 : Int) (0 : Int) (0 : Int) (0 : Int))) (rfl) rfl⟩,
     rfl,
     congrArg (fun z => some (Value.bool z)) (by first | rfl | assumption | decide | simp [*] : (!(false == false)) = false),
     rfl,
     rfl,
     fun γ w' _ _ => by have h := v5Norm_any hp (by decide) w'; rw [normV, if_neg gf] at h; exact h,
     congrArg (fun z => some (Value.bool z)) (by first | rfl | assumption | decide | simp [*] : (!true) = false),
     rfl,
     fun γ w' _ _ => plFormat f1 (by decide) w',
     fun γ w' bw _ => by have h := plParse_any (textF (prim p)) m w' (by omega) (hT.later bw) (hM.later bw); rw [planeT_yes hcp rfl] at h; exact h,
     fun γ w' _ _ => plFormat f1 (by decide) w',
     fun γ w' _ _ => v5Text (IsF.can f1) (by decide) w',
     congrArg (fun z => some (Value.bool z)) (beq_self_eq_true _ : ((textF (prim p)).toList == (textF (prim p)).toList) = true),
     rfl,
     rfl,
     ⟨rfl, rfl, eqv_yes (eqL_F (prim p) (prim p)) (rfl) rfl⟩⟩
set_option maxRecDepth 100000 in
theorem Format_yf (p_0 : Bool) (p_1 : ByteArray) (p_2 : Bool) (p_3 : ByteArray) (p_4 : Bool) (p_5 : ByteArray) (p_6 : Bool) (p_7 : ByteArray) (s : ByteArray) (w : World) (hT : TabC w) (m : Int) (hM : MaxL m w) (hp_1 : p_1.size ≤ 6) (hp_3 : p_3.size ≤ 6) (hp_5 : p_5.size ≤ 6) (hp_7 : p_7.size ≤ 6) (h0 : s.size ≤ 200) (x : Z4) (hc : Can5 x) (hx : textF x = s) (gf : flatF (Z4.mk (iv p_0 p_1) (iv p_2 p_3) (iv p_4 p_5) (iv p_6 p_7))) :
    Calls Tryz.prog 8 #[.agg #[.bool p_0, .string p_1, .bool p_2, .string p_3, .bool p_4, .string p_5, .bool p_6, .string p_7], .string s] w fun e w' => e = .returned (.bool true) ∧ Below w.heap.size w w' := by
  obtain ⟨p, hp, rp⟩ : ∃ q, IsF (.agg #[.bool p_0, .string p_1, .bool p_2, .string p_3, .bool p_4, .string p_5, .bool p_6, .string p_7]) q 6 ∧ q = ⟨iv p_0 p_1, iv p_2 p_3, iv p_4 p_5, iv p_6 p_7⟩ := ⟨⟨_, _, _, _⟩, ⟨_, _, _, _, _, _, _, _, rfl, rfl, hp_1, rfl, hp_3, rfl, hp_5, rfl, hp_7⟩, rfl⟩
  have zp := hp.sz
  rw [← rp] at gf
  have hpt := textF_size (Fk.prim zp)
  have f1 : Fk x 200 := Fk.up ((textF_Fk (k := 200) (by rw [hx]; omega))) (by decide)
  exact SX.run (w := w) (List.flatten [[.bool p_0, .string p_1, .bool p_2, .string p_3, .bool p_4, .string p_5, .bool p_6, .string p_7, .string s, .bool true, .bool false, .bool false, .int .i64 (s.size : Int), .bool false], fc x, [.bool true], fc x, [.bool true, .bool false, .bool false, .string (textF x), .bool false, .bool false, .string ⟨#[]⟩, .bool false, .string ⟨#[]⟩, .bool false, .string ⟨#[]⟩, .bool false, .string ⟨#[]⟩, .bool false, .bool true]]) [.b false, .b false, .b false, .b false, .b false, .b true, .b false, .b true] [.ga 0 8, .ca 8] 9 (.one (.c (.p (.lit (.bool true))))) [.call 10 [] (.one (.ca 9)) [], .op1 .not (.pa 9) 10, .isB 10 false, .call 11 [.ga 0 8, .c (.p (.lit (.slice none 0 0)))] (.one (.ca 11)) [], .isB 11 false, .len (.pa 8) 12, .op2 false .gtr (.pa 12) (.p (.lit (.int .i64 200))) 13, .isB 13 false, .call 37 [.ca 8] (.tup [.ga 14 8, .ca 22]) [], .call 38 [.ca 8] (.tup [.ga 23 8, .ca 31]) [], .eqs true [.b, .s, .b, .s, .b, .s, .b, .s] [.pa 14, .pa 15, .pa 16, .pa 17, .pa 18, .pa 19, .pa 20, .pa 21] [.pa 23, .pa 24, .pa 25, .pa 26, .pa 27, .pa 28, .pa 29, .pa 30] 32, .isB 32 false, .op2 true .neq (.pa 22) (.pa 31) 33, .isB 33 false, .isB 22 true, .call 39 [.ga 14 8] (.one (.ca 34)) [], .op2 false .neq (.pa 34) (.pa 8) 35, .isB 35 false, .call 14 [.ga 0 8] (.tup [.ga 36 8, .ca 44]) [], .op1 .not (.pa 44) 45, .isB 45 true] Tryz.func8 (by kernel_rfl) rfl (by kernel_rfl) rfl (by kernel_rfl)
    ⟨fun γ w' bw _ => alive5_any w' (hT.later bw),
     congrArg (fun z => some (Value.bool z)) (by first | rfl | assumption | decide | simp [*] : (!true) = false),
     rfl,
     fun γ w' _ hm => great5_0_no p_0 p_1 p_2 p_3 p_4 p_5 p_6 p_7 w'  hp_1 hp_3 hp_5 hp_7,
     rfl,
     ⟨_, rfl, rfl⟩,
     congrArg (fun z => some (Value.bool z)) (decide_eq_false (by omega) : decide ((s.size : Int) > (200 : Int)) = false),
     rfl,
     fun γ w' bw _ => by have h := plParse_any s m w' (by omega) (hT.later bw) (hM.later bw); rw [planeT_yes hc hx] at h; exact h,
     fun γ w' bw _ => by have h := rParse5_any s w' (by omega); rw [planeT_yes hc hx] at h; exact h,
     ⟨rfl, rfl, eqv_yes (eqL_F x x) (rfl) rfl⟩,
     rfl,
     congrArg (fun z => some (Value.bool z)) (by first | rfl | assumption | decide | simp [*] : (!(true == true)) = false),
     rfl,
     rfl,
     fun γ w' _ _ => plFormat f1 (by decide) w',
     congrArg (fun z => some (Value.bool z)) (by rw [hx, beq_self_eq_true]; rfl : (!((textF x).toList == s.toList)) = false),
     rfl,
     fun γ w' _ _ => by have h := v5Norm_any hp (by decide) w'; rw [normV, if_pos gf] at h; exact h,
     congrArg (fun z => some (Value.bool z)) (by first | rfl | assumption | decide | simp [*] : (!false) = true),
     rfl⟩
set_option maxRecDepth 100000 in
theorem Format_yv (p_0 : Bool) (p_1 : ByteArray) (p_2 : Bool) (p_3 : ByteArray) (p_4 : Bool) (p_5 : ByteArray) (p_6 : Bool) (p_7 : ByteArray) (s : ByteArray) (w : World) (hT : TabC w) (m : Int) (hM : MaxL m w) (hp_1 : p_1.size ≤ 6) (hp_3 : p_3.size ≤ 6) (hp_5 : p_5.size ≤ 6) (hp_7 : p_7.size ≤ 6) (h0 : s.size ≤ 200) (x : Z4) (hc : Can5 x) (hx : textF x = s) (gf : ¬ flatF (Z4.mk (iv p_0 p_1) (iv p_2 p_3) (iv p_4 p_5) (iv p_6 p_7))) :
    Calls Tryz.prog 8 #[.agg #[.bool p_0, .string p_1, .bool p_2, .string p_3, .bool p_4, .string p_5, .bool p_6, .string p_7], .string s] w fun e w' => e = .returned (.bool true) ∧ Below w.heap.size w w' := by
  obtain ⟨p, hp, rp⟩ : ∃ q, IsF (.agg #[.bool p_0, .string p_1, .bool p_2, .string p_3, .bool p_4, .string p_5, .bool p_6, .string p_7]) q 6 ∧ q = ⟨iv p_0 p_1, iv p_2 p_3, iv p_4 p_5, iv p_6 p_7⟩ := ⟨⟨_, _, _, _⟩, ⟨_, _, _, _, _, _, _, _, rfl, rfl, hp_1, rfl, hp_3, rfl, hp_5, rfl, hp_7⟩, rfl⟩
  have zp := hp.sz
  rw [← rp] at gf
  have hpt := textF_size (Fk.prim zp)
  have hcp : Can5 (prim p) := ⟨prim_prim (g4_flat gf), prim_flat gf⟩
  have f1 : Fk x 200 := Fk.up ((textF_Fk (k := 200) (by rw [hx]; omega))) (by decide)
  have f2 : Fk (prim p) 6 := Fk.up ((Fk.prim zp)) (by decide)
  exact SX.run (w := w) (List.flatten [[.bool p_0, .string p_1, .bool p_2, .string p_3, .bool p_4, .string p_5, .bool p_6, .string p_7, .string s, .bool true, .bool false, .bool false, .int .i64 (s.size : Int), .bool false], fc x, [.bool true], fc x, [.bool true, .bool false, .bool false, .string (textF x), .bool false], fc (prim p), [.bool true, .bool false, .string (textF (prim p))], fc (prim p), [.bool true, .string (textF (prim p)), .string (textF (prim p)), .bool true, .bool true]]) [.b false, .b false, .b false, .b false, .b false, .b true, .b false, .b false, .b true, .b true] [.ga 0 8, .ca 8] 9 (.one (.ca 59)) (.call 10 [] (.one (.ca 9)) [] :: .op1 .not (.pa 9) 10 :: .isB 10 false :: .call 11 [.ga 0 8, .c (.p (.lit (.slice none 0 0)))] (.one (.ca 11)) [] :: .isB 11 false :: .len (.pa 8) 12 :: .op2 false .gtr (.pa 12) (.p (.lit (.int .i64 200))) 13 :: .isB 13 false :: .call 37 [.ca 8] (.tup [.ga 14 8, .ca 22]) [] :: .call 38 [.ca 8] (.tup [.ga 23 8, .ca 31]) [] :: .eqs true [.b, .s, .b, .s, .b, .s, .b, .s] [.pa 14, .pa 15, .pa 16, .pa 17, .pa 18, .pa 19, .pa 20, .pa 21] [.pa 23, .pa 24, .pa 25, .pa 26, .pa 27, .pa 28, .pa 29, .pa 30] 32 :: .isB 32 false :: .op2 true .neq (.pa 22) (.pa 31) 33 :: .isB 33 false :: .isB 22 true :: .call 39 [.ga 14 8] (.one (.ca 34)) [] :: .op2 false .neq (.pa 34) (.pa 8) 35 :: .isB 35 false :: .call 14 [.ga 0 8] (.tup [.ga 36 8, .ca 44]) [] :: .op1 .not (.pa 44) 45 :: .isB 45 false :: .call 39 [.ga 36 8] (.one (.ca 46)) [] :: .call 37 [.ca 46] (.tup [.ga 47 8, .ca 55]) [] :: .call 39 [.ga 36 8] (.one (.ca 56)) [] :: .call 40 [.ga 36 8] (.one (.ca 57)) [] :: .op2 false .eql (.pa 56) (.pa 57) 58 :: .isB 58 true :: .isB 55 true :: .eqs false [.b, .s, .b, .s, .b, .s, .b, .s] [.pa 47, .pa 48, .pa 49, .pa 50, .pa 51, .pa 52, .pa 53, .pa 54] [.pa 36, .pa 37, .pa 38, .pa 39, .pa 40, .pa 41, .pa 42, .pa 43] 59 :: []) Tryz.func8 (by kernel_rfl) rfl (by kernel_rfl) rfl (by kernel_rfl)
    ⟨fun γ w' bw _ => alive5_any w' (hT.later bw),
     congrArg (fun z => some (Value.bool z)) (by first | rfl | assumption | decide | simp [*] : (!true) = false),
     rfl,
     fun γ w' _ hm => great5_0_no p_0 p_1 p_2 p_3 p_4 p_5 p_6 p_7 w'  hp_1 hp_3 hp_5 hp_7,
     rfl,
     ⟨_, rfl, rfl⟩,
     congrArg (fun z => some (Value.bool z)) (decide_eq_false (by omega) : decide ((s.size : Int) > (200 : Int)) = false),
     rfl,
     fun γ w' bw _ => by have h := plParse_any s m w' (by omega) (hT.later bw) (hM.later bw); rw [planeT_yes hc hx] at h; exact h,
     fun γ w' bw _ => by have h := rParse5_any s w' (by omega); rw [planeT_yes hc hx] at h; exact h,
     ⟨rfl, rfl, eqv_yes (eqL_F x x) (rfl) rfl⟩,
     rfl,
     congrArg (fun z => some (Value.bool z)) (by first | rfl | assumption | decide | simp [*] : (!(true == true)) = false),
     rfl,
     rfl,
     fun γ w' _ _ => plFormat f1 (by decide) w',
     congrArg (fun z => some (Value.bool z)) (by rw [hx, beq_self_eq_true]; rfl : (!((textF x).toList == s.toList)) = false),
     rfl,
     fun γ w' _ _ => by have h := v5Norm_any hp (by decide) w'; rw [normV, if_neg gf] at h; exact h,
     congrArg (fun z => some (Value.bool z)) (by first | rfl | assumption | decide | simp [*] : (!true) = false),
     rfl,
     fun γ w' _ _ => plFormat f2 (by decide) w',
     fun γ w' bw _ => by have h := plParse_any (textF (prim p)) m w' (by omega) (hT.later bw) (hM.later bw); rw [planeT_yes hcp rfl] at h; exact h,
     fun γ w' _ _ => plFormat f2 (by decide) w',
     fun γ w' _ _ => v5Text (IsF.can f2) (by decide) w',
     congrArg (fun z => some (Value.bool z)) (beq_self_eq_true _ : ((textF (prim p)).toList == (textF (prim p)).toList) = true),
     rfl,
     rfl,
     ⟨rfl, rfl, eqv_yes (eqL_F (prim p) (prim p)) (rfl) rfl⟩⟩
theorem PlaneFormat_any (p_0 : Bool) (p_1 : ByteArray) (p_2 : Bool) (p_3 : ByteArray) (p_4 : Bool) (p_5 : ByteArray) (p_6 : Bool) (p_7 : ByteArray) (s : ByteArray) (w : World) (hT : TabC w) (m : Int) (hM : MaxL m w) :
    Calls Tryz.prog 8 #[.agg #[.bool p_0, .string p_1, .bool p_2, .string p_3, .bool p_4, .string p_5, .bool p_6, .string p_7], .string s] w fun e w' => e = .returned (.bool true) ∧ Below w.heap.size w w' := by
  by_cases g : p_1.size ≤ 6 ∧ p_3.size ≤ 6 ∧ p_5.size ≤ 6 ∧ p_7.size ≤ 6
  rotate_left
  · exact Format_p p_0 p_1 p_2 p_3 p_4 p_5 p_6 p_7 s w hT g
  obtain ⟨hp_1, hp_3, hp_5, hp_7⟩ := g
  by_cases h0 : s.size ≤ 200
  rotate_left
  · exact Format_l p_0 p_1 p_2 p_3 p_4 p_5 p_6 p_7 s w hT hp_1 hp_3 hp_5 hp_7 h0
  by_cases gf : flatF (Z4.mk (iv p_0 p_1) (iv p_2 p_3) (iv p_4 p_5) (iv p_6 p_7))
  · by_cases hn : Has5 s
    · obtain ⟨x, hc, hx⟩ := hn
      exact Format_yf p_0 p_1 p_2 p_3 p_4 p_5 p_6 p_7 s w hT m hM hp_1 hp_3 hp_5 hp_7 h0 x hc hx gf
    · exact Format_nf p_0 p_1 p_2 p_3 p_4 p_5 p_6 p_7 s w hT m hM hp_1 hp_3 hp_5 hp_7 h0 hn gf
  · by_cases hn : Has5 s
    · obtain ⟨x, hc, hx⟩ := hn
      exact Format_yv p_0 p_1 p_2 p_3 p_4 p_5 p_6 p_7 s w hT m hM hp_1 hp_3 hp_5 hp_7 h0 x hc hx gf
    · exact Format_nv p_0 p_1 p_2 p_3 p_4 p_5 p_6 p_7 s w hT m hM hp_1 hp_3 hp_5 hp_7 h0 hn gf
end Go.Proofs.YtpmfaommooneiaaGreatDoor
