/- Laws Planes, Line, Predicates, Incidence, Orientation of layer 6. -/
import Derived.Test.YtfapglafeghggaaDoorUe
import Derived.Test.YtfapglafeghggaaDoorUg
import Derived.Test.YtfapglafeghggaaDoorVd
set_option linter.unusedVariables false
set_option linter.unusedSimpArgs false
namespace Go.Proofs.YtfapglafeghggaaDoor
open Go.RowKit NM SX
theorem neg_orient (a b c d : P3) : IntKind.wrap .i64 (0 - orientP a b c d) = -orientP a b c d := by
  have h := orient_bd a b c d
  generalize orientP a b c d = x at *
  rw [IntKind.wrap_i64]
  omega
set_option maxRecDepth 100000 in
theorem Orientation_g (a_0 : Bool) (a_1 : ByteArray) (a_2 : Bool) (a_3 : ByteArray) (a_4 : Bool) (a_5 : ByteArray) (a_6 : Bool) (a_7 : ByteArray) (b_0 : Bool) (b_1 : ByteArray) (b_2 : Bool) (b_3 : ByteArray) (b_4 : Bool) (b_5 : ByteArray) (b_6 : Bool) (b_7 : ByteArray) (c_0 : Bool) (c_1 : ByteArray) (c_2 : Bool) (c_3 : ByteArray) (c_4 : Bool) (c_5 : ByteArray) (c_6 : Bool) (c_7 : ByteArray) (d_0 : Bool) (d_1 : ByteArray) (d_2 : Bool) (d_3 : ByteArray) (d_4 : Bool) (d_5 : ByteArray) (d_6 : Bool) (d_7 : ByteArray) (w : World) (hT : TabC w) (h : ¬ (a_1.size ≤ 6 ∧ a_3.size ≤ 6 ∧ a_5.size ≤ 6 ∧ a_7.size ≤ 6 ∧ b_1.size ≤ 6 ∧ b_3.size ≤ 6 ∧ b_5.size ≤ 6 ∧ b_7.size ≤ 6 ∧ c_1.size ≤ 6 ∧ c_3.size ≤ 6 ∧ c_5.size ≤ 6 ∧ c_7.size ≤ 6 ∧ d_1.size ≤ 6 ∧ d_3.size ≤ 6 ∧ d_5.size ≤ 6 ∧ d_7.size ≤ 6)) :
    Calls Tryd.prog 4 #[.agg #[.bool a_0, .string a_1, .bool a_2, .string a_3, .bool a_4, .string a_5, .bool a_6, .string a_7, .bool b_0, .string b_1, .bool b_2, .string b_3, .bool b_4, .string b_5, .bool b_6, .string b_7, .bool c_0, .string c_1, .bool c_2, .string c_3, .bool c_4, .string c_5, .bool c_6, .string c_7, .bool d_0, .string d_1, .bool d_2, .string d_3, .bool d_4, .string d_5, .bool d_6, .string d_7]] w fun e w' => e = .returned (.bool true) ∧ Below w.heap.size w w' := by
  exact SX.run (w := w) (.bool a_0 :: .string a_1 :: .bool a_2 :: .string a_3 :: .bool a_4 :: .string a_5 :: .bool a_6 :: .string a_7 :: .bool b_0 :: .string b_1 :: .bool b_2 :: .string b_3 :: .bool b_4 :: .string b_5 :: .bool b_6 :: .string b_7 :: .bool c_0 :: .string c_1 :: .bool c_2 :: .string c_3 :: .bool c_4 :: .string c_5 :: .bool c_6 :: .string c_7 :: .bool d_0 :: .string d_1 :: .bool d_2 :: .string d_3 :: .bool d_4 :: .string d_5 :: .bool d_6 :: .string d_7 :: .int .i64 1 :: .bool true :: .bool true :: []) [.b true] [.ga 0 32] 32 (.one (.ca 34)) [.call 6 [.c (.p (.slc 0 0 4 4))] (.one (.ca 32)) [(1, .pa 0), (2, .pa 1), (3, .pa 2), (4, .pa 3), (5, .pa 4), (6, .pa 5), (7, .pa 6), (8, .pa 7), (9, .pa 8), (10, .pa 9), (11, .pa 10), (12, .pa 11), (13, .pa 12), (14, .pa 13), (15, .pa 14), (16, .pa 15), (17, .pa 16), (18, .pa 17), (19, .pa 18), (20, .pa 19), (21, .pa 20), (22, .pa 21), (23, .pa 22), (24, .pa 23), (25, .pa 24), (26, .pa 25), (27, .pa 26), (28, .pa 27), (29, .pa 28), (30, .pa 29), (31, .pa 30), (32, .pa 31)], .op2 false .gtr (.pa 32) (.p (.lit (.int .i64 0))) 33, .isB 33 true, .call 7 [] (.one (.ca 34)) []] Tryd.func4 (by kernel_rfl) rfl (by kernel_rfl) rfl (by kernel_rfl)
    ⟨fun γ w' _ hm => by have h_ := Great6_any (some ⟨γ 0, 0, none⟩) [⟨a_0, a_1, a_2, a_3, a_4, a_5, a_6, a_7⟩, ⟨b_0, b_1, b_2, b_3, b_4, b_5, b_6, b_7⟩, ⟨c_0, c_1, c_2, c_3, c_4, c_5, c_6, c_7⟩, ⟨d_0, d_1, d_2, d_3, d_4, d_5, d_6, d_7⟩] 4 4 w' rfl (by simp) (RdP.of (SX.mem_at (b := 0) (l := [.pa 0, .pa 1, .pa 2, .pa 3, .pa 4, .pa 5, .pa 6, .pa 7, .pa 8, .pa 9, .pa 10, .pa 11, .pa 12, .pa 13, .pa 14, .pa 15, .pa 16, .pa 17, .pa 18, .pa 19, .pa 20, .pa 21, .pa 22, .pa 23, .pa 24, .pa 25, .pa 26, .pa 27, .pa 28, .pa 29, .pa 30, .pa 31]) hm rfl)); rw [greatI_yes (fun k => h ⟨(k ⟨a_0, a_1, a_2, a_3, a_4, a_5, a_6, a_7⟩ (by simp)).1, (k ⟨a_0, a_1, a_2, a_3, a_4, a_5, a_6, a_7⟩ (by simp)).2.1, (k ⟨a_0, a_1, a_2, a_3, a_4, a_5, a_6, a_7⟩ (by simp)).2.2.1, (k ⟨a_0, a_1, a_2, a_3, a_4, a_5, a_6, a_7⟩ (by simp)).2.2.2, (k ⟨b_0, b_1, b_2, b_3, b_4, b_5, b_6, b_7⟩ (by simp)).1, (k ⟨b_0, b_1, b_2, b_3, b_4, b_5, b_6, b_7⟩ (by simp)).2.1, (k ⟨b_0, b_1, b_2, b_3, b_4, b_5, b_6, b_7⟩ (by simp)).2.2.1, (k ⟨b_0, b_1, b_2, b_3, b_4, b_5, b_6, b_7⟩ (by simp)).2.2.2, (k ⟨c_0, c_1, c_2, c_3, c_4, c_5, c_6, c_7⟩ (by simp)).1, (k ⟨c_0, c_1, c_2, c_3, c_4, c_5, c_6, c_7⟩ (by simp)).2.1, (k ⟨c_0, c_1, c_2, c_3, c_4, c_5, c_6, c_7⟩ (by simp)).2.2.1, (k ⟨c_0, c_1, c_2, c_3, c_4, c_5, c_6, c_7⟩ (by simp)).2.2.2, (k ⟨d_0, d_1, d_2, d_3, d_4, d_5, d_6, d_7⟩ (by simp)).1, (k ⟨d_0, d_1, d_2, d_3, d_4, d_5, d_6, d_7⟩ (by simp)).2.1, (k ⟨d_0, d_1, d_2, d_3, d_4, d_5, d_6, d_7⟩ (by simp)).2.2.1, (k ⟨d_0, d_1, d_2, d_3, d_4, d_5, d_6, d_7⟩ (by simp)).2.2.2⟩)] at h_; exact h_,
     congrArg (fun z => some (Value.bool z)) (by decide : decide ((1 : Int) > (0 : Int)) = true),
     rfl,
     fun γ w' bw _ => fixed6_any w' (hT.later bw)⟩
set_option maxRecDepth 100000 in
theorem Orientation_s (a_0 : Bool) (a_1 : ByteArray) (a_2 : Bool) (a_3 : ByteArray) (a_4 : Bool) (a_5 : ByteArray) (a_6 : Bool) (a_7 : ByteArray) (b_0 : Bool) (b_1 : ByteArray) (b_2 : Bool) (b_3 : ByteArray) (b_4 : Bool) (b_5 : ByteArray) (b_6 : Bool) (b_7 : ByteArray) (c_0 : Bool) (c_1 : ByteArray) (c_2 : Bool) (c_3 : ByteArray) (c_4 : Bool) (c_5 : ByteArray) (c_6 : Bool) (c_7 : ByteArray) (d_0 : Bool) (d_1 : ByteArray) (d_2 : Bool) (d_3 : ByteArray) (d_4 : Bool) (d_5 : ByteArray) (d_6 : Bool) (d_7 : ByteArray) (w : World) (hT : TabC w) (ha_1 : a_1.size ≤ 6) (ha_3 : a_3.size ≤ 6) (ha_5 : a_5.size ≤ 6) (ha_7 : a_7.size ≤ 6) (hb_1 : b_1.size ≤ 6) (hb_3 : b_3.size ≤ 6) (hb_5 : b_5.size ≤ 6) (hb_7 : b_7.size ≤ 6) (hc_1 : c_1.size ≤ 6) (hc_3 : c_3.size ≤ 6) (hc_5 : c_5.size ≤ 6) (hc_7 : c_7.size ≤ 6) (hd_1 : d_1.size ≤ 6) (hd_3 : d_3.size ≤ 6) (hd_5 : d_5.size ≤ 6) (hd_7 : d_7.size ≤ 6) (hs : straightP (pt ⟨iv a_0 a_1, iv a_2 a_3, iv a_4 a_5, iv a_6 a_7⟩) (pt ⟨iv b_0 b_1, iv b_2 b_3, iv b_4 b_5, iv b_6 b_7⟩) (pt ⟨iv c_0 c_1, iv c_2 c_3, iv c_4 c_5, iv c_6 c_7⟩)) :
    Calls Tryd.prog 4 #[.agg #[.bool a_0, .string a_1, .bool a_2, .string a_3, .bool a_4, .string a_5, .bool a_6, .string a_7, .bool b_0, .string b_1, .bool b_2, .string b_3, .bool b_4, .string b_5, .bool b_6, .string b_7, .bool c_0, .string c_1, .bool c_2, .string c_3, .bool c_4, .string c_5, .bool c_6, .string c_7, .bool d_0, .string d_1, .bool d_2, .string d_3, .bool d_4, .string d_5, .bool d_6, .string d_7]] w fun e w' => e = .returned (.bool true) ∧ Below w.heap.size w w' := by
  obtain ⟨aq, haq, raq⟩ : ∃ q, IsF (.agg #[.bool a_0, .string a_1, .bool a_2, .string a_3, .bool a_4, .string a_5, .bool a_6, .string a_7]) q 6 ∧ q = ⟨iv a_0 a_1, iv a_2 a_3, iv a_4 a_5, iv a_6 a_7⟩ := ⟨⟨_, _, _, _⟩, ⟨_, _, _, _, _, _, _, _, rfl, rfl, ha_1, rfl, ha_3, rfl, ha_5, rfl, ha_7⟩, rfl⟩
  have zaq := haq.sz
  obtain ⟨a, ea⟩ : ∃ p, p = pt aq := ⟨_, rfl⟩
  have ha : IsP (.agg #[.bool a_0, .string a_1, .bool a_2, .string a_3, .bool a_4, .string a_5, .bool a_6, .string a_7]) a 6 := by rw [ea]; exact haq.pt
  have za := ha.sz (by decide)
  have ra : a = pt ⟨iv a_0 a_1, iv a_2 a_3, iv a_4 a_5, iv a_6 a_7⟩ := by rw [ea, raq]
  obtain ⟨bq, hbq, rbq⟩ : ∃ q, IsF (.agg #[.bool b_0, .string b_1, .bool b_2, .string b_3, .bool b_4, .string b_5, .bool b_6, .string b_7]) q 6 ∧ q = ⟨iv b_0 b_1, iv b_2 b_3, iv b_4 b_5, iv b_6 b_7⟩ := ⟨⟨_, _, _, _⟩, ⟨_, _, _, _, _, _, _, _, rfl, rfl, hb_1, rfl, hb_3, rfl, hb_5, rfl, hb_7⟩, rfl⟩
  have zbq := hbq.sz
  obtain ⟨b, eb⟩ : ∃ p, p = pt bq := ⟨_, rfl⟩
  have hb : IsP (.agg #[.bool b_0, .string b_1, .bool b_2, .string b_3, .bool b_4, .string b_5, .bool b_6, .string b_7]) b 6 := by rw [eb]; exact hbq.pt
  have zb := hb.sz (by decide)
  have rb : b = pt ⟨iv b_0 b_1, iv b_2 b_3, iv b_4 b_5, iv b_6 b_7⟩ := by rw [eb, rbq]
  obtain ⟨cq, hcq, rcq⟩ : ∃ q, IsF (.agg #[.bool c_0, .string c_1, .bool c_2, .string c_3, .bool c_4, .string c_5, .bool c_6, .string c_7]) q 6 ∧ q = ⟨iv c_0 c_1, iv c_2 c_3, iv c_4 c_5, iv c_6 c_7⟩ := ⟨⟨_, _, _, _⟩, ⟨_, _, _, _, _, _, _, _, rfl, rfl, hc_1, rfl, hc_3, rfl, hc_5, rfl, hc_7⟩, rfl⟩
  have zcq := hcq.sz
  obtain ⟨c, ec⟩ : ∃ p, p = pt cq := ⟨_, rfl⟩
  have hc : IsP (.agg #[.bool c_0, .string c_1, .bool c_2, .string c_3, .bool c_4, .string c_5, .bool c_6, .string c_7]) c 6 := by rw [ec]; exact hcq.pt
  have zc := hc.sz (by decide)
  have rc : c = pt ⟨iv c_0 c_1, iv c_2 c_3, iv c_4 c_5, iv c_6 c_7⟩ := by rw [ec, rcq]
  obtain ⟨dq, hdq, rdq⟩ : ∃ q, IsF (.agg #[.bool d_0, .string d_1, .bool d_2, .string d_3, .bool d_4, .string d_5, .bool d_6, .string d_7]) q 6 ∧ q = ⟨iv d_0 d_1, iv d_2 d_3, iv d_4 d_5, iv d_6 d_7⟩ := ⟨⟨_, _, _, _⟩, ⟨_, _, _, _, _, _, _, _, rfl, rfl, hd_1, rfl, hd_3, rfl, hd_5, rfl, hd_7⟩, rfl⟩
  have zdq := hdq.sz
  obtain ⟨d, ed⟩ : ∃ p, p = pt dq := ⟨_, rfl⟩
  have hd : IsP (.agg #[.bool d_0, .string d_1, .bool d_2, .string d_3, .bool d_4, .string d_5, .bool d_6, .string d_7]) d 6 := by rw [ed]; exact hdq.pt
  have zd := hd.sz (by decide)
  have rd : d = pt ⟨iv d_0 d_1, iv d_2 d_3, iv d_4 d_5, iv d_6 d_7⟩ := by rw [ed, rdq]
  rw [← ra, ← rb, ← rc] at hs
  have f1 : Pk a 6 := Pk.up (za) (by decide)
  have f2 : Pk b 6 := Pk.up (zb) (by decide)
  have f3 : Pk c 6 := Pk.up (zc) (by decide)
  have f4 : Pk d 6 := Pk.up (zd) (by decide)
  exact SX.run (w := w) (List.flatten [(.bool a_0 :: .string a_1 :: .bool a_2 :: .string a_3 :: .bool a_4 :: .string a_5 :: .bool a_6 :: .string a_7 :: .bool b_0 :: .string b_1 :: .bool b_2 :: .string b_3 :: .bool b_4 :: .string b_5 :: .bool b_6 :: .string b_7 :: .bool c_0 :: .string c_1 :: .bool c_2 :: .string c_3 :: .bool c_4 :: .string c_5 :: .bool c_6 :: .string c_7 :: .bool d_0 :: .string d_1 :: .bool d_2 :: .string d_3 :: .bool d_4 :: .string d_5 :: .bool d_6 :: .string d_7 :: .int .i64 0 :: .bool false :: []), pc a, pc b, pc c, pc d, [.int .i64 (orientP a b c d), .bool false, .bool false, .int .i64 (orientP b a c d), .int .i64 (-(orientP a b c d)), .bool false, .int .i64 (orientP b c a d), .bool false, .int .i64 (orientP a b d c), .int .i64 (-(orientP a b c d)), .bool false, .int .i64 (orientP d b c a), .int .i64 (-(orientP a b c d)), .bool false, .bool true, .bool true, .bool false, .bool true, .bool false, .bool false, .bool true, .int .i64 (orientP a b c a), .bool true, .int .i64 (orientP a a b c), .bool true, .bool true]]) [.b false, .b false, .b false, .b false, .b false, .b false, .b false, .b false, .b false, .b true, .b false, .b true, .b true, .b true] [.ga 0 32] 32 (.one (.ca 91)) (.call 6 [.c (.p (.slc 0 0 4 4))] (.one (.ca 32)) [(1, .pa 0), (2, .pa 1), (3, .pa 2), (4, .pa 3), (5, .pa 4), (6, .pa 5), (7, .pa 6), (8, .pa 7), (9, .pa 8), (10, .pa 9), (11, .pa 10), (12, .pa 11), (13, .pa 12), (14, .pa 13), (15, .pa 14), (16, .pa 15), (17, .pa 16), (18, .pa 17), (19, .pa 18), (20, .pa 19), (21, .pa 20), (22, .pa 21), (23, .pa 22), (24, .pa 23), (25, .pa 24), (26, .pa 25), (27, .pa 26), (28, .pa 27), (29, .pa 28), (30, .pa 29), (31, .pa 30), (32, .pa 31)] :: .op2 false .gtr (.pa 32) (.p (.lit (.int .i64 0))) 33 :: .isB 33 false :: .call 9 [.ga 0 8] (.one (.ga 34 8)) [] :: .call 9 [.ga 8 8] (.one (.ga 42 8)) [] :: .call 9 [.ga 16 8] (.one (.ga 50 8)) [] :: .call 9 [.ga 24 8] (.one (.ga 58 8)) [] :: .call 15 [.ga 34 8, .ga 42 8, .ga 50 8, .ga 58 8] (.one (.ca 66)) [] :: .op2 false .lss (.pa 66) (.p (.lit (.int .i64 (-1)))) 67 :: .isB 67 false :: .op2 false .gtr (.pa 66) (.p (.lit (.int .i64 1))) 68 :: .isB 68 false :: .call 15 [.ga 42 8, .ga 34 8, .ga 50 8, .ga 58 8] (.one (.ca 69)) [] :: .op1 .neg (.pa 66) 70 :: .op2 false .neq (.pa 69) (.pa 70) 71 :: .isB 71 false :: .call 15 [.ga 42 8, .ga 50 8, .ga 34 8, .ga 58 8] (.one (.ca 72)) [] :: .op2 false .neq (.pa 72) (.pa 66) 73 :: .isB 73 false :: .call 15 [.ga 34 8, .ga 42 8, .ga 58 8, .ga 50 8] (.one (.ca 74)) [] :: .op1 .neg (.pa 66) 75 :: .op2 false .neq (.pa 74) (.pa 75) 76 :: .isB 76 false :: .call 15 [.ga 58 8, .ga 42 8, .ga 50 8, .ga 34 8] (.one (.ca 77)) [] :: .op1 .neg (.pa 66) 78 :: .op2 false .neq (.pa 77) (.pa 78) 79 :: .isB 79 false :: .call 14 [.ga 34 8, .ga 42 8, .ga 50 8] (.one (.ca 80)) [] :: .call 14 [.ga 50 8, .ga 34 8, .ga 42 8] (.one (.ca 81)) [] :: .op2 true .neq (.pa 81) (.pa 80) 82 :: .isB 82 false :: .call 14 [.ga 42 8, .ga 34 8, .ga 50 8] (.one (.ca 83)) [] :: .op2 true .neq (.pa 83) (.pa 80) 84 :: .isB 84 false :: .isB 80 true :: .op2 false .neq (.pa 66) (.p (.lit (.int .i64 0))) 85 :: .isB 85 false :: .call 7 [] (.one (.ca 86)) [] :: .isB 86 true :: .call 15 [.ga 34 8, .ga 42 8, .ga 50 8, .ga 34 8] (.one (.ca 87)) [] :: .op2 false .eql (.pa 87) (.p (.lit (.int .i64 0))) 88 :: .isB 88 true :: .call 15 [.ga 34 8, .ga 34 8, .ga 42 8, .ga 50 8] (.one (.ca 89)) [] :: .op2 false .eql (.pa 89) (.p (.lit (.int .i64 0))) 90 :: .isB 90 true :: .call 14 [.ga 34 8, .ga 42 8, .ga 34 8] (.one (.ca 91)) [] :: []) Tryd.func4 (by kernel_rfl) rfl (by kernel_rfl) rfl (by kernel_rfl)
    ⟨fun γ w' _ hm => by have h_ := Great6_any (some ⟨γ 0, 0, none⟩) [⟨a_0, a_1, a_2, a_3, a_4, a_5, a_6, a_7⟩, ⟨b_0, b_1, b_2, b_3, b_4, b_5, b_6, b_7⟩, ⟨c_0, c_1, c_2, c_3, c_4, c_5, c_6, c_7⟩, ⟨d_0, d_1, d_2, d_3, d_4, d_5, d_6, d_7⟩] 4 4 w' rfl (by simp) (RdP.of (SX.mem_at (b := 0) (l := [.pa 0, .pa 1, .pa 2, .pa 3, .pa 4, .pa 5, .pa 6, .pa 7, .pa 8, .pa 9, .pa 10, .pa 11, .pa 12, .pa 13, .pa 14, .pa 15, .pa 16, .pa 17, .pa 18, .pa 19, .pa 20, .pa 21, .pa 22, .pa 23, .pa 24, .pa 25, .pa 26, .pa 27, .pa 28, .pa 29, .pa 30, .pa 31]) hm rfl)); rw [greatI_no (by intro p hp; simp only [List.mem_cons, List.not_mem_nil, or_false] at hp; rcases hp with rfl | rfl | rfl | rfl <;> exact ⟨by assumption, by assumption, by assumption, by assumption⟩)] at h_; exact h_,
     congrArg (fun z => some (Value.bool z)) (by decide : decide ((0 : Int) > (0 : Int)) = false),
     rfl,
     fun γ w' _ _ => p4Norm ha (by decide) w',
     fun γ w' _ _ => p4Norm hb (by decide) w',
     fun γ w' _ _ => p4Norm hc (by decide) w',
     fun γ w' _ _ => p4Norm hd (by decide) w',
     fun γ w' bw _ => inOrient f1 (by decide) f2 (by decide) f3 (by decide) f4 (by decide) w' (hT.later bw),
     congrArg (fun z => some (Value.bool z)) (decide_eq_false (by have := orient_bd a b c d; omega) : decide ((orientP a b c d) < ((-1) : Int)) = false),
     rfl,
     congrArg (fun z => some (Value.bool z)) (decide_eq_false (by have := orient_bd a b c d; omega) : decide ((orientP a b c d) > (1 : Int)) = false),
     rfl,
     fun γ w' bw _ => inOrient f2 (by decide) f1 (by decide) f3 (by decide) f4 (by decide) w' (hT.later bw),
     congrArg (fun z => some (Value.int .i64 z)) (neg_orient _ _ _ _ : IntKind.wrap .i64 (0 - (orientP a b c d)) = (-(orientP a b c d))),
     congrArg (fun z => some (Value.bool z)) (by rw [orient_ba]; exact bne_self_eq_false _ : ((orientP b a c d) != (-(orientP a b c d))) = false),
     rfl,
     fun γ w' bw _ => inOrient f2 (by decide) f3 (by decide) f1 (by decide) f4 (by decide) w' (hT.later bw),
     congrArg (fun z => some (Value.bool z)) (by rw [orient_bca]; exact bne_self_eq_false _ : ((orientP b c a d) != (orientP a b c d)) = false),
     rfl,
     fun γ w' bw _ => inOrient f1 (by decide) f2 (by decide) f4 (by decide) f3 (by decide) w' (hT.later bw),
     congrArg (fun z => some (Value.int .i64 z)) (neg_orient _ _ _ _ : IntKind.wrap .i64 (0 - (orientP a b c d)) = (-(orientP a b c d))),
     congrArg (fun z => some (Value.bool z)) (by rw [orient_dc]; exact bne_self_eq_false _ : ((orientP a b d c) != (-(orientP a b c d))) = false),
     rfl,
     fun γ w' bw _ => inOrient f4 (by decide) f2 (by decide) f3 (by decide) f1 (by decide) w' (hT.later bw),
     congrArg (fun z => some (Value.int .i64 z)) (neg_orient _ _ _ _ : IntKind.wrap .i64 (0 - (orientP a b c d)) = (-(orientP a b c d))),
     congrArg (fun z => some (Value.bool z)) (by rw [orient_da]; exact bne_self_eq_false _ : ((orientP d b c a) != (-(orientP a b c d))) = false),
     rfl,
     fun γ w' bw _ => by have h := inCollinear f1 (by decide) f2 (by decide) f3 (by decide) w' (hT.later bw); rw [decide_eq_true hs] at h; exact h,
     fun γ w' bw _ => by have h := inCollinear f3 (by decide) f1 (by decide) f2 (by decide) w' (hT.later bw); rw [decide_eq_true ((straight_cab _ _ _).2 hs)] at h; exact h,
     congrArg (fun z => some (Value.bool z)) (by first | rfl | assumption | decide | simp [*] : (!(true == true)) = false),
     rfl,
     fun γ w' bw _ => by have h := inCollinear f2 (by decide) f1 (by decide) f3 (by decide) w' (hT.later bw); rw [decide_eq_true ((straight_bac _ _ _).2 hs)] at h; exact h,
     congrArg (fun z => some (Value.bool z)) (by first | rfl | assumption | decide | simp [*] : (!(true == true)) = false),
     rfl,
     rfl,
     congrArg (fun z => some (Value.bool z)) (by first | rfl | (rw [orient_flat hs]; rfl) | (rw [orient_aa]; rfl) | (rw [orient_aab]; rfl) : ((orientP a b c d) != (0 : Int)) = false),
     rfl,
     fun γ w' bw _ => fixed6_any w' (hT.later bw),
     rfl,
     fun γ w' bw _ => inOrient f1 (by decide) f2 (by decide) f3 (by decide) f1 (by decide) w' (hT.later bw),
     congrArg (fun z => some (Value.bool z)) (by first | rfl | (rw [orient_flat hs]; rfl) | (rw [orient_aa]; rfl) | (rw [orient_aab]; rfl) : ((orientP a b c a) == (0 : Int)) = true),
     rfl,
     fun γ w' bw _ => inOrient f1 (by decide) f1 (by decide) f2 (by decide) f3 (by decide) w' (hT.later bw),
     congrArg (fun z => some (Value.bool z)) (by first | rfl | (rw [orient_flat hs]; rfl) | (rw [orient_aa]; rfl) | (rw [orient_aab]; rfl) : ((orientP a a b c) == (0 : Int)) = true),
     rfl,
     fun γ w' bw _ => by have h := inCollinear f1 (by decide) f2 (by decide) f1 (by decide) w' (hT.later bw); rw [decide_eq_true (straight_aba _ _)] at h; exact h⟩
set_option maxRecDepth 100000 in
theorem Orientation_n (a_0 : Bool) (a_1 : ByteArray) (a_2 : Bool) (a_3 : ByteArray) (a_4 : Bool) (a_5 : ByteArray) (a_6 : Bool) (a_7 : ByteArray) (b_0 : Bool) (b_1 : ByteArray) (b_2 : Bool) (b_3 : ByteArray) (b_4 : Bool) (b_5 : ByteArray) (b_6 : Bool) (b_7 : ByteArray) (c_0 : Bool) (c_1 : ByteArray) (c_2 : Bool) (c_3 : ByteArray) (c_4 : Bool) (c_5 : ByteArray) (c_6 : Bool) (c_7 : ByteArray) (d_0 : Bool) (d_1 : ByteArray) (d_2 : Bool) (d_3 : ByteArray) (d_4 : Bool) (d_5 : ByteArray) (d_6 : Bool) (d_7 : ByteArray) (w : World) (hT : TabC w) (ha_1 : a_1.size ≤ 6) (ha_3 : a_3.size ≤ 6) (ha_5 : a_5.size ≤ 6) (ha_7 : a_7.size ≤ 6) (hb_1 : b_1.size ≤ 6) (hb_3 : b_3.size ≤ 6) (hb_5 : b_5.size ≤ 6) (hb_7 : b_7.size ≤ 6) (hc_1 : c_1.size ≤ 6) (hc_3 : c_3.size ≤ 6) (hc_5 : c_5.size ≤ 6) (hc_7 : c_7.size ≤ 6) (hd_1 : d_1.size ≤ 6) (hd_3 : d_3.size ≤ 6) (hd_5 : d_5.size ≤ 6) (hd_7 : d_7.size ≤ 6) (hs : ¬ straightP (pt ⟨iv a_0 a_1, iv a_2 a_3, iv a_4 a_5, iv a_6 a_7⟩) (pt ⟨iv b_0 b_1, iv b_2 b_3, iv b_4 b_5, iv b_6 b_7⟩) (pt ⟨iv c_0 c_1, iv c_2 c_3, iv c_4 c_5, iv c_6 c_7⟩)) :
    Calls Tryd.prog 4 #[.agg #[.bool a_0, .string a_1, .bool a_2, .string a_3, .bool a_4, .string a_5, .bool a_6, .string a_7, .bool b_0, .string b_1, .bool b_2, .string b_3, .bool b_4, .string b_5, .bool b_6, .string b_7, .bool c_0, .string c_1, .bool c_2, .string c_3, .bool c_4, .string c_5, .bool c_6, .string c_7, .bool d_0, .string d_1, .bool d_2, .string d_3, .bool d_4, .string d_5, .bool d_6, .string d_7]] w fun e w' => e = .returned (.bool true) ∧ Below w.heap.size w w' := by
  obtain ⟨aq, haq, raq⟩ : ∃ q, IsF (.agg #[.bool a_0, .string a_1, .bool a_2, .string a_3, .bool a_4, .string a_5, .bool a_6, .string a_7]) q 6 ∧ q = ⟨iv a_0 a_1, iv a_2 a_3, iv a_4 a_5, iv a_6 a_7⟩ := ⟨⟨_, _, _, _⟩, ⟨_, _, _, _, _, _, _, _, rfl, rfl, ha_1, rfl, ha_3, rfl, ha_5, rfl, ha_7⟩, rfl⟩
  have zaq := haq.sz
  obtain ⟨a, ea⟩ : ∃ p, p = pt aq := ⟨_, rfl⟩
  have ha : IsP (.agg #[.bool a_0, .string a_1, .bool a_2, .string a_3, .bool a_4, .string a_5, .bool a_6, .string a_7]) a 6 := by rw [ea]; exact haq.pt
  have za := ha.sz (by decide)
  have ra : a = pt ⟨iv a_0 a_1, iv a_2 a_3, iv a_4 a_5, iv a_6 a_7⟩ := by rw [ea, raq]
  obtain ⟨bq, hbq, rbq⟩ : ∃ q, IsF (.agg #[.bool b_0, .string b_1, .bool b_2, .string b_3, .bool b_4, .string b_5, .bool b_6, .string b_7]) q 6 ∧ q = ⟨iv b_0 b_1, iv b_2 b_3, iv b_4 b_5, iv b_6 b_7⟩ := ⟨⟨_, _, _, _⟩, ⟨_, _, _, _, _, _, _, _, rfl, rfl, hb_1, rfl, hb_3, rfl, hb_5, rfl, hb_7⟩, rfl⟩
  have zbq := hbq.sz
  obtain ⟨b, eb⟩ : ∃ p, p = pt bq := ⟨_, rfl⟩
  have hb : IsP (.agg #[.bool b_0, .string b_1, .bool b_2, .string b_3, .bool b_4, .string b_5, .bool b_6, .string b_7]) b 6 := by rw [eb]; exact hbq.pt
  have zb := hb.sz (by decide)
  have rb : b = pt ⟨iv b_0 b_1, iv b_2 b_3, iv b_4 b_5, iv b_6 b_7⟩ := by rw [eb, rbq]
  obtain ⟨cq, hcq, rcq⟩ : ∃ q, IsF (.agg #[.bool c_0, .string c_1, .bool c_2, .string c_3, .bool c_4, .string c_5, .bool c_6, .string c_7]) q 6 ∧ q = ⟨iv c_0 c_1, iv c_2 c_3, iv c_4 c_5, iv c_6 c_7⟩ := ⟨⟨_, _, _, _⟩, ⟨_, _, _, _, _, _, _, _, rfl, rfl, hc_1, rfl, hc_3, rfl, hc_5, rfl, hc_7⟩, rfl⟩
  have zcq := hcq.sz
  obtain ⟨c, ec⟩ : ∃ p, p = pt cq := ⟨_, rfl⟩
  have hc : IsP (.agg #[.bool c_0, .string c_1, .bool c_2, .string c_3, .bool c_4, .string c_5, .bool c_6, .string c_7]) c 6 := by rw [ec]; exact hcq.pt
  have zc := hc.sz (by decide)
  have rc : c = pt ⟨iv c_0 c_1, iv c_2 c_3, iv c_4 c_5, iv c_6 c_7⟩ := by rw [ec, rcq]
  obtain ⟨dq, hdq, rdq⟩ : ∃ q, IsF (.agg #[.bool d_0, .string d_1, .bool d_2, .string d_3, .bool d_4, .string d_5, .bool d_6, .string d_7]) q 6 ∧ q = ⟨iv d_0 d_1, iv d_2 d_3, iv d_4 d_5, iv d_6 d_7⟩ := ⟨⟨_, _, _, _⟩, ⟨_, _, _, _, _, _, _, _, rfl, rfl, hd_1, rfl, hd_3, rfl, hd_5, rfl, hd_7⟩, rfl⟩
  have zdq := hdq.sz
  obtain ⟨d, ed⟩ : ∃ p, p = pt dq := ⟨_, rfl⟩
  have hd : IsP (.agg #[.bool d_0, .string d_1, .bool d_2, .string d_3, .bool d_4, .string d_5, .bool d_6, .string d_7]) d 6 := by rw [ed]; exact hdq.pt
  have zd := hd.sz (by decide)
  have rd : d = pt ⟨iv d_0 d_1, iv d_2 d_3, iv d_4 d_5, iv d_6 d_7⟩ := by rw [ed, rdq]
  rw [← ra, ← rb, ← rc] at hs
  have f1 : Pk a 6 := Pk.up (za) (by decide)
  have f2 : Pk b 6 := Pk.up (zb) (by decide)
  have f3 : Pk c 6 := Pk.up (zc) (by decide)
  have f4 : Pk d 6 := Pk.up (zd) (by decide)
  exact SX.run (w := w) (List.flatten [(.bool a_0 :: .string a_1 :: .bool a_2 :: .string a_3 :: .bool a_4 :: .string a_5 :: .bool a_6 :: .string a_7 :: .bool b_0 :: .string b_1 :: .bool b_2 :: .string b_3 :: .bool b_4 :: .string b_5 :: .bool b_6 :: .string b_7 :: .bool c_0 :: .string c_1 :: .bool c_2 :: .string c_3 :: .bool c_4 :: .string c_5 :: .bool c_6 :: .string c_7 :: .bool d_0 :: .string d_1 :: .bool d_2 :: .string d_3 :: .bool d_4 :: .string d_5 :: .bool d_6 :: .string d_7 :: .int .i64 0 :: .bool false :: []), pc a, pc b, pc c, pc d, [.int .i64 (orientP a b c d), .bool false, .bool false, .int .i64 (orientP b a c d), .int .i64 (-(orientP a b c d)), .bool false, .int .i64 (orientP b c a d), .bool false, .int .i64 (orientP a b d c), .int .i64 (-(orientP a b c d)), .bool false, .int .i64 (orientP d b c a), .int .i64 (-(orientP a b c d)), .bool false, .bool false, .bool false, .bool false, .bool false, .bool false, .bool true, .int .i64 (orientP a b c a), .bool true, .int .i64 (orientP a a b c), .bool true, .bool true]]) [.b false, .b false, .b false, .b false, .b false, .b false, .b false, .b false, .b false, .b false, .b true, .b true, .b true] [.ga 0 32] 32 (.one (.ca 90)) (.call 6 [.c (.p (.slc 0 0 4 4))] (.one (.ca 32)) [(1, .pa 0), (2, .pa 1), (3, .pa 2), (4, .pa 3), (5, .pa 4), (6, .pa 5), (7, .pa 6), (8, .pa 7), (9, .pa 8), (10, .pa 9), (11, .pa 10), (12, .pa 11), (13, .pa 12), (14, .pa 13), (15, .pa 14), (16, .pa 15), (17, .pa 16), (18, .pa 17), (19, .pa 18), (20, .pa 19), (21, .pa 20), (22, .pa 21), (23, .pa 22), (24, .pa 23), (25, .pa 24), (26, .pa 25), (27, .pa 26), (28, .pa 27), (29, .pa 28), (30, .pa 29), (31, .pa 30), (32, .pa 31)] :: .op2 false .gtr (.pa 32) (.p (.lit (.int .i64 0))) 33 :: .isB 33 false :: .call 9 [.ga 0 8] (.one (.ga 34 8)) [] :: .call 9 [.ga 8 8] (.one (.ga 42 8)) [] :: .call 9 [.ga 16 8] (.one (.ga 50 8)) [] :: .call 9 [.ga 24 8] (.one (.ga 58 8)) [] :: .call 15 [.ga 34 8, .ga 42 8, .ga 50 8, .ga 58 8] (.one (.ca 66)) [] :: .op2 false .lss (.pa 66) (.p (.lit (.int .i64 (-1)))) 67 :: .isB 67 false :: .op2 false .gtr (.pa 66) (.p (.lit (.int .i64 1))) 68 :: .isB 68 false :: .call 15 [.ga 42 8, .ga 34 8, .ga 50 8, .ga 58 8] (.one (.ca 69)) [] :: .op1 .neg (.pa 66) 70 :: .op2 false .neq (.pa 69) (.pa 70) 71 :: .isB 71 false :: .call 15 [.ga 42 8, .ga 50 8, .ga 34 8, .ga 58 8] (.one (.ca 72)) [] :: .op2 false .neq (.pa 72) (.pa 66) 73 :: .isB 73 false :: .call 15 [.ga 34 8, .ga 42 8, .ga 58 8, .ga 50 8] (.one (.ca 74)) [] :: .op1 .neg (.pa 66) 75 :: .op2 false .neq (.pa 74) (.pa 75) 76 :: .isB 76 false :: .call 15 [.ga 58 8, .ga 42 8, .ga 50 8, .ga 34 8] (.one (.ca 77)) [] :: .op1 .neg (.pa 66) 78 :: .op2 false .neq (.pa 77) (.pa 78) 79 :: .isB 79 false :: .call 14 [.ga 34 8, .ga 42 8, .ga 50 8] (.one (.ca 80)) [] :: .call 14 [.ga 50 8, .ga 34 8, .ga 42 8] (.one (.ca 81)) [] :: .op2 true .neq (.pa 81) (.pa 80) 82 :: .isB 82 false :: .call 14 [.ga 42 8, .ga 34 8, .ga 50 8] (.one (.ca 83)) [] :: .op2 true .neq (.pa 83) (.pa 80) 84 :: .isB 84 false :: .isB 80 false :: .call 7 [] (.one (.ca 85)) [] :: .isB 85 true :: .call 15 [.ga 34 8, .ga 42 8, .ga 50 8, .ga 34 8] (.one (.ca 86)) [] :: .op2 false .eql (.pa 86) (.p (.lit (.int .i64 0))) 87 :: .isB 87 true :: .call 15 [.ga 34 8, .ga 34 8, .ga 42 8, .ga 50 8] (.one (.ca 88)) [] :: .op2 false .eql (.pa 88) (.p (.lit (.int .i64 0))) 89 :: .isB 89 true :: .call 14 [.ga 34 8, .ga 42 8, .ga 34 8] (.one (.ca 90)) [] :: []) Tryd.func4 (by kernel_rfl) rfl (by kernel_rfl) rfl (by kernel_rfl)
    ⟨fun γ w' _ hm => by have h_ := Great6_any (some ⟨γ 0, 0, none⟩) [⟨a_0, a_1, a_2, a_3, a_4, a_5, a_6, a_7⟩, ⟨b_0, b_1, b_2, b_3, b_4, b_5, b_6, b_7⟩, ⟨c_0, c_1, c_2, c_3, c_4, c_5, c_6, c_7⟩, ⟨d_0, d_1, d_2, d_3, d_4, d_5, d_6, d_7⟩] 4 4 w' rfl (by simp) (RdP.of (SX.mem_at (b := 0) (l := [.pa 0, .pa 1, .pa 2, .pa 3, .pa 4, .pa 5, .pa 6, .pa 7, .pa 8, .pa 9, .pa 10, .pa 11, .pa 12, .pa 13, .pa 14, .pa 15, .pa 16, .pa 17, .pa 18, .pa 19, .pa 20, .pa 21, .pa 22, .pa 23, .pa 24, .pa 25, .pa 26, .pa 27, .pa 28, .pa 29, .pa 30, .pa 31]) hm rfl)); rw [greatI_no (by intro p hp; simp only [List.mem_cons, List.not_mem_nil, or_false] at hp; rcases hp with rfl | rfl | rfl | rfl <;> exact ⟨by assumption, by assumption, by assumption, by assumption⟩)] at h_; exact h_,
     congrArg (fun z => some (Value.bool z)) (by decide : decide ((0 : Int) > (0 : Int)) = false),
     rfl,
     fun γ w' _ _ => p4Norm ha (by decide) w',
     fun γ w' _ _ => p4Norm hb (by decide) w',
     fun γ w' _ _ => p4Norm hc (by decide) w',
     fun γ w' _ _ => p4Norm hd (by decide) w',
     fun γ w' bw _ => inOrient f1 (by decide) f2 (by decide) f3 (by decide) f4 (by decide) w' (hT.later bw),
     congrArg (fun z => some (Value.bool z)) (decide_eq_false (by have := orient_bd a b c d; omega) : decide ((orientP a b c d) < ((-1) : Int)) = false),
     rfl,
     congrArg (fun z => some (Value.bool z)) (decide_eq_false (by have := orient_bd a b c d; omega) : decide ((orientP a b c d) > (1 : Int)) = false),
     rfl,
     fun γ w' bw _ => inOrient f2 (by decide) f1 (by decide) f3 (by decide) f4 (by decide) w' (hT.later bw),
     congrArg (fun z => some (Value.int .i64 z)) (neg_orient _ _ _ _ : IntKind.wrap .i64 (0 - (orientP a b c d)) = (-(orientP a b c d))),
     congrArg (fun z => some (Value.bool z)) (by rw [orient_ba]; exact bne_self_eq_false _ : ((orientP b a c d) != (-(orientP a b c d))) = false),
     rfl,
     fun γ w' bw _ => inOrient f2 (by decide) f3 (by decide) f1 (by decide) f4 (by decide) w' (hT.later bw),
     congrArg (fun z => some (Value.bool z)) (by rw [orient_bca]; exact bne_self_eq_false _ : ((orientP b c a d) != (orientP a b c d)) = false),
     rfl,
     fun γ w' bw _ => inOrient f1 (by decide) f2 (by decide) f4 (by decide) f3 (by decide) w' (hT.later bw),
     congrArg (fun z => some (Value.int .i64 z)) (neg_orient _ _ _ _ : IntKind.wrap .i64 (0 - (orientP a b c d)) = (-(orientP a b c d))),
     congrArg (fun z => some (Value.bool z)) (by rw [orient_dc]; exact bne_self_eq_false _ : ((orientP a b d c) != (-(orientP a b c d))) = false),
     rfl,
     fun γ w' bw _ => inOrient f4 (by decide) f2 (by decide) f3 (by decide) f1 (by decide) w' (hT.later bw),
     congrArg (fun z => some (Value.int .i64 z)) (neg_orient _ _ _ _ : IntKind.wrap .i64 (0 - (orientP a b c d)) = (-(orientP a b c d))),
     congrArg (fun z => some (Value.bool z)) (by rw [orient_da]; exact bne_self_eq_false _ : ((orientP d b c a) != (-(orientP a b c d))) = false),
     rfl,
     fun γ w' bw _ => by have h := inCollinear f1 (by decide) f2 (by decide) f3 (by decide) w' (hT.later bw); rw [decide_eq_false hs] at h; exact h,
     fun γ w' bw _ => by have h := inCollinear f3 (by decide) f1 (by decide) f2 (by decide) w' (hT.later bw); rw [decide_eq_false (fun e => hs ((straight_cab _ _ _).1 e))] at h; exact h,
     congrArg (fun z => some (Value.bool z)) (by first | rfl | assumption | decide | simp [*] : (!(false == false)) = false),
     rfl,
     fun γ w' bw _ => by have h := inCollinear f2 (by decide) f1 (by decide) f3 (by decide) w' (hT.later bw); rw [decide_eq_false (fun e => hs ((straight_bac _ _ _).1 e))] at h; exact h,
     congrArg (fun z => some (Value.bool z)) (by first | rfl | assumption | decide | simp [*] : (!(false == false)) = false),
     rfl,
     rfl,
     fun γ w' bw _ => fixed6_any w' (hT.later bw),
     rfl,
     fun γ w' bw _ => inOrient f1 (by decide) f2 (by decide) f3 (by decide) f1 (by decide) w' (hT.later bw),
     congrArg (fun z => some (Value.bool z)) (by first | rfl | (rw [orient_flat hs]; rfl) | (rw [orient_aa]; rfl) | (rw [orient_aab]; rfl) : ((orientP a b c a) == (0 : Int)) = true),
     rfl,
     fun γ w' bw _ => inOrient f1 (by decide) f1 (by decide) f2 (by decide) f3 (by decide) w' (hT.later bw),
     congrArg (fun z => some (Value.bool z)) (by first | rfl | (rw [orient_flat hs]; rfl) | (rw [orient_aa]; rfl) | (rw [orient_aab]; rfl) : ((orientP a a b c) == (0 : Int)) = true),
     rfl,
     fun γ w' bw _ => by have h := inCollinear f1 (by decide) f2 (by decide) f1 (by decide) w' (hT.later bw); rw [decide_eq_true (straight_aba _ _)] at h; exact h⟩
theorem Orientation_any (a_0 : Bool) (a_1 : ByteArray) (a_2 : Bool) (a_3 : ByteArray) (a_4 : Bool) (a_5 : ByteArray) (a_6 : Bool) (a_7 : ByteArray) (b_0 : Bool) (b_1 : ByteArray) (b_2 : Bool) (b_3 : ByteArray) (b_4 : Bool) (b_5 : ByteArray) (b_6 : Bool) (b_7 : ByteArray) (c_0 : Bool) (c_1 : ByteArray) (c_2 : Bool) (c_3 : ByteArray) (c_4 : Bool) (c_5 : ByteArray) (c_6 : Bool) (c_7 : ByteArray) (d_0 : Bool) (d_1 : ByteArray) (d_2 : Bool) (d_3 : ByteArray) (d_4 : Bool) (d_5 : ByteArray) (d_6 : Bool) (d_7 : ByteArray) (w : World) (hT : TabC w) :
    Calls Tryd.prog 4 #[.agg #[.bool a_0, .string a_1, .bool a_2, .string a_3, .bool a_4, .string a_5, .bool a_6, .string a_7, .bool b_0, .string b_1, .bool b_2, .string b_3, .bool b_4, .string b_5, .bool b_6, .string b_7, .bool c_0, .string c_1, .bool c_2, .string c_3, .bool c_4, .string c_5, .bool c_6, .string c_7, .bool d_0, .string d_1, .bool d_2, .string d_3, .bool d_4, .string d_5, .bool d_6, .string d_7]] w fun e w' => e = .returned (.bool true) ∧ Below w.heap.size w w' := by
  by_cases g : a_1.size ≤ 6 ∧ a_3.size ≤ 6 ∧ a_5.size ≤ 6 ∧ a_7.size ≤ 6 ∧ b_1.size ≤ 6 ∧ b_3.size ≤ 6 ∧ b_5.size ≤ 6 ∧ b_7.size ≤ 6 ∧ c_1.size ≤ 6 ∧ c_3.size ≤ 6 ∧ c_5.size ≤ 6 ∧ c_7.size ≤ 6 ∧ d_1.size ≤ 6 ∧ d_3.size ≤ 6 ∧ d_5.size ≤ 6 ∧ d_7.size ≤ 6
  rotate_left
  · exact Orientation_g a_0 a_1 a_2 a_3 a_4 a_5 a_6 a_7 b_0 b_1 b_2 b_3 b_4 b_5 b_6 b_7 c_0 c_1 c_2 c_3 c_4 c_5 c_6 c_7 d_0 d_1 d_2 d_3 d_4 d_5 d_6 d_7 w hT g
  obtain ⟨ha_1, ha_3, ha_5, ha_7, hb_1, hb_3, hb_5, hb_7, hc_1, hc_3, hc_5, hc_7, hd_1, hd_3, hd_5, hd_7⟩ := g
  by_cases hs : straightP (pt ⟨iv a_0 a_1, iv a_2 a_3, iv a_4 a_5, iv a_6 a_7⟩) (pt ⟨iv b_0 b_1, iv b_2 b_3, iv b_4 b_5, iv b_6 b_7⟩) (pt ⟨iv c_0 c_1, iv c_2 c_3, iv c_4 c_5, iv c_6 c_7⟩)
  · exact Orientation_s a_0 a_1 a_2 a_3 a_4 a_5 a_6 a_7 b_0 b_1 b_2 b_3 b_4 b_5 b_6 b_7 c_0 c_1 c_2 c_3 c_4 c_5 c_6 c_7 d_0 d_1 d_2 d_3 d_4 d_5 d_6 d_7 w hT ha_1 ha_3 ha_5 ha_7 hb_1 hb_3 hb_5 hb_7 hc_1 hc_3 hc_5 hc_7 hd_1 hd_3 hd_5 hd_7 hs
  · exact Orientation_n a_0 a_1 a_2 a_3 a_4 a_5 a_6 a_7 b_0 b_1 b_2 b_3 b_4 b_5 b_6 b_7 c_0 c_1 c_2 c_3 c_4 c_5 c_6 c_7 d_0 d_1 d_2 d_3 d_4 d_5 d_6 d_7 w hT ha_1 ha_3 ha_5 ha_7 hb_1 hb_3 hb_5 hb_7 hc_1 hc_3 hc_5 hc_7 hd_1 hd_3 hd_5 hd_7 hs
end Go.Proofs.YtfapglafeghggaaDoor
